import PyProof.Rows.All
import Wide.All
import OpenK.AllK
import Wide.FinOn
import KE.KStateDown
import HandS.Base
import HandS.Call
import HandS.Ends
import HandS.Defaults
import HandS.Property
import HandS.Head0
import HandS.Head1
import HandS.Head2
import HandS.HeadEnd
import HandS.HeadHook1
import HandS.HeadHook2
import HandS.HeadNt
import HandS.Star
import HandS.ClsMeth
import HandS.Codes
import KE.GoesEnum
import KE.KTupSum
import KE.KOpsOwn
import HandS.ForMost
import HandS.Exc
import HandS.WordsExc
import HandS.Zip
import HandS.Evl
import HandS.Wide
import HandS.Conv
import HandS.TupAny
import HandS.IsInst
import HandS.SlotsOwn
import HandS.Walk
import HandS.Flow
import KE.SortData
import HandS.MethStar
import HandS.Style
import PyProof.InstEq
import HandS.GenList
import HandS.MakeKwOnly
import HandS.Replace
import HandS.Text
import KE.KExcSuper
import HandS.ExcInit
import HandS.ExcField
import HandS.ExcIs
import HandS.FStr
import HandS.More
import HandS.HeadHook4
import HandS.HeadWalk
import HandS.Deep
import KE.KExcIs
import HandS.RaiseMore
import PyProof.ExcBaseAll.ValueError
import KE.KDflt
import HandS.DictComp
import HandS.SetFor
import HandS.ListItems
import HandS.TryOnly
import PySem.Challenge.RW_bucketline_k58_whole_hidden_paces
set_option Elab.async false
set_option linter.all false
set_option maxRecDepth 100000
set_option maxHeartbeats 0
namespace Bk
open PySem PySem.Spec PyProof.Rows L2
/-! the hook of our heads: the library's facts and defs, and one Bool more -/
abbrev Seen : Type := He.AlD × Bool
def look (n : Nat) (fa : List He.Fa) (fn : List He5.DefA) (ex : PySem.W.Frag → Bool) (g : Addr → Option Obj) : Seen :=
  (He5.obsA fa fn (He.frG g (He5.asA g n)), ex (He.frG g (He5.asA g n)))
def bkHook (n : Nat) (fa : List He.Fa) (fn : List He5.DefA) (ex : PySem.W.Frag → Bool) : PySem.W.Hook where
  α := Seen
  obs := fun s => look n fa fn ex s.heap.get?
  val := fun _ => (He5.valA fn, true)
  says := fun _ h => ∃ K : PySem.W.Frag, K.In h ∧ (He5.SaysA fa fn K ∧ ex K = true)
  of := fun _ _ e => ⟨_, He.frG_in, congrArg (fun z : Seen => z.1) e, congrArg (fun z : Seen => z.2) e⟩
  keeps := fun _ _ _ ⟨K, hK, c⟩ k => ⟨K, PySem.W.Frag.In.keeps hK k, c⟩
theorem look_eq {n : Nat} {fa : List He.Fa} {fn : List He5.DefA} {ex : PySem.W.Frag → Bool} {g : Addr → Option Obj} {s : Shared} (h : ∀ a, g a = s.heap.get? a) : look n fa fn ex g = (bkHook n fa fn ex).obs s := by
  have e : g = s.heap.get? := funext h
  rw [e] <;> rfl
/-! a property of a class: where its getter stands, and that it is one -/
def gt (K : PySem.W.Frag) (C f : Str) : Addr := He5.wf K (He.ga K C) "property" f
def isProp (K : PySem.W.Frag) (C f : Str) : Bool :=
  He.eqO (PySem.W.findIn K (.ref (He.ga K C)) f) (some (some (.ref (He.ma K (He.ga K C) f)))) &&
  (He.eqO (PySem.W.specialIn K (.ref (He.ma K (He.ga K C) f)) "__get__") (some (some (.builtin "property.__get__"))) &&
  (decide (PySem.W.takesIn K (.ref (He.ma K (He.ga K C) f)) = some true) &&
  (match PySem.W.recIn K (He.ma K (He.ga K C) f) "property" with
    | some (.ref _ :: _) => true
    | _ => false)))
theorem isProp_ok {K : PySem.W.Frag} {C f : Str} (h : isProp K C f = true) : PropOf K (He.ga K C) f (He.ma K (He.ga K C) f) (gt K C f) := by
  obtain ⟨h1, h⟩ := He.ba h
  obtain ⟨h2, h⟩ := He.ba h
  obtain ⟨h3, h4⟩ := He.ba h
  refine ⟨He.eqO_ok h1, He.eqO_ok h2, of_decide_eq_true h3, ?_⟩
  show ∃ rest, _ = some (Value.ref (He5.wf K (He.ga K C) "property" f) :: rest)
  unfold He5.wf
  split at h4
  · rename_i g r e
    exact ⟨r, by rw [e]⟩
  · cases h4
/-- where a def of the text stands: a def of the top, a method -/
def atG (x : Str) : PySem.W.Frag → Addr := fun K => He.ga K x
def atM (C m : Str) : PySem.W.Frag → Addr := fun K => He.ma K (He.ga K C) m
def atP (C f : Str) : PySem.W.Frag → Addr := fun K => gt K C f
/-- what calls an instance of a class -/
def isCallO (K : PySem.W.Frag) (C : Str) : Bool :=
  He.eqO (PySem.W.findIn K (.ref (He.ga K C)) "__call__") (some (some (.ref (He.ma K (He.ga K C) "__call__")))) &&
  (PySem.W.isFn K (.ref (He.ma K (He.ga K C) "__call__")) && PySem.W.fnIn K (He.ma K (He.ga K C) "__call__"))
theorem isCallO_ok {K : PySem.W.Frag} {C : Str} (h : isCallO K C = true) : StX.CallO K (He.ga K C) (He.ma K (He.ga K C) "__call__") := by
  obtain ⟨h1, h⟩ := He.ba h
  obtain ⟨h2, h3⟩ := He.ba h
  exact ⟨He.eqO_ok h1, h2, h3⟩
end Bk
namespace Bk
open PySem PySem.Spec PyProof.Rows L2
/-- the operators + and - of a class -/
structure OpsOf (K : PySem.W.Frag) (C : Str) : Prop where
  first : PySem.W.selfFirst K (He.ga K C) = true
  add : PySem.W.findIn K (.ref (He.ga K C)) (PySem.dunder Operator.Add.info.2) = some (some (.ref (He.ma K (He.ga K C) "__add__")))
  fadd : PySem.W.isFn K (.ref (He.ma K (He.ga K C) "__add__")) = true
  sub : PySem.W.findIn K (.ref (He.ga K C)) (PySem.dunder Operator.Sub.info.2) = some (some (.ref (He.ma K (He.ga K C) "__sub__")))
  fsub : PySem.W.isFn K (.ref (He.ma K (He.ga K C) "__sub__")) = true
  rsub : PySem.W.findIn K (.ref (He.ga K C)) (PySem.dunderR Operator.Sub.info.2) = some none
  ssub : ∃ o, PySem.W.findIn K (.type "str") (PySem.dunder Operator.Sub.info.2) = some o
  srsub : ∃ o, PySem.W.findIn K (.type "str") (PySem.dunderR Operator.Sub.info.2) = some o
  str : PySem.W.subIn K (.type "str") (.ref (He.ga K C)) = some false
def isOps (K : PySem.W.Frag) (C : Str) : Bool :=
  [PySem.W.selfFirst K (He.ga K C),
   He.eqO (PySem.W.findIn K (.ref (He.ga K C)) (PySem.dunder Operator.Add.info.2)) (some (some (.ref (He.ma K (He.ga K C) "__add__")))),
   PySem.W.isFn K (.ref (He.ma K (He.ga K C) "__add__")),
   He.eqO (PySem.W.findIn K (.ref (He.ga K C)) (PySem.dunder Operator.Sub.info.2)) (some (some (.ref (He.ma K (He.ga K C) "__sub__")))),
   PySem.W.isFn K (.ref (He.ma K (He.ga K C) "__sub__")),
   He.eqO (PySem.W.findIn K (.ref (He.ga K C)) (PySem.dunderR Operator.Sub.info.2)) (some none),
   (PySem.W.findIn K (.type "str") (PySem.dunder Operator.Sub.info.2)).isSome,
   (PySem.W.findIn K (.type "str") (PySem.dunderR Operator.Sub.info.2)).isSome,
   decide (PySem.W.subIn K (.type "str") (.ref (He.ga K C)) = some false)].all id
theorem all_at {l : List Bool} (h : l.all id = true) (i : Nat) {b : Bool} (e : l[i]? = some b := by rfl) : b = true := List.all_eq_true.mp h b (List.mem_of_getElem? e)
theorem isOps_ok {K : PySem.W.Frag} {C : Str} (h : isOps K C = true) : OpsOf K C where
  first := all_at h 0
  add := He.eqO_ok (all_at h 1)
  fadd := all_at h 2
  sub := He.eqO_ok (all_at h 3)
  fsub := all_at h 4
  rsub := He.eqO_ok (all_at h 5)
  ssub := Option.isSome_iff_exists.mp (all_at h 6)
  srsub := Option.isSome_iff_exists.mp (all_at h 7)
  str := of_decide_eq_true (all_at h 8)
end Bk
namespace Bk
open PySem PySem.Spec PyProof.Rows L2
/-- a class's value that is an int, read off the class -/
structure ConC (K : PySem.W.Frag) (C f : Str) (i : Int) : Prop where
  rd : ClX.CRead K (He.ga K C) (.type "type")
  va : ∃ t, ClX.CVal K (He.ga K C) (.type "type") f (.int i) (.int i t)
def isConC (K : PySem.W.Frag) (C f : Str) (i : Int) : Bool :=
  [PySem.W.readsIn K (He.ga K C) (.type "type"),
   He.eqO (PySem.W.specialIn K (.ref (He.ga K C)) "__getattribute__") (some (some (.builtin "type.__getattribute__"))),
   (match PySem.W.findCls K (.ref (He.ga K C)) (.type "type") f with
    | some (.val (.int j _)) => decide (j = i)
    | _ => false)].all id
theorem isConC_ok {K : PySem.W.Frag} {C f : Str} {i : Int} (h : isConC K C f i = true) : ConC K C f i := by
  refine ⟨⟨all_at h 0, He.eqO_ok (all_at h 1)⟩, ?_⟩
  have h2 := all_at h 2
  split at h2
  · rename_i j t e
    cases of_decide_eq_true h2
    exact ⟨t, e, t, rfl⟩
  · cases h2
/-- isinstance(a, C) of an instance -/
def isIsi (K : PySem.W.Frag) (C : Str) : Bool :=
  [(He.Fa.cls C).ok K,
   He.eqO (PySem.W.findIn K (.ref (He.ga K C)) "__class__") (some (some (.builtin "object.__class__"))),
   He.eqO (PySem.W.specialIn K (.builtin "object.__class__") "__get__") (some (some (.builtin "getset_descriptor.__get__"))),
   decide (PySem.W.takesIn K (.builtin "object.__class__") = some true),
   decide (PySem.W.mroIn K (He.ga K C) (.type "object") = some true),
   decide (PySem.W.kitOne K (.ref (He.ga K C)) (.ref (He.ga K C)) = some true)].all id
structure IsiOf (K : PySem.W.Frag) (C : Str) : Prop where
  c : C8.InsC K (He.ga K C)
theorem isIsi_ok {K : PySem.W.Frag} {C : Str} (h : isIsi K C = true) : IsiOf K C := by
  constructor
  exact { cl := He.cls_ok (all_at h 0), ha := He.eqO_ok (all_at h 1), hn := He.eqO_ok (all_at h 2), htk := of_decide_eq_true (all_at h 3), hm := of_decide_eq_true (all_at h 4), me := of_decide_eq_true (all_at h 5) }
end Bk
namespace Bk
open PySem PySem.Spec PyProof.Rows L2

/-! ### a def of the text keeps a promise: by position, what it raises as the layer's CX says -/
section
variable {P : Program} {w : World} {K : PySem.W.Frag} {mg : Str → Option Value} {base : Heap} {x qual : Str} {params : Arguments} {body : List Stmt} {scope : Scope} {kws : List (Str × V)} {f : Addr} {fd : FuncData} {N ps : List Str} {k : Nat} {sp : Sp}
abbrev Fx (P : Program) (w : World) (K : PySem.W.Frag) (mg : Str → Option Value) (base : Heap) (k : Nat) (f : Addr) (sp : Sp) : Prop := FnR P w K mg base (L2.CX P w) k f sp
abbrev Cb (P : Program) (w : World) (K : PySem.W.Frag) (mg : Str → Option Value) (base : Heap) (N : List Str) (qual : Str) (scope : Scope) (f : Addr) (cdv : Value) (A : Around) (outer : List Env) (s : Shared) (H : Hp) (E : XK) : Cx :=
  cxOf (L2.CX P w) P w K mg base N qual scope f cdv A outer s H E
/-- a def that lets nothing out -/
theorem fx_of (F : FunD K x qual params body scope [] kws f fd) (S : FnScope N ps scope) (len : ∀ vs H Q E, sp vs H Q E → vs.length = ps.length)
    (hb : ∀ (kV doc pm : Value) (an : Option Addr) (cdv ct : Value) (us : List Value), us.length = ps.length → bindArgs (PySem.W.fnOf x qual params body scope .none kV doc pm an cdv ct) ⟨us, []⟩ = pure (ps.zip us))
    (h : ∀ (cdv : Value) (A : Around) (outer : List Env) (s : Shared) (H : Hp) (vs : List V) (Q : VK) (E : XK), Room k (A.deeper (envOfC qual scope s.heap.objs.size f cdv)) → sp vs H Q E →
      ∃ t, PSs (Cb P w K mg base N qual scope f cdv A outer s H E).nox body t ∧ t { nx := fun _ H' => Q .non H', rt := Q } (start N vs) H) : Fx P w K mg base (k + 1) f sp := by
  have G : FnOk P w K mg base (L2.CX P w) (k + 1) f fd ps sp := F.ok S len fun cdv A outer s H vs Q E hr hs => by
    obtain ⟨t, h1, h2⟩ := h cdv A outer s H vs Q E hr hs
    exact ⟨t, h1.nox, h2⟩
  have R := G.raw (F.bindsN hb) .nil
  exact R.imp fun vs H Q E q => by rw [List.append_nil]; exact q
end

/-! ### calls by position -/
section
variable {X : Cx} {CX : CXT} {k j : Nat} {f C g : Addr} {sp : Sp} {E : XK} {x m : Str} {p pos apos sp_ : Pos} {e o fe : Expr} {es : List Expr} {t : TA} {te ta : TE}
def tCl (sp : Sp) (E : XK) (t : TA) : TE := fun σ H Q => t σ H fun vs H1 => sp vs H1 Q E
theorem pe_cl (F : FnR X.prog X.w X.K X.mg X.base CX k f sp) (hr : Room j X.A) (hk : PySem.W.keepIn X.K (.ref f) = true) (hm : X.mg x = some (.ref f)) (hx : Passes CX X E) (ha : PA X (e :: es) t) (hj : k ≤ j := by decide) (hg : Gl X x := by rfl)
    (hd : (x == ("__debug__" : Str)) = false := by decide) (he : starEach (e :: es) X.env = (false, eval e X.env) :: starEach es X.env := by rfl) (hp : (backTo pos (starEach es X.env)).any (·.1) = false := by rfl) :
    PE X (.Call (.Name x p) (e :: es) [] pos) (tCl sp E t) := by
  constructor
  intro pins s σ H Q I h
  apply wpAny_Call_Name_kw
  apply ld_glob I hg hm _ hd
  refine PySem.W.callWith_K (h₀ := X.base) I.ok.mod.kin hk ?_ he hp
  refine thn (ha.run pos pins s σ H _ I h) ?_
  rintro us s1 ⟨vs, H1, I1, r, q⟩
  exact ⟨I1.kIn, wpAny_call (run_fnR F (hr.mono hj) hx I1 r q)⟩
theorem pe_cl0 (F : FnR X.prog X.w X.K X.mg X.base CX k f sp) (hr : Room j X.A) (hk : PySem.W.keepIn X.K (.ref f) = true) (hm : X.mg x = some (.ref f)) (hx : Passes CX X E) (hj : k ≤ j := by decide) (hg : Gl X x := by rfl)
    (hd : (x == ("__debug__" : Str)) = false := by decide) : PE X (.Call (.Name x p) [] [] pos) (tCl sp E tNil) := by
  constructor
  intro pins s σ H Q I h
  apply wpAny_Call_Name_kw
  apply ld_glob I hg hm _ hd
  exact PySem.W.callWith_K0 I.kIn hk (wpAny_call (run_fnR (us := []) F (hr.mono hj) hx I .nil h))
/-- C(*e): a new instance, its __init__ with the items of a tuple or list -/
def tMkS (K : PySem.W.Frag) (C : Addr) (sp : Sp) (E : XK) (te : TE) : TE := fun σ H Q => te σ H fun y H1 => ∃ a xs, y = V.ref a ∧ (SqT K H1 a xs ∨ SqL K H1 a xs) ∧
  ∀ o dx, H1 o = Option.none → H1 dx = Option.none → dx ≠ o → sp (V.ref o :: xs) (upd (upd H1 dx (.own o)) o (.ins C dx [])) (fun v H2 => v = .non ∧ Q (.ref o) H2) E
theorem pe_mkS (M : Mk X.K C f) (F : FnR X.prog X.w X.K X.mg X.base CX k f sp) (hr : Room j X.A) (hm : X.mg x = some (.ref C)) (hx : Passes CX X E) (he : PE X e te) (hj : k + 1 ≤ j := by decide) (hg : Gl X x := by rfl) (hd : (x == ("__debug__" : Str)) = false := by decide)
    (hs : starEach [.Starred e sp_] X.env = [(true, eval e X.env)] := by rfl) : PE X (.Call (.Name x p) [.Starred e sp_] [] pos) (tMkS X.K C sp E te) := by
  constructor
  intro pins s σ H Q I h
  apply wpAny_Call_Name_kw
  apply ld_glob I hg hm _ hd
  refine PySem.W.callWith_S (h₀ := X.base) I.ok.mod.kin M.kp ?_ hs
  refine thn (he.run pins s σ H _ I h) ?_
  rintro v s1 ⟨y, H1, I1, ry, a, xs, ey, hxs, q⟩
  subst ey
  cases (show v = Value.ref a from ry)
  exact StX.star_any I1 hxs fun us s2 I2 rv => ⟨I2.kIn, StX.run_makeR M F (hr.mono hj) hx I2 rv q⟩
/-- e.f, a property: by position -/
def tPr (C : Addr) (sp : Sp) (E : XK) (ta : TE) : TE := fun σ H Q => ta σ H fun x H1 => ∃ a dx fs, x = .ref a ∧ H1 a = some (.ins C dx fs) ∧ sp [.ref a] H1 Q E
theorem getpr_ok {a dx pa : Addr} {fs : List (Str × V)} {pins : List (Addr × Obj)} {σ : L2.St} {H : Hp} {s : Shared} {Q : VK} {b : Bool} {E' : Value → Shared → Prop} (I : Inv X pins σ H s) (ea : H a = some (.ins C dx fs)) (c : Cls X.K C) (hp : PropOf X.K C x pa g)
    (F : FnR X.prog X.w X.K X.mg X.base CX k g sp) (hr : Room (k + 1) X.A) (hx : Passes CX X.nox E) (h : sp [.ref a] H Q E) : wpAny (model X.prog X.w) X.A (getAttr (.ref a) x b) (EP X pins σ Q) E' s := by
  obtain ⟨mA, O, _⟩ := ins_get I.hok ea
  obtain ⟨od, J, _⟩ := O.look
  obtain ⟨rest, hrec⟩ := hp.rec_
  have I1 := I.tok (s.toks + 1)
  have hc : (PySem.W.clsIn X.K C).isSome = true := by
    obtain ⟨cd, e, _⟩ := PySem.W.any_some c.hd
    simp [e]
  refine PySem.W.get_bind I.kIn J (PySem.W.plainGet_of (c.get x)).1 (PySem.W.findObj_data hc hp.at_ hp.get hp.tak) (PySem.W.plainGet_of (c.get x)).2 (wpAny_call (PySem.W.prop_get (s := { s with toks := s.toks + 1 }) I.kIn hrec ?_))
  refine codeAny_mono (F X.A.in1 X.stack { s with toks := s.toks + 1 } H [.ref a] [.ref a] Q E hr.in1 I1.env0.in1 (.cons rfl .nil) h) ?_
  rintro (er | fl) s' hq
  · exact (hx pins σ H { s with toks := s.toks + 1 } er s' (I1.wish _) hq).elim
  · cases fl with
    | ret u =>
      obtain ⟨v, H', I3, rv, q3⟩ := I1.after hq
      show wpAny _ _ (handedOut u) _ _ _
      rw [PySem.W.handedOut_of (handed_of rv)]
      exact wpAny_pure ⟨v, H', I3, rv, q3⟩
    | next => exact hq.elim
    | brk => exact hq.elim
    | cont => exact hq.elim
theorem pe_pr {pa : Addr} (he : PE X e ta) (c : Cls X.K C) (hp : PropOf X.K C x pa g) (F : FnR X.prog X.w X.K X.mg X.base CX k g sp) (hr : Room j X.A) (hx : Passes CX X.nox E) (hj : k + 1 ≤ j := by decide) (hab : attributeBase e x X.env (eval e X.env) = eval e X.env := by rfl) :
    PE X (.Attribute e x pos) (tPr C sp E ta) := by
  constructor
  intro pins s σ H Q I h
  refine attr_of hab (thn (he.run pins s σ H _ I h) ?_)
  rintro u s1 ⟨y, H1, I1, rx, a, dx, fs, ex, ea, q⟩
  subst ex
  cases (show u = Value.ref a from rx)
  exact getpr_ok I1 ea c hp F (hr.mono hj) hx q
/-- f(e, ..), f an instance: by position (the layer's pe_callO, the level apart) -/
theorem pe_clO (hf : PE X fe te) (c : StX.CallO X.K C g) (F : FnR X.prog X.w X.K X.mg X.base CX k g sp) (hr : Room j X.A) (hx : Passes CX X E) (ha : PA X (e :: es) t) (hj : k ≤ j := by decide)
    (ht : eval (.Call fe (e :: es) [] pos) X.env = (do callWith pos (← eval fe X.env) [] (backTo pos (starEach (e :: es) X.env)) (backToKw pos (keywordEach [] X.env))) := by rfl)
    (he : starEach (e :: es) X.env = (false, eval e X.env) :: starEach es X.env := by rfl) (hp : (backTo pos (starEach es X.env)).any (·.1) = false := by rfl) : PE X (.Call fe (e :: es) [] pos) (StX.tCallO X C sp E te t) :=
  StX.pe_callO hf c F (hr.mono hj) hx ha ht he hp
end

/-! ### operators of an own class -/
def rOw (C : Addr) (sp : Sp) (E : XK) (G : V → Hp → Prop) : R2 := fun x y H Q => ∃ a dx fs, x = .ref a ∧ H a = some (.ins C dx fs) ∧ G y H ∧ sp [.ref a, y] H Q E
section
variable {X : Cx} {CX : CXT} {k j : Nat} {C g : Addr} {sp : Sp} {E : XK}
theorem ins_at {pins : List (Addr × Obj)} {σ : L2.St} {H : Hp} {s : Shared} {a dx : Addr} {fs : List (Str × V)} (I : Inv X pins σ H s) (h : H a = some (.ins C dx fs)) : ∃ ox od, PySem.W.InstAt s.heap a ox C od ∧ ox.data = .plain := StX.insC_at I (.inr ⟨dx, fs, h⟩)
/-- own a + own b, both of the class -/
theorem op_ownC {op : Operator} (hc : PySem.W.selfFirst X.K C = true) (hs : PySem.W.findIn X.K (.ref C) (PySem.dunder op.info.2) = some (some (.ref g))) (hf : PySem.W.isFn X.K (.ref g) = true) (F : FnR X.prog X.w X.K X.mg X.base CX k g sp) (hr : Room j X.A) (hx : Passes CX X E)
    (hj : k ≤ j := by decide) : OpR X (binaryOp op) (rOw C sp E fun y H => ∃ b dy gs, y = .ref b ∧ H b = some (.ins C dy gs)) := by
  intro pins s σ H x y v u Q I rx ry h
  obtain ⟨a, dx, fs, rfl, ha, ⟨b, dy, gs, rfl, hb⟩, q⟩ := h
  cases (show v = Value.ref a from rx)
  cases (show u = Value.ref b from ry)
  obtain ⟨ox, od, J, _⟩ := ins_at I ha
  obtain ⟨oy, oe, J', _⟩ := ins_at I hb
  obtain ⟨m, hF⟩ := I.fr
  refine PySem.W.binop_K hF I.ok.mod.kin J J'.type hc hs hf ?_
  refine wpAny_mono (wpAny_call (run_fnR (us := [.ref a, .ref b]) (vs := [.ref a, .ref b]) F (hr.mono hj) hx I (.cons rfl (.cons rfl .nil)) q)) ?_ fun _ _ z => z
  rintro w s' ⟨z, H', I', rz, qz⟩
  exact SlX.cmpback rz ⟨z, H', I', rz, qz⟩
/-- own a - a text -/
theorem op_ownS {op : Operator} {fo ro rc : Option Value} (hc : PySem.W.selfFirst X.K C = true) (hs : PySem.W.findIn X.K (.ref C) (PySem.dunder op.info.2) = some (some (.ref g))) (hf : PySem.W.isFn X.K (.ref g) = true)
    (hr0 : PySem.W.findIn X.K (.ref C) (PySem.dunderR op.info.2) = some rc) (hp : rc = none ∨ ∃ g : Addr, rc = some (.ref g)) (h1 : PySem.W.findIn X.K (.type "str") (PySem.dunder op.info.2) = some fo) (h2 : PySem.W.findIn X.K (.type "str") (PySem.dunderR op.info.2) = some ro)
    (hu : PySem.W.subIn X.K (.type "str") (.ref C) = some false) (F : FnR X.prog X.w X.K X.mg X.base CX k g sp) (hr : Room j X.A) (hx : Passes CX X E) (hj : k ≤ j := by decide) : OpR X (binaryOp op) (rOw C sp E fun y _ => ∃ z, y = .str z) := by
  intro pins s σ H x y v u Q I rx ry h
  obtain ⟨a, dx, fs, rfl, ha, ⟨z, rfl⟩, q⟩ := h
  cases (show v = Value.ref a from rx)
  obtain ⟨t, rfl⟩ := (show ∃ t, u = Value.str z t from ry)
  obtain ⟨ox, od, J, _⟩ := ins_at I ha
  obtain ⟨m, hF⟩ := I.fr
  refine PySem.W.ksp_binT (T := "str") hF I.ok.mod.kin J rfl hc hs hf hr0 hp h1 h2 hu ?_
  refine wpAny_mono (wpAny_call (run_fnR (us := [.ref a, .str z t]) (vs := [.ref a, .str z]) F (hr.mono hj) hx I (.cons rfl (.cons ⟨t, rfl⟩ .nil)) q)) ?_ fun _ _ z => z
  rintro w s' ⟨z, H', I', rz, qz⟩
  exact SlX.cmpback rz ⟨z, H', I', rz, qz⟩
end

/-! ### sum of a tuple; enumerate of a tuple -/
section
variable {X : Cx}
def rSumT (K : PySem.W.Frag) : List V → Hp → VK → Prop := fun vs H Q => ∃ (a : Addr) (ns : List Int), vs = [V.ref a] ∧ SqT K H a (ns.map V.int) ∧ Q (.int ns.sum) H
theorem cr_sumT (hc : X.calm = true) : CallR X (.builtin "sum") (rSumT X.K) := by
  intro pins s σ H vs us Q I r h
  obtain ⟨a, ns, rfl, hs, q⟩ := h
  obtain ⟨its, rv, hl, _⟩ := I.tuple hs
  rw [Vals.ref1 r]
  obtain ⟨xs, e⟩ := rv.ints.allInts.items
  have hn : numsOf (intItems xs).toList = ns := by rw [← e]; exact rv.ints.numsOf
  rw [nums_intItems] at hn
  rw [e] at hl
  refine PySem.W.ktm_sumG (I.ok.hd hc) hl fun h' tk t' hk => ?_
  rw [preSum_eq, List.take_of_length_le (by simp), hn]
  exact ⟨.int _, H, I.kept hk, ⟨_, rfl⟩, q⟩
end
/-- a tuple by places, each with its number, in new pairs -/
def ItE (K : PySem.W.Frag) (a : Addr) : It where
  go i H := ∃ xs y, SqT K H a xs ∧ xs[i]? = some y
  yld i H v H' := ∃ T y, v = .ref T ∧ H T = none ∧ H' = upd H T (.tup [.int (i : Nat), y]) ∧ ∀ xs, SqT K H a xs → xs[i]? = some y
  stop i H := ∃ xs, SqT K H a xs ∧ xs.length ≤ i
theorem tupIt_ne {h : Heap} {a it : Addr} {i : Nat} {its : Array Value} (q : IsTup h a its) (st : h.IsTupleIter it a i) : a ≠ it := by
  rintro rfl
  obtain ⟨o1, e1, c1, _⟩ := q
  obtain ⟨o2, e2, c2, _⟩ := st
  rw [e1] at e2
  cases e2
  rw [c1] at c2
  simp at c2
theorem turn_en {P : Program} {w : World} {K : PySem.W.Frag} {elts : List Expr} {kk : Nat} {tpos : Pos} (a e it : Addr) :
    Turn P w K (.Tuple elts kk tpos) (ItE K a) [e, it] e (fun i h => (∃ old, IsEnum h e it ((i : Nat) : Int) old) ∧ (h.IsTupleIter it a i ∧ e ≠ it)) where
  mem := List.mem_cons_self
  obj i h st b hb := by
    obtain ⟨⟨old, he⟩, ⟨o, ho, hc, hd⟩, _⟩ := st
    rcases List.mem_cons.mp hb with rfl | hb
    · exact ⟨_, he, fun v q => nomatch q⟩
    · refine ⟨o, by rw [List.mem_singleton.mp hb]; exact ho, fun v q => ?_⟩
      rw [hd] at q
      cases q
  keep i h h' st k := by
    obtain ⟨⟨old, he⟩, ⟨o, ho, r⟩, hne⟩ := st
    exact ⟨⟨old, k e (by simp) _ he⟩, ⟨o, k it (by simp) o ho, r⟩, hne⟩
  item := by
    intro X hP hw hK hc i pins s σ H E I hf st hg
    subst hP hw hK
    obtain ⟨⟨old, he⟩, hit, hne⟩ := st
    obtain ⟨xs, y, hq, hy⟩ := hg
    obtain ⟨its, rv, p, hz⟩ := I.tuple hq
    obtain ⟨u, hu, ru⟩ := rv.get hy
    have hai := tupIt_ne p hit
    have hea : e ≠ a := by
      rintro rfl
      obtain ⟨o1, e1, c1, _⟩ := p
      rw [he] at e1
      cases e1
      simp at c1
    have el : e < s.heap.objs.size := Heap.lt_size he
    have il : it < s.heap.objs.size := hit.elim fun _ q => Heap.lt_size q.1
    have hi : i < its.toArray.size := by
      have := (List.getElem?_eq_some_iff.mp hu).1
      simpa using this
    have D := Draws.tuple (prog := X.prog) (w := X.w) (A := X.A.in1) (I.ok.hd hc) it a hai its.toArray
    refine wpAny_pyNext_enum_itemD D he ⟨hit, p⟩ hi hne (by simp [hne, hea]) ?_
    intro z h' tk hP ho hS hT hsz hk
    have ez : z = u := by
      have q : its.toArray[i]? = some z := hP
      rw [show its.toArray[i]? = its[i]? from by simp, hu] at q
      exact (Option.some.inj q).symm
    subst ez
    refine ⟨_, rfl, wpAny_letOwnedTupleGo_enum (s := { s with heap := h', toks := tk + 1 }) ho ?_⟩
    intro h2 he2 sb
    have t2 : h2.get? s.heap.objs.size = some { cls := .type "tuple", data := .seq #[.int i tk, z] } := (sb.2 _ (Nat.ne_of_gt el)).trans hT
    have new : ObjOk X.prog X.w (upd H s.heap.objs.size (.tup [.int (i : Nat), y])) h2 s.heap.objs.size (.tup [.int (i : Nat), y]) := by
      refine ⟨by show 2 ≤ sizeLine; decide, [.int i tk, z], .cons ⟨_, rfl⟩ (.cons ru .nil), ?_⟩
      exact ⟨_, t2, rfl, _, rfl⟩
    have I1 := I.turnedNew (t' := tk + 1) (ch := [e, it]) (fun b ob hb q => by
      have b1 : b ≠ e := fun z => hb (by simp [z])
      have b2 : b ≠ it := fun z => hb (by simp [z])
      exact (sb.2 b b1).trans (hk b ob b1 b2 q)) hf (Nat.le_refl _) new
    have hfr := I.hok.fresh (Nat.le_refl _)
    refine ⟨.ref s.heap.objs.size, _, I1, rfl, ⟨_, y, rfl, hfr, rfl, fun ys hy' => by rw [I.tuple_inj hy' hq]; exact hy⟩, ⟨⟨z, ?_⟩, ?_, hne⟩, ?_⟩
    · have e1 : ((i + 1 : Nat) : Int) = (i : Int) + 1 := by omega
      rw [e1]
      exact he2
    · obtain ⟨o, ho', r⟩ := hS.1
      exact ⟨o, (sb.2 it (Ne.symm hne)).trans ho', r⟩
    · intro b hb
      have lb : b < s.heap.objs.size := by
        rcases List.mem_cons.mp hb with z | hb
        · rw [z]; exact el
        · rw [List.mem_singleton.mp hb]; exact il
      exact (upd_ne (Nat.ne_of_lt lb)).trans (hf b hb).1
  done := by
    intro X hP hw hK hc i pins s σ H E I hf st hg
    subst hP hw hK
    obtain ⟨⟨old, he⟩, hit, hne⟩ := st
    obtain ⟨xs, hq, hx⟩ := hg
    obtain ⟨its, rv, p, hz⟩ := I.tuple hq
    obtain ⟨f0, f1, f2, f3, f4, f5⟩ := hf it (by simp)
    have hl := rv.length
    have hT : s.TypeIs (.ref e) "enumerate" := ⟨_, he, rfl⟩
    unfold pyNext
    refine wpAny_bind (wpAny_attempt (wpAny_callSpecial?_slot (name := Str.ofString "__next__") hT F.slot_enumerate_next ?_))
    refine wpAny_call_entry F.slot_enumerate_next hT F.entry_enumerate_next ?_ (F.args_enumerate_next_1 _)
    show wpAny _ X.A.in1 (field (Value.ref e) 2 >>= _) _ _ s
    apply wpAny_bind
    refine wpAny_field he rfl (x := Value.ref it) rfl ?_
    apply wpAny_bind
    refine wpAny_nextOf_tuple_end (I.ok.hd hc) hit p (by simp; omega) ?_
    rintro h' x he' ⟨o, ho, hcl⟩
    refine wpAny_bind (wpAny_isInstance (T := "StopIteration") (b := true) ⟨o, ho, hcl⟩ isSubtype_stop (wpAny_pure ?_))
    exact ⟨rfl, I.turned (t' := s.toks) he' f0 f1 f3 f4 f5⟩
  self A i s Q E st h := by
    obtain ⟨⟨_, he⟩, _⟩ := st
    exact wpAny_pyIter_enum he h
/-- enumerate(v) of what begins an iterator -/
theorem en_meets {v : Value} {o : Obj} {G : Heap → Prop} (B : Begins v o G) : Meets (Builtin.«enumerate.__new__» ⟨[.type "enumerate", v], []⟩) (fun _ R s => G s.heap ∧
    R (.ok (.ret (.ref (s.heap.push o).objs.size))) { s with heap := (s.heap.push o).push { cls := .type "enumerate", data := .fields #[.none, .bool false, .ref s.heap.objs.size, rawInt 0, .none, .none] } }) := by
  refine .of_wp fun prog w A R s h => ?_
  obtain ⟨hp, gs, dr, tk, os⟩ := s
  obtain ⟨h1, h2⟩ := h
  have sub := sub_enumerate
  have beg : ∀ {A' : Around} {E : Value → Shared → Prop} {Q : Value → Shared → Prop}, Q (.ref hp.objs.size) ⟨hp.push o, gs, dr, tk, os⟩ → wpAny (model prog w) A' (pyIter v) Q E ⟨hp, gs, dr, tk, os⟩ :=
    fun {A' E Q} z => B.iter prog w A' E ⟨hp, gs, dr, tk, os⟩ Q h1 z
  wp_walk using beg
  refine wpAny_stack_any fun _ => wpAny_pure ?_
  split
  · rename_i c _ _ _ _ _
    cases (c == Value.type "enumerate") <;> (wp_walk using beg) <;> exact ⟨_, rfl, h2⟩
  · wp_walk using beg
    exact ⟨_, rfl, h2⟩
theorem en_begins {prog : Program} {w : World} {A : Around} {E : Value → Shared → Prop} {s : Shared} {v : Value} {o : Obj} {G : Heap → Prop} {Q : Value → Shared → Prop} (B : Begins v o G) (h1 : G s.heap)
    (h : ∀ h', IsEnum h' (s.heap.objs.size + 1) s.heap.objs.size 0 .none → h'.get? s.heap.objs.size = some o → (∀ b u, s.heap.get? b = some u → h'.get? b = some u) → Q (.ref (s.heap.objs.size + 1)) { s with heap := h' }) :
    wpAny (model prog w) A (call (.type "enumerate") [v]) Q E s := by
  refine callType_new F.called_enumerate (by decide) (F.typeCall_enumerate_1 _) (F.newCall_enumerate_1 _) (fun obj => F.args_object_init_2 obj _) F.entry_enumerate_new (en_meets B) ⟨h1, ?_⟩
  have hz : (s.heap.push o).objs.size = s.heap.objs.size + 1 := Heap.size_push ..
  show _ ∧ _
  rw [hz]
  have he := Heap.get?_push_size (s.heap.push o) (o := { cls := .type "enumerate", data := .fields #[.none, .bool false, .ref s.heap.objs.size, rawInt 0, .none, .none] }) rfl
  rw [hz] at he
  exact ⟨⟨_, he, rfl⟩, h _ he (Heap.get?_push_of_some _ (Heap.get?_push_size _ B.free)) fun b u q => Heap.get?_push_of_some _ (Heap.get?_push_of_some _ q)⟩
def iEnT (K : PySem.W.Frag) (ta : TA) : TI := fun σ H R => ta σ H fun vs H1 => ∃ a xs, vs = [.ref a] ∧ SqT K H1 a xs ∧ R (ItE K a) H1
theorem pi_enT {X : Cx} {e : Expr} {ta : TA} {p pos tpos : Pos} {elts : List Expr} {kk : Nat} (hm : X.mg "enumerate" = none) (ha : PA X [e] ta) (hg : Gl X "enumerate" := by rfl) (hs : starEach [e] X.env = [(false, eval e X.env)] := by rfl) :
    PI X (.Tuple elts kk tpos) (.Call (.Name "enumerate" p) [e] [] pos) (iEnT X.K ta) := by
  constructor
  intro pins s σ H R I h
  refine Call_ (ld_blt I hg hm boot_enumerate (PyProof.Rows.callWith_type1 (thn (ha.run pos pins s σ H _ I h) ?_) hs rfl))
  rintro us s1 ⟨vs, H1, I1, r1, a, xs, rfl, hq, q⟩
  rw [Vals.ref1 r1]
  obtain ⟨its, rv, p', hz⟩ := I1.tuple hq
  refine en_begins (begins_tuple a its.toArray) p' ?_
  intro h' he hit hk
  refine wpAny_pyIter_enum he ?_
  have I2 : Inv X pins σ H1 { s1 with heap := h' } := I1.kept (t' := s1.toks) hk
  refine ⟨s1.heap.objs.size + 1, [s1.heap.objs.size + 1, s1.heap.objs.size], _, _, H1, rfl, I2, turn_en a (s1.heap.objs.size + 1) s1.heap.objs.size, ⟨⟨.none, he⟩, ⟨_, hit, rfl, rfl⟩, Nat.succ_ne_self _⟩, ?_, q⟩
  intro b hb
  have lb : s1.heap.objs.size ≤ b := by
    rcases List.mem_cons.mp hb with z | hb
    · rw [z]
      exact Nat.le_add_right _ _
    · rw [List.mem_singleton.mp hb]
      exact Nat.le_refl _
  exact I1.fpOk lb (I1.hok.fresh lb)
/-! ### short forms -/
section
variable {X : Cx} {x : Str} {p pos : Pos} {e : Expr} {es : List Expr} {t : TA} {id : String} {r : List V → Hp → VK → Prop}
theorem pe_bty (n : String) (hm : X.mg x = none) (hv : bootBuiltins x = some (.type n) := by decide +kernel) (hg : Gl X x := by rfl) (hn : x ≠ "__name__" := by decide) (hd : (x == ("__debug__" : Str)) = false := by decide) : PE X (.Name x pos) (tC (.ty n)) :=
  pe_bltn hg hm hv rfl hn hd
theorem cB (hc : CallR X (.builtin id) r) (hm : X.mg x = none) (ha : PA X (e :: es) t) (hv : bootBuiltins x = some (.builtin id) := by decide +kernel) (hg : Gl X x := by rfl) (hn : x ≠ "__name__" := by decide) (hd : (x == ("__debug__" : Str)) = false := by decide)
    (he : starEach (e :: es) X.env = (false, eval e X.env) :: starEach es X.env := by rfl) (hp : (backTo pos (starEach es X.env)).any (·.1) = false := by rfl) : PE X (.Call (.Name x p) (e :: es) [] pos) (tCB r t) := pe_callB hc hg hm hv ha hn hd he hp
theorem cT {n : String} (hc : CallR X (.type n) r) (hm : X.mg x = none) (ha : PA X (e :: es) t) (hv : bootBuiltins x = some (.type n) := by decide +kernel) (hg : Gl X x := by rfl) (hn : x ≠ "__name__" := by decide) (hd : (x == ("__debug__" : Str)) = false := by decide)
    (he : starEach (e :: es) X.env = (false, eval e X.env) :: starEach es X.env := by rfl) (hp : (backTo pos (starEach es X.env)).any (·.1) = false := by rfl) : PE X (.Call (.Name x p) (e :: es) [] pos) (tCB r t) := pe_callTy hc hg hm hv ha hn hd he hp
/-- a module's constant -/
theorem gI {i : Int} (h : ∃ t, X.mg x = some (.int i t)) (hg : Gl X x := by rfl) (hd : (x == ("__debug__" : Str)) = false := by decide) : PE X (.Name x pos) (tC (.int i)) := by
  obtain ⟨t, h⟩ := h
  exact pe_glob hg h ⟨t, rfl⟩ hd
theorem gS {z : Str} (h : ∃ t, X.mg x = some (.str z t)) (hg : Gl X x := by rfl) (hd : (x == ("__debug__" : Str)) = false := by decide) : PE X (.Name x pos) (tC (.str z)) := by
  obtain ⟨t, h⟩ := h
  exact pe_glob hg h ⟨t, rfl⟩ hd
theorem gR {a : Addr} (h : X.mg x = some (.ref a)) (hg : Gl X x := by rfl) (hd : (x == ("__debug__" : Str)) = false := by decide) : PE X (.Name x pos) (tC (.ref a)) := pe_glob hg h rfl hd
end
theorem iteD {c A B : Prop} [Decidable c] (h1 : c → A) (h2 : ¬ c → B) : if decide c = true then A else B := by
  by_cases h : c
  · rw [if_pos (decide_eq_true h)]
    exact h1 h
  · rw [if_neg (by simpa using h)]
    exact h2 h
theorem iteB {b : Bool} {A B : Prop} (h1 : b = true → A) (h2 : b = false → B) : if b = true then A else B := by
  cases b with
  | true => exact iteT (h1 rfl)
  | false => exact iteF (h2 rfl)
/-! ### readings, step by step -/
section
variable {K : PySem.W.Frag} {σ : L2.St} {H : Hp} {ta tb te tc : TE} {t u tt : TT} {x y z v : V} {r r' : R2} {Q : VK} {D : Ends} {ts tr tw : TS} {g : TG} {i j k : Nat} {al ar : TA} {QB : Bool → Hp → Prop} {QL : List V → Hp → Prop} {sp : Sp} {E : XK} {p q : Int}
theorem go_var (h : σ[i]? = some (some v)) (e : Q v H) : tVar i σ H Q := ⟨v, h, e⟩
theorem go_c (e : Q v H) : tC v σ H Q := e
theorem go_op (h : ta σ H fun x H1 => tb σ H1 fun y H2 => r x y H2 Q) : tOp r ta tb σ H Q := h
theorem go_un {r : V → Hp → VK → Prop} (h : ta σ H fun x H1 => r x H1 Q) : tUn r ta σ H Q := h
theorem go_chain (h : ta σ H fun x H1 => tb σ H1 fun y H2 => r x y H2 fun z H3 => ∃ k, z = .bl k ∧ (if k = true then tc σ H3 fun w' H4 => r' y w' H4 Q else Q (.bl false) H3)) : tChain r r' ta tb tc σ H Q := h
theorem go_cb {r : List V → Hp → VK → Prop} (h : al σ H fun vs H1 => r vs H1 Q) : tCB r al σ H Q := h
theorem go_nil (h : QL [] H) : tNil σ H QL := h
theorem go_cons (h : ta σ H fun x H1 => ar σ H1 fun xs H2 => QL (x :: xs) H2) : tCons ta ar σ H QL := h
theorem go_tup (h : al σ H fun xs H1 => xs.length ≤ sizeLine ∧ ∀ p, H1 p = none → Q (.ref p) (upd H1 p (.tup xs))) : tTup al σ H Q := h
theorem go_lst (h : al σ H fun xs H1 => xs.length ≤ sizeLine ∧ ∀ p, H1 p = none → Q (.ref p) (upd H1 p (.lst xs))) : tLst al σ H Q := h
theorem go_cl (h : al σ H fun vs H1 => sp vs H1 Q E) : tCl sp E al σ H Q := h
theorem go_test (h : ta σ H fun x H' => ∃ k, x = .bl k ∧ QB k H') : tTest ta σ H QB := h
theorem go_B (h : ta σ H fun x H' => ∃ k, x = .bl k ∧ QB k H') : tB ta σ H QB := h
theorem go_and (h : t σ H fun c H1 => if c = true then u σ H1 QB else QB false H1) : tAnd t u σ H QB := h
theorem go_or (h : t σ H fun c H1 => if c = true then QB true H1 else u σ H1 QB) : tOr t u σ H QB := h
theorem go_not (h : t σ H fun c H1 => QB (!c) H1) : tNot t σ H QB := h
theorem go_if (h : t σ H fun c H1 => if c = true then ta σ H1 Q else tb σ H1 Q) : tIf t ta tb σ H Q := h
theorem go_andV (h : ta σ H fun x H1 => ∃ c, x = .bl c ∧ if c = true then tb σ H1 Q else Q (.bl false) H1) : tAndV ta tb σ H Q := h
theorem go_orV (h : ta σ H fun x H1 => ∃ c, x = .bl c ∧ if c = true then Q (.bl true) H1 else tb σ H1 Q) : tOrV ta tb σ H Q := h
theorem go_notV (h : ta σ H fun x H1 => ∃ c, x = .bl c ∧ Q (.bl (!c)) H1) : tNotV ta σ H Q := h
theorem go_isN (h : ta σ H fun x H1 => Q (.bl (decide (x = .non))) H1) : tIsN ta σ H Q := h
theorem go_notN (h : ta σ H fun x H1 => Q (.bl (!decide (x = .non))) H1) : tNotN ta σ H Q := h
theorem go_bl {b : Bool} {P : Bool → Prop} (h : P b) : ∃ k, V.bl b = V.bl k ∧ P k := ⟨b, rfl, h⟩
theorem go_rI0 {f : Int → Int → V} (e : Q (f p q) H) : rI0 f (.int p) (.int q) H Q := ⟨p, q, rfl, rfl, e⟩
theorem go_rI {C : Int → Int → Prop} {f : Int → Int → V} (c : C p q) (e : Q (f p q) H) : rI C f (.int p) (.int q) H Q := ⟨p, q, rfl, rfl, c, e⟩
theorem go_rU {f : Int → V} (e : Q (f p) H) : rU f (.int p) H Q := ⟨p, rfl, e⟩
theorem go_rEq (s : scal x y = true) (e : Q (.bl (decide (x = y))) H) : rEq x y H Q := ⟨s, e⟩
theorem go_rNe (s : scal x y = true) (e : Q (.bl (!decide (x = y))) H) : rNe x y H Q := ⟨s, e⟩
theorem go_ixL {a : Addr} {xs : List V} {n : Int} (h : SqL K H a xs) (e : atI xs n = some v) (q : Q v H) : rIxL K (.ref a) (.int n) H Q := ⟨a, xs, n, v, rfl, rfl, h, e, q⟩
theorem go_ixT {a : Addr} {xs : List V} {n : Int} (h : SqT K H a xs) (e : atI xs n = some v) (q : Q v H) : rIxT K (.ref a) (.int n) H Q := ⟨a, xs, n, v, rfl, rfl, h, e, q⟩
theorem go_seq (h : ts { D with nx := tr D } σ H) : tSeq ts tr D σ H := h
theorem go_asg (h : te σ H fun x H1 => g x σ H1 D.nx) : tAsg te g D σ H := h
theorem go_ret (h : te σ H D.rt) : tRet te D σ H := h
theorem go_retN (h : D.rt .non H) : tRetN D σ H := h
theorem go_drop (h : te σ H fun _ H1 => D.nx σ H1) : tDrop te D σ H := h
theorem go_ifS (h : t σ H fun b H1 => if b = true then ts D σ H1 else tr D σ H1) : tIfS t ts tr D σ H := h
theorem go_next (h : D.nx σ H) : tNext D σ H := h
theorem go_cont (h : D.ct σ H) : tCont D σ H := h
theorem go_break (h : D.bk σ H) : tBreak D σ H := h
theorem go_par (h : al σ H fun vs H1 => ∃ v w, vs = [v, w] ∧ D.nx ((σ.set i (some v)).set j (some w)) H1) : tPar i j al D σ H := h
theorem go_two {P : V → V → Prop} (h : P x y) : ∃ v w, [x, y] = [v, w] ∧ P v w := ⟨x, y, rfl, h⟩
theorem go_name {QS : L2.St → Hp → Prop} (h : QS (σ.set i (some v)) H) : gName i v σ H QS := h
theorem go_part {QO : Option Int → Hp → Prop} (h : ta σ H fun x H1 => ∃ i, x = .int i ∧ QO (some i) H1) : tPart ta σ H QO := h
theorem go_noPart {QO : Option Int → Hp → Prop} (h : QO none H) : tNoPart σ H QO := h
theorem go_int {P : Int → Prop} (h : P p) : ∃ i, V.int p = V.int i ∧ P i := ⟨p, rfl, h⟩
theorem go_sl {r : V → Option Int → Option Int → Hp → VK → Prop} {to th : TO} (h : te σ H fun x H1 => to σ H1 fun l H2 => th σ H2 fun u H3 => r x l u H3 Q) : tSl r te to th σ H Q := h
theorem go_yes {QB : Bool → Hp → Prop} (h : QB true H) : tYes σ H QB := h
end
/-! ### heaps that grow -/
theorem same_upd {H : Hp} {p : Addr} {o : HO} (h : H p = Option.none) : Same H (upd H p o) := fun a u e => by
  rw [upd_ne (ne_of_none e h)]
  exact e
theorem same_l {K : PySem.W.Frag} {H H' : Hp} {a : Addr} {xs : List V} (e : Same H H') (h : SqL K H a xs) : SqL K H' a xs := e.seq h
theorem same_t {K : PySem.W.Frag} {H H' : Hp} {a : Addr} {xs : List V} (e : Same H H') (h : SqT K H a xs) : SqT K H' a xs := by
  rcases h with (h | ⟨o, h⟩) | h
  · exact .inl (.inl (e _ _ h))
  · exact .inl (.inr ⟨o, e _ _ h⟩)
  · exact .inr h
/-- all but what stands at D is kept -/
def FrD (D : Addr) (H H' : Hp) : Prop := ∀ a o, a ≠ D → H a = some o → H' a = some o
theorem FrD.refl {D : Addr} {H : Hp} : FrD D H H := fun _ _ _ e => e
theorem FrD.trans {D : Addr} {H H1 H2 : Hp} (a : FrD D H H1) (b : FrD D H1 H2) : FrD D H H2 := fun x o n e => b x o n (a x o n e)
theorem frd_same {D : Addr} {H H' : Hp} (e : Same H H') : FrD D H H' := fun a o _ h => e a o h
theorem frd_upd {D : Addr} {H : Hp} {o : HO} : FrD D H (upd H D o) := fun a u n e => by
  rw [upd_ne n]
  exact e
theorem FrD.t {D : Addr} {H H' : Hp} {a : Addr} {xs : List V} (f : FrD D H H') (n : a ≠ D) (h : H a = some (.tup xs)) : H' a = some (.tup xs) := f a _ n h
/-! ### walks -/
section
variable {K : PySem.W.Frag} {a b : Addr} {xs ys : List V}
theorem walk_en : Walk (ItE K a) xs.length (fun H => SqT K H a xs) (YPair (fun i => some (.int (i : Nat))) fun i => xs[i]?) where
  goes i H hi q := ⟨xs, xs[i], q, by simp [hi]⟩
  stops H q := ⟨xs, q, Nat.le_refl _⟩
  yields i H v H' _ q y := by
    obtain ⟨T, z, h1, h2, h3, h4⟩ := y
    exact ⟨T, .int (i : Nat), z, h1, h2, h3, rfl, h4 xs q⟩
theorem walk_zipT {n : Nat} (hn : n = min xs.length ys.length) : Walk (RZ.ItzT K a b) n (fun H => SqT K H a xs ∧ SqT K H b ys) (YPair (fun i => xs[i]?) fun i => ys[i]?) where
  goes i H hi q := by
    have h1 : i < xs.length := by omega
    have h2 : i < ys.length := by omega
    exact ⟨xs, ys, xs[i], ys[i], q.1, q.2, by simp [h1], by simp [h2]⟩
  stops H q := ⟨xs, ys, q.1, q.2, by omega⟩
  yields i H v H' _ q y := by
    obtain ⟨T, x, z, h1, h2, h3, h4, h5⟩ := y
    exact ⟨T, x, z, h1, h2, h3, h4 xs q.1, h5 ys q.2⟩
end
/-! ### comprehensions: what each turn gives is told by G i, kept while all but the new list stands -/
section
variable {J : It} {n : Nat} {G : Hp → Prop} {Y : Nat → Hp → V → Hp → Prop} {g : TG} {te : TE} {vs : List Nat} {σ : L2.St} {H1 : Hp} {QD : Addr → Hp → Prop}
theorem lc_gen (w : Walk J n G Y) (hG : ∀ H, Same H1 H → G H) (R : Addr → Nat → V → Hp → Prop) (hR : ∀ D i y H H', FrD D H H' → R D i y H → R D i y H') (hn : n ≤ 100000)
    (hs : ∀ (D : Addr) i x H H' (k : VK), H1 D = Option.none → i < n → Same H1 H → (∃ o, H D = some o) → Y i H x H' → (∀ y H4, Same H H4 → R D i y H4 → k y H4) → g x (wipe σ vs) H' fun σ2 H2 => wipe σ2 vs = wipe σ vs ∧ te σ2 H2 k)
    (hd : ∀ (D : Addr) ys H2, H1 D = Option.none → Same H1 H2 → H2 D = some (.lst ys) → ys.length = n → (∀ i y, ys[i]? = some y → R D i y H2) → QD D H2) :
    ∀ D, H1 D = Option.none → ∃ W : Nat → Nat → Hp → Prop, (∃ m, W 0 m (upd H1 D (.lst []))) ∧ ∀ i m H, W i m H →
      (J.stop i H ∧ QD D H) ∨ (J.go i H ∧ ∃ Nx : Hp → Prop, (∀ H', Nx H' → ∃ m', m' < m ∧ W (i + 1) m' H') ∧ ∀ x H', J.yld i H x H' → g x (wipe σ vs) H' fun σ2 H2 => wipe σ2 vs = wipe σ vs ∧ tYes σ2 H2 fun b H3 =>
        if b = true then te σ2 H3 fun y H4 => ∃ acc, H4 D = some (.lst acc) ∧ acc.length < sizeLine ∧ Nx (upd H4 D (.lst (acc ++ [y]))) else Nx H3) := by
  intro D hD
  refine lc_it w (Qd := fun H => QD D H) (fun i H => Same H1 H ∧ ∃ ys, H D = some (.lst ys) ∧ ys.length = i ∧ ∀ j y, ys[j]? = some y → R D j y H) ⟨same_upd hD, [], upd_same, rfl, fun j y e => by simp at e⟩ (fun i H _ p => hG H p.1) ?_ ?_
  · rintro i x H H' hi ⟨s1, ys, e1, e2, e3⟩ hy
    have := hs D i x H H' (fun y H4 => ∃ acc, H4 D = some (.lst acc) ∧ acc.length < sizeLine ∧ (Same H1 (upd H4 D (.lst (acc ++ [y]))) ∧ ∃ zs, (upd H4 D (.lst (acc ++ [y]))) D = some (.lst zs) ∧ zs.length = i + 1 ∧ ∀ j z, zs[j]? = some z → R D j z (upd H4 D (.lst (acc ++ [y]))))) hD hi s1 ⟨_, e1⟩ hy ?_
    · exact this
    · intro y H4 s4 ry
      refine ⟨ys, s4 _ _ e1, ?_, fun b o e => ?_, ys ++ [y], upd_same, by simp [e2], fun j z e => ?_⟩
      · rw [e2]
        exact Nat.lt_of_lt_of_le (Nat.lt_of_lt_of_le hi hn) (by decide)
      · rw [upd_ne (ne_of_none e hD)]
        exact s4 _ _ (s1 _ _ e)
      · by_cases hj : j < ys.length
        · rw [List.getElem?_append_left hj] at e
          exact hR D j z H _ ((frd_same s4).trans frd_upd) (e3 j z e)
        · have hl : j < (ys ++ [y]).length := (List.getElem?_eq_some_iff.mp e).1
          have ej : j = ys.length := by simp at hl; omega
          subst ej
          rw [List.getElem?_append_right (Nat.le_refl _)] at e
          simp at e
          rw [← e, e2]
          exact hR D i y H4 _ frd_upd ry
  · rintro H ⟨s1, ys, e1, e2, e3⟩
    exact hd D ys H hD s1 e1 e2 e3
/-- the values are told by their number -/
theorem lc_fun (w : Walk J n G Y) (hG : ∀ H, Same H1 H → G H) (f : Nat → V) (hn : n ≤ 100000)
    (hs : ∀ i x H H' (k : VK), i < n → Same H1 H → Y i H x H' → (∀ H4, Same H H4 → k (f i) H4) → g x (wipe σ vs) H' fun σ2 H2 => wipe σ2 vs = wipe σ vs ∧ te σ2 H2 k)
    (hd : ∀ (D : Addr) H2, H1 D = Option.none → Same H1 H2 → H2 D = some (.lst ((List.range n).map f)) → QD D H2) :
    ∀ D, H1 D = Option.none → ∃ W : Nat → Nat → Hp → Prop, (∃ m, W 0 m (upd H1 D (.lst []))) ∧ ∀ i m H, W i m H →
      (J.stop i H ∧ QD D H) ∨ (J.go i H ∧ ∃ Nx : Hp → Prop, (∀ H', Nx H' → ∃ m', m' < m ∧ W (i + 1) m' H') ∧ ∀ x H', J.yld i H x H' → g x (wipe σ vs) H' fun σ2 H2 => wipe σ2 vs = wipe σ vs ∧ tYes σ2 H2 fun b H3 =>
        if b = true then te σ2 H3 fun y H4 => ∃ acc, H4 D = some (.lst acc) ∧ acc.length < sizeLine ∧ Nx (upd H4 D (.lst (acc ++ [y]))) else Nx H3) := by
  refine lc_gen w hG (fun _ i y _ => y = f i) (fun _ _ _ _ _ _ e => e) hn (fun D i x H H' k _ hi s1 _ hy hk => hs i x H H' k hi s1 hy fun H4 s4 => hk _ H4 s4 rfl) fun D ys H2 hD s1 e el ey => hd D H2 hD s1 ?_
  rw [e]
  congr 2
  apply List.ext_getElem?
  intro i
  by_cases hi : i < n
  · have h1 : ys[i]? = some (ys[i]'(by omega)) := by simp [show i < ys.length by omega]
    have h2 := ey i _ h1
    rw [h1, h2]
    simp [hi]
  · rw [List.getElem?_eq_none (by omega), List.getElem?_eq_none (by simp; omega)]
end
section
variable {K : PySem.W.Frag} {σ : L2.St} {H : Hp} {g : TG} {gs : TGs} {v : V} {r : List V} {a : Addr} {xs : List V} {n : Nat} {QS : L2.St → Hp → Prop} {D : Ends} {wi : TI} {tb : TS} {te : TE} {tt : TT} {vs : List Nat} {Q : VK} {ta : TA} {tl : TE} {R : It → Hp → Prop}
theorem go_gTup (h : SqT K H a xs) (hl : xs.length = n) (q : gs xs σ H QS) : gTup K n gs (.ref a) σ H QS := ⟨a, xs, rfl, h, hl, q⟩
theorem go_gCons (h : g v σ H fun σ' H' => gs r σ' H' QS) : gCons g gs (v :: r) σ H QS := ⟨v, r, rfl, h⟩
theorem go_gNil (h : QS σ H) : gNil [] σ H QS := ⟨rfl, h⟩
theorem go_iEnT (h : ta σ H fun ws H1 => ∃ a xs, ws = [.ref a] ∧ SqT K H1 a xs ∧ R (ItE K a) H1) : iEnT K ta σ H R := h
theorem go_iEnum (h : ta σ H fun ws H1 => ∃ a xs, ws = [.ref a] ∧ SqL K H1 a xs ∧ R (Ite K a) H1) : iEnum K ta σ H R := h
theorem go_iList (h : tl σ H fun x H1 => ∃ a, x = .ref a ∧ (∃ xs, SqL K H1 a xs) ∧ R (Itl K a) H1) : iList K tl σ H R := h
theorem go_iTup (h : tl σ H fun x H1 => ∃ a, x = .ref a ∧ (∃ xs, SqT K H1 a xs) ∧ R (Itt K a) H1) : iTup K tl σ H R := h
theorem go_iStr (h : tl σ H fun x H1 => ∃ z, x = .str z ∧ R (Its z) H1) : iStr tl σ H R := h
theorem go_iRng1 (h : ta σ H fun ws H1 => ∃ j : Int, ws = [.int j] ∧ -(2 ^ 62) ≤ j ∧ j < 2 ^ 62 ∧ R (Itr 0 j.toNat) H1) : iRng1 ta σ H R := h
theorem go_iRng2 (h : ta σ H fun ws H1 => ∃ i j : Int, ws = [.int i, .int j] ∧ (-(2 ^ 62) ≤ i ∧ i < 2 ^ 62 ∧ -(2 ^ 62) ≤ j ∧ j < 2 ^ 62) ∧ R (Itr i (j - i).toNat) H1) : iRng2 ta σ H R := h
theorem go_for (h : wi σ H fun J H1 => ∃ W : Nat → Nat → L2.St → Hp → Prop, (∃ m, W 0 m σ H1) ∧ ∀ i m σ H, W i m σ H → (J.stop i H ∧ D.nx σ H) ∨ (J.go i H ∧ ∃ N : L2.St → Hp → Prop, (∀ σ' H', N σ' H' → ∃ m', m' < m ∧ W (i + 1) m' σ' H') ∧
    ∀ x H', J.yld i H x H' → g x σ H' fun σ2 H2 => tb { D with nx := N, ct := N, bk := D.nx } σ2 H2)) : tFor wi g tb D σ H := h
theorem go_iZip (h : ta σ H fun ws H1 => ∃ a b xs ys, ws = [.ref a, .ref b] ∧ ((SqL K H1 a xs ∧ SqL K H1 b ys ∧ R (Itz K a b) H1) ∨ (SqT K H1 a xs ∧ SqT K H1 b ys ∧ R (RZ.ItzT K a b) H1))) : RZ.iZipA K ta σ H R := h
theorem go_lc (h : wi σ H fun J H1 => ∀ D, H1 D = Option.none → ∃ W : Nat → Nat → Hp → Prop, (∃ m, W 0 m (upd H1 D (.lst []))) ∧ ∀ i m H, W i m H →
    (J.stop i H ∧ Q (.ref D) H) ∨ (J.go i H ∧ ∃ Nx : Hp → Prop, (∀ H', Nx H' → ∃ m', m' < m ∧ W (i + 1) m' H') ∧ ∀ x H', J.yld i H x H' → g x (wipe σ vs) H' fun σ2 H2 => wipe σ2 vs = wipe σ vs ∧ tt σ2 H2 fun b H3 =>
      if b = true then te σ2 H3 fun y H4 => ∃ acc, H4 D = some (.lst acc) ∧ acc.length < sizeLine ∧ Nx (upd H4 D (.lst (acc ++ [y]))) else Nx H3)) : tLc wi g tt te vs σ H Q := h
end
/-- a for over a walk, its ends apart -/
theorem for_w {J : It} {n : Nat} {G : Hp → Prop} {Y : Nat → Hp → V → Hp → Prop} (w : Walk J n G Y) {g : TG} {tb : TS} {NX : L2.St → Hp → Prop} {RT : VK} {σ : L2.St} {H : Hp} (Pv : Nat → L2.St → Hp → Prop) (h0 : Pv 0 σ H) (hG : ∀ i σ H, i ≤ n → Pv i σ H → G H)
    (hs : ∀ i x σ H H', i < n → Pv i σ H → Y i H x H' → g x σ H' fun σ2 H2 => tb { nx := Pv (i + 1), rt := RT, bk := NX, ct := Pv (i + 1) } σ2 H2) (hd : ∀ σ H, Pv n σ H → NX σ H) :
    ∃ W : Nat → Nat → L2.St → Hp → Prop, (∃ m, W 0 m σ H) ∧ ∀ i m σ H, W i m σ H →
      (J.stop i H ∧ NX σ H) ∨ (J.go i H ∧ ∃ N : L2.St → Hp → Prop, (∀ σ' H', N σ' H' → ∃ m', m' < m ∧ W (i + 1) m' σ' H') ∧ ∀ x H', J.yld i H x H' → g x σ H' fun σ2 H2 => tb { nx := N, rt := RT, bk := NX, ct := N } σ2 H2) :=
  for_it w (D := { nx := NX, rt := RT, bk := NX, ct := NX }) Pv h0 hG hs hd
theorem map_at {α β : Type} {l : List α} {f : α → β} {i : Nat} {y : β} (h : (l.map f)[i]? = some y) : ∃ x, l[i]? = some x ∧ y = f x := by
  rw [List.getElem?_map] at h
  cases e : l[i]? with
  | none => rw [e] at h; cases h
  | some x => rw [e] at h; exact ⟨x, rfl, (Option.some.inj h).symm⟩
theorem at_map {α β : Type} {l : List α} {f : α → β} {i : Nat} {x : α} (h : l[i]? = some x) : (l.map f)[i]? = some (f x) := by
  rw [List.getElem?_map, h]
  rfl
section
variable {P : Program} {w : World} {K : PySem.W.Frag} {mg : Str → Option Value} {base : Heap} {x qual : Str} {params : Arguments} {body : List Stmt} {scope : Scope} {kws : List (Str × V)} {f : Addr} {fd : FuncData} {N ps : List Str} {k : Nat} {sp : Sp}
/-- the promise of a def with a star parameter: what is left over comes as a new tuple -/
def StSp (n : Nat) (sp : Sp) : Sp := fun vs H Q E => ∃ ws rest, vs = ws ++ rest ∧ ws.length = n ∧ rest.length ≤ sizeLine ∧ ∀ p, H p = Option.none → sp (ws ++ [V.ref p]) (upd H p (.tup rest)) Q E
theorem fx_star {pv : Str} (F : FunD K x qual params body scope [] kws f fd) (S : FnScope N (ps ++ [pv]) scope)
    (hb : ∀ (kV doc pm : Value) (an : Option Addr) (cdv ct : Value) (us rest : List Value), us.length = ps.length → bindArgs (PySem.W.fnOf x qual params body scope .none kV doc pm an cdv ct) ⟨us ++ rest, []⟩ = (newTuple rest >>= fun t => pure (ps.zip us ++ [(pv, t)])))
    (h : ∀ (cdv : Value) (A : Around) (outer : List Env) (s : Shared) (H : Hp) (vs : List V) (Q : VK) (E : XK), Room k (A.deeper (envOfC qual scope s.heap.objs.size f cdv)) → sp vs H Q E →
      ∃ t, PSs (Cb P w K mg base N qual scope f cdv A outer s H E).nox body t ∧ t { nx := fun _ H' => Q .non H', rt := Q } (start N vs) H) : Fx P w K mg base (k + 1) f (StSp ps.length sp) := by
  obtain ⟨oc, od, dV, kV, doc, pm, an, cdv, ct, osl, rfl, lk, hcd, hD, hK⟩ := F.ex
  have eD : dV = .none := by
    rcases hD with ⟨_, e⟩ | ⟨e, _⟩
    · exact e
    · exact absurd rfl e
  subst eD
  refine StX.fn_star lk hcd S StX.cxUp (hb kV doc pm an cdv ct) fun A outer s H vs Q E hr hs => ?_
  obtain ⟨t, h1, h2⟩ := h cdv A outer s H vs Q E hr hs
  exact ⟨t, h1.nox, h2⟩
end
/-! ### slices -/
theorem cut_take (xs : List V) (i : Nat) : cutV xs none (some (i : Int)) = xs.take i := by
  unfold cutV
  rw [HT.sIx_none, HT.sIx_nat, List.drop_zero, Nat.sub_zero]
  by_cases h : i ≤ xs.length
  · rw [Nat.min_eq_left h]
  · rw [Nat.min_eq_right (by omega), List.take_length, List.take_of_length_le (by omega)]
theorem cut_drop (xs : List V) (i : Nat) : cutV xs (some (i : Int)) none = xs.drop i := by
  unfold cutV
  rw [HT.sIx_none, HT.sIx_nat]
  by_cases h : i ≤ xs.length
  · rw [Nat.min_eq_left h]
    exact List.take_of_length_le (by simp)
  · rw [Nat.min_eq_right (by omega), List.drop_length, List.drop_of_length_le (by omega)]
    simp
theorem cut_mid (xs : List V) (i j : Nat) : cutV xs (some (i : Int)) (some (j : Int)) = (xs.take j).drop i := by
  unfold cutV
  rw [HT.sIx_nat, HT.sIx_nat, List.drop_take]
  by_cases h : i ≤ xs.length
  · rw [Nat.min_eq_left h]
    by_cases h2 : j ≤ xs.length
    · rw [Nat.min_eq_left h2]
    · rw [Nat.min_eq_right (a := j) (by omega), List.take_of_length_le (by simp), List.take_of_length_le (by simp; omega)]
  · rw [Nat.min_eq_right (a := i) (by omega), List.drop_length]
    have e9 : xs.drop i = [] := List.drop_of_length_le (by omega)
    rw [e9]
    simp
section
variable {K : PySem.W.Frag} {H : Hp} {a b : Addr} {xs ys : List V} {lo hi : Option Int} {Q : VK} {ta : TE} {σ : L2.St} {f : Str} {x y : V}
theorem go_slT (h : SqT K H a xs) (k : ∀ p H', Same H H' → (p = a ∨ H p = Option.none) → SqT K H' p (cutV xs lo hi) → Q (.ref p) H') : rSlA K (.ref a) lo hi H Q := by
  refine ⟨a, xs, rfl, h, fun q => k a H (Same.refl _) (.inl rfl) ?_, fun _ p hp => k p _ (same_upd hp) (.inr hp) (.inl (.inl upd_same))⟩
  have e : cutV xs lo hi = xs := by
    unfold cutV
    rw [q.1, q.2]
    simp
  rw [e]
  exact h
theorem go_slL (h : SqL K H a xs) (k : ∀ p H', Same H H' → H p = Option.none → H' p = some (.lst (cutV xs lo hi)) → Q (.ref p) H') : rSlL K (.ref a) lo hi H Q := ⟨a, xs, rfl, h, fun p hp => k p _ (same_upd hp) hp upd_same⟩
theorem go_catT (h : SqT K H a xs) (h' : SqT K H b ys) (hz : xs.length + ys.length ≤ 100000) (k : ∀ p H', Same H H' → (p = a ∨ p = b ∨ H p = Option.none) → SqT K H' p (xs ++ ys) → Q (.ref p) H') : rCatA K (.ref a) (.ref b) H Q := by
  refine ⟨a, b, xs, ys, rfl, rfl, h, h', Nat.le_trans hz (by decide), fun q => k b H (Same.refl _) (.inr (.inl rfl)) (by rw [q]; exact h'), fun _ q => k a H (Same.refl _) (.inl rfl) (by rw [q, List.append_nil]; exact h), fun _ _ p hp => k p _ (same_upd hp) (.inr (.inr hp)) (.inl (.inl upd_same))⟩
theorem go_catL (h : H a = some (.lst xs)) (h' : H b = some (.lst ys)) (hz : xs.length + ys.length ≤ 100000) (k : ∀ p H', Same H H' → H p = Option.none → H' p = some (.lst (xs ++ ys)) → Q (.ref p) H') : rCat (.ref a) (.ref b) H Q :=
  ⟨a, b, xs, ys, rfl, rfl, h, h', Nat.le_trans hz (by decide), fun p hp => k p _ (same_upd hp) hp upd_same⟩
theorem go_cval {C : Addr} {mc u : Value} {v : V} (r : ClX.CRead K C mc) (k : ClX.CVal K C mc f v u) (q : Q v H) : ClX.tCVal K (tC (.ref C)) f σ H Q := ⟨C, mc, v, u, rfl, r, k, q⟩
theorem go_fld {C dx : Addr} {fs : List (Str × V)} {v : V} (h : H a = some (.ins C dx fs)) (c : Cls K C) (n : NoAttr K C f) (l : fs.lookup f = some v) (q : Q v H) {i : Nat} (hv : σ[i]? = some (some (.ref a)) := by rfl) : tFld K (tVar i) f σ H Q := ⟨_, hv, a, C, dx, fs, v, rfl, h, c, n, l, q⟩
/-- a text in a list or tuple of texts -/
theorem inV_strs {z : Str} {l : List Str} : inV (.str z) (l.map V.str) = decide (z ∈ l) := by
  unfold inV
  rw [List.any_map, Bool.eq_iff_iff, List.any_eq_true, decide_eq_true_iff]
  constructor
  · rintro ⟨x, hx, e⟩
    have e2 : (x == z) = true := e
    rw [← eq_of_beq e2]
    exact hx
  · intro h
    exact ⟨z, h, by show (z == z) = true; simp⟩
theorem flat_strs {l : List Str} : (l.map V.str).all flatV = true := by
  rw [List.all_eq_true]
  intro x hx
  obtain ⟨z, _, rfl⟩ := List.mem_map.mp hx
  rfl
theorem go_inL {neg : Bool} {z : Str} {l : List Str} (h : SqL K H a (l.map V.str) ∨ SqT K H a (l.map V.str)) (q : Q (.bl (if neg then !decide (z ∈ l) else decide (z ∈ l))) H) : rIn K neg (.str z) (.ref a) H Q := by
  refine ⟨a, _, rfl, h, rfl, flat_strs, ?_⟩
  rw [inV_strs]
  exact q
end
theorem range_map {α β : Type} (l : List α) (g : α → β) (d : α) {n : Nat} (hn : n = l.length) : (List.range n).map (fun i => g (l.getD i d)) = l.map g := by
  subst hn
  apply List.ext_getElem?
  intro i
  by_cases h : i < l.length
  · simp [List.getD, h]
  · simp [h]
section
variable {K : PySem.W.Frag} {σ : L2.St} {H : Hp} {ta te tf tv : TE} {t : TA} {Q : VK} {C : Addr} {sp : Sp} {E : XK} {f : Str} {D : Ends} {X : Cx} {T : String} {r : V → List V → Hp → VK → Prop}
theorem go_mkR (h : t σ H fun vs H1 => ∀ x dx, H1 x = Option.none → H1 dx = Option.none → dx ≠ x → sp (V.ref x :: vs) (upd (upd H1 dx (.own x)) x (.ins C dx [])) (fun v H2 => v = .non ∧ Q (.ref x) H2) E) : StX.tMakeR C sp E t σ H Q := h
theorem go_mkS (h : te σ H fun y H1 => ∃ a xs, y = V.ref a ∧ (SqT K H1 a xs ∨ SqL K H1 a xs) ∧
  ∀ o dx, H1 o = Option.none → H1 dx = Option.none → dx ≠ o → sp (V.ref o :: xs) (upd (upd H1 dx (.own o)) o (.ins C dx [])) (fun v H2 => v = .non ∧ Q (.ref o) H2) E) : tMkS K C sp E te σ H Q := h
theorem go_clO (h : tf σ H fun y H1 => ∃ a, y = V.ref a ∧ t σ H1 fun vs H2 => StX.InsC X H2 a C ∧ sp (V.ref a :: vs) H2 Q E) : StX.tCallO X C sp E tf t σ H Q := h
theorem go_pr (h : ta σ H fun x H1 => ∃ a dx fs, x = .ref a ∧ H1 a = some (.ins C dx fs) ∧ sp [.ref a] H1 Q E) : tPr C sp E ta σ H Q := h
theorem go_sfld (h : tv σ H fun y H1 => ta σ H1 fun x H2 => ∃ a C dx fs, x = .ref a ∧ H2 a = some (.ins C dx fs) ∧ Cls K C ∧ NoAttr K C f ∧ fs.length < 1000 ∧ D.nx σ (upd H2 a (.ins C dx (putF f y fs)))) : sFld K ta tv f D σ H := h
theorem go_bm (h : ta σ H fun x H1 => tyV K T x H1 ∧ t σ H1 fun xs H2 => r x xs H2 Q) : tBM K T r ta t σ H Q := h
theorem go_ref {a : Addr} {P : Addr → Prop} (h : P a) : ∃ b, V.ref a = V.ref b ∧ P b := ⟨a, rfl, h⟩
end
end Bk
/-! The mathematics of hand-overs: the ends by hand-over (En), and their closed form. d i: the duration of the i-th hand-over, M: the last one's place. -/
namespace Mt
/-- the end of the hand-over of a bucket at a place -/
def En (d : Nat → Int) (M : Nat) : Nat → Nat → Int
  | 0, 0 => d 0
  | 0, p + 1 => En d M 0 p + d (p + 1)
  | b + 1, 0 => En d M b (min 1 M) + d 0
  | b + 1, p + 1 => max (En d M (b + 1) p) (En d M b (min (p + 2) M)) + d (p + 1)
termination_by b p => (b, p)
theorem En_00 (d : Nat → Int) (M : Nat) : En d M 0 0 = d 0 := by rw [En]
theorem En_0s (d : Nat → Int) (M p : Nat) : En d M 0 (p + 1) = En d M 0 p + d (p + 1) := by rw [En]
theorem En_s0 (d : Nat → Int) (M b : Nat) : En d M (b + 1) 0 = En d M b (min 1 M) + d 0 := by rw [En]
theorem En_ss (d : Nat → Int) (M b p : Nat) : En d M (b + 1) (p + 1) = max (En d M (b + 1) p) (En d M b (min (p + 2) M)) + d (p + 1) := by rw [En]
/-- two successive durations -/
def tn (d : Nat → Int) (i : Nat) : Int := d i + d (i + 1)
/-- the greatest of the first r turns -/
def Lm (d : Nat → Int) : Nat → Int
  | 0 => tn d 0
  | r + 1 => max (Lm d r) (tn d r)
theorem Lm_1 (d : Nat → Int) : Lm d 1 = tn d 0 := by simp [Lm]
theorem Lm_le (d : Nat → Int) {r i : Nat} (h : i < r) : tn d i ≤ Lm d r := by
  induction r with
  | zero => omega
  | succ r ih =>
    simp only [Lm]
    by_cases e : i = r
    · subst e; omega
    · have := ih (by omega); omega
theorem Lm_mono (d : Nat → Int) (r : Nat) : Lm d r ≤ Lm d (r + 1) := by simp only [Lm]; omega
/-- the sum of the first p + 1 durations -/
def Wy (d : Nat → Int) : Nat → Int
  | 0 => d 0
  | p + 1 => Wy d p + d (p + 1)
/-- what is lost from place p on, k places, below the greatest turn L -/
def Ls (d : Nat → Int) (L : Int) (p : Nat) : Nat → Int
  | 0 => 0
  | k + 1 => (L - tn d p) + Ls d L (p + 1) k
/-- the value of a reach -/
def Fv (d : Nat → Int) (r : Nat) (b : Nat) (p : Nat) : Int := Wy d p - Ls d (Lm d r) p (r - p) + Lm d r * (b : Int)
theorem Ls_nonneg (d : Nat → Int) (L : Int) : ∀ (k p : Nat), (∀ i, p ≤ i → i < p + k → tn d i ≤ L) → 0 ≤ Ls d L p k
  | 0, p, _ => by simp [Ls]
  | k + 1, p, h => by
    have h1 := h p (by omega) (by omega)
    have h2 := Ls_nonneg d L k (p + 1) fun i a b => h i (by omega) (by omega)
    simp only [Ls]; omega
theorem En_0 (d : Nat → Int) (M : Nat) : ∀ p, En d M 0 p = Wy d p
  | 0 => by rw [En_00]; rfl
  | p + 1 => by rw [En_0s, En_0 d M p]; rfl
/-- one bucket less, one place on -/
theorem Fv_on (d : Nat → Int) {r b p : Nat} (h : p + 1 ≤ r) : Fv d r (b + 1) p = d p + Fv d r b (p + 1) := by
  obtain ⟨k, rfl⟩ : ∃ k, r = p + 1 + k := ⟨r - (p + 1), by omega⟩
  have e1 : p + 1 + k - p = k + 1 := by omega
  have e2 : p + 1 + k - (p + 1) = k := by omega
  have e3 : Lm d (p + 1 + k) * ((b + 1 : Nat) : Int) = Lm d (p + 1 + k) * (b : Int) + Lm d (p + 1 + k) := by
    rw [Int.natCast_add, Int.mul_add]; simp
  unfold Fv
  rw [e1, e2, e3]
  simp only [Ls, Wy, tn]
  omega
/-- the same reach, one place on -/
theorem Fv_up (d : Nat → Int) {r b p : Nat} (h : p + 1 ≤ r) : Fv d r b (p + 1) = d (p + 1) + Fv d r b p + (Lm d r - tn d p) := by
  obtain ⟨k, rfl⟩ : ∃ k, r = p + 1 + k := ⟨r - (p + 1), by omega⟩
  have e1 : p + 1 + k - p = k + 1 := by omega
  have e2 : p + 1 + k - (p + 1) = k := by omega
  unfold Fv
  rw [e1, e2]
  simp only [Ls, Wy]
  omega
theorem Fv_self (d : Nat → Int) (r b : Nat) : Fv d r b r = Wy d r + Lm d r * (b : Int) := by
  unfold Fv; simp [Ls]
theorem Fv_last (d : Nat → Int) (r b : Nat) : Fv d (r + 1) b r = Wy d r - (Lm d (r + 1) - tn d r) + Lm d (r + 1) * (b : Int) := by
  unfold Fv
  rw [show r + 1 - r = 1 by omega]
  simp [Ls]
theorem En_ge_left (d : Nat → Int) (M b p : Nat) : d (p + 1) + En d M b p ≤ En d M b (p + 1) := by
  cases b with
  | zero => rw [En_0s]; omega
  | succ b => rw [En_ss]; omega
theorem En_ge_next (d : Nat → Int) (M b p : Nat) : d p + En d M b (min (p + 1) M) ≤ En d M (b + 1) p := by
  cases p with
  | zero => rw [En_s0]; simp only [Nat.zero_add]; omega
  | succ p =>
    rw [En_ss, show p + 1 + 1 = p + 2 from rfl]
    omega
/-- no reach gives more -/
theorem Fv_le (d : Nat → Int) (M : Nat) : ∀ (b p r : Nat), p ≤ M → p ≤ r → 1 ≤ r → r ≤ M → Fv d r b p ≤ En d M b p := by
  intro b
  induction b with
  | zero =>
    intro p r hp hr h1 hM
    have := Ls_nonneg d (Lm d r) (r - p) p fun i a b => Lm_le d (by omega)
    rw [En_0]
    unfold Fv
    simp only [Int.natCast_zero, Int.mul_zero]
    omega
  | succ b ihb =>
    intro p
    induction p with
    | zero =>
      intro r hp hr h1 hM
      rw [Fv_on d (by omega)]
      have h2 := ihb 1 r (by omega) (by omega) h1 hM
      have h3 := En_ge_next d M b 0
      rw [show min (0 + 1) M = 1 by omega] at h3
      simp only [Nat.zero_add] at h2 ⊢
      omega
    | succ p ihp =>
      intro r hp hr h1 hM
      by_cases hlt : p + 2 ≤ r
      · rw [Fv_on d (by omega), show p + 1 + 1 = p + 2 from rfl]
        have h2 := ihb (p + 2) r (by omega) (by omega) h1 hM
        have h3 := En_ge_next d M b (p + 1)
        rw [show min (p + 1 + 1) M = p + 2 by omega] at h3
        omega
      · have er : r = p + 1 := by omega
        subst er
        rw [Fv_self]
        have hl := En_ge_left d M (b + 1) p
        have hW : Wy d (p + 1) = Wy d p + d (p + 1) := rfl
        have hL : Lm d (p + 1) = tn d p ∨ Lm d (p + 1) = Lm d p := by simp only [Lm]; omega
        rcases hL with e | e
        · have h2 := ihp (p + 1) (by omega) (by omega) (by omega) hM
          rw [Fv_last] at h2
          omega
        · cases p with
          | zero =>
            have h2 := ihp 1 (by omega) (by omega) (by omega) hM
            have e1 := Lm_1 d
            rw [show (1 : Nat) = 0 + 1 from rfl, Fv_last] at h2
            simp only [Nat.zero_add] at *
            omega
          | succ q =>
            have h2 := ihp (q + 1) (by omega) (by omega) (by omega) (by omega)
            rw [Fv_self] at h2
            rw [e]
            omega
/-- some reach gives it -/
theorem Fv_is (d : Nat → Int) (M : Nat) (h0 : ∀ i, i ≤ M → 0 ≤ d i) (hM : 1 ≤ M) : ∀ (b p : Nat), p ≤ M → ∃ r, p ≤ r ∧ 1 ≤ r ∧ r ≤ M ∧ Fv d r b p = En d M b p := by
  intro b
  induction b with
  | zero =>
    intro p hp
    cases p with
    | zero =>
      refine ⟨1, by omega, by omega, hM, ?_⟩
      rw [En_00, show (1 : Nat) = 0 + 1 from rfl, Fv_last]
      have e1 := Lm_1 d
      have e2 : Wy d 0 = d 0 := rfl
      simp only [Int.natCast_zero, Int.mul_zero, Nat.zero_add]
      omega
    | succ p =>
      refine ⟨p + 1, by omega, by omega, hp, ?_⟩
      rw [Fv_self, En_0]
      simp
  | succ b ihb =>
    intro p
    induction p with
    | zero =>
      intro hp
      obtain ⟨r, h1, h2, h3, e⟩ := ihb 1 (by omega)
      refine ⟨r, by omega, h2, h3, ?_⟩
      rw [Fv_on d (by omega), En_s0, show min 1 M = 1 by omega, ← e]
      simp only [Nat.zero_add]
      omega
    | succ p ihp =>
      intro hp
      have hle : ∀ r, p + 1 ≤ r → 1 ≤ r → r ≤ M → Fv d r (b + 1) (p + 1) ≤ En d M (b + 1) (p + 1) := fun r x y z => Fv_le d M (b + 1) (p + 1) r hp x y z
      rw [En_ss]
      by_cases hc : En d M (b + 1) p ≤ En d M b (min (p + 2) M)
      · rw [Int.max_eq_right hc]
        by_cases hl : p + 2 ≤ M
        · rw [show min (p + 2) M = p + 2 by omega]
          obtain ⟨r, h1, h2, h3, e⟩ := ihb (p + 2) hl
          refine ⟨r, by omega, h2, h3, ?_⟩
          rw [Fv_on d (by omega), ← e, show p + 1 + 1 = p + 2 from rfl]
          omega
        · have eM : M = p + 1 := by omega
          rw [show min (p + 2) M = M by omega]
          obtain ⟨r, h1, h2, h3, e⟩ := ihb M (by omega)
          have er : r = M := by omega
          rw [er, Fv_self] at e
          refine ⟨M, by omega, hM, by omega, ?_⟩
          have h4 := Fv_le d M (b + 1) M M (by omega) (by omega) hM (by omega)
          have h5 := En_ss d M b p
          rw [Int.max_eq_right hc, show min (p + 2) M = M by omega] at h5
          have h6 : Lm d M * ((b + 1 : Nat) : Int) = Lm d M * (b : Int) + Lm d M := by rw [Int.natCast_add, Int.mul_add]; simp
          have h7 := Lm_le d (show p < M by omega)
          have h8 := h0 p (by omega)
          rw [← eM] at h5 ⊢
          rw [Fv_self] at h4 ⊢
          have h9 : tn d p = d p + d M := by rw [eM]; rfl
          omega
      · rw [Int.max_eq_left (by omega)]
        obtain ⟨r, h1, h2, h3, e⟩ := ihp (by omega)
        have h5 := En_ss d M b p
        rw [Int.max_eq_left (by omega)] at h5
        by_cases hr : p + 1 ≤ r
        · refine ⟨r, hr, h2, h3, ?_⟩
          have h4 := hle r hr h2 h3
          rw [Fv_up d hr] at h4 ⊢
          have h6 := Lm_le d (show p < r by omega)
          omega
        · have er : r = p := by omega
          subst er
          refine ⟨r + 1, by omega, by omega, hp, ?_⟩
          have h4 := hle (r + 1) (by omega) (by omega) hp
          rw [Fv_self] at h4 e ⊢
          have h6 := Lm_mono d r
          have h7 : Lm d r * ((b + 1 : Nat) : Int) ≤ Lm d (r + 1) * ((b + 1 : Nat) : Int) := Int.mul_le_mul_of_nonneg_right h6 (by omega)
          have h8 : Wy d (r + 1) = Wy d r + d (r + 1) := rfl
          omega
/-- two people: one hand-over -/
theorem En_one (d : Nat → Int) : ∀ b : Nat, En d 0 b 0 = d 0 + d 0 * (b : Int)
  | 0 => by rw [En_00]; simp
  | b + 1 => by
    rw [En_s0, show min 1 0 = 0 from rfl, En_one d b, Int.natCast_add, Int.mul_add]
    simp
    omega
/-- the last hand-over -/
theorem En_last (d : Nat → Int) (M : Nat) (h0 : ∀ i, i ≤ M → 0 ≤ d i) (hM : 1 ≤ M) (b : Nat) : En d M b M = Wy d M + Lm d M * (b : Int) := by
  obtain ⟨r, h1, h2, h3, e⟩ := Fv_is d M h0 hM b M (Nat.le_refl _)
  have er : r = M := by omega
  rw [er, Fv_self] at e
  exact e.symm
end Mt
namespace K
open PySem PySem.Spec PyProof.Rows L2 Bk
local macro_rules | `(tactic| walk_at "go1") => `(tactic| (first
  | ((with_reducible show tVar _ _ _ _); refine go_var rfl ?_)
  | (with_reducible first | refine go_c ?_ | refine go_op ?_ | refine go_cons ?_ | refine go_nil ?_ | refine go_cb ?_ | refine go_cl ?_ | refine go_seq ?_ | refine go_asg ?_ | refine go_name ?_ | refine go_ifS ?_ | refine go_test ?_ | refine go_bl ?_)
  | (with_reducible first | refine go_rI0 ?_ | refine go_rU ?_ | refine go_ret ?_ | refine go_next ?_ | refine go_B ?_ | refine go_and ?_ | refine go_or ?_ | refine go_not ?_ | refine go_if ?_ | refine go_andV ?_ | refine go_orV ?_ | refine go_notV ?_)
  | ((with_reducible show rEq _ _ _ _); refine go_rEq rfl ?_)
  | ((with_reducible show rNe _ _ _ _); refine go_rNe rfl ?_)
  | (with_reducible first | refine go_un ?_ | refine go_chain ?_ | refine go_drop ?_ | refine go_retN ?_ | refine go_isN ?_ | refine go_notN ?_ | refine go_cont ?_ | refine go_break ?_ | refine go_par ?_ | refine go_two ?_ | refine go_part ?_ | refine go_noPart ?_ | refine go_int ?_ | refine go_sl ?_ | refine go_yes ?_ | refine go_tup ?_ | refine go_lst ?_)
  | (with_reducible first | refine go_gCons ?_ | refine go_gNil ?_ | refine go_for ?_ | refine go_iEnT ?_ | refine go_iEnum ?_ | refine go_iList ?_ | refine go_iTup ?_ | refine go_iStr ?_ | refine go_iRng1 ?_ | refine go_iRng2 ?_ | refine go_iZip ?_ | refine go_lc ?_ | refine go_mkR ?_ | refine go_mkS ?_ | refine go_clO ?_ | refine go_pr ?_ | refine go_sfld ?_ | refine go_bm ?_ | refine go_ref ?_)))
local macro_rules | `(tactic| walk_at "go") => `(tactic| ((repeat (walk_at "go1")); try dsimp only))
local macro_rules | `(tactic| walk_at "so") => `(tactic| first | omega | (simp; done) | (simp; omega) | (simp at *; omega))
/-! ### the data: people, lines -/
abbrev Pr := Str × Int
def letters : List Nat := ("abcdefghijklmnopqrstuvwxyz" : Str).cps.toList
def nmB (z : Str) : Bool := decide (1 ≤ z.length ∧ z.length ≤ 8) && z.cps.toList.all fun c => decide (c ∈ letters)
structure Good (ps : List Pr) : Prop where
  two : 2 ≤ ps.length
  most : ps.length ≤ 12
  nm : ∀ p ∈ ps, nmB p.1 = true
  pc : ∀ p ∈ ps, 1 ≤ p.2 ∧ p.2 ≤ 1000
  nd : (ps.map (·.1)).Nodup
/-- the rows of people, tuples (name, pace), at addresses of N -/
def Rows (N : Addr → Prop) (H : Hp) (rs : List Addr) (ps : List Pr) : Prop := rs.length = ps.length ∧ ∀ (i : Nat) (p : Pr), ps[i]? = some p → ∃ t, rs[i]? = some t ∧ N t ∧ H t = some (.tup [.str p.1, .int p.2])
/-- all that stands at addresses of N is kept -/
def FrN (N : Addr → Prop) (H H' : Hp) : Prop := ∀ a o, N a → H a = some o → H' a = some o
theorem FrN.trans {N : Addr → Prop} {H H1 H2 : Hp} (a : FrN N H H1) (b : FrN N H1 H2) : FrN N H H2 := fun x o n e => b x o n (a x o n e)
theorem frn_same {N : Addr → Prop} {H H' : Hp} (e : Same H H') : FrN N H H' := fun a o _ h => e a o h
theorem frn_frd {N : Addr → Prop} {D : Addr} {H H' : Hp} (e : FrD D H H') (h : ∀ a, N a → a ≠ D) : FrN N H H' := fun a o n q => e a o (h a n) q
theorem Rows.mono {N : Addr → Prop} {H H' : Hp} {rs : List Addr} {ps : List Pr} (e : FrN N H H') (h : Rows N H rs ps) : Rows N H' rs ps := ⟨h.1, fun i p q => by
  obtain ⟨t, h1, h2, h3⟩ := h.2 i p q
  exact ⟨t, h1, h2, e _ _ h2 h3⟩⟩
theorem Rows.weak {N M : Addr → Prop} {H : Hp} {rs : List Addr} {ps : List Pr} (e : ∀ a, N a → M a) (h : Rows N H rs ps) : Rows M H rs ps := ⟨h.1, fun i p q => by
  obtain ⟨t, h1, h2, h3⟩ := h.2 i p q
  exact ⟨t, h1, e _ h2, h3⟩⟩
theorem Rows.at {N : Addr → Prop} {H : Hp} {rs : List Addr} {ps : List Pr} (h : Rows N H rs ps) {i : Nat} {y : V} (e : (rs.map V.ref)[i]? = some y) : ∃ p t, ps[i]? = some p ∧ y = .ref t ∧ N t ∧ H t = some (.tup [.str p.1, .int p.2]) := by
  obtain ⟨t, ht, rfl⟩ := map_at e
  have hi : i < ps.length := by
    have := (List.getElem?_eq_some_iff.mp ht).1
    rw [h.1] at this
    exact this
  obtain ⟨t', h1, h2, h3⟩ := h.2 i ps[i] (by simp [hi])
  rw [ht] at h1
  cases h1
  exact ⟨ps[i], t, by simp [hi], rfl, h2, h3⟩
/-- the durations -/
def dsOf : List Pr → List Int
  | a :: b :: r => max a.2 b.2 :: dsOf (b :: r)
  | _ => []
theorem dsOf_len : ∀ ps : List Pr, (dsOf ps).length = ps.length - 1
  | [] => rfl
  | [_] => rfl
  | a :: b :: r => by
    show (dsOf (b :: r)).length + 1 = _
    rw [dsOf_len (b :: r)]
    simp
theorem dsOf_at : ∀ (ps : List Pr) (i : Nat) (a b : Pr), ps[i]? = some a → ps[i + 1]? = some b → (dsOf ps)[i]? = some (max a.2 b.2)
  | [], i, a, b, h, _ => by simp at h
  | [_], i, a, b, h, h' => by simp at h'
  | x :: y :: r, 0, a, b, h, h' => by
    simp at h h'
    subst h h'
    rfl
  | x :: y :: r, i + 1, a, b, h, h' => by
    have := dsOf_at (y :: r) i a b (by simpa using h) (by simpa using h')
    simpa [dsOf] using this
theorem dsOf_eq (ps : List Pr) : dsOf ps = (List.range (ps.length - 1)).map fun i => max ((ps.map (·.2)).getD i 0) ((ps.map (·.2)).getD (i + 1) 0) := by
  apply List.ext_getElem?
  intro i
  by_cases hi : i + 1 < ps.length
  · rw [dsOf_at ps i ps[i] ps[i + 1] (by simp [show i < ps.length by omega]) (by simp [hi]), List.getElem?_map, List.getElem?_range (by omega)]
    simp [List.getD, show i < ps.length by omega, hi]
  · rw [List.getElem?_eq_none (by rw [dsOf_len]; omega), List.getElem?_eq_none (by simp; omega)]
theorem dsOf_bd {ps : List Pr} (h : ∀ p ∈ ps, 1 ≤ p.2 ∧ p.2 ≤ 1000) : ∀ d ∈ dsOf ps, 1 ≤ d ∧ d ≤ 1000 := by
  intro d hd
  obtain ⟨i, hi, e⟩ := List.mem_iff_getElem.mp hd
  rw [dsOf_len] at hi
  have h1 := dsOf_at ps i ps[i] ps[i + 1] (by simp [show i < ps.length by omega]) (by simp [show i + 1 < ps.length by omega])
  rw [List.getElem?_eq_getElem (by rw [dsOf_len]; exact hi)] at h1
  have h2 := Option.some.inj h1
  have a1 := h ps[i] (List.getElem_mem _)
  have a2 := h (ps[i + 1]'(by omega)) (List.getElem_mem _)
  rw [← e, h2]
  omega
/-! ### a line as an object -/
def lf (tp tn td : Addr) : List (Str × V) := putF "_durations" (.ref td) (putF "_names" (.ref tn) (putF "_people" (.ref tp) []))
theorem nPN : ¬ (("_people" : Str) = "_names") := by decide +kernel
theorem nPD : ¬ (("_people" : Str) = "_durations") := by decide +kernel
theorem nND : ¬ (("_names" : Str) = "_durations") := by decide +kernel
theorem lf_p (tp tn td : Addr) : (lf tp tn td).lookup ("_people" : Str) = some (.ref tp) := by
  unfold lf
  rw [lookup_putF, if_neg nPD, lookup_putF, if_neg nPN, lookup_putF, if_pos rfl]
theorem lf_n (tp tn td : Addr) : (lf tp tn td).lookup ("_names" : Str) = some (.ref tn) := by
  unfold lf
  rw [lookup_putF, if_neg nND, lookup_putF, if_pos rfl]
theorem lf_d (tp tn td : Addr) : (lf tp tn td).lookup ("_durations" : Str) = some (.ref td) := by
  unfold lf
  rw [lookup_putF, if_pos rfl]
structure LineF (K : PySem.W.Frag) (N : Addr → Prop) (H : Hp) (o dx tp tn td : Addr) (rs : List Addr) (ps : List Pr) : Prop where
  no : N o
  np : N tp
  nn : N tn
  nd : N td
  obj : H o = some (.ins (He.ga K "Line") dx (lf tp tn td))
  pp : H tp = some (.tup (rs.map V.ref))
  rows : Rows N H rs ps
  nm : H tn = some (.tup ((ps.map (·.1)).map V.str))
  ds : H td = some (.tup ((dsOf ps).map V.int))
/-- at o stands the line of these people -/
def LineAt (K : PySem.W.Frag) (N : Addr → Prop) (H : Hp) (o : Addr) (ps : List Pr) : Prop := ∃ dx tp tn td rs, LineF K N H o dx tp tn td rs ps
theorem LineAt.mono {K : PySem.W.Frag} {N : Addr → Prop} {H H' : Hp} {o : Addr} {ps : List Pr} (e : FrN N H H') (h : LineAt K N H o ps) : LineAt K N H' o ps := by
  obtain ⟨dx, tp, tn, td, rs, h⟩ := h
  exact ⟨dx, tp, tn, td, rs, h.no, h.np, h.nn, h.nd, e _ _ h.no h.obj, e _ _ h.np h.pp, h.rows.mono e, e _ _ h.nn h.nm, e _ _ h.nd h.ds⟩
theorem LineAt.weak {K : PySem.W.Frag} {N M : Addr → Prop} {H : Hp} {o : Addr} {ps : List Pr} (e : ∀ a, N a → M a) (h : LineAt K N H o ps) : LineAt K M H o ps := by
  obtain ⟨dx, tp, tn, td, rs, h⟩ := h
  exact ⟨dx, tp, tn, td, rs, e _ h.no, e _ h.np, e _ h.nn, e _ h.nd, h.obj, h.pp, h.rows.weak e, h.nm, h.ds⟩
theorem putF_len (f : Str) (v : V) : ∀ fs : List (Str × V), (putF f v fs).length ≤ fs.length + 1
  | [] => by simp [putF]
  | (g, x) :: r => by
    have := putF_len f v r
    unfold putF
    split <;> simp <;> omega
theorem putF_len1 (f : Str) (v : V) : (putF f v []).length < 1000 := Nat.lt_of_le_of_lt (putF_len f v []) (by decide)
theorem putF_len2 (f g : Str) (v x : V) : (putF f v (putF g x [])).length < 1000 := by
  have h1 := putF_len f v (putF g x [])
  have h2 := putF_len g x []
  simp at h2
  omega
end K
/-! sorted of data, over the layer -/
namespace Bk
open PySem PySem.Spec PyProof.Rows L2
section
variable {β : Type}
def rSortB (K : PySem.W.Frag) (enc : β → PyData) : List V → Hp → VK → Prop := fun vs H Q => ∃ (a : Addr) (xs : List V) (bs : List β), vs = [V.ref a] ∧ (SqL K H a xs ∨ SqT K H a xs) ∧ xs.length = bs.length ∧ (∀ (i : Nat) (x : V) (b : β), xs[i]? = some x → bs[i]? = some b → Dp K H x (enc b)) ∧
  ∀ (ys : List V) (p : Addr), ys.length = bs.length → (∀ (i : Nat) (y : V) (b : β), ys[i]? = some y → (bs.mergeSort (PySem.W.dataLe false enc))[i]? = some b → ∃ j : Nat, xs[j]? = some y ∧ bs[j]? = some b) → H p = Option.none → Q (.ref p) (upd H p (.lst ys))
theorem each_of {R : Value → β → Prop} : ∀ {us : List Value} {bs : List β}, us.length = bs.length → (∀ (i : Nat) (u : Value) (b : β), us[i]? = some u → bs[i]? = some b → R u b) → PySem.W.EachIs R us bs
  | [], [], _, _ => .nil
  | u :: us, b :: bs, h, g => .cons (g 0 u b rfl rfl) (each_of (by simpa using h) fun i u b x y => g (i + 1) u b (by simpa using x) (by simpa using y))
theorem each_pick {R : Value → β → Prop} {S : V → β → Prop} (hR : ∀ u b, R u b → ∃ x, RelV x u ∧ S x b) : ∀ {us : List Value} {bs : List β}, PySem.W.EachIs R us bs → ∃ ys : List V, Vals ys us ∧ ys.length = bs.length ∧ ∀ (i : Nat) (y : V) (b : β), ys[i]? = some y → bs[i]? = some b → S y b
  | _, _, .nil => ⟨[], .nil, rfl, fun i y b h => by simp at h⟩
  | _, _, .cons r t => by
    obtain ⟨x, rx, sx⟩ := hR _ _ r
    obtain ⟨ys, v, l, h⟩ := each_pick hR t
    refine ⟨x :: ys, .cons rx v, by simp [l], fun i y b e1 e2 => ?_⟩
    match i, e1, e2 with
    | 0, e1, e2 => cases e1; cases e2; exact sx
    | i + 1, e1, e2 => exact h i y b (by simpa using e1) (by simpa using e2)
end
/-! a tuple sorted: its items in a new list, that sorted -/
section
open PySem.W PySem.Calls
variable {prog : Program} {w : World} {A : Around} {E : Value → Shared → Prop} {s : Shared}
theorem collect_tup {tp : Addr} {us : List Value} {Q : List Value → Shared → Prop} (ht : IsTup s.heap tp us.toArray) (hz : us.length ≤ sizeLine)
    (h : Q us { s with heap := (s.heap.push (seqObj "list" #[] 0)).update s.heap.objs.size (Obj.mapSeq (· ++ us.toArray)) }) : wpAny (model prog w) A (collect (.ref tp)) Q E s := by
  obtain ⟨ob, hob, hcl, nn, hdt⟩ := id ht
  have up : (s.heap.push (seqObj "list" #[] 0)).get? tp = some ob := Heap.get?_push_of_some _ hob
  unfold collect; refine wpAny_bind (wpAny_runValue (codeAny_builtin entry_proto_collect' ?_))
  show wpAny _ _ (do again (.builtin "list.__iadd__" ⟨[← newList [], .ref tp], []⟩)) _ _ s; refine wpAny_bind (wpAny_newList (wpAny_pure ⟨Code.quiet_builtin _ (by decide +kernel), codeAny_builtin entry_list_iadd' ?_⟩))
  show wpAny _ _ (Builtin.List.listExtendWith (.ref s.heap.objs.size) (.ref tp) (.ref s.heap.objs.size)) _ _ { s with heap := s.heap.push (seqObj "list" #[] 0) }; unfold Builtin.List.listExtendWith
  refine wpAny_bind (wpAny_typeOf (T := "tuple") ⟨ob, up, hcl⟩ ?_); have two : (Value.type "tuple" == Value.type "tuple") = true := by rfl
  rw [if_pos (by rw [two]; simp)]; refine wpAny_bind (listItems_at up hdt ?_)
  refine wpAny_bind (listItems_at (xs := #[]) (n := 0) (Heap.get?_push_size _ rfl) rfl ?_); rw [if_neg (by simp)]
  refine wpAny_bind (listUpdate_at (xs := #[]) (n := 0) (Heap.get?_push_size _ rfl) rfl ?_ (Nat.zero_le _) (by show (#[] ++ us.toArray).size ≤ sizeLine + 1; simp only [Array.size_append, List.size_toArray, List.length_nil]; omega)); refine wpAny_pure ?_
  show wpAny (model prog w) A (load s.heap.objs.size >>= fun o => match o.data with | .seq xs _ => pure xs.toList | _ => unsupported "internal:collect") Q E { s with heap := (s.heap.push (seqObj "list" #[] 0)).update s.heap.objs.size (Obj.mapSeq (· ++ us.toArray)) }
  refine wpAny_bind (wpAny_load (get?_update_seq (Heap.get?_push_size _ rfl) _) ?_); show wpAny _ _ (pure ((#[] : Array Value) ++ us.toArray).toList) Q E _
  rw [show ((#[] : Array Value) ++ us.toArray).toList = us by simp]; exact wpAny_pure h
variable {β : Type} {R : Value → β → Prop} {enc : β → PyData} {bs : List β}
theorem sorted_tup {tp : Addr} {us : List Value} {Q : Value → Shared → Prop} (ht : IsTup s.heap tp us.toArray) (e : EachIs R us bs) (er : EachIs (fun v b => ∃ as, Reads s.heap v (enc b) as) us bs) (hal : AllAlike (bs.map enc)) (hk : Sortable (bs.map enc)) (hL : bs.length ≤ sizeLine)
    (hu : ∀ b, b ∈ bs → A.units + 2 + (enc b).depth < cLine) (h : ∀ out, out.length = bs.length → EachIs R out (bs.mergeSort (dataLe false enc)) → Q (.ref (s.heap.objs.size + 1)) { s with heap := sortedAll s.heap us (List.toArray out) }) : wpAny (model prog w) A (call (.builtin "sorted") [.ref tp]) Q E s := by
  have hz : us.length ≤ sizeLine := by rw [e.length]; exact hL
  have er2 : EachIs (fun v b => ∃ as, Reads (sortingHeap (copyHeap s.heap us) (s.heap.objs.size + 1) us) v (enc b) as) us bs := er.mono fun _ _ ⟨as, r⟩ => ⟨as, PyProof.Rows.Reads.keeps (fun _ _ => sorting_copy_old) r⟩
  have S := SortsAt.data (prog := prog) (w := w) (A := A.in1.in1) (s := { s with heap := sortingHeap (copyHeap s.heap us) (s.heap.objs.size + 1) us }) (each_map (R := fun v d => ∃ as, Reads (sortingHeap (copyHeap s.heap us) (s.heap.objs.size + 1) us) v d as) enc er2) hal hk (bound_map fun b hb => by have := hu b hb; show A.units + 1 + 1 + _ < _; omega)
  refine call_function_entry_kw kind_sorted plain_sorted entry_sorted (args_sorted1 _) ?_; unfold Builtin.«sorted»
  refine wpAny_bind (m := checkCount "sorted" 1 1 _) (wpAny_pure ?_); refine wpAny_bind (collect_tup ht hz ?_)
  refine wpAny_bind (wpAny_newList ?_ hz); have size1 : ((s.heap.push (seqObj "list" #[] 0)).update s.heap.objs.size (Obj.mapSeq (· ++ us.toArray))).objs.size = s.heap.objs.size + 1 := (Heap.size_update ..).trans (size_push' ..)
  show wpAny _ _ _ _ _ { s with heap := copyHeap s.heap us }; rw [size1]
  refine wpAny_bind (wpAny_holding (wpAny_call_entry_kw slot_list_sort ⟨_, copyHeap_at s.heap us, rfl⟩ entry_list_sort (wpAny_mono (list_sort_vals (E := E) (s := { s with heap := copyHeap s.heap us }) (P := fun f s' => f = .done (.ret .none) ∧ Q (.ref (s.heap.objs.size + 1)) s') (copyHeap_at s.heap us) S hz ⟨rfl, ?_⟩) (fun f s' hf => ?_) fun _ _ z => z) (args_list_sort _)))
  · exact h _ (by rw [sortVals_length false rfl]; exact e.length) (sortVals_data false e er2 hal)
  · obtain ⟨rfl, hq⟩ := hf; exact ⟨_, rfl, wpAny_pure ⟨_, rfl, hq⟩⟩
end
section
variable {β : Type}
theorem cr_sortB (K0 : PySem.W.Frag) {X : Cx} (enc : β → PyData) (hu : X.A.units + 64 < cLine) (al : ∀ b b', PySem.W.alike (enc b) (enc b') = true) (tu : ∀ b, ∃ x r, enc b = .tuple (x :: r)) (dp : ∀ b, (enc b).depth ≤ 5) (hK : X.K = K0 := by rfl) : CallR X (.builtin "sorted") (rSortB K0 enc) := by
  subst hK
  intro pins s σ H vs us Q I r h
  obtain ⟨a, xs, bs, rfl, hs, hl, hd, q⟩ := h
  obtain rfl := Vals.ref1 r
  have fin : ∀ its : List Value, Vals xs its → xs.length ≤ sizeLine → (∀ (E' : Value → Shared → Prop) (Q' : Value → Shared → Prop), PySem.W.EachIs (fun u b => ∃ x, (∃ j : Nat, xs[j]? = some x ∧ bs[j]? = some b) ∧ RelV x u) its bs → PySem.W.EachIs (fun v b => ∃ as, Reads s.heap v (enc b) as) its bs → (∀ b, b ∈ bs → X.A.units + 2 + (enc b).depth < cLine) →
      (∀ out, out.length = bs.length → PySem.W.EachIs (fun u b => ∃ x, (∃ j : Nat, xs[j]? = some x ∧ bs[j]? = some b) ∧ RelV x u) out (bs.mergeSort (PySem.W.dataLe false enc)) → Q' (.ref (s.heap.objs.size + 1)) { s with heap := PyProof.Rows.sortedAll s.heap its (List.toArray out) }) → wpAny (model X.prog X.w) X.A (call (.builtin "sorted") [.ref a]) Q' E' s) →
      wpAny (model X.prog X.w) X.A (call (.builtin "sorted") [.ref a]) (EP X pins σ Q) X.xe s := fun its rv hz run => by
    have hlen := rv.length
    have rel : ∀ (i : Nat) (u : Value) (b : β), its[i]? = some u → bs[i]? = some b → ∃ x, (∃ j : Nat, xs[j]? = some x ∧ bs[j]? = some b) ∧ RelV x u := fun i u b e1 e2 => by
      have hi : i < xs.length := by
        have := (List.getElem?_eq_some_iff.mp e2).1
        omega
      have ex : xs[i]? = some xs[i] := by simp [hi]
      obtain ⟨u', e3, r3⟩ := rv.get ex
      rw [e1] at e3
      cases e3
      exact ⟨xs[i], ⟨i, ex, e2⟩, r3⟩
    refine run _ _ (each_of (by omega) rel) (each_of (by omega) fun i u b e1 e2 => ?_) (fun b _ => ?_) fun out ho eo => ?_
    · obtain ⟨x, ⟨j, j1, j2⟩, r1⟩ := rel i u b e1 e2
      exact Dp.reads I (enc b) x u (hd j x b j1 j2) r1
    · have := dp b
      omega
    · obtain ⟨c, hcat⟩ := PyProof.Rows.sortedAll_at s.heap its out.toArray
      obtain ⟨ys, rys, lys, hys⟩ := each_pick (S := fun x b => ∃ j : Nat, xs[j]? = some x ∧ bs[j]? = some b) (fun u b ⟨x, a1, a2⟩ => ⟨x, a2, a1⟩) eo
      have hsz : ys.length ≤ sizeLine := by
        rw [lys, List.length_mergeSort]
        omega
      exact ⟨.ref (s.heap.objs.size + 1), _, I.laid (t' := s.toks) (fun _ _ => PyProof.Rows.sortedAll_old) (Nat.le_succ _) (show ObjOk X.prog X.w _ _ _ (.lst ys) from ⟨hsz, out, c, rys, hcat⟩), rfl, q ys _ (by rw [lys, List.length_mergeSort]) hys (I.hok.fresh (Nat.le_succ _))⟩
  rcases hs with hs | hs
  · obtain ⟨its, rv, pl, hz⟩ := I.list hs
    exact fin its rv hz fun E' Q' e er hub k => PySem.W.sorted_data pl.isList e er (PySem.W.AllAlike.of al) (PySem.W.Sortable.tuples tu) (by omega) hub k
  · obtain ⟨its, rv, pt, hz⟩ := I.tuple hs
    exact fin its rv hz fun E' Q' e er hub k => sorted_tup pt e er (PySem.W.AllAlike.of al) (PySem.W.Sortable.tuples tu) (by omega) hub k
end
/-! minus of an own instance -/
structure NegOf (K : PySem.W.Frag) (C : Str) : Prop where
  at_ : PySem.W.findIn K (.ref (He.ga K C)) "__neg__" = some (some (.ref (He.ma K (He.ga K C) "__neg__")))
  fn : PySem.W.isFn K (.ref (He.ma K (He.ga K C) "__neg__")) = true
def isNeg (K : PySem.W.Frag) (C : Str) : Bool :=
  He.eqO (PySem.W.findIn K (.ref (He.ga K C)) "__neg__") (some (some (.ref (He.ma K (He.ga K C) "__neg__")))) && PySem.W.isFn K (.ref (He.ma K (He.ga K C) "__neg__"))
theorem isNeg_ok {K : PySem.W.Frag} {C : Str} (h : isNeg K C = true) : NegOf K C := by
  obtain ⟨h1, h2⟩ := He.ba h
  exact ⟨He.eqO_ok h1, h2⟩
def rOw1 (C : Addr) (sp : Sp) (E : XK) : V → Hp → VK → Prop := fun x H Q => ∃ a dx fs, x = .ref a ∧ H a = some (.ins C dx fs) ∧ sp [.ref a] H Q E
theorem un_ownN {X : Cx} {CX : CXT} {k j : Nat} {C g : Addr} {sp : Sp} {E : XK} (hs : PySem.W.findIn X.K (.ref C) "__neg__" = some (some (.ref g))) (hf : PySem.W.isFn X.K (.ref g) = true) (F : FnR X.prog X.w X.K X.mg X.base CX k g sp) (hr : Room j X.A) (hx : Passes CX X E) (hj : k ≤ j := by decide) :
    UnR X (unaryOp .USub) (rOw1 C sp E) := by
  intro pins s σ H x v Q I rx h
  obtain ⟨a, dx, fs, rfl, ha, q⟩ := h
  cases (show v = Value.ref a from rx)
  obtain ⟨ox, od, J, _⟩ := ins_at I ha
  have run := wpAny_call (run_fnR (us := [.ref a]) (vs := [.ref a]) F (hr.mono hj) hx I (.cons rfl .nil) q)
  unfold unaryOp
  refine wpAny_holding ?_
  show wpAny _ _ (callSpecial? (.ref a) "__neg__" >>= fun o => match o with | some r => pure r | none => _) _ _ _
  exact wpAny_bind (PySem.W.special_fn I.kIn J hs (beq_iff_eq.mp hf) (wpAny_mono run (fun _ _ z => wpAny_pure z) fun _ _ z => z))
/-! a tuple turned round: t[::-1] -/
section
open PySem.W PySem.Calls HT
variable {prog : Program} {w : World} {A : Around} {E : Value → Shared → Prop} {s : Shared}
theorem fm_congr {α γ : Type} {f g : α → Option γ} : ∀ {l : List α}, (∀ x ∈ l, f x = g x) → l.filterMap f = l.filterMap g
  | [], _ => rfl
  | x :: l, h => by
    rw [List.filterMap_cons, List.filterMap_cons, h x (by simp), fm_congr fun y hy => h y (by simp [hy])]
theorem turn_pick (xs : Array Value) : ((List.range xs.size).filterMap fun (k : Nat) => xs[((xs.size : Int) - 1 + (k : Int) * -1).toNat]?) = xs.toList.reverse := by
  have e : ((List.range xs.size).filterMap fun (k : Nat) => xs[((xs.size : Int) - 1 + (k : Int) * -1).toNat]?) = (List.range xs.size).filterMap fun k => xs.toList.reverse[k]? := by
    apply fm_congr
    intro k hk
    have hk := List.mem_range.mp hk
    rw [List.getElem?_reverse (by simpa using hk)]
    rw [show ((xs.size : Int) - 1 + (k : Int) * -1).toNat = xs.toList.length - 1 - k by simp; omega]
    simp
  rw [e]
  apply List.ext_getElem?
  intro k
  have all : ∀ (l : List Value), ((List.range l.length).filterMap fun k => l[k]?) = l := fun l => by
    induction l with
    | nil => rfl
    | cons x l ih =>
      rw [List.length_cons, List.range_succ_eq_map, List.filterMap_cons]
      simp only [List.getElem?_cons_zero, List.filterMap_map]
      congr 1
  have := all xs.toList.reverse
  rw [List.length_reverse, Array.length_toList] at this
  rw [this]
theorem turn_applied {sl : Addr} {vl vu vs : Value} {n : Nat} {Q : Int × Int × Nat → Shared → Prop} (hs : s.heap.IsSliceOf sl vl vu vs) (pl : IsPart vl none) (pu : IsPart vu none) (ps : IsPart vs (some (-1)))
    (h : Q ((n : Int) - 1, -1, n) s) : wpAny (model prog w) A (Builtin.Slice.sliceApplied (.ref sl) (pure (n : Int))) Q E s := by
  obtain ⟨ob, hob, hcl, hdt⟩ := id hs
  unfold Builtin.Slice.sliceApplied; unfold Builtin.Slice.sliceFields
  refine wpAny_bind (wpAny_bind (wpAny_field hob hdt (x := vl) rfl (wpAny_bind (wpAny_field hob hdt (x := vu) rfl (wpAny_bind (wpAny_field hob hdt (x := vs) rfl (wpAny_pure ?_)))))))
  refine wpAny_bind (slicePart_ ps ?_); show wpAny _ _ (if ((-1 : Int) == 0) = true then _ else _) _ _ s
  rw [if_neg (by decide)]; refine wpAny_bind (slicePart_ pl (wpAny_bind (slicePart_ pu (wpAny_bind (wpAny_pure ?_)))))
  show wpAny _ _ (match Builtin.Slice.sliceAdjust none none (-1) (n : Int) with | (lo, hi) => pure (lo, (-1 : Int), Builtin.Slice.slicePlaces lo hi (-1))) _ _ s
  have e1 : Builtin.Slice.sliceAdjust none none (-1) (n : Int) = ((n : Int) - 1, -1) := rfl
  rw [e1]
  show wpAny _ _ (pure ((n : Int) - 1, (-1 : Int), Builtin.Slice.slicePlaces ((n : Int) - 1) (-1) (-1))) _ _ s
  have e2 : Builtin.Slice.slicePlaces ((n : Int) - 1) (-1) (-1) = n := by
    unfold Builtin.Slice.slicePlaces
    rw [if_neg (by decide)]
    by_cases c : (n : Int) - 1 > -1
    · rw [if_pos c]
      simp
    · rw [if_neg c]
      simp
      omega
  rw [e2]
  exact wpAny_pure h
theorem turn_get {t sl : Addr} {items : Array Value} {vl vu vs : Value} {Q : Value → Shared → Prop} (ht : IsTup s.heap t items) (hs : s.heap.IsSliceOf sl vl vu vs) (pl : IsPart vl none) (pu : IsPart vu none) (ps : IsPart vs (some (-1)))
    (h : Q (.ref s.heap.objs.size) { s with heap := s.heap.push { cls := .type "tuple", data := .seq items.toList.reverse.toArray } }) (hsz : items.size ≤ sizeLine) : wpAny (model prog w) A (getItem (.ref t) (.ref sl)) Q E s := by
  obtain ⟨ob, hob, hcl, hdt⟩ := id hs
  have tyS : s.TypeIs (.ref sl) "slice" := ⟨ob, hob, hcl⟩
  have fits : sizeOk (.seq items.toList.reverse.toArray) := by show items.toList.reverse.toArray.size ≤ sizeLine; rw [List.size_toArray, List.length_reverse, Array.length_toList]; exact hsz
  unfold getItem; try with_reducible refine wpAny_holding ?_
  first | refine wpAny_bind (wpAny_pure ?_) | skip
  refine wpAny_bind (wpAny_sequenceKey ht.typeIs (by decide) ?_); refine wpAny_bind (wpAny_callSpecial?_slot (name := Str.ofString "__getitem__") ht.typeIs PyProof.Rows.slot_tuple_getitem (wpAny_call_entry PyProof.Rows.slot_tuple_getitem ht.typeIs entry_tuple_getitem ?_ (args_tuple_getitem _ _)))
  show wpAny _ _ (Builtin.Tuple.tupleItemsOf (.ref t) >>= _) _ _ s; refine wpAny_bind (tupleItemsOf_ ht ?_)
  refine wpAny_bind (wpAny_typeOf tyS ?_); rw [if_pos (by decide)]
  refine wpAny_bind (turn_applied hs pl pu ps ?_); have no : ¬ ((((items.size : Int) - 1) == 0 && (-1 : Int) == 1 && items.size == items.size) = true) := by simp
  show wpAny _ _ (if (((items.size : Int) - 1) == 0 && (-1 : Int) == 1 && items.size == items.size) = true then _ else _) _ _ s; rw [if_neg no, turn_pick]
  first
    | exact wpAny_bind (m := Builtin.Tuple.tupleExact _) (wpAny_newObj_type (wpAny_pure ⟨_, rfl, wpAny_pure h⟩) fits)
    | exact wpAny_bind (m := Builtin.Tuple.tupleExact _) (wpAny_newObj_type (wpAny_bind (wpAny_pure (wpAny_pure ⟨_, rfl, wpAny_pure h⟩))) fits)
    | exact wpAny_bind (wpAny_bind (m := Builtin.Tuple.tupleExact _) (wpAny_newObj_type (wpAny_pure (wpAny_pure ⟨_, rfl, wpAny_pure h⟩)) fits))
end
section
variable {X : Cx}
def tRevT (K : PySem.W.Frag) (te : TE) : TE := fun σ H Q => te σ H fun x H1 => ∃ a xs, x = .ref a ∧ SqT K H1 a xs ∧ ∀ p, H1 p = Option.none → Q (.ref p) (upd H1 p (.tup xs.reverse))
theorem go_revT {K : PySem.W.Frag} {te : TE} {σ : L2.St} {H : Hp} {Q : VK} (h : te σ H fun x H1 => ∃ a xs, x = .ref a ∧ SqT K H1 a xs ∧ ∀ p, H1 p = Option.none → Q (.ref p) (upd H1 p (.tup xs.reverse))) : tRevT K te σ H Q := h
theorem pe_revT {e : Expr} {te : TE} {k : Nat} {p1 p2 p3 pos : Pos} (he : PE X e te) : PE X (.Subscript e (.Slice none none (some (.UnaryOp .USub (.Constant (.int 1) k p1) p2)) p3) pos) (tRevT X.K te) := ⟨fun pins s σ H Q I h => by
  refine Subscript_ (thn (he.run pins s σ H _ I h) ?_)
  rintro v s1 ⟨x, H1, I1, r1, a, xs, rfl, hx, q⟩
  cases (show v = Value.ref a from r1)
  have hst : PO X (some (.UnaryOp .USub (.Constant (.int 1) k p1) p2)) (tPart (tUn (rU fun i => .int (-i)) (tC (.int 1)))) := po_some (pe_un un_neg pe_int)
  refine wpAny_Slice (thn (po_none.run pins s1 σ H1 (fun o H2 => o = none ∧ H2 = H1) I1 ⟨rfl, rfl⟩) ?_); rintro vl s2 ⟨l, H2, I2, pl, rfl, rfl⟩
  refine thn (po_none.run pins s2 σ H2 (fun o H3 => o = none ∧ H3 = H2) I2 ⟨rfl, rfl⟩) ?_; rintro vu s3 ⟨u, H3, I3, pu, rfl, rfl⟩
  refine thn (hst.run pins s3 σ H3 (fun o H4 => o = some (-1) ∧ H4 = H3) I3 ⟨1, rfl, -1, rfl, rfl, rfl⟩) ?_; rintro vs s4 ⟨o, H4, I4, ps, rfl, rfl⟩
  have I5 : Inv X pins σ H4 { s4 with heap := s4.heap.push { cls := .type "slice", data := .fields #[vl, vu, vs] } } := I4.kept (t' := s4.toks) fun b ob q => Heap.get?_push_of_some _ q
  obtain ⟨its, r, ht, hz⟩ := I5.tuple hx
  have hlen := r.length
  show wpAny (model X.prog X.w) X.A (subscriptTail e (.Slice none none (some (.UnaryOp .USub (.Constant (.int 1) k p1) p2)) p3) (.ref a) (.ref s4.heap.objs.size)) (EP X pins σ Q) X.xe { s4 with heap := s4.heap.push { cls := .type "slice", data := .fields #[vl, vu, vs] } }
  refine tail_any (ops := [.ref a, .ref s4.heap.objs.size]) ht.typeIs (PyProof.Rows.slot_tuple_getitem.lookup) ?_ (by with_unfolding_all rfl)
  refine turn_get ht (Heap.IsSliceOf.new _ vl vu vs) pl pu ps ?_ (by rw [List.size_toArray]; omega)
  refine ⟨.ref _, _, I5.laid (t' := s4.toks) (o := .tup xs.reverse) (fun b ob q => Heap.get?_push_of_some _ q) (Nat.le_refl _) ?_, rfl, q _ (I5.hok.fresh (Nat.le_refl _))⟩
  exact ⟨by rw [List.length_reverse]; exact hz, its.reverse, r.reverse, _, Heap.get?_push_size _ rfl, rfl, 0, rfl⟩⟩
end
end Bk
/-! The mathematics of orders: no order of the same paces has a smaller pace than the good one. a: the paces by place. -/
namespace Od
def vl (a : Nat → Int) (i : Nat) : Int := max (a i) (a (i + 1)) + max (a (i + 1)) (a (i + 2))
/-- a permutation of lists by places -/
theorem perm_ix {α : Type} {l s : List α} (h : l.Perm s) : ∃ f g : Nat → Nat, (∀ i, i < l.length → f i < l.length ∧ g (f i) = i ∧ l[i]? = s[f i]?) ∧ (∀ j, j < l.length → g j < l.length ∧ f (g j) = j) := by
  induction h with
  | nil => exact ⟨id, id, fun i h => absurd h (Nat.not_lt_zero _), fun i h => absurd h (Nat.not_lt_zero _)⟩
  | @cons x l1 l2 h ih =>
    obtain ⟨f, g, h1, h2⟩ := ih
    refine ⟨fun i => match i with | 0 => 0 | i + 1 => f i + 1, fun i => match i with | 0 => 0 | i + 1 => g i + 1, fun i hi => ?_, fun i hi => ?_⟩
    · match i, hi with
      | 0, _ => exact ⟨by simp, rfl, rfl⟩
      | i + 1, hi =>
        obtain ⟨a, b, c⟩ := h1 i (by simpa using hi)
        exact ⟨by simpa using a, by simpa using b, by simpa using c⟩
    · match i, hi with
      | 0, _ => exact ⟨by simp, rfl⟩
      | i + 1, hi =>
        obtain ⟨a, b⟩ := h2 i (by simpa using hi)
        exact ⟨by simpa using a, by simpa using b⟩
  | swap x y l1 =>
    refine ⟨fun i => match i with | 0 => 1 | 1 => 0 | i + 2 => i + 2, fun i => match i with | 0 => 1 | 1 => 0 | i + 2 => i + 2, fun i hi => ?_, fun i hi => ?_⟩
    · match i, hi with
      | 0, _ => exact ⟨by simp, rfl, rfl⟩
      | 1, _ => exact ⟨by simp, rfl, rfl⟩
      | i + 2, hi => exact ⟨by simpa using hi, rfl, by simp⟩
    · match i, hi with
      | 0, _ => exact ⟨by simp, rfl⟩
      | 1, _ => exact ⟨by simp, rfl⟩
      | i + 2, hi => exact ⟨by simpa using hi, rfl⟩
  | @trans l1 l2 l3 h12 h23 ih1 ih2 =>
    obtain ⟨f1, g1, a1, b1⟩ := ih1
    obtain ⟨f2, g2, a2, b2⟩ := ih2
    have hl := h12.length_eq
    rw [← hl] at a2 b2
    refine ⟨fun i => f2 (f1 i), fun i => g1 (g2 i), fun i hi => ?_, fun i hi => ?_⟩
    · obtain ⟨x1, y1, z1⟩ := a1 i hi
      obtain ⟨x2, y2, z2⟩ := a2 (f1 i) x1
      exact ⟨x2, by show g1 (g2 (f2 (f1 i))) = i; rw [y2, y1], z1.trans z2⟩
    · obtain ⟨x2, y2⟩ := b2 i hi
      obtain ⟨x1, y1⟩ := b1 (g2 i) x2
      exact ⟨x1, by show f2 (f1 (g1 (g2 i))) = i; rw [y1, y2]⟩
/-- paces by place a, the sorted ones s, n of them; f and g lead from one to the other -/
structure Pm (n : Nat) (a s : Nat → Int) (f g : Nat → Nat) : Prop where
  fg : ∀ i, i < n → f i < n ∧ g (f i) = i ∧ a i = s (f i)
  gf : ∀ j, j < n → g j < n ∧ f (g j) = j
  up : ∀ i j, i ≤ j → j < n → s i ≤ s j
section
variable {n : Nat} {a s : Nat → Int} {f g : Nat → Nat}
theorem Pm.ne (P : Pm n a s f g) {i j : Nat} (hi : i < n) (hj : j < n) (h : i ≠ j) : f i ≠ f j := fun e => h (by rw [← (P.fg i hi).2.1, ← (P.fg j hj).2.1, e])
theorem Pm.ge (P : Pm n a s f g) {i k : Nat} (hi : i < n) (h : k ≤ f i) : s k ≤ a i := by
  obtain ⟨h1, _, h3⟩ := P.fg i hi
  rw [h3]
  exact P.up k (f i) h h1
theorem Pm.at (P : Pm n a s f g) {j : Nat} (hj : j < n) : a (g j) = s j := by
  obtain ⟨h1, h2⟩ := P.gf j hj
  rw [(P.fg (g j) h1).2.2, h2]
theorem Pm.gne (P : Pm n a s f g) {i j : Nat} (hi : i < n) (hj : j < n) (h : i ≠ j) : g i ≠ g j := fun e => h (by rw [← (P.gf i hi).2, ← (P.gf j hj).2, e])
/-- one who stands within counts twice -/
theorem Pm.mid {p : Nat} (h1 : 1 ≤ p) : 2 * a p ≤ vl a (p - 1) := by
  obtain ⟨q, rfl⟩ : ∃ q, p = q + 1 := ⟨p - 1, by omega⟩
  simp only [Nat.add_sub_cancel, vl]
  omega
theorem Pm.two (P : Pm n a s f g) {i j : Nat} (hi : i < n) (hj : j < n) (h : i ≠ j) : s 1 ≤ max (a i) (a j) := by
  have ne := P.ne hi hj h
  by_cases c : 1 ≤ f i
  · have := P.ge hi c
    omega
  · have := P.ge (k := 1) hj (by omega)
    omega
/-- the greatest and the second least -/
theorem Pm.low1 (P : Pm n a s f g) (hn : 3 ≤ n) : ∃ i, i + 2 < n ∧ s (n - 1) + s 1 ≤ vl a i := by
  have hp := (P.gf (n - 1) (by omega)).1
  have ep := P.at (j := n - 1) (by omega)
  by_cases c : g (n - 1) + 2 < n
  · refine ⟨g (n - 1), c, ?_⟩
    have := P.two (i := g (n - 1) + 1) (j := g (n - 1) + 2) (by omega) c (by omega)
    unfold vl
    omega
  · by_cases d : g (n - 1) = n - 1
    · refine ⟨n - 3, by omega, ?_⟩
      have := P.two (i := n - 3) (j := n - 3 + 1) (by omega) (by omega) (by omega)
      have e : a (n - 3 + 2) = s (n - 1) := by rw [show n - 3 + 2 = g (n - 1) by omega]; exact ep
      unfold vl
      omega
    · refine ⟨g (n - 1) - 1, by omega, ?_⟩
      have h1 := Pm.mid (a := a) (p := g (n - 1)) (by omega)
      have h2 := P.up 1 (n - 1) (by omega) (by omega)
      omega
/-- the third greatest, twice -/
theorem Pm.low2 (P : Pm n a s f g) (hn : 3 ≤ n) : ∃ i, i + 2 < n ∧ 2 * s (n - 3) ≤ vl a i := by
  have three : ∃ j, n - 3 ≤ j ∧ j < n ∧ 1 ≤ g j ∧ g j + 1 < n := by
    have p1 := (P.gf (n - 1) (by omega)).1
    have p2 := (P.gf (n - 2) (by omega)).1
    have p3 := (P.gf (n - 3) (by omega)).1
    have n1 := P.gne (i := n - 1) (j := n - 2) (by omega) (by omega) (by omega)
    have n2 := P.gne (i := n - 1) (j := n - 3) (by omega) (by omega) (by omega)
    have n3 := P.gne (i := n - 2) (j := n - 3) (by omega) (by omega) (by omega)
    by_cases c1 : 1 ≤ g (n - 1) ∧ g (n - 1) + 1 < n
    · exact ⟨n - 1, by omega, by omega, c1⟩
    · by_cases c2 : 1 ≤ g (n - 2) ∧ g (n - 2) + 1 < n
      · exact ⟨n - 2, by omega, by omega, c2⟩
      · exact ⟨n - 3, by omega, by omega, by omega, by omega⟩
  obtain ⟨j, h1, h2, h3, h4⟩ := three
  refine ⟨g j - 1, by omega, ?_⟩
  have e := P.at h2
  have h5 := Pm.mid (a := a) h3
  have h6 := P.up (n - 3) j h1 h2
  omega
/-- the second greatest and the fourth least (of five: the third) -/
theorem Pm.low3 (P : Pm n a s f g) (hn : 5 ≤ n) : ∃ i, i + 2 < n ∧ s (n - 2) + s (if n = 5 then 2 else 3) ≤ vl a i := by
  have p1 := (P.gf (n - 1) (by omega)).1
  have p2 := (P.gf (n - 2) (by omega)).1
  have n1 := P.gne (i := n - 1) (j := n - 2) (by omega) (by omega) (by omega)
  have e1 := P.at (j := n - 1) (by omega)
  have e2 := P.at (j := n - 2) (by omega)
  have u1 := P.up (n - 2) (n - 1) (by omega) (by omega)
  have u2 : s (if n = 5 then 2 else 3) ≤ s (n - 2) := P.up _ _ (by split <;> omega) (by omega)
  by_cases c1 : 1 ≤ g (n - 1) ∧ g (n - 1) + 1 < n
  · refine ⟨g (n - 1) - 1, by omega, ?_⟩
    have := Pm.mid (a := a) c1.1
    omega
  · by_cases c2 : 1 ≤ g (n - 2) ∧ g (n - 2) + 1 < n
    · refine ⟨g (n - 2) - 1, by omega, ?_⟩
      have := Pm.mid (a := a) c2.1
      omega
    · -- both at the ends
      have a0 : s (n - 2) ≤ a 0 := by
        by_cases c : g (n - 1) = 0
        · rw [c] at e1; omega
        · have : g (n - 2) = 0 := by omega
          rw [this] at e2; omega
      have aL : s (n - 2) ≤ a (n - 3 + 2) := by
        rw [show n - 3 + 2 = n - 1 by omega]
        by_cases c : g (n - 1) = n - 1
        · rw [c] at e1; omega
        · have : g (n - 2) = n - 1 := by omega
          rw [this] at e2; omega
      have left : ∀ k, (s k ≤ a 1 ∨ s k ≤ a 2) → ∃ i, i + 2 < n ∧ s (n - 2) + s k ≤ vl a i := fun k h => ⟨0, by omega, by unfold vl; simp only [Nat.zero_add]; omega⟩
      have right : ∀ k, (s k ≤ a (n - 3) ∨ s k ≤ a (n - 3 + 1)) → ∃ i, i + 2 < n ∧ s (n - 2) + s k ≤ vl a i := fun k h => ⟨n - 3, by omega, by unfold vl; omega⟩
      have q12 := P.ne (i := 1) (j := 2) (by omega) (by omega) (by omega)
      by_cases c5 : n = 5
      · rw [if_pos c5]
        subst c5
        have q13 := P.ne (i := 1) (j := 3) (by omega) (by omega) (by omega)
        have q23 := P.ne (i := 2) (j := 3) (by omega) (by omega) (by omega)
        by_cases d1 : 2 ≤ f 1
        · exact left 2 (.inl (P.ge (by omega) d1))
        · by_cases d2 : 2 ≤ f 2
          · exact left 2 (.inr (P.ge (by omega) d2))
          · exact right 2 (.inr (P.ge (by omega) (by show 2 ≤ f 3; omega)))
      · rw [if_neg c5]
        have q1 := P.ne (i := 1) (j := n - 3) (by omega) (by omega) (by omega)
        have q2 := P.ne (i := 2) (j := n - 3) (by omega) (by omega) (by omega)
        have q3 := P.ne (i := 1) (j := n - 3 + 1) (by omega) (by omega) (by omega)
        have q4 := P.ne (i := 2) (j := n - 3 + 1) (by omega) (by omega) (by omega)
        have q5 := P.ne (i := n - 3) (j := n - 3 + 1) (by omega) (by omega) (by omega)
        by_cases d1 : 3 ≤ f 1
        · exact left 3 (.inl (P.ge (by omega) d1))
        · by_cases d2 : 3 ≤ f 2
          · exact left 3 (.inr (P.ge (by omega) d2))
          · by_cases d3 : 3 ≤ f (n - 3)
            · exact right 3 (.inl (P.ge (by omega) d3))
            · exact right 3 (.inr (P.ge (by omega) (by omega)))
/-- the good order: the greatest, the two least, from the fifth on those between, the third and fourth, the second greatest -/
structure Gd (n : Nat) (s b : Nat → Int) : Prop where
  b0 : b 0 = s (n - 1)
  few : n ≤ 5 → ∀ i, i + 1 < n → b (i + 1) = s i
  b1 : 6 ≤ n → b 1 = s 0
  b2 : 6 ≤ n → b 2 = s 1
  bm : 6 ≤ n → ∀ i, 3 ≤ i → i + 3 < n → b i = s (i + 1)
  b3 : 6 ≤ n → b (n - 3) = s 2
  b4 : 6 ≤ n → b (n - 2) = s 3
  b5 : 6 ≤ n → b (n - 1) = s (n - 2)
theorem good_val {n : Nat} {s b : Nat → Int} (up : ∀ i j, i ≤ j → j < n → s i ≤ s j) (G : Gd n s b) (hn : 3 ≤ n) {i : Nat} (hi : i + 2 < n) :
    vl b i ≤ s (n - 1) + s 1 ∨ vl b i ≤ 2 * s (n - 3) ∨ (5 ≤ n ∧ vl b i ≤ s (n - 2) + s (if n = 5 then 2 else 3)) := by
  have b0 := G.b0
  by_cases h5 : n ≤ 5
  · have F := G.few h5
    have f0 := F 0 (by omega)
    have f1 := F 1 (by omega)
    have u01 := up 0 1 (by omega) (by omega)
    have u1L := up 1 (n - 1) (by omega) (by omega)
    simp only [Nat.zero_add, Nat.reduceAdd] at f0 f1
    match i, hi with
    | 0, _ =>
      left
      unfold vl
      simp only [Nat.zero_add]
      have := up 0 (n - 1) (by omega) (by omega)
      omega
    | 1, hi =>
      have f2 := F 2 (by omega)
      simp only [Nat.reduceAdd] at f2
      have u12 := up 1 2 (by omega) (by omega)
      have u2L := up 2 (n - 1) (by omega) (by omega)
      left
      unfold vl
      simp only [Nat.reduceAdd]
      omega
    | 2, hi =>
      have e5 : n = 5 := by omega
      subst e5
      have f2 := F 2 (by omega)
      have f3 := F 3 (by omega)
      simp only [Nat.reduceAdd] at f2 f3
      have u12 := up 1 2 (by omega) (by omega)
      have u23 := up 2 3 (by omega) (by omega)
      right; right
      refine ⟨by omega, ?_⟩
      rw [if_pos rfl]
      unfold vl
      simp only [Nat.reduceAdd, Nat.reduceSub]
      omega
    | i + 3, hi => omega
  · have h6 : 6 ≤ n := by omega
    have b1 := G.b1 h6
    have b2 := G.b2 h6
    have b3 := G.b3 h6
    have b4 := G.b4 h6
    have b5 := G.b5 h6
    have u01 := up 0 1 (by omega) (by omega)
    have u12 := up 1 2 (by omega) (by omega)
    have u23 := up 2 3 (by omega) (by omega)
    have u0L := up 0 (n - 1) (by omega) (by omega)
    have u34 := up 3 (n - 2) (by omega) (by omega)
    rw [if_neg (by omega)]
    by_cases e0 : i = 0
    · subst e0
      left
      unfold vl
      simp only [Nat.zero_add]
      omega
    · by_cases e3 : i = n - 3
      · right; right
        refine ⟨by omega, ?_⟩
        unfold vl
        rw [e3, show n - 3 + 1 = n - 2 by omega, show n - 3 + 2 = n - 1 by omega, b3, b4, b5]
        omega
      · by_cases e1 : i = 1
        · subst e1
          left
          unfold vl
          simp only [Nat.reduceAdd]
          by_cases e6 : n = 6
          · subst e6
            simp only [Nat.reduceSub] at b3
            have := up 2 5 (by omega) (by omega)
            simp only [Nat.reduceSub]
            omega
          · have := G.bm h6 3 (by omega) (by omega)
            simp only [Nat.reduceAdd] at this
            have := up 4 (n - 1) (by omega) (by omega)
            have := up 1 4 (by omega) (by omega)
            omega
        · by_cases e4 : i = n - 4
          · by_cases e6 : n = 6
            · subst e6
              have ei : i = 2 := by omega
              subst ei
              simp only [Nat.reduceSub] at b3 b4 u34
              right; right
              refine ⟨by omega, ?_⟩
              unfold vl
              simp only [Nat.reduceAdd, Nat.reduceSub]
              have := up 2 4 (by omega) (by omega)
              omega
            · have bi := G.bm h6 i (by omega) (by omega)
              right; left
              unfold vl
              rw [show i + 1 = n - 3 by omega] at bi ⊢
              rw [show i + 2 = n - 2 by omega, bi, b3, b4]
              have := up 3 (n - 3) (by omega) (by omega)
              omega
          · -- i ≤ n - 5
            have bi1 := G.bm h6 (i + 1) (by omega) (by omega)
            have w1 := up (i + 1 + 1) (n - 3) (by omega) (by omega)
            have hb : b i ≤ s (n - 3) := by
              by_cases e2 : i = 2
              · rw [e2, b2]
                exact up 1 (n - 3) (by omega) (by omega)
              · rw [G.bm h6 i (by omega) (by omega)]
                exact up (i + 1) (n - 3) (by omega) (by omega)
            have hb2 : b (i + 2) ≤ s (n - 3) := by
              by_cases e5 : i + 2 = n - 3
              · rw [e5, b3]
                exact up 2 (n - 3) (by omega) (by omega)
              · rw [G.bm h6 (i + 2) (by omega) (by omega)]
                exact up (i + 2 + 1) (n - 3) (by omega) (by omega)
            right; left
            unfold vl
            omega
/-- no order has less -/
theorem good_least {n : Nat} {a s b : Nat → Int} {f g : Nat → Nat} (P : Pm n a s f g) (G : Gd n s b) (hn : 3 ≤ n) {i : Nat} (hi : i + 2 < n) : ∃ j, j + 2 < n ∧ vl b i ≤ vl a j := by
  rcases good_val P.up G hn hi with h | h | ⟨h5, h⟩
  · obtain ⟨j, h1, h2⟩ := P.low1 hn
    exact ⟨j, h1, by omega⟩
  · obtain ⟨j, h1, h2⟩ := P.low2 hn
    exact ⟨j, h1, by omega⟩
  · obtain ⟨j, h1, h2⟩ := P.low3 h5
    exact ⟨j, h1, by omega⟩
end
end Od
/-! len of an own instance; o.m(e, *y) -/
namespace Bk
open PySem PySem.Spec PyProof.Rows L2
structure LenOf (K : PySem.W.Frag) (C : Str) : Prop where
  at_ : PySem.W.findIn K (.ref (He.ga K C)) "__len__" = some (some (.ref (He.ma K (He.ga K C) "__len__")))
  fn : PySem.W.isFn K (.ref (He.ma K (He.ga K C) "__len__")) = true
def isLen (K : PySem.W.Frag) (C : Str) : Bool :=
  He.eqO (PySem.W.findIn K (.ref (He.ga K C)) "__len__") (some (some (.ref (He.ma K (He.ga K C) "__len__")))) && PySem.W.isFn K (.ref (He.ma K (He.ga K C) "__len__"))
theorem isLen_ok {K : PySem.W.Frag} {C : Str} (h : isLen K C = true) : LenOf K C := by
  obtain ⟨h1, h2⟩ := He.ba h
  exact ⟨He.eqO_ok h1, h2⟩
structure BmOf (K : PySem.W.Frag) (C m : Str) : Prop where
  gf : PySem.W.specialIn K (.ref (He.ma K (He.ga K C) m)) "__get__" = some (some (.builtin "function.__get__"))
  tk : PySem.W.takesIn K (.ref (He.ma K (He.ga K C) m)) = some false
  fi : PySem.W.fnIn K (He.ma K (He.ga K C) m) = true
def isBm (K : PySem.W.Frag) (C m : Str) : Bool :=
  He.eqO (PySem.W.specialIn K (.ref (He.ma K (He.ga K C) m)) "__get__") (some (some (.builtin "function.__get__"))) && (decide (PySem.W.takesIn K (.ref (He.ma K (He.ga K C) m)) = some false) && PySem.W.fnIn K (He.ma K (He.ga K C) m))
theorem isBm_ok {K : PySem.W.Frag} {C m : Str} (h : isBm K C m = true) : BmOf K C m := by
  obtain ⟨h1, h⟩ := He.ba h
  obtain ⟨h2, h3⟩ := He.ba h
  exact ⟨He.eqO_ok h1, of_decide_eq_true h2, h3⟩
theorem BmOf.b {K : PySem.W.Frag} {C m : Str} (h : BmOf K C m) (mt : Meth K (He.ga K C) m (He.ma K (He.ga K C) m)) (cp : PySem.W.copiedNames.contains m = false := by decide +kernel) : BMeth K (He.ga K C) m (He.ma K (He.ga K C) m) := ⟨mt, h.gf, h.tk, cp, h.fi⟩
def rLenO (C : Addr) (sp : Sp) (E : XK) : List V → Hp → VK → Prop := fun vs H Q => ∃ a dx fs, vs = [.ref a] ∧ H a = some (.ins C dx fs) ∧ sp [.ref a] H (fun v H' => ∃ n : Int, v = .int n ∧ 0 ≤ n ∧ n < 2 ^ 63 ∧ Q (.int n) H') E
section
open PySem.W PySem.Calls
variable {X : Cx} {CX : CXT} {k j : Nat} {C g : Addr} {sp : Sp} {E : XK}
theorem cr_lenO (hs : PySem.W.findIn X.K (.ref C) "__len__" = some (some (.ref g))) (hf : PySem.W.isFn X.K (.ref g) = true) (F : FnR X.prog X.w X.K X.mg X.base CX k g sp) (hr : Room j X.A) (hx : Passes CX X E) (hj : k + 1 ≤ j := by decide) : CallR X (.builtin "len") (rLenO C sp E) := by
  intro pins s σ H vs us Q I r h
  obtain ⟨a, dx, fs, rfl, ha, q⟩ := h
  rw [Vals.ref1 r]
  obtain ⟨ox, od, J, _⟩ := ins_at I ha
  have hr1 : Room (k + 1) X.A := hr.mono hj
  have run : wpAny (model X.prog X.w) X.A.in1 (call (.ref g) [.ref a]) (EP X pins σ (fun v H' => ∃ n : Int, v = .int n ∧ 0 ≤ n ∧ n < 2 ^ 63 ∧ Q (.int n) H')) X.xe s := by
    refine wpAny_call (codeAny_mono (F X.A.in1 X.stack s H [.ref a] [.ref a] _ E hr1.in1 I.env0.in1 (.cons rfl .nil) q) ?_)
    rintro (er | fl) s' hq
    · exact hx pins σ H s er s' I hq
    · cases fl with
      | ret u => exact I.after hq
      | next => exact hq.elim
      | brk => exact hq.elim
      | cont => exact hq.elim
  refine Calls.call_function_entry kind_len plain_len entry_len (args_len1 _) ?_
  unfold Builtin.«len»
  refine wpAny_bind (m := oneArg "len" _) (wpAny_pure ?_)
  refine wpAny_bind (m := callSpecial? (.ref a) (Str.ofString "__len__")) (PySem.W.special_fn I.kIn J hs (beq_iff_eq.mp hf) (wpAny_mono run (fun r s' hr => ?_) fun _ _ y => y))
  obtain ⟨v, H', I', rv, n, rfl, h0, h1, hq⟩ := hr
  obtain ⟨u, rfl⟩ := (show ∃ t, r = Value.int n t from rv)
  refine wpAny_bind (wpAny_holding (wpAny_pure ?_))
  refine wpAny_bind (wpAny_letGo ?_)
  show wpAny _ _ (if n < 0 then _ else _) _ _ _
  rw [if_neg (by omega)]
  show wpAny _ _ (if n ≥ 2 ^ 63 then _ else _) _ _ _
  rw [if_neg (by omega)]
  exact wpAny_bind (wpAny_mkInt (wpAny_pure ⟨_, rfl, ⟨.int n, H', I'.tok _, ⟨_, rfl⟩, hq⟩⟩))
end
section
variable {X : Cx} {CX : CXT} {k j : Nat} {C g : Addr} {m : Str} {sp : Sp} {E : XK} {o e1 e2 : Expr} {ta t1 t2 : TE} {p apos pos : Pos}
theorem pe_mSB (he : PE X o ta) (c : Cls X.K C) (b : BMeth X.K C m g) (F : FnR X.prog X.w X.K X.mg X.base CX k g sp) (hr : Room j X.A) (hx : Passes CX X E) (h1 : PE X e1 t1) (h2 : PE X e2 t2) (hj : k ≤ j := by decide) (hbase : attributeBase o m X.env (eval o X.env) = eval o X.env := by rfl)
    (hst : starEach [e1, .Starred e2 p] X.env = [(false, eval e1 X.env), (true, eval e2 X.env)] := by rfl) : PE X (.Call (.Attribute o m apos) [e1, .Starred e2 p] [] pos) (tMethSB X.K C m g sp E ta t1 t2) := pe_methSB he c b F (hr.mono hj) hx h1 h2 hbase hst
theorem go_mSB {K : PySem.W.Frag} {σ : L2.St} {H : Hp} {Q : VK} (h : ta σ H fun x H1 => ∃ a dx fs, x = .ref a ∧ H1 a = some (.ins C dx fs) ∧ fs.lookup m = none ∧
  ∀ q, H1 q = none → t1 σ (upd H1 q (.met g a)) fun y1 H2 => t2 σ H2 fun y2 H3 => ∃ b vs, y2 = .ref b ∧ (SqT K H3 b vs ∨ SqL K H3 b vs) ∧ H3 q = some (.met g a) ∧ sp (.ref a :: y1 :: vs) H3 Q E) : tMethSB K C m g sp E ta t1 t2 σ H Q := h
end
end Bk
/-! own != own, by __eq__ -/
namespace Bk
open PySem PySem.Spec PyProof.Rows L2
structure EqOf (K : PySem.W.Frag) (C : Str) : Prop where
  eq : PySem.W.findIn K (.ref (He.ga K C)) "__eq__" = some (some (.ref (He.ma K (He.ga K C) "__eq__")))
  fn : PySem.W.isFn K (.ref (He.ma K (He.ga K C) "__eq__")) = true
  ne : PySem.W.findIn K (.ref (He.ga K C)) "__ne__" = some (some (.builtin "object.__ne__"))
def isEqo (K : PySem.W.Frag) (C : Str) : Bool :=
  He.eqO (PySem.W.findIn K (.ref (He.ga K C)) "__eq__") (some (some (.ref (He.ma K (He.ga K C) "__eq__")))) && (PySem.W.isFn K (.ref (He.ma K (He.ga K C) "__eq__")) && He.eqO (PySem.W.findIn K (.ref (He.ga K C)) "__ne__") (some (some (.builtin "object.__ne__"))))
theorem isEqo_ok {K : PySem.W.Frag} {C : Str} (h : isEqo K C = true) : EqOf K C := by
  obtain ⟨h1, h⟩ := He.ba h
  obtain ⟨h2, h3⟩ := He.ba h
  exact ⟨He.eqO_ok h1, h2, He.eqO_ok h3⟩
section
open PySem.W PySem.Calls PySem.Builtin
variable {M : Model} {prog : Program} {w : World} {A : Around} {E : Value → Shared → Prop} {s : Shared} {K : Frag} {x y C f : Addr} {ox oy : Obj} {od oe : Option Obj}
theorem special_K {name : Str} {r : Option Value} {Q : Option Value → Shared → Prop} (X : K.In s.heap) (I : W.InstAt s.heap x ox C od) (hs : findIn K (.ref C) name = some r) (h : Q r s) : wpAny M A (specialOf (.ref x) name) Q E s := by
  unfold specialOf
  exact wpAny_bind (I.type.here ((looks_findIn X hs).here h))
theorem bound_K {name : Str} {args : List Value} {v : Value} {Q : Option Value → Shared → Prop} (X : K.In s.heap) (I : W.InstAt s.heap x ox C od) (hs : findIn K (.ref C) name = some (some v)) (hb : ∀ (E : Value → Shared → Prop) (Q : Value × List Value → Shared → Prop), Q (v, [.ref x]) s → wpAny M A (bindSpecial v (.ref x)) Q E s)
    (h : wpAny M A (call v (.ref x :: args)) (fun r => Q (some r)) E s) : wpAny M A (callSpecialIfBound? (.ref x) name args) Q E s := by
  simp only [callSpecialIfBound?, bindSpecialIfBound?]
  refine wpAny_holding (wpAny_bind (wpAny_bind (special_K X I hs ?_)))
  refine wpAny_bind (wpAny_askSetting (wpAny_ite ?_))
  have fin : wpAny M A (call v ([.ref x] ++ args) >>= fun r => pure (some r)) Q E s := wpAny_bind (wpAny_mono h (fun r s' h' => wpAny_pure h') fun _ _ h' => h')
  split
  · exact wpAny_bind (hb _ _ (wpAny_pure (by exact fin)))
  · exact wpAny_tryCatch (wpAny_bind (hb _ _ (wpAny_pure (by exact fin))))
theorem check_K {id owner n : String} {rest : List Value} {Q : Unit → Shared → Prop} (hk : builtinKind id = some .slot) (hs : splitId id = some (owner, n)) (ha : argsOk id ⟨.ref x :: rest, []⟩) (X : K.In s.heap) (I : W.InstAt s.heap x ox C od) (hm : mroIn K C (.type owner) = some true) (hq : Q () s) :
    wpAny M A (checkBuiltinCall id ⟨.ref x :: rest, []⟩) Q E s := by
  simp only [checkBuiltinCall, hk, hs]
  refine wpAny_bind ?_
  simp only [isInstance]
  refine wpAny_bind (I.type.here ((looks_subIn (t := .ref C) (base := .type owner) X hm).here ?_))
  cases hsig : Manifest.signature? id with
  | none => exact wpAny_pure hq
  | some sig =>
    simp only [argsOk, hsig] at ha
    have h2 : Bind.checkArgs id sig ⟨.ref x :: rest, []⟩ = pure () := ha
    show wpAny M A (Bind.checkArgs id sig ⟨.ref x :: rest, []⟩) Q E _
    rw [h2]
    exact wpAny_pure hq
theorem neBody_K {Q : PySem.Fin → Shared → Prop} (X : K.In s.heap) (I : W.InstAt s.heap x ox C od) (he : findIn K (.ref C) "__eq__" = some (some (.ref f))) (hf : isFn K (.ref f) = true) (hu : A.units < cLine)
    (h : wpAny (model prog w) A (call (.ref f) [.ref x, .ref y]) (fun v s' => ∃ b, v = .bool b ∧ Q (.done (.ret (.bool (!b)))) s') E s) : wpAny (model prog w) A (Builtin.«object.__ne__» ⟨[.ref x, .ref y], []⟩) Q E s := by
  unfold Builtin.«object.__ne__»
  repeat (first
    | with_reducible refine wpAny_cRoomFor hu ?_
    | (refine wpAny_bind (m := callSpecialIfBound? (.ref x) (Str.ofString "__eq__") [.ref y])
        (bound_K X I he (fun E Q q => (bind_fn X (.ref x) (beq_iff_eq.mp hf)).here q) (wpAny_mono h (fun r s' hr => by
          obtain ⟨b, rfl, hq⟩ := hr
          repeat (first | exact hq | exact wpAny_pure hq | exact wpAny_truthy_bool hq | (refine wpAny_bind (m := truthy (.bool _)) (wpAny_truthy_bool ?_)) | wp_step)) fun _ _ e => e)))
    | wp_step)
theorem ne_K {Q : Value → Shared → Prop} (X : K.In s.heap) (I : W.InstAt s.heap x ox C od) (J : W.InstAt s.heap y oy C oe) (he : findIn K (.ref C) "__eq__" = some (some (.ref f))) (hf : isFn K (.ref f) = true) (hn : findIn K (.ref C) "__ne__" = some (some (.builtin "object.__ne__"))) (hm : mroIn K C (.type "object") = some true) (hu : A.units + 1 < cLine)
    (h : wpAny (model prog w) A.in1 (call (.ref f) [.ref x, .ref y]) (fun v s' => ∃ b, v = .bool b ∧ Q (.bool (!b)) s') E s) : wpAny (model prog w) A (compareOp .NotEq (.ref x) (.ref y)) Q E s := by
  unfold compareOp richCompare
  simp only [oneThing_ref]
  refine wpAny_holding ?_
  refine wpAny_bind (wpAny_cRoomFor (Nat.lt_of_succ_lt hu) ?_)
  rw [cmpInfo_NotEq]
  dsimp only
  refine wpAny_bind (I.type.here ?_)
  refine wpAny_bind (J.type.here ?_)
  rw [show (Value.ref C != Value.ref C) = false from by simp]
  simp only [Bool.false_eq_true, if_false]
  refine wpAny_bind (wpAny_pure ?_)
  simp only [Bool.false_eq_true, if_false]
  refine wpAny_bind (m := tryCompare (.ref x) "__ne__" (.ref y)) ?_
  simp only [tryCompare]
  refine wpAny_bind (bound_K X I hn (fun E Q q => by rw [PySem.F.cmp_object.ne.bind]; exact wpAny_pure q) (wpAny_call (codeAny_call_builtin PySem.F.cmp_object.ne.plain PySem.F.cmpEntry_ne ?_)))
  refine check_K PySem.F.cmpKind_ne PySem.F.cmpSplit_ne (PySem.F.cmpArgs_ne _ _) X I hm (neBody_K (A := A.in1) X I he hf hu (wpAny_mono h (fun v s' hv => ?_) fun _ _ e => e))
  obtain ⟨b, rfl, hq⟩ := hv
  first | exact ⟨b, rfl, wpAny_pure (wpAny_pure hq)⟩ | exact ⟨b, rfl, wpAny_pure hq⟩ | exact ⟨b, rfl, hq⟩
end
def rNeO (C : Addr) (sp : Sp) (E : XK) : R2 := fun x y H Q => ∃ a b dx dy fs gs, x = .ref a ∧ y = .ref b ∧ H a = some (.ins C dx fs) ∧ H b = some (.ins C dy gs) ∧ sp [.ref a, .ref b] H (fun v H' => ∃ c, v = .bl c ∧ Q (.bl (!c)) H') E
theorem op_neO {X : Cx} {CX : CXT} {k j : Nat} {C g : Addr} {sp : Sp} {E : XK} (he : PySem.W.findIn X.K (.ref C) "__eq__" = some (some (.ref g))) (hf : PySem.W.isFn X.K (.ref g) = true) (hn : PySem.W.findIn X.K (.ref C) "__ne__" = some (some (.builtin "object.__ne__"))) (hm : PySem.W.mroIn X.K C (.type "object") = some true)
    (F : FnR X.prog X.w X.K X.mg X.base CX k g sp) (hr : Room j X.A) (hu : X.A.units + 64 < cLine) (hx : Passes CX X E) (hj : k + 1 ≤ j := by decide) : OpR X (compareOp .NotEq) (rNeO C sp E) := by
  intro pins s σ H x y v u Q I rx ry h
  obtain ⟨a, b, dx, dy, fs, gs, rfl, rfl, ha, hb, q⟩ := h
  cases (show v = Value.ref a from rx)
  cases (show u = Value.ref b from ry)
  obtain ⟨ox, od, J, _⟩ := ins_at I ha
  obtain ⟨oy, oe, J', _⟩ := ins_at I hb
  have hr1 : Room (k + 1) X.A := hr.mono hj
  have run : wpAny (model X.prog X.w) X.A.in1 (call (.ref g) [.ref a, .ref b]) (EP X pins σ (fun v H' => ∃ c, v = .bl c ∧ Q (.bl (!c)) H')) X.xe s := by
    refine wpAny_call (codeAny_mono (F X.A.in1 X.stack s H [.ref a, .ref b] [.ref a, .ref b] _ E hr1.in1 I.env0.in1 (.cons rfl (.cons rfl .nil)) q) ?_)
    rintro (er | fl) s' hq
    · exact hx pins σ H s er s' I hq
    · cases fl with
      | ret u => exact I.after hq
      | next => exact hq.elim
      | brk => exact hq.elim
      | cont => exact hq.elim
  refine ne_K I.kIn J J' he hf hn hm (by omega) (wpAny_mono run (fun r s' hr' => ?_) fun _ _ z => z)
  obtain ⟨v, H', I', rv, c, rfl, hq⟩ := hr'
  cases (show r = Value.bool c from rv)
  exact ⟨c, rfl, ⟨.bl (!c), H', I', rfl, hq⟩⟩
end Bk
namespace PySem
open Sem (wp)
section
variable {M : Model} {A : Around} {R : GenEnd} {Y : Protocol} {n : Nat} {s₀ : Shared} {c : Code} {fs : List Frame} {s : Shared} {env : Env}
  {K : Flow → Sem Fin} {H : Value → Sem Fin} {gd : Bool → Bool} {lv : List Value → List Value}
def iterOf (iter : Expr) (env : Env) : Sem Value := do
  let x ← foldedSetIterable iter env (← eval iter env)
  standAt iter.pos
  holding [x] (pyIter x)
theorem exec_For2 (target iter body orelse pos) : exec (.For target iter body orelse pos) env = (do
    standAt pos
    let it ← iterOf iter env
    runOwn (.forLoop target it body orelse env) env) := by
  rw [exec_For]
  unfold iterOf
  simp only [bind_assoc]
theorem seg_For {target iter : Expr} {body orelse : List Stmt} {pos : Pos}
    (h : wpAny M (A.over c fs) (iterOf iter env) (fun it s' => ∀ p, Seg M A R Y n s₀ (.forLoop target it body orelse env) (M.den (.forLoop target it body orelse env))
      (.ret (fun r => ((match r with | .ok f => (.pure f : Sem Flow) | .error e => .raise e).onRaise fun (x : Value) => do
        if (← field x 1) == Value.none then unsupported "frame.own-activation:exception-without-traceback"
        setFlight x env.frame).wrap K H gd lv) none (gd false) (lv []) c p [] :: fs) s') (fun x s' => Seg M A R Y n s₀ c (H x) fs s') s) :
    Seg M A R Y n s₀ c ((exec (.For target iter body orelse pos) env).wrap K H gd lv) fs s := by
  rw [exec_For2]
  show Seg M A R Y n s₀ c (.at pos fun _ => ((iterOf iter env >>= fun it => runOwn (.forLoop target it body orelse env) env)).wrap K H gd lv) fs s
  refine seg_at ?_
  rw [Sem.bind_eq_wrap', Sem.wrap_wrap]
  refine seg_wrap (wpAny_mono h (fun it s' h' => ?_) fun _ _ x => x)
  exact seg_call h'
end
section
variable {prog : Program} {w : World} {A : Around} {R : GenEnd} {Y : Protocol} {n : Nat} {s₀ : Shared} {fs : List Frame} {s : Shared} {env : Env}
theorem seg_forLoop {target : Expr} {it : Value} {body orelse : List Stmt}
    (h : wpAny (model prog w) (A.over (.forLoop target it body orelse env) fs) (pyNext it) (fun r s1 => match r with
        | none => Seg (model prog w) A R Y n s₀ (.forLoop target it body orelse env) (.pure (.again (.block orelse env))) fs s1
        | some v => wpAny (model prog w) (A.over (.forLoop target it body orelse env) fs) (letOwnedTupleGo target it v) (fun _ s2 => wpAny (model prog w) (A.over (.forLoop target it body orelse env) fs) (assign target env v) (fun _ s3 =>
            Seg (model prog w) A R Y n s₀ (.forLoop target it body orelse env) ((execs body env).wrap (fun f => match f with
            | .next | .cont => .pure (.again (.forLoop target it body orelse env))
            | .brk => .pure (.done .next)
            | .ret v => .pure (.done (.ret v))) (fun e => (do noteFrame e env; theTreesLotGoes e : Sem Unit).wrap (fun _ => .raise e) .raise id id) id id) fs s3)
            (fun x s' => Seg (model prog w) A R Y n s₀ (.forLoop target it body orelse env) ((do noteFrame x env; theTreesLotGoes x : Sem Unit).wrap (fun _ => .raise x) .raise id id) fs s') s2)
            (fun x s' => Seg (model prog w) A R Y n s₀ (.forLoop target it body orelse env) ((do noteFrame x env; theTreesLotGoes x : Sem Unit).wrap (fun _ => .raise x) .raise id id) fs s') s1)
      (fun x s' => Seg (model prog w) A R Y n s₀ (.forLoop target it body orelse env) ((do noteFrame x env; theTreesLotGoes x : Sem Unit).wrap (fun _ => .raise x) .raise id id) fs s') s) :
    Seg (model prog w) A R Y n s₀ (.forLoop target it body orelse env) ((model prog w).den (.forLoop target it body orelse env)) fs s := by
  show Seg _ A R Y n s₀ _ ((forTurn target it body orelse env).onRaise (fun x => do noteFrame x env; theTreesLotGoes x)) fs s
  have ex : ∀ (x : Value) (s' : Shared), Seg (model prog w) A R Y n s₀ (.forLoop target it body orelse env) ((do noteFrame x env; theTreesLotGoes x : Sem Unit).wrap (fun _ => .raise x) .raise id id) fs s' → Seg (model prog w) A R Y n s₀ (.forLoop target it body orelse env) ((do noteFrame x env; theTreesLotGoes x : Sem Unit).bind fun _ => .raise x) fs s' := fun x s' hx => by rw [Sem.bind_eq_wrap]; exact hx
  unfold forTurn
  rw [Sem.onRaise_eq_wrap]
  show Seg _ A R Y n s₀ _ (.at target.pos fun _ => Sem.wrap _ _ _ _ (((pyNext it).onRaise _) >>= _)) fs s
  refine seg_at ?_
  rw [Sem.bind_eq_wrap', Sem.wrap_wrap]
  refine seg_wrap (wpAny_onRaise (wpAny_mono h (fun r s1 h1 => ?_) fun x s' hx => wpAny_standAt ?_))
  · cases r with
    | none => exact h1
    | some v =>
      show Seg _ A R Y n s₀ _ (Sem.wrap _ _ _ _ (letOwnedTupleGo target it v >>= fun _ => (assign target env v >>= fun _ => _))) fs s1
      rw [Sem.bind_eq_wrap', Sem.wrap_wrap]
      refine seg_wrap (wpAny_mono h1 (fun _ s2 h2 => ?_) fun x s' hx => ?_)
      · rw [Sem.bind_eq_wrap', Sem.wrap_wrap]
        refine seg_wrap (wpAny_mono h2 (fun _ s3 h3 => ?_) fun x s' hx => ?_)
        · rw [Sem.bind_eq_wrap', Sem.wrap_wrap]
          rw [Sem.wrap_congr (execs body env) _ _ (K' := fun f => match f with
            | .next | .cont => .pure (.again (.forLoop target it body orelse env))
            | .brk => .pure (.done .next)
            | .ret v => .pure (.done (.ret v))) (H' := (fun e => (do noteFrame e env; theTreesLotGoes e : Sem Unit).wrap (fun _ => .raise e) .raise id id))
            (fun f => by cases f <;> rfl)
            (fun e => by first | exact Sem.bind_eq_wrap _ _ | (show (do noteFrame e env; theTreesLotGoes e : Sem Unit).bind (fun _ => .raise e) = _; rw [Sem.bind_eq_wrap]))]
          exact h3
        · exact ex x s' hx
      · exact ex x s' hx
  · exact ex x s' hx
end
end PySem
namespace L2
open PySem PySem.Spec PyProof.Rows GenW
section
variable {X : Cx} {tg : Expr}
def tGFor (wi : TI) (g : TG) (tb : TGn) : TGn := fun D ys σ H => wi σ H fun J H1 => ∃ W : Nat → Nat → List V → St → Hp → Prop, (∃ m, W 0 m ys σ H1) ∧ ∀ i m ys σ H, W i m ys σ H →
  (J.stop i H ∧ D.nx ys σ H) ∨ (J.go i H ∧ ∃ N : List V → St → Hp → Prop, (∀ ys' σ' H', N ys' σ' H' → ∃ m', m' < m ∧ W (i + 1) m' ys' σ' H') ∧ ∀ x H', J.yld i H x H' → g x σ H' fun σ2 H2 => tb { D with nx := N, ct := N, bk := D.nx } ys σ2 H2)
theorem gs_for {iter : Expr} {body : List Stmt} {wi : TI} {g : TG} {tb : TGn} {pos : Pos} (hp : PassesOwn (model X.prog X.w) X.A X.env X.xe) (hc : X.calm = true) (hi : PI X tg iter wi) (hg : PG X tg g) (hb : GSs X body tb)
    (hs : ∀ x, foldedSetIterable iter X.env x = pure x := by intro _; rfl) : GS X (.For tg iter body [] pos) (tGFor wi g tb) := by
  refine ⟨fun A S ip R n ys s₀ c fs K J gd lv s σ H D gc hn k hI ht => ?_⟩
  obtain ⟨acc0, cc0, r0, I0⟩ := hI
  refine seg_For ?_
  rw [gc.over]
  unfold iterOf
  refine wpAny_bind (wpAny_mono (hi.run _ s σ H _ I0 ht) (fun v s1 h1 => wpAny_bind (wpAny_of_eq (hs v) (wpAny_bind (wpAny_standAt (wpAny_holding (wpAny_mono h1 (fun itv s2 h2 p => ?_) fun x s' hx => k.exc n s₀ x s' hx)))))) fun x s' hx => k.exc n s₀ x s' hx)
  obtain ⟨it, fp, tn, JJ, H2, e, I2, T, st2, f2, W, ⟨m0, w0⟩, turn⟩ := h2
  subst e
  have gl := fun (kk : Result → Sem PySem.Fin) => gc_loop (k := kk) (c' := .forLoop tg (.ref it) body [] X.env) (l := lv []) (kp := []) (p := p) gc rfl rfl
  have stat : ∀ {acc : Array Value} {cc : Nat} {H' : Hp}, (∀ b ∈ fp, H' b = none) → ∀ b ∈ fp, FpOk X ((S, lstObj acc cc) :: ip) H' b := fun hn b hb => by
    obtain ⟨_, a1, a2, a3, a4, a5⟩ := f2 b hb
    refine ⟨hn b hb, a1, a2, a3, a4, fun q hq => ?_⟩
    rcases List.mem_append.mp hq with z | z
    · exact a5 q (List.mem_append_left _ z)
    · rcases List.mem_cons.mp z with z | z
      · rw [z]
        exact a5 (S, lstObj acc0 cc0) (List.mem_append_right _ List.mem_cons_self)
      · exact a5 q (List.mem_append_right _ (List.mem_cons_of_mem _ z))
  have loop : ∀ (m i n : Nat) (ys : List V) (s₀ s : Shared) (σ : St) (H : Hp), n + ys.length = sizeLine → W i m ys σ H → GI X S ip ys σ H s → tn i s.heap → (∀ b ∈ fp, H b = none) →
      Seg (model X.prog X.w) A R (GY X S) n s₀ (.forLoop tg (.ref it) body [] X.env) ((model X.prog X.w).den (.forLoop tg (.ref it) body [] X.env))
        (.ret (fun r => ((match r with | .ok f => (.pure f : Sem Flow) | .error e => .raise e).onRaise (cameBack X.env)).wrap K J gd lv) none (gd false) (lv []) c p [] :: fs) s := by
    intro m
    induction m using Nat.strongRecOn with
    | ind m ih =>
      intro i n ys s₀ s σ H hn w hI st fr
      have ee : ∀ (n : Nat) (s₀ : Shared) (x : Value) (s' : Shared), X.xe x s' → Seg (model X.prog X.w) A R (GY X S) n s₀ (.forLoop tg (.ref it) body [] X.env)
          ((do noteFrame x X.env; theTreesLotGoes x : Sem Unit).wrap (fun _ => .raise x) .raise id id)
          (.ret (fun r => ((match r with | .ok f => (.pure f : Sem Flow) | .error e => .raise e).onRaise (cameBack X.env)).wrap K J gd lv) none (gd false) (lv []) c p [] :: fs) s' := fun n s₀ x s' hx => by
        refine seg_wrap ?_
        rw [(gl _).over]
        refine wpAny_bind (wpAny_mono (hp x s' hx) (fun _ s'' hcb => wpAny_theTreesLotGoes ?_) fun y s'' hcb => ?_)
        · exact seg_leaf (.error x) (seg_cameBack gc k hcb)
        · exact seg_leaf (.error y) (seg_cameBack gc k hcb)
      refine seg_forLoop ?_
      rw [(gl _).over]
      obtain ⟨acc, cc, r, I⟩ := hI
      rcases turn i m ys σ H w with ⟨stop, qn⟩ | ⟨go, N, hN, step⟩
      · refine wpAny_mono (T.done X rfl rfl rfl hc i _ s σ H X.xe I (stat fr) st stop) (fun rr s4 ⟨hr, I4⟩ => ?_) fun x s' hx => ee n s₀ x s' hx
        subst hr
        refine seg_again rfl ?_
        show Seg _ A R _ n s₀ _ (((execs [] X.env).onRaise _) >>= _) _ s4
        rw [Sem.onRaise_eq_wrap, Sem.bind_eq_wrap', Sem.wrap_wrap]
        refine seg_execs_nil ?_
        exact seg_leaf (.ok .next) (k.ok n ys s₀ s4 .next hn ⟨σ, H, ⟨acc, cc, r, I4⟩, qn⟩)
      · refine wpAny_mono (T.item X rfl rfl rfl hc i _ s σ H X.xe I (stat fr) st go) (fun rr s4 ⟨u, hr, h4⟩ => ?_) fun x s' hx => ee n s₀ x s' hx
        subst hr
        refine wpAny_mono h4 (fun _ s5 ⟨x, H5, I5, r5, y5, st5, fr5⟩ => ?_) fun x s' hx => ee n s₀ x s' hx
        have I5' := I5.pinned (stat fr5) (T.obj _ _ st5)
        refine wpAny_mono (hg.run _ s5 σ H5 x u _ I5' r5 (step x H5 y5)) (fun _ s6 ⟨σ6, H6, I6, q6⟩ => ?_) fun x s' hx => ee n s₀ x s' hx
        have hipS : ∀ q ∈ ip ++ pinsAt fp s5.heap, q.1 ≠ S := fun q hq => by
          rcases List.mem_append.mp hq with z | z
          · exact gc.ip q z
          · obtain ⟨hb, _⟩ := of_pinsAt z
            exact fun e => (f2 q.1 hb).2.2.2.2.2 (S, lstObj acc0 cc0) (List.mem_append_right _ List.mem_cons_self) e.symm
        have gl2 : GC X S (ip ++ pinsAt fp s5.heap) A (.forLoop tg (.ref it) body [] X.env) (.ret (fun r => ((match r with | .ok f => (.pure f : Sem Flow) | .error e => .raise e).onRaise (cameBack X.env)).wrap K J gd lv) none (gd false) (lv []) c p [] :: fs) id :=
          ⟨gc.pn, hipS, gc.apart, (gl _).over, (gl _).split, (gl _).guard, rfl⟩
        have unp : ∀ {ys7 : List V} {σ7 : St} {H7 : Hp} {s7 : Shared}, GI X S (ip ++ pinsAt fp s5.heap) ys7 σ7 H7 s7 → GI X S ip ys7 σ7 H7 s7 := fun ⟨a7, c7, r7, I7⟩ =>
          ⟨a7, c7, r7, Inv.unpinned (pins := (S, lstObj a7 c7) :: ip) (pl := pinsAt fp s5.heap) I7⟩
        have again : ∀ {n7 : Nat} {ys7 : List V} {σ7 : St} {H7 : Hp} {s₀7 s7 : Shared}, n7 + ys7.length = sizeLine → GI X S (ip ++ pinsAt fp s5.heap) ys7 σ7 H7 s7 → N ys7 σ7 H7 →
            Seg (model X.prog X.w) A R (GY X S) n7 s₀7 (.forLoop tg (.ref it) body [] X.env) (.pure (.again (.forLoop tg (.ref it) body [] X.env)))
              (.ret (fun r => ((match r with | .ok f => (.pure f : Sem Flow) | .error e => .raise e).onRaise (cameBack X.env)).wrap K J gd lv) none (gd false) (lv []) c p [] :: fs) s7 := fun {n7 ys7 σ7 H7 s₀7 s7} hn7 g7 n7' => by
          obtain ⟨m', hm, w7⟩ := hN ys7 σ7 H7 n7'
          have hu := unp g7
          obtain ⟨a7, c7, r7, I7⟩ := g7
          have pin : ∀ q ∈ pinsAt fp s5.heap, s7.heap.get? q.1 = some q.2 ∧ H7 q.1 = none := fun q hq => by
            have := I7.pin q (List.mem_append_right _ (List.mem_cons_of_mem _ (List.mem_append_right _ hq)))
            exact ⟨this.1, this.2.1⟩
          refine seg_again rfl (ih m' hm (i + 1) n7 ys7 s₀7 s7 σ7 H7 hn7 w7 hu (T.keep _ _ _ st5 fun b hb o e => (pin (b, o) (mem_pinsAt hb e)).1) fun b hb => ?_)
          obtain ⟨o, e, d⟩ := T.obj _ _ st5 b hb
          exact (pin (b, o) (mem_pinsAt hb e)).2
        refine hb.run A S (ip ++ pinsAt fp s5.heap) R n ys s₀ _ _ _ _ id id s6 σ6 H6 { D with nx := N, ct := N, bk := D.nx } gl2 hn ⟨fun n' ys' s₀' s7 f hn' hs => ?_, fun n' s₀' x s3 hx => ee n' s₀' x s3 hx⟩ ⟨acc, cc, r, I6⟩ q6
        cases f with
        | next => obtain ⟨σ7, H7, I7, n7⟩ := hs; exact again hn' I7 n7
        | cont => obtain ⟨σ7, H7, I7, n7⟩ := hs; exact again hn' I7 n7
        | brk => obtain ⟨σ7, H7, I7, q7⟩ := hs; exact seg_leaf (.ok .next) (k.ok n' ys' s₀' s7 .next hn' ⟨σ7, H7, unp I7, q7⟩)
        | ret v => obtain ⟨x7, σ7, H7, I7, r7, q7⟩ := hs; exact seg_leaf (.ok (.ret v)) (k.ok n' ys' s₀' s7 (.ret v) hn' ⟨x7, σ7, H7, unp I7, r7, q7⟩)
  exact loop m0 0 n ys s₀ s2 σ H2 hn w0 ⟨acc0, cc0, r0, I2⟩ st2 fun b hb => (f2 b hb).1
end
end L2
namespace L2
open PySem PySem.Spec PyProof.Rows GenW
section
variable {X : Cx}
theorem GSs.nox {st : List Stmt} {t : TGn} (h : GSs X.nox st t) : GSs X st t := by
  refine ⟨fun A S ip R n ys s₀ c fs K J gd lv s σ H D g hn k hI ht => ?_⟩
  have up : ∀ {ip : List (Addr × Obj)} {ys : List V} {σ : St} {H : Hp} {s : Shared}, GI X.nox S ip ys σ H s → GI X S ip ys σ H s := fun ⟨acc, c, r, I⟩ => ⟨acc, c, r, I.unwish⟩
  have dn : ∀ {ip : List (Addr × Obj)} {ys : List V} {σ : St} {H : Hp} {s : Shared}, GI X S ip ys σ H s → GI X.nox S ip ys σ H s := fun ⟨acc, c, r, I⟩ => ⟨acc, c, r, I.wish _⟩
  have eY : GY X.nox S = GY X S := by
    funext n s₀ v s kap
    refine propext ⟨fun ⟨ys, x, ip, σ, H, a, b, c, d⟩ => ⟨ys, x, ip, σ, H, a, b, up c, d⟩, fun ⟨ys, x, ip, σ, H, a, b, c, d⟩ => ⟨ys, x, ip, σ, H, a, b, dn c, d⟩⟩
  have q := h.run A S ip R n ys s₀ c fs K J gd lv s σ H D ⟨g.pn, g.ip, g.apart, g.over, g.split, g.guard, g.gd⟩ hn ⟨fun n' ys' s₀' s' f hn' hs => ?_, fun _ _ _ _ z => False.elim z⟩ (dn hI) ht
  · rw [eY] at q
    exact q
  · rw [eY]
    refine k.ok n' ys' s₀' s' f hn' ?_
    cases f with
    | next => obtain ⟨σ', H', I, q⟩ := hs; exact ⟨σ', H', up I, q⟩
    | brk => obtain ⟨σ', H', I, q⟩ := hs; exact ⟨σ', H', up I, q⟩
    | cont => obtain ⟨σ', H', I, q⟩ := hs; exact ⟨σ', H', up I, q⟩
    | ret u => obtain ⟨v, σ', H', I, r, q⟩ := hs; exact ⟨v, σ', H', up I, r, q⟩
end
/-- a generator def's promise, its binding beside it -/
structure GFx (P : Program) (w : World) (K : PySem.W.Frag) (mg : Str → Option Value) (base : Heap) (k : Nat) (f : Addr) (sp : SpG) : Prop where
  ex : ∃ (fd : FuncData) (ps : List Str), GFn P w K mg base k f fd ps sp ∧ Binds K fd ps []
section
variable {P : Program} {w : World} {K : PySem.W.Frag} {mg : Str → Option Value} {base : Heap} {x qual : Str} {params : Arguments} {body : List Stmt} {scope : Scope} {f : Addr} {fd : FuncData} {N ps : List Str} {k : Nat} {sp : SpG}
theorem gfx_of (F : FunD K x qual params body scope [] [] f fd) (S : GScope N ps scope) (len : ∀ vs H Q E, sp vs H Q E → vs.length = ps.length)
    (hb : ∀ (kV doc pm : Value) (an : Option Addr) (cdv ct : Value) (us : List Value), us.length = ps.length → bindArgs (PySem.W.fnOf x qual params body scope .none kV doc pm an cdv ct) ⟨us, []⟩ = pure (ps.zip us))
    (h : ∀ (cdv : Value) (A : Around) (outer : List Env) (s : Shared) (H : Hp) (vs : List V) (Q : List V → Hp → Prop) (E : XK) (pn : List (Addr × Obj)), Room k (A.deeper (envOfC qual scope s.heap.objs.size f cdv)) → sp vs H Q E →
      ∃ t, GSs (gcxOf P w K mg base N qual scope f cdv A outer s H E pn).nox body t ∧ t { nx := fun ys _ H' => Q ys H', rt := fun ys v H' => v = .non ∧ Q ys H' } [] (start N vs) H) : GFx P w K mg base (k + 1) f sp := by
  have b := F.bindsN hb
  obtain ⟨oc, od, dV, kV, doc, pm, an, cdv, ct, osl, rfl, lk, hcd, _, _⟩ := F.ex
  refine ⟨⟨_, ps, gfn_of lk hcd S len fun A outer s H vs Q E pn hr hs => ?_, b⟩⟩
  obtain ⟨t, h1, h2⟩ := h cdv A outer s H vs Q E pn hr hs
  exact ⟨t, h1.nox, h2⟩
end
section
variable {X : Cx} {k j : Nat} {f C : Addr} {m nm : Str} {sp : SpG} {o e : Expr} {es : List Expr} {ta : TE} {t : TA} {p pos pos' apos : Pos} {pl : Sem Bool}
/-- list(o.m(e, ..)) of a generator method that lets nothing out -/
def tGenL (C : Addr) (m : Str) (sp : SpG) (ta : TE) (t : TA) : TE := fun σ H Q => ta σ H fun x H1 => ∃ a dx fs, x = .ref a ∧ H1 a = some (.ins C dx fs) ∧ fs.lookup m = none ∧
  t σ H1 fun vs H2 => sp (x :: vs) H2 (fun out H3 => ∀ q, H3 q = none → Q (.ref q) (upd H3 q (.lst out))) E0
theorem pe_genL (he : PE X o ta) (c : Cls X.K C) (hm : Meth X.K C m f) (F : GFx X.prog X.w X.K X.mg X.base k f sp) (hr : Room j X.A) (ha : PA X (e :: es) t) (hg : Gl X "list") (hmg : X.mg "list" = none) (hj : k + 3 ≤ j := by decide)
    (hst : starEach (e :: es) X.env = (false, eval e X.env) :: starEach es X.env := by rfl) (hpl : (backTo pos' (starEach es X.env)).any (·.1) = false := by rfl)
    (ht : eval (.Call (.Attribute o m apos) (e :: es) [] pos') X.env = (do
      let ov ← eval o X.env
      standAt apos.atName
      let (f, first) ← holding [ov] (getMethod ov m pl)
      callWith pos' f first (backTo pos' (starEach (e :: es) X.env)) (backToKw pos' (keywordEach [] X.env))) := by rfl)
    (hs2 : starEach [.Call (.Attribute o m apos) (e :: es) [] pos'] X.env = (false, eval (.Call (.Attribute o m apos) (e :: es) [] pos') X.env) :: starEach [] X.env := by rfl) :
    PE X (.Call (.Name "list" p) [.Call (.Attribute o m apos) (e :: es) [] pos'] [] pos) (tGenL C m sp ta t) := by
  obtain ⟨fd, ps, G, b⟩ := F.ex
  have h := pe_listG (p := p) (pos := pos) (pgen_meth (E := E0) (pl := pl) he c hm G (hr.mono (by omega)) b .nil ha hst hpl ht) passL (fun _ _ _ z => False.elim z) (hr.mono hj) hg hmg (by first | rfl | decide +kernel) (by decide) (by decide) hs2
  refine ⟨fun pins s σ H Q I hq => h.run pins s σ H Q I ?_⟩
  unfold tGenL at hq
  unfold tListG tMethG
  simpa only [List.append_nil] using hq
end
end L2
namespace L2
open PySem PySem.Spec PyProof.Rows GenW
theorem go_gthen {t u : TGn} {D : GEnds} {ys : List V} {σ : St} {H : Hp} (h : t { D with nx := fun ys' σ' H' => u D ys' σ' H' } ys σ H) : tGThen t u D ys σ H := h
theorem go_gplain {t : TS} {D : GEnds} {ys : List V} {σ : St} {H : Hp} (h : t { nx := D.nx ys, rt := D.rt ys, bk := D.bk ys, ct := D.ct ys } σ H) : tPlain t D ys σ H := h
theorem go_gyield {te : TE} {D : GEnds} {ys : List V} {σ : St} {H : Hp} (h1 : ys.length < sizeLine) (h : te σ H fun x H1 => D.nx (ys ++ [x]) σ H1) : tGYield te D ys σ H := ⟨h1, h⟩
theorem for_wG {J : It} {n : Nat} {G : Hp → Prop} {Y : Nat → Hp → V → Hp → Prop} (w : Walk J n G Y) {g : TG} {tb : TGn} {D : GEnds} {ys : List V} {σ : L2.St} {H : Hp} (Pv : Nat → List V → L2.St → Hp → Prop) (h0 : Pv 0 ys σ H) (hG : ∀ i ys σ H, i ≤ n → Pv i ys σ H → G H)
    (hs : ∀ i x ys σ H H', i < n → Pv i ys σ H → Y i H x H' → g x σ H' fun σ2 H2 => tb { D with nx := Pv (i + 1), ct := Pv (i + 1), bk := D.nx } ys σ2 H2) (hd : ∀ ys σ H, Pv n ys σ H → D.nx ys σ H) :
    ∃ W : Nat → Nat → List V → L2.St → Hp → Prop, (∃ m, W 0 m ys σ H) ∧ ∀ i m ys σ H, W i m ys σ H →
      (J.stop i H ∧ D.nx ys σ H) ∨ (J.go i H ∧ ∃ N : List V → L2.St → Hp → Prop, (∀ ys' σ' H', N ys' σ' H' → ∃ m', m' < m ∧ W (i + 1) m' ys' σ' H') ∧ ∀ x H', J.yld i H x H' → g x σ H' fun σ2 H2 => tb { D with nx := N, ct := N, bk := D.nx } ys σ2 H2) := by
  refine ⟨fun i m ys σ H => m = n - i ∧ i ≤ n ∧ Pv i ys σ H, ⟨n, by simp, Nat.zero_le _, h0⟩, ?_⟩
  rintro i m ys σ H ⟨rfl, hi, p⟩
  have q := hG i ys σ H hi p
  by_cases hlt : i < n
  · exact .inr ⟨w.goes i H hlt q, Pv (i + 1), fun ys' σ' H' p' => ⟨n - (i + 1), by omega, rfl, hlt, p'⟩, fun x H' y => hs i x ys σ H H' hlt p (w.yields i H x H' hlt q y)⟩
  · have e : i = n := by omega
    subst e
    exact .inl ⟨w.stops H q, hd ys σ H p⟩
end L2
namespace L2
open PySem PySem.Spec PyProof.Rows Bk
/-- a promise whose last parameters are named at the call -/
structure KFx (P : Program) (w : World) (K : PySem.W.Frag) (mg : Str → Option Value) (base : Heap) (k : Nat) (f : Addr) (n : Nat) (ks : List Str) (sp : Sp) : Prop where
  ex : ∃ (fd : FuncData) (ps : List Str), FnOk P w K mg base (L2.CX P w) k f fd ps sp ∧ KBn K fd ps n ks (fun us ws => us ++ ws) (fun vs zs => vs ++ zs)
section
variable {P : Program} {w : World} {K : PySem.W.Frag} {mg : Str → Option Value} {base : Heap} {x qual : Str} {params : Arguments} {body : List Stmt} {scope : Scope} {f : Addr} {fd : FuncData} {N ps ks : List Str} {k n : Nat} {sp : Sp}
theorem kfx_of (F : FunD K x qual params body scope [] [] f fd) (S : FnScope N ps scope) (len : ∀ vs H Q E, sp vs H Q E → vs.length = ps.length)
    (hb : ∀ (kV doc pm : Value) (an : Option Addr) (cdv ct : Value) (us ws : List Value), us.length = n → ws.length = ks.length → bindArgs (PySem.W.fnOf x qual params body scope .none kV doc pm an cdv ct) ⟨us, ks.zip ws⟩ = pure (ps.zip (us ++ ws)))
    (h : ∀ (cdv : Value) (A : Around) (outer : List Env) (s : Shared) (H : Hp) (vs : List V) (Q : VK) (E : XK), Room k (A.deeper (envOfC qual scope s.heap.objs.size f cdv)) → sp vs H Q E →
      ∃ t, PSs (Cb P w K mg base N qual scope f cdv A outer s H E).nox body t ∧ t { nx := fun _ H' => Q .non H', rt := Q } (start N vs) H) : KFx P w K mg base (k + 1) f n ks sp := by
  have G : FnOk P w K mg base (L2.CX P w) (k + 1) f fd ps sp := F.ok S len fun cdv A outer s H vs Q E hr hs => by
    obtain ⟨t, h1, h2⟩ := h cdv A outer s H vs Q E hr hs
    exact ⟨t, h1.nox, h2⟩
  refine ⟨fd, ps, G, ?_⟩
  obtain ⟨oc, od, dV, kV, doc, pm, an, cdv, ct, osl, rfl, lk, hcd, hD, hK⟩ := F.ex
  rcases hD with ⟨_, rfl⟩ | ⟨e, _⟩
  · exact ⟨fun s us ws _ l1 l2 => .of_eq (hb kV doc pm an cdv ct us ws l1 l2), fun r1 r2 => r1.append r2⟩
  · exact absurd rfl e
end
section
variable {X : Cx} {k j n : Nat} {f C : Addr} {ks : List Str} {sp : Sp} {x : Str} {p pos : Pos} {e : Expr} {es : List Expr} {kws : List Keyword} {t tk : TA}
def tMkK (C : Addr) (n m : Nat) (sp : Sp) (E : XK) (t tk : TA) : TE := tMakeK C n m sp (fun vs zs => vs ++ zs) E t tk
theorem go_mkK {C : Addr} {n m : Nat} {sp : Sp} {E : XK} {t tk : TA} {σ : L2.St} {H : Hp} {Q : VK} (h : t σ H fun vs H1 => tk σ H1 fun zs H2 => vs.length = n ∧ zs.length = m ∧ ∀ x dx, H2 x = none → H2 dx = none → dx ≠ x →
  sp (.ref x :: (vs ++ zs)) (upd (upd H2 dx (.own x)) x (.ins C dx [])) (fun v H3 => v = .non ∧ Q (.ref x) H3) E) : tMkK C n m sp E t tk σ H Q := h
theorem pe_mkK (M : Mk X.K C f) (F : KFx X.prog X.w X.K X.mg X.base k f (n + 1) ks sp) (hr : Room j X.A) (hg : Gl X x) (hm : X.mg x = some (.ref C)) (ha : PA X (e :: es) t) (hkw : PK X kws tk) (hj : k + 1 ≤ j := by decide)
    (hall : (backToKw pos (keywordEach kws X.env)).all (·.1.isSome) = true := by rfl) (hks : (backToKw pos (keywordEach kws X.env)).filterMap (·.1) = ks := by rfl) (hdb : (x == ("__debug__" : Str)) = false := by decide)
    (he : starEach (e :: es) X.env = (false, eval e X.env) :: starEach es X.env := by rfl) (hpl : ((backTo pos (starEach (e :: es) X.env)).any (·.1) || (backToKw pos (keywordEach kws X.env)).any (·.1.isNone)) = false := by rfl) :
    PE X (.Call (.Name x p) (e :: es) kws pos) (tMkK C n ks.length sp E0 t tk) := by
  obtain ⟨fd, ps, G, b⟩ := F.ex
  exact pe_makeK M G (hr.mono hj) hg hm b passL ha hkw hall hks hdb he hpl
end
end L2
/-! forms of relations that name the frag, for use within comprehensions; data of lists or tuples alike -/
namespace Bk
open PySem PySem.Spec PyProof.Rows L2
theorem cK (K0 : PySem.W.Frag) {X : Cx} {f : Value} {r : PySem.W.Frag → List V → Hp → VK → Prop} (hc : CallR X f (r X.K)) (h : X.K = K0 := by rfl) : CallR X f (r K0) := h ▸ hc
def rLenA (K : PySem.W.Frag) : List V → Hp → VK → Prop := fun xs H Q => ∃ p ys, xs = [.ref p] ∧ (SqL K H p ys ∨ SqT K H p ys) ∧ Q (.int ys.length) H
theorem lenK (K0 : PySem.W.Frag) {X : Cx} (h : X.K = K0 := by rfl) : CallR X (.builtin "len") (rLenA K0) := h ▸ call_len_seq
def rIxA (K : PySem.W.Frag) : R2 := fun x y H Q => rIxL K x y H Q ∨ rIxT K x y H Q
theorem ixA (K0 : PySem.W.Frag) {X : Cx} (h : X.K = K0 := by rfl) : IxR X (rIxA K0) := by
  subst h
  intro value slice pins s σ H x y v u Q I rx ry hq hs
  rcases hq with hq | hq
  · exact ix_list value slice pins s σ H x y v u Q I rx ry hq hs
  · exact ix_tup value slice pins s σ H x y v u Q I rx ry hq hs
end Bk
/-! text of one sign: find, index, by place -/
namespace Bk
open PySem PySem.Spec PyProof.Rows L2
theorem ixS {X : Cx} : IxR X rIxS := ix_str
end Bk
/-! an own error whose __init__ begins with super().__init__(..): its promise -/
namespace Bk
open PySem PySem.Spec PyProof.Rows L2
structure SupF (P : Program) (K : PySem.W.Frag) (name qual : Str) (params : Arguments) (body : List Stmt) (scope : Scope) (f C : Addr) (fd : FuncData) : Prop where
  ex : ∃ (oc : Value) (od : Option Addr) (kV doc pm : Value) (an : Option Addr) (ct : Value) (osl : Array (Option Value)) (cc cda : Addr) (ccl : Value) (cdd : Option Addr) (vs : Array Value) (ccs : Array (Option Value)) (file : Str) (tf : Tok) (cl : Value) (cld : Option Addr) (csl : Array (Option Value)),
    fd = PySem.W.ksFn name qual params body scope .none kV doc pm an (.ref cda) ct cc ∧ K.lookup f = some ⟨oc, od, .func fd, osl⟩ ∧ PySem.W.codeIn K (.ref cda) qual = true ∧ K.lookup cda = some ⟨ccl, cdd, .fields vs, ccs⟩ ∧ vs[2]? = some (.str file tf) ∧ ((P.main.file : Str) == file) = true ∧ K.lookup cc = some ⟨cl, cld, .cell (some (.ref C)), csl⟩
  kp : PySem.W.keepIn K (.ref f) = true
  top : (P.main.scope.names.lookup ("super" : Str)).isSome = false
  noany : PySem.W.nsIn K cStatics "thirdparty.any" = some none
  to : PySem.W.ks_superIn K C C "__init__" = some (some (.builtin "ValueError.__init__"))
  ve : PySem.W.subIn K (.ref C) (.type "ValueError") = some true
  self : PySem.W.mroIn K C (.ref C) = some true
  ox : OexC K C
structure SupS (ps : List Str) (scope : Scope) : Prop where
  kind : scope.kind = .function
  co : scope.isCoroutine = false
  gen : scope.isGenerator = false
  nd : ps.Nodup
  par : ∀ x ∈ ps, scope.names.lookup x = some .local
  nocell : ∀ y ∈ scope.names, y.2 ≠ .cell
  free : ∀ y ∈ scope.names, y.2 = .free → y.1 = "__class__"
  su : scope.names.lookup ("super" : Str) = some .globalImplicit
  cl : scope.names.lookup ("__class__" : Str) = some .free
def cxS (P : Program) (w : World) (K : PySem.W.Frag) (mg : Str → Option Value) (base : Heap) (N : List Str) (qual : Str) (scope : Scope) (f cda cc : Addr) (A : Around) (outer : List Env) (s : Shared) (H : Hp) (E : XK) : Cx where
  prog := P
  w := w
  K := K
  mg := mg
  base := base
  A := A.deeper (PySem.W.ksEnv qual scope s.heap.objs.size f (.ref cda) cc)
  N := N
  s_0 := s
  H_0 := H
  env := PySem.W.ksEnv qual scope s.heap.objs.size f (.ref cda) cc
  outer := outer
  stack := PySem.W.ksEnv qual scope s.heap.objs.size f (.ref cda) cc :: outer
  ex := []
  calm := true
  fn := fun y => !(y == ("__class__" : Str))
  pn := []
  xe := fun e s' => wpAny (model P w) (A.deeper (PySem.W.ksEnv qual scope s.heap.objs.size f (.ref cda) cc)) (leaving (PySem.W.ksEnv qual scope s.heap.objs.size f (.ref cda) cc) e) (fun _ s'' => L2.CX P w outer H s E e s'') (fun e' s'' => L2.CX P w outer H s E e' s'') s'
theorem rev_none {x : Str} : ∀ {ps : List Str} {us : List Value}, x ∉ ps → (ps.zip us).reverse.lookup x = none
  | [], _, _ => rfl
  | _ :: _, [], _ => rfl
  | p :: ps, u :: us, h => by
    rw [List.zip_cons_cons, List.reverse_cons, List.lookup_append, rev_none fun z => h (List.mem_cons_of_mem _ z)]
    have hp : (x == p) = false := by
      have : x ≠ p := fun z => h (by rw [z]; exact List.mem_cons_self)
      simpa using this
    simp [List.lookup, hp]
theorem rev_get {x : Str} {u : Value} : ∀ {ps : List Str} {us : List Value} {i : Nat}, ps.Nodup → ps[i]? = some x → us[i]? = some u → (ps.zip us).reverse.lookup x = some u
  | [], _, _, _, h, _ => by simp at h
  | _ :: _, [], _, _, _, h => by simp at h
  | p :: ps, v :: us, 0, nd, h1, h2 => by
    simp at h1 h2
    subst h1
    subst h2
    rw [List.zip_cons_cons, List.reverse_cons, List.lookup_append, rev_none (List.nodup_cons.mp nd).1]
    simp [List.lookup]
  | p :: ps, v :: us, i + 1, nd, h1, h2 => by
    rw [List.zip_cons_cons, List.reverse_cons, List.lookup_append, rev_get (List.nodup_cons.mp nd).2 (by simpa using h1) (by simpa using h2)]
    rfl
section
variable {P : Program} {w : World} {K : PySem.W.Frag} {mg : Str → Option Value} {base : Heap} {ps : List Str} {qual : Str} {scope : Scope} {f cda cc : Addr} {A : Around} {outer : List Env} {s : Shared} {H : Hp} {E : XK}
theorem inv_sup {us : List Value} {vs : List V} {h₀ : Heap} {tk : Nat} {cl : Value} {cld : Option Addr} {csl : Array (Option Value)} {C : Addr} (S : SupS ps scope) (hd : A.handled = none) (e0 : Env0 P w K mg base A outer s H) (hl : vs.length = ps.length) (r : Vals vs us)
    (hc : K.lookup cc = some ⟨cl, cld, .cell (some (.ref C)), csl⟩) (hns : h₀.Ns s.heap.objs.size (fun x => (ps.zip us).reverse.lookup x)) (k : ∀ b o, s.heap.get? b = some o → h₀.get? b = some o) :
    Inv (cxS P w K mg base ps qual scope f cda cc A outer s H E) [] (L2.start ps vs) H { s with heap := h₀, toks := tk } := by
  have noA : ∀ b : Addr, b ∉ (cxS P w K mg base ps qual scope f cda cc A outer s H E).ex := fun b z => absurd (show b ∈ ([] : List Addr) from z) (by simp)
  have one : ∀ {x : Str} {c : Addr}, ([(("__class__" : Str), cc)] : List (Str × Addr)).lookup x = some c → x = "__class__" ∧ c = cc := fun {x c} h => by
    by_cases e : x = "__class__"
    · subst e
      simp [List.lookup] at h
      exact ⟨rfl, h.symm⟩
    · have e2 : (x == ("__class__" : Str)) = false := by simpa using e
      simp [List.lookup, e2] at h
  have hb : base.get? cc = some ⟨cl, cld, .cell (some (.ref C)), csl⟩ := e0.mod.kin _ _ hc
  have hcc : s.heap.get? cc = some ⟨cl, cld, .cell (some (.ref C)), csl⟩ := (e0.bs _ _ hb).1
  refine ⟨⟨e0.mod, S.kind, rfl, rfl, Nat.le_refl _, fun y z c h1 h2 => ?_, fun y hy => ?_, fun y c hf h => ?_, fun _ => hd, Around.frames_deeper e0.frames, .inr ⟨rfl, rfl⟩, fun b z => absurd z (noA b), e0.bs, e0.bsz, fun b _ _ => noA b, fun b z => absurd z (noA b), e0.funs, e0.frf⟩,
    rfl, e0.bare, Un.kept k, ⟨_, hns, fun i y v h1 h2 h3 => ?_⟩, fun y c h => ?_, e0.hok.fresh (Nat.le_refl _), fun y c h => ?_, fun p hp => absurd (show p ∈ ([] : List (Addr × Obj)) from hp) (by simp), e0.hok.kept k, ?_⟩
  · rw [(one h1).1, (one h2).1]
  · have hy : scope.names.lookup y = some .cell ∨ scope.names.lookup y = some .free := hy
    rcases hy with hy | hy
    · exact absurd rfl (S.nocell _ (PySem.mem_of_lookup hy))
    · have := S.free _ (PySem.mem_of_lookup hy) rfl
      exact ⟨cc, by show ([(("__class__" : Str), cc)] : List (Str × Addr)).lookup y = some cc; rw [show y = "__class__" from this]; simp [List.lookup]⟩
  · have e := (one h).1
    subst e
    have hf : (!(("__class__" : Str) == ("__class__" : Str))) = true := hf
    simp at hf
  · have hi : i < vs.length := by
      have := (List.getElem?_eq_some_iff.mp h1).1
      rw [hl]
      exact this
    have ha : vs[i]? = some v := by
      unfold L2.start at h2
      rw [List.getElem?_append_left (by simpa using hi), List.getElem?_map] at h2
      cases e : vs[i]? with
      | none => rw [e] at h2; cases h2
      | some a => rw [e] at h2; cases h2; rfl
    obtain ⟨u, hu, rv⟩ := r.get ha
    exact ⟨u, rv, .inl ⟨S.par y (List.mem_of_getElem? h1), rev_get S.nd h1 hu⟩⟩
  · rw [(one h).2]
    exact ⟨some (.ref C), _, k _ _ hcc, rfl⟩
  · rw [(one h).2]
    exact (e0.bs _ _ hb).2
  · unfold L2.start
    show _ = ps.length
    rw [List.length_append, List.length_map, List.length_replicate]
    omega

theorem fn_sup {name : Str} {params : Arguments} {C : Addr} {fd : FuncData} {k : Nat} {sp : Sp} {ar : Arg} {e : Expr} {es : List Expr} {rest : List Stmt} {p0 p1 p2 p3 p4 : Pos}
    (F : SupF P K name qual params (.Expr (.Call (.Attribute (.Call (.Name "super" p0) [] [] p1) "__init__" p2) (e :: es) [] p3) p4 :: rest) scope f C fd) (S : SupS ps scope) (har : (params.posonlyargs ++ params.args).head? = some ar) (ha0 : ps[0]? = some ar.arg) (hms : mg "super" = none)
    (hev : ∀ env : Env, ∃ pl : Sem Bool, eval (.Call (.Attribute (.Call (.Name "super" p0) [] [] p1) "__init__" p2) (e :: es) [] p3) env = (do
      let ov ← attributeBase (.Call (.Name "super" p0) [] [] p1) "__init__" env (eval (.Call (.Name "super" p0) [] [] p1) env)
      standAt p2.atName
      let (f, first) ← holding [ov] (getMethod ov "__init__" pl)
      callWith p3 f first (backTo p3 (starEach (e :: es) env)) []))
    (hsw : ∀ env : Env, swapsWith (.Call (.Attribute (.Call (.Name "super" p0) [] [] p1) "__init__" p2) (e :: es) [] p3) none p4.line env = pure false)
    (hst : ∀ env : Env, starEach (e :: es) env = (false, eval e env) :: starEach es env) (hpl : ∀ env : Env, (backTo p3 (starEach es env)).any (·.1) = false)
    (len : ∀ vs H Q E, sp vs H Q E → vs.length = ps.length)
    (h : ∀ (cda cc : Addr) (A : Around) (outer : List Env) (s : Shared) (H : Hp) (vs : List V) (Q : VK) (E : XK), Room k (A.deeper (PySem.W.ksEnv qual scope s.heap.objs.size f (.ref cda) cc)) → sp vs H Q E →
      ∃ ta t, PA (cxS P w K mg base ps qual scope f cda cc A outer s H E) (e :: es) ta ∧ PSs (cxS P w K mg base ps qual scope f cda cc A outer s H E) rest t ∧ ∃ a : Addr, vs[0]? = some (.ref a) ∧ H a = some (exo a C none) ∧
        ta (L2.start ps vs) H fun ws H1 => ws.length ≤ 1000 ∧ H1 a = some (exo a C none) ∧ t { nx := fun _ H' => Q .non H', rt := Q } (L2.start ps vs) H1) : FnOk P w K mg base (L2.CX P w) (k + 1) f fd ps sp := by
  refine ⟨len, fun A outer s H args us vs Q E hr e0 hb r hsp => ?_⟩
  obtain ⟨oc, od, kV, doc, pm, an, ct, osl, cc, cda, ccl, cdd, vsC, ccs, file, tf, cl, cld, csl, rfl, lk, hcd, lcode, lfile, hfile, lcell⟩ := F.ex
  have hl := len _ _ _ _ hsp
  have KX : K.In s.heap := e0.mod.kin.keeps fun b o e => (e0.bs b o e).1
  have lim : s.heap.NoLimit := e0.mod.nolimit.keeps fun b o e => (e0.bs b o e).1
  refine PySem.ks_codeAny_call_defAt (fd := PySem.W.ksFn name qual params _ scope .none kV doc pm an (.ref cda) ct cc) (binds := ps.zip us) hr.depth (KX _ _ lk) rfl lim (PySem.W.codeRec_of KX hcd) rfl hb S.nocell (fun y hy => S.par _ (List.of_mem_zip (show (y.1, y.2) ∈ ps.zip us from hy)).1) (fun h₀ hns hk => ?_) S.co S.gen S.kind
  show _root_.PySem.wpAt (model P w) (A.deeper (PySem.W.ksEnv qual scope s.heap.objs.size f (.ref cda) cc)) (.func _ (PySem.W.ksEnv qual scope s.heap.objs.size f (.ref cda) cc)) (execs _ (PySem.W.ksEnv qual scope s.heap.objs.size f (.ref cda) cc)) _ _ _
  have I := inv_sup (E := E) (f := f) (qual := qual) (cda := cda) (tk := s.toks + (ps.zip us).length) S hr.hd e0 hl r lcell hns hk
  obtain ⟨ta, t, hta, ht, a, hva, hea, hq⟩ := h cda cc A outer s H vs Q E (hr.deeper _) hsp
  obtain ⟨pl, hev⟩ := hev (PySem.W.ksEnv qual scope s.heap.objs.size f (.ref cda) cc)
  have hin : interactive (PySem.W.ksEnv qual scope s.heap.objs.size f (.ref cda) cc) = false := by
    unfold interactive
    simp [S.kind]
  refine ks_wpAt_execs_cons (ks_wpAt_Expr_any (ks_wpAt_MethodCall (pl := pl) ?_ hev) hin (hsw _))
  have K0 : K.In h₀ := KX.keeps hk
  -- super()
  refine ks_wpAt_super_base (env := PySem.W.ksEnv qual scope s.heap.objs.size f (.ref cda) cc) S.su S.cl (by decide) rfl (K0 _ _ lk) rfl har rfl (K0 _ _ lcode) rfl lfile hfile F.top ?_
  obtain ⟨mb, hB1, hB2⟩ := e0.mod.blt
  have bk : ∀ b o, base.get? b = some o → h₀.get? b = some o := fun b o z => hk b o (e0.bs b o z).1
  refine PySem.W.ks_loadName_global S.kind S.su (Calls.loadGlobal_builtin (env := PySem.W.ksEnv qual scope s.heap.objs.size f (.ref cda) cc) (e0.mod.glob.keeps bk) hms (hB1.keeps bk) ((hB2 _ (by decide)).trans (by decide +kernel)) ⟨rfl, ?_⟩)
  refine wpAny_loadName_free S.kind S.cl rfl ⟨_, K0 _ _ lcell, rfl⟩ ?_
  have hlen0 : 0 < vs.length := (List.getElem?_eq_some_iff.mp hva).1
  obtain ⟨u0, hu0, ru0⟩ := r.get hva
  obtain rfl : u0 = Value.ref a := ru0
  refine wpAny_loadName_local S.kind (S.par _ (List.mem_of_getElem? ha0)) hns (rev_get S.nd ha0 hu0) ?_
  obtain ⟨nm, q0, Nn, bs, bm, sn, sub, ab, col, dd, k0, k1, k2, k3, k5, lC, hbm⟩ := F.ox.cls
  obtain ⟨t1, hoa⟩ := exo_at I.hok hea
  have hoa : h₀.get? a = some (PySem.W.excObj C t1 none .none) := hoa
  have clC : ∃ cd, PySem.W.clsIn K C = some cd := by
    unfold PySem.W.clsIn
    rw [lC]
    exact ⟨_, rfl⟩
  obtain ⟨cd, hcd2⟩ := clC
  have haC : a ≠ C := fun z => by
    have e1 := K0 _ _ lC
    rw [← z, hoa] at e1
    cases e1
  refine ks_wpAny_isType_cls (K0 _ _ lC) rfl ⟨rfl, ?_⟩
  refine ks_wpAny_call_super (K0 _ _ lC) rfl hoa rfl (fun c z => by cases z) (PySem.W.looks_mroIn K0 F.self) (fun h1 hso kk => ?_)
  -- __init__ of what is above
  have K1 : K.In h1 := K0.keeps kk
  have J1 : PySem.W.InstAt h1 a (PySem.W.excObj C t1 none .none) C none := ⟨kk _ _ hoa, rfl, rfl, trivial⟩
  have hto := F.to
  unfold PySem.W.ks_superIn at hto
  rw [hcd2] at hto
  refine PySem.W.kxs_getMethod (l₀ := cd.mro) PySem.W.kxs_ValueError hso (PySem.W.looks_opaque K1 F.noany) (fun A' Q' E' s' kp qq => wpAny_bind ((PySem.W.looks_clsIn K1 hcd2) A' _ E' s' kp (wpAny_pure qq))) rfl K1 hto (J1.type.andThen (PySem.W.looks_subIn K1 F.ve)) haC (by decide) ?_
  have kw : ∀ b o, h₀.get? b = some o → (h1.push (PySem.W.kxs_mw "ValueError.__init__" a)).get? b = some o := fun b o z => Heap.get?_push_of_some _ (kk b o z)
  have hmw : (h1.push (PySem.W.kxs_mw "ValueError.__init__" a)).get? h1.objs.size = some (PySem.W.kxs_mw "ValueError.__init__" a) := Heap.get?_push_at rfl rfl
  have szL : s.heap.objs.size < h1.objs.size := by
    obtain ⟨oL, _, _, hL, _⟩ := hns
    exact Heap.lt_size (kk _ _ hL)
  have I1 : L2.Inv (cxS P w K mg base ps qual scope f cda cc A outer s H E) [] (L2.start ps vs) H ⟨h1, s.gens, s.drawn, s.toks + (ps.zip us).length, s.os⟩ := I.kept kk
  have fr1 : H h1.objs.size = none := I1.hok.fresh (Nat.le_refl _)
  have I2 : L2.Inv (cxS P w K mg base ps qual scope f cda cc A outer s H E) [(h1.objs.size, PySem.W.kxs_mw "ValueError.__init__" a)] (L2.start ps vs) H ⟨h1.push (PySem.W.kxs_mw "ValueError.__init__" a), s.gens, s.drawn, s.toks + (ps.zip us).length + 1, s.os⟩ :=
    (I.kept (t' := s.toks + (ps.zip us).length + 1) kw).pins_of fun p hp => by
      rw [List.mem_singleton.mp hp]
      refine ⟨hmw, fr1, Nat.ne_of_gt szL, fun z => ?_, fun v z => by cases z⟩
      obtain ⟨_, oq, hoq, _⟩ := e0.funs.mem z
      exact absurd (Nat.lt_trans (Heap.lt_size hoq) szL) (Nat.lt_irrefl _)
  refine PySem.W.kxs_callWith (i := "ValueError.__init__") (x := a) (by rw [hst]; show (false || (backTo p3 (starEach es _)).any (·.1)) = false; rw [hpl]; rfl) ?_
  rw [hst]
  refine PySem.Calls.evalArgs_plain ?_
  have R0 : wpAny (model P w) (A.deeper (PySem.W.ksEnv qual scope s.heap.objs.size f (.ref cda) cc)) (spliced (backTo p3 (starEach (e :: es) (PySem.W.ksEnv qual scope s.heap.objs.size f (.ref cda) cc)))) _ _ _ := hta.run p3 _ _ _ _ _ I2 hq
  rw [hst] at R0
  refine wpAny_mono R0 (fun us1 s2 hz => ?_) fun e s' hs => hs
  obtain ⟨ws, H1, J1, rw1, hwl, ha1, ht1⟩ := hz
  have hpin := (J1.pin (h1.objs.size, PySem.W.kxs_mw "ValueError.__init__" a) (List.mem_singleton.mpr rfl)).1
  refine ⟨hpin, ?_⟩
  have hus : us1.length ≤ sizeLine := by
    rw [← Paired.length rw1, sizeLine_eq]
    omega
  obtain ⟨t2, hoe2⟩ := exo_at J1.hok ha1
  obtain ⟨hq2, g2, d2, tk2, os2⟩ := s2
  refine wpAny_call (codeAny_of_tree ?_)
  show wpAny _ (A.deeper (PySem.W.ksEnv qual scope s.heap.objs.size f (.ref cda) cc)).in1 (callAny (.ref h1.objs.size) ⟨us1, []⟩) _ _ _
  simp only [callAny]
  refine wpAny_bind (wpAny_load hpin ?_)
  simp only [PySem.W.kxs_mw, show (Value.type "method-wrapper" == Value.type "method" || Value.type "method-wrapper" == Value.type "builtin_function_or_method" || Value.type "method-wrapper" == Value.type "method-wrapper") = true by decide, if_true]
  refine PySem.W.KFB.if_so (by decide) ?_
  have JC : K.In hq2 := J1.kIn
  refine wpAny_bind (PySem.W.check_bound_init PySem.F.excBase_ValueError.toExcCallFacts (JC _ _ lC) hoe2 rfl ?_)
  refine wpAny_bind (wpAny_pure (wpAny_pure ?_))
  refine ⟨plainId_quiet PySem.F.excBase_ValueError.init.plain _, codeAny_builtin PySem.F.excBase_ValueError.initEntry ?_⟩
  refine PySem.W.exc_init_tree (cls := .ref C) (t0 := t2) (dv := none) (c2 := .none) (c3 := .none) (b4 := .bool false) hoe2 hus fun h' k' e' _ => ?_
  have J2 := J1.write (t' := tk2) (x := a) (e := a) (o := exo a C none) (by rw [ha1]; exact True.intro) (.inl rfl) k' ⟨_, e'⟩ (exo_ok e')
  have eu : upd H1 a (exo a C none) = H1 := by
    funext b
    by_cases hb : b = a
    · rw [hb, upd_same, ha1]
    · rw [upd_ne hb]
  rw [eu] at J2
  have fin : ∀ {σ' : L2.St} {H' : Hp} {v : V} {u : Value} {s' : Shared}, Inv (cxS P w K mg base ps qual scope f cda cc A outer s H E) [(h1.objs.size, PySem.W.kxs_mw "ValueError.__init__" a)] σ' H' s' → RelV v u → Q v H' → CE outer P w H s Q u s' :=
    fun {σ' H' v u s'} J rv q => ⟨v, H', J.os, J.bare, J.base, J.hok, rv, q⟩
  refine wpAt_of_wpAny (wpAny_mono (ht.run _ _ (L2.start ps vs) H1 _ J2 ht1) (fun fl s' hs => ?_) fun e s' hs => hs)
  cases fl with
  | ret u =>
    obtain ⟨v, σ', H', J, rv, q⟩ := hs
    exact fin J rv q
  | next =>
    obtain ⟨σ', H', J, q⟩ := hs
    exact fin (v := V.non) (u := Value.none) J rfl q
  | brk =>
    obtain ⟨_, _, _, q⟩ := hs
    exact False.elim q
  | cont =>
    obtain ⟨_, _, _, q⟩ := hs
    exact False.elim q
end
end Bk
/-! making an own error by keywords alone -/
namespace PySem.HandSPX
open Builtin Builtin.ObjectAttr
section
variable {M : Model} {pg : Program} {w : World} {A : Around} {E : Value → Shared → Prop} {R : Result → Shared → Prop} {h : Heap} {g : Array GenState} {d : Drawn} {t : Nat} {os : OsState} {kw : List (Str × Value)} {nm q : Str} {C N : Addr} {bs bm bB : List Value}
  {hd : Bool} {sn : List Str} {sub : List Value} {ab : Bool} {col : Option Bool} {dd : Option Addr} {k0 k1 k2 k3 k5 : Option Value} {b n i : String}
theorem bk_check_kw (F : ExcBaseFacts b n i bB) (tt : ∀ Y : String, bm.contains (.type Y) = bB.contains (.type Y)) (cC : h.get? C = some (excClassObj nm q C N bs bm hd sn sub ab col dd k0 k1 k2 k3 k5 n)) {Q : Unit → Shared → Prop} (z : Q () ⟨h, g, d, t, os⟩) :
    wpAny M A (checkBuiltinCall n ⟨[.ref C], kw⟩) Q E ⟨h, g, d, t, os⟩ := by
  have has : (Value.ref C :: bm).contains (.type b) = true := by
    rw [List.contains_cons, tt, F.hasB]
    exact Bool.or_true _
  have star := F.noStar
  simp only [checkBuiltinCall, F.newKind, F.newSplit, F.newRow]
  repeat (first | refine wpAny_loadPart_at cC ?_ | (refine wpAny_isSubtype_exc cC ?_; rw [has]) | refine wpAny_staticBase_exc cC ?_ | refine wpAny_madeBy_exc cC ?_ | simp only [bne_self_eq_false, Bool.false_eq_true, if_false] | wp_step)
  exact z
theorem bk_new_kw (F : ExcBaseFacts b n i bB) (tt : ∀ Y : String, bm.contains (.type Y) = bB.contains (.type Y)) (cC : h.get? C = some (excClassObj nm q C N bs bm hd sn sub ab col dd k0 k1 k2 k3 k5 n))
    (z : R (.ok (.ret (.ref (h.objs.size + 1)))) ⟨(h.push (W.kdv_tup [])).push (excO C h.objs.size), g, d, t, os⟩) : codeAny (model pg w) A (.builtin n ⟨[.ref C], kw⟩) R ⟨h, g, d, t, os⟩ := by
  have ends := F.ends
  have hb : (Value.ref C :: bm).contains (.type b) = true := by
    rw [List.contains_cons, tt, F.hasB]
    exact Bool.or_true _
  have ha : (Value.ref C :: bm).contains (.type "AttributeError") = false := by
    rw [List.contains_cons, tt, F.noAttr]
    rfl
  have hn : (Value.ref C :: bm).contains (.type "NameError") = false := by
    rw [List.contains_cons, tt, F.noName]
    rfl
  refine codeAny_builtinAt F.entry ?_
  unfold Builtin.«BaseException.__new__»
  refine wpAt_bind ?_
  show wpAt _ _ _ (stack >>= _) _ _ _
  refine wpAt_bind (wpAt_stack fun p below => wpAt_of_wpAny ?_)
  wp_walk
  refine wpAt_of_wpAny ?_
  rw [F.owner]
  repeat (first | with_reducible refine wpAny_madeHere_exc F.canon cC ?_ | with_reducible refine wpAny_loadPart_at cC ?_ | (with_reducible refine wpAny_isSubtype_exc cC ?_; first | rw [hb] | rw [ha] | rw [hn]) | wp_step)
  show R _ _
  rw [Heap.size_push]
  exact z
/-- type.__call__(C, k = v, ..): the own __init__ is called with the same keywords -/
theorem bk_type_kw (F : ExcBaseFacts b n i bB) (tt : ∀ Y : String, bm.contains (.type Y) = bB.contains (.type Y)) (cC : h.get? C = some (excClassObj nm q C N bs bm hd sn sub ab col dd k0 k1 k2 k3 k5 n)) {fi : Addr} {Q : Fin → Shared → Prop}
    (li : W.Looks (model pg w) h (typeLookup (.ref C) "__init__") (some (.ref fi))) (bi : ∀ x, W.Looks (model pg w) h (bindSpecial (.ref fi) x) (.ref fi, [x]))
    (z : codeAny (model pg w) A (.call (.ref fi) ⟨[.ref (h.objs.size + 1)], kw⟩) (fun r s' => match r with | .ok (.ret v) => v = .none ∧ Q (.done (.ret (.ref (h.objs.size + 1)))) s' | .ok _ => False | .error e => E e s') ⟨(h.push (W.kdv_tup [])).push (excO C h.objs.size), g, d, t, os⟩) :
    wpAny (model pg w) A (Builtin.«type.__call__» ⟨[.ref C], kw⟩) Q E ⟨h, g, d, t, os⟩ := by
  repeat (first | with_reducible refine wpAny_loadPart_at cC ?_ | with_reducible refine wpAny_madeBy_exc cC ?_ | wp_step)
  refine codeAny_call_builtin_code (Code.quiet_builtin _ F.quiet) (bk_check_kw F tt cC (bk_new_kw F tt cC ?_))
  show wpAny _ _ _ _ _ _
  have kp : ∀ a o, h.get? a = some o → ((h.push (W.kdv_tup [])).push (excO C h.objs.size)).get? a = some o := fun a o x => by
    exact Heap.get?_push_of_some _ (Heap.get?_push_of_some _ x)
  have c1 := kp _ _ cC
  have there : ((h.push (W.kdv_tup [])).push (excO C h.objs.size)).get? (h.objs.size + 1) = some (excO C h.objs.size) := by
    heap_get
  have self : (Value.ref C :: bm).contains (.ref C) = true := by
    simp
  have l1 := li.keeps kp
  have l2 := (bi (.ref (h.objs.size + 1))).keeps kp
  unfold isInstance
  repeat (first | with_reducible refine wpAny_loadPart_at there ?_ | (with_reducible refine wpAny_isSubtype_exc c1 ?_; rw [self]) | wp_step)
  show wpAny _ _ (typeLookup (.ref C) _) _ _ _
  refine l1.at (wpAny_holding (wpAny_bind (l2.at ?_)))
  refine wpAny_bind (wpAny_call (codeAny_mono z fun r s' y => ?_))
  rcases r with e | (v | _ | _ | _) <;> first | exact y | exact y.elim | skip
  obtain ⟨rfl, y⟩ := y
  first
    | exact wpAny_pure (wpAny_pure y)
    | (wp_walk; exact y)
theorem bk_call_kw (F : ExcBaseFacts b n i bB) (tt : ∀ Y : String, bm.contains (.type Y) = bB.contains (.type Y)) (cC : h.get? C = some (excClassObj nm q C N bs bm hd sn sub ab col dd k0 k1 k2 k3 k5 n)) {fi : Addr}
    (li : W.Looks (model pg w) h (typeLookup (.ref C) "__init__") (some (.ref fi))) (bi : ∀ x, W.Looks (model pg w) h (bindSpecial (.ref fi) x) (.ref fi, [x]))
    (z : codeAny (model pg w) (A.under (.builtin "type.__call__" ⟨[.ref C], kw⟩)) (.call (.ref fi) ⟨[.ref (h.objs.size + 1)], kw⟩) (W.InitBack (h.objs.size + 1) R) ⟨(h.push (W.kdv_tup [])).push (excO C h.objs.size), g, d, t, os⟩) :
    codeAny (model pg w) A (.call (.ref C) ⟨[], kw⟩) R ⟨h, g, d, t, os⟩ := by
  have t1 := tc_lookup
  have t2 := tc_bind (.ref C)
  have t3 : (⟨h, g, d, t, os⟩ : Shared).TypeIs (.ref C) "type" := ⟨_, cC, rfl⟩
  refine codeAny_of_tree ?_
  show wpAny _ _ (callAny (.ref C) _) _ _ _
  repeat (any_goals (first | assumption | with_reducible refine wpAny_loadPart_at cC ?_ | wp_step))
  refine ⟨rfl, codeAny_call_builtin_at (Code.quiet_builtin _ (by decide +kernel)) entry_typeCall (wpAny_check_type_call_sub cC (bk_type_kw F tt cC li bi ?_))⟩
  refine codeAny_mono z fun r s' y => ?_
  rcases r with e | (v | _ | _ | _) <;> exact y
end
end PySem.HandSPX
/-! C(k = v, ..), C an own error with an __init__ of its own -/
namespace Bk
open PySem PySem.Spec PyProof.Rows L2
theorem kbn_sup {P : Program} {K : PySem.W.Frag} {name qual : Str} {params : Arguments} {body : List Stmt} {scope : Scope} {f C : Addr} {fd : FuncData} {ps ks : List Str} {n : Nat} (F : SupF P K name qual params body scope f C fd)
    (hb : ∀ (kV doc pm : Value) (an : Option Addr) (cdv ct : Value) (cc : Addr) (us ws : List Value), us.length = n → ws.length = ks.length → bindArgs (PySem.W.ksFn name qual params body scope .none kV doc pm an cdv ct cc) ⟨us, ks.zip ws⟩ = pure (ps.zip (us ++ ws))) :
    KBn K fd ps n ks (fun us ws => us ++ ws) (fun vs zs => vs ++ zs) := by
  obtain ⟨oc, od, kV, doc, pm, an, ct, osl, cc, cda, ccl, cdd, vsC, ccs, file, tf, cl, cld, csl, rfl, _⟩ := F.ex
  exact ⟨fun s us ws _ l1 l2 => .of_eq (hb kV doc pm an (.ref cda) ct cc us ws l1 l2), fun r1 r2 => r1.append r2⟩
/-- what the making asks of the own __init__ -/
def MkX (C : Addr) (m : Nat) (sp : Sp) (zs : List V) (H1 : Hp) (Q : XK) : Prop := zs.length = m ∧ ∀ a, H1 a = none → sp (.ref a :: zs) (upd H1 a (exo a C none))
  (fun v H2 => v = .non ∧ ∃ (d : Addr) (fs : List (Str × V)), H2 a = some (exo a C (some d)) ∧ H2 d = some (exd d fs) ∧ H1 d = none ∧ Q (.ref C) (some d) (upd (del H2 a) d (.xd fs))) (fun _ _ _ => False)
def tMkX (G : List V → Hp → XK → Prop) (tk : TA) : L2.St → Hp → XK → Prop := fun σ H Q => tk σ H fun zs H1 => G zs H1 Q
section
variable {X : Cx} {CX : CXT} {x : Str} {C fI : Addr} {k : Nat} {fd : FuncData} {ps ks : List Str} {sp : Sp} {kws : List Keyword} {p pos : Pos} {tk : TA}
theorem pmk_kw (T : OexC X.K C) (iC : PySem.W.findIn X.K (.ref C) "__init__" = some (some (.ref fI))) (tI : PySem.W.typeIn X.K (.ref fI) = some (.type "function")) (F1 : FnOk X.prog X.w X.K X.mg X.base CX k fI fd ps sp) (hr : Room (k + 1) X.A)
    (hb : KBn X.K fd ps 1 ks (fun us ws => us ++ ws) (fun vs zs => vs ++ zs)) {G : List V → Hp → XK → Prop} (hG : ∀ zs H1 Q, G zs H1 Q → MkX C ks.length sp zs H1 Q) (hx : Passes CX X (fun _ _ _ => False)) (hg : Gl X x) (hm : X.mg x = some (.ref C)) (hkw : PK X kws tk)
    (hall : (backToKw pos (keywordEach kws X.env)).all (·.1.isSome) = true := by rfl) (hks : (backToKw pos (keywordEach kws X.env)).filterMap (·.1) = ks := by rfl) (hdb : (x == ("__debug__" : Str)) = false := by decide)
    (hpl : ((backTo pos (starEach [] X.env)).any (·.1) || (backToKw pos (keywordEach kws X.env)).any (·.1.isNone)) = false := by rfl) : PMk X (.Call (.Name x p) [] kws pos) (tMkX G tk) := by
  intro pins s σ H Q I h
  obtain ⟨nm, q, N, bs, bm, sn, sub, ab, col, dd, k0, k1, k2, k3, k5, lC, vm⟩ := T.cls
  refine wpAny_Call_Name_kw (ld_glob I hg hm ?_ hdb)
  refine PySem.W.callWith_KW0 (h₀ := X.base) I.ok.mod.kin T.kC hall (thn (hkw.run pos pins s σ H _ I h) fun ws s1 ⟨zs, H1, I1, rz, qG⟩ => ⟨I1.kIn, ?_⟩) hpl
  obtain ⟨hz, q1⟩ := hG zs H1 Q qG
  rw [hks]
  show wpAny _ _ (call (.ref C) [] (ks.zip ws)) _ _ _
  obtain ⟨hp, g, dr, tq, os⟩ := s1
  have s1 : hp.objs.size ≤ hp.objs.size + 1 := Nat.le_succ _
  have f1 : H1 (hp.objs.size + 1) = none := I1.hok.fresh s1
  have h1 := q1 (hp.objs.size + 1) f1
  have kk : ∀ b o, hp.get? b = some o → ((hp.push (PySem.W.kdv_tup [])).push (PySem.HandSPX.excO C hp.objs.size)).get? b = some o := fun b o e => by
    exact Heap.get?_push_of_some _ (Heap.get?_push_of_some _ e)
  have there : ((hp.push (PySem.W.kdv_tup [])).push (PySem.HandSPX.excO C hp.objs.size)).get? (hp.objs.size + 1) = some (PySem.HandSPX.excO C hp.objs.size) := by
    heap_get
  have I2 : L2.Inv X pins σ (upd H1 (hp.objs.size + 1) (exo (hp.objs.size + 1) C none)) ⟨(hp.push (PySem.W.kdv_tup [])).push (PySem.HandSPX.excO C hp.objs.size), g, dr, tq, os⟩ := by
    exact I1.laid (t' := tq) (a := hp.objs.size + 1) (o := exo (hp.objs.size + 1) C none) kk s1 (exo_ok there)
  have r1 : Vals [V.ref (hp.objs.size + 1)] [Value.ref (hp.objs.size + 1)] := .cons rfl .nil
  have lz : ws.length = ks.length := rz.length.symm.trans hz
  refine wpAny_call (PySem.HandSPX.bk_call_kw F.excBase_ValueError (fun Y => PySem.HandSPX.refsVE_contains Y bm vm) (I1.kIn _ _ lC) (PySem.W.looks_findIn I1.kIn iC) (fun self => PySem.W.bind_fn I1.kIn self tI)
    (codeAny_mono (F1.run _ X.stack _ _ ⟨[Value.ref (hp.objs.size + 1)], ks.zip ws⟩ ([Value.ref (hp.objs.size + 1)] ++ ws) _ _ (fun _ _ _ => False) (hr.make C [] (ks.zip ws)) (I2.env0.make C [] (ks.zip ws)) (hb.to _ [Value.ref (hp.objs.size + 1)] ws I2.kIn rfl lz) (hb.rel r1 rz) h1) fun r s' y => ?_))
  cases r with
  | error er => exact hx pins σ _ _ er s' I2 y
  | ok fl =>
    cases fl
    case ret u =>
      obtain ⟨v, H2, o2, b2, u2, k2, rv, ev, d, fs, ea, ed, nd, y2⟩ := y
      subst ev
      obtain ⟨h2, g2, d2, t2, os'⟩ := s'
      exact ⟨rv, mk_end (raises_own T.exC T.tyC) I1 s1 kk u2 k2 o2 b2 ea ed nd y2⟩
    all_goals exact False.elim y
end
end Bk
/-! the head's facts of errors with an __init__ of their own; their promise -/
namespace Bk
open PySem PySem.Spec PyProof.Rows L2
/-- a def with cells: all of it but the cells' addresses -/
abbrev FnS : Type := Option (Str × Str × Arguments × FuncBody × Scope × Addr × List Str × Addr)
def fnS (K : PySem.W.Frag) (a : Addr) : FnS := match K.lookup a with
  | some ⟨_, _, .func fd, _⟩ => some (fd.name, fd.qualname, fd.params, fd.body, fd.scope, fd.globals, fd.closure.map (·.1), fd.builtins)
  | _ => none
/-- an error class of the text: its name, the parts of its __init__, the fields that it sets -/
structure ErrD where
  cls : Str
  qual : Str
  params : Arguments
  body : List Stmt
  scope : Scope
  fields : List Str
def ErrD.at_ (K : PySem.W.Frag) (d : ErrD) : Addr := He.ma K (He.ga K d.cls) "__init__"
def ErrD.val (d : ErrD) : FnS := some ("__init__", d.qual, d.params, .stmts d.body, d.scope, mainGlobals, ["__class__"], builtinsNs)
def clsRaw (K : PySem.W.Frag) (C : Addr) : Bool := match K.lookup C with
  | some ⟨.type "type", _, .cls cd, sl⟩ => (match cd.mro, sl.toList with
    | .ref D :: bm, [_, _, _, _, some (.builtin n), _] => decide (D = C) && (decide (n = "ValueError.__new__") && (!cd.hasDel && (cd.hasDict && PySem.HandSPX.refsVE bm)))
    | _, _ => false)
  | _ => false
def codeFile (K : PySem.W.Frag) (file : Str) : Value → Bool
  | .ref cda => (match K.lookup cda with
    | some ⟨_, _, .fields vs, _⟩ => (match (vs[2]? : Option Value) with
      | some (Value.str fl _) => fl == file
      | _ => false)
    | _ => false)
  | _ => false
def cellOf (K : PySem.W.Frag) (C : Addr) : List (Str × Addr) → Bool
  | [(_, cc)] => (match K.lookup cc with
    | some ⟨_, _, .cell (some (.ref D)), _⟩ => decide (D = C)
    | _ => false)
  | _ => false
def initRaw (K : PySem.W.Frag) (file : Str) (C f : Addr) (qual : Str) : Bool := match K.lookup f with
  | some ⟨_, _, .func fd, _⟩ => decide (fd.defaults = .none) && (PySem.W.codeIn K fd.code qual && (codeFile K file fd.code && cellOf K C fd.closure))
  | _ => false
def errL (K : PySem.W.Frag) (file : Str) (C f : Addr) (qual : Str) (fields : List Str) : List Bool :=
  [PySem.W.keepIn K (.ref f),
   He.eqO (PySem.W.nsIn K cStatics "thirdparty.any") (some none),
   He.eqO (PySem.W.ks_superIn K C C "__init__") (some (some (.builtin "ValueError.__init__"))),
   decide (PySem.W.subIn K (.ref C) (.type "ValueError") = some true),
   decide (PySem.W.mroIn K C (.ref C) = some true),
   clsRaw K C,
   He.eqO (PySem.W.findIn K (.ref C) "__setattr__") (some (some (.builtin "object.__setattr__"))),
   decide (PySem.W.subIn K (.ref C) (.type "BaseException") = some true),
   decide (PySem.W.typeIn K (.ref C) = some (.type "type")),
   PySem.W.keepIn K (.ref C),
   He.eqO (PySem.W.findIn K (.ref C) "__init__") (some (some (.ref f))),
   decide (PySem.W.typeIn K (.ref f) = some (.type "function")),
   fields.all fun x => He.eqO (PySem.W.findIn K (.ref C) x) (some none),
   xfB K C,
   initRaw K file C f qual,
   decide (PySem.W.exmOne K (.ref C) (.ref C) = some true)]
def ErrD.ok (K : PySem.W.Frag) (file : Str) (d : ErrD) : Bool := (errL K file (He.ga K d.cls) (d.at_ K) d.qual d.fields).all id
/-- what the text's program says of itself -/
class PFa (P : Program) (file : Str) : Prop where
  file : ((P.main.file : Str) == file) = true
  top : (P.main.scope.names.lookup ("super" : Str)).isSome = false
/-- an error's facts, the program apart -/
structure ErrOf (K : PySem.W.Frag) (file : Str) (C f : Addr) (qual : Str) (params : Arguments) (body : List Stmt) (scope : Scope) (fields : List Str) : Prop where
  ox : OexC K C
  kp : PySem.W.keepIn K (.ref f) = true
  noany : PySem.W.nsIn K cStatics "thirdparty.any" = some none
  to : PySem.W.ks_superIn K C C "__init__" = some (some (.builtin "ValueError.__init__"))
  ve : PySem.W.subIn K (.ref C) (.type "ValueError") = some true
  self : PySem.W.mroIn K C (.ref C) = some true
  iC : PySem.W.findIn K (.ref C) "__init__" = some (some (.ref f))
  tI : PySem.W.typeIn K (.ref f) = some (.type "function")
  no : ∀ x ∈ fields, PySem.W.findIn K (.ref C) x = some none
  xf : XfC K C
  exm : PySem.W.exmOne K (.ref C) (.ref C) = some true
  fd : ∃ (fd : FuncData) (oc : Value) (od : Option Addr) (kV doc pm : Value) (an : Option Addr) (ct : Value) (osl : Array (Option Value)) (cc cda : Addr) (ccl : Value) (cdd : Option Addr) (vs : Array Value) (ccs : Array (Option Value)) (tf : Tok) (cl : Value) (cld : Option Addr) (csl : Array (Option Value)),
    fd = PySem.W.ksFn "__init__" qual params body scope .none kV doc pm an (.ref cda) ct cc ∧ K.lookup f = some ⟨oc, od, .func fd, osl⟩ ∧ PySem.W.codeIn K (.ref cda) qual = true ∧ K.lookup cda = some ⟨ccl, cdd, .fields vs, ccs⟩ ∧ vs[2]? = some (.str file tf) ∧ K.lookup cc = some ⟨cl, cld, .cell (some (.ref C)), csl⟩
theorem clsRaw_ok {K : PySem.W.Frag} {C : Addr} (h : clsRaw K C = true) : ∃ nm q N bs bm sn sub ab col dd k0 k1 k2 k3 k5, K.lookup C = some (excClassObj nm q C N bs bm true sn sub ab col dd k0 k1 k2 k3 k5 "ValueError.__new__") ∧ PySem.HandSPX.refsVE bm = true := by
  unfold clsRaw at h
  split at h
  · rename_i dd cd sl ho
    split at h
    · rename_i D bm k0 k1 k2 k3 n k5 hm hs
      obtain ⟨rfl', h⟩ := He.ba h
      obtain ⟨h2, h⟩ := He.ba h
      obtain ⟨h3, h⟩ := He.ba h
      obtain ⟨h4, h5⟩ := He.ba h
      cases of_decide_eq_true rfl'
      cases of_decide_eq_true h2
      obtain ⟨nm, bs, mro, ns, qn, hd, sn, sub, ab, col, del⟩ := cd
      dsimp only at hm h3 h4
      have h3 : del = false := by simpa using h3
      subst hm h3 h4
      have : sl = #[k0, k1, k2, k3, some (.builtin "ValueError.__new__"), k5] := by
        obtain ⟨l⟩ := sl
        simp only at hs
        rw [hs]
      subst this
      exact ⟨nm, qn, ns, bs, bm, sn, sub, ab, col, dd, k0, k1, k2, k3, k5, ho, h5⟩
    · cases h
  · cases h
theorem codeFile_ok {K : PySem.W.Frag} {file : Str} {v : Value} (h : codeFile K file v = true) : ∃ (cda : Addr) (ccl : Value) (cdd : Option Addr) (vs : Array Value) (ccs : Array (Option Value)) (tf : Tok), v = .ref cda ∧ K.lookup cda = some ⟨ccl, cdd, .fields vs, ccs⟩ ∧ vs[2]? = some (.str file tf) := by
  unfold codeFile at h
  split at h
  · split at h
    · rename_i e
      split at h
      · rename_i fl tf e2
        have := beq_iff_eq.mp h
        subst this
        exact ⟨_, _, _, _, _, tf, rfl, e, e2⟩
      · cases h
    · cases h
  · cases h
theorem cellOf_ok {K : PySem.W.Frag} {C : Addr} {l : List (Str × Addr)} (h : cellOf K C l = true) (n : l.map (·.1) = [("__class__" : Str)]) : ∃ (cc : Addr) (cl : Value) (cld : Option Addr) (csl : Array (Option Value)), l = [(("__class__" : Str), cc)] ∧ K.lookup cc = some ⟨cl, cld, .cell (some (.ref C)), csl⟩ := by
  unfold cellOf at h
  split at h
  · rename_i x cc
    split at h
    · rename_i e
      cases of_decide_eq_true h
      have : x = "__class__" := by simpa using n
      subst this
      exact ⟨cc, _, _, _, rfl, e⟩
    · cases h
  · cases h
theorem err_ok {K : PySem.W.Frag} {file : Str} {d : ErrD} (h : d.ok K file = true) (e : fnS K (d.at_ K) = d.val) : ErrOf K file (He.ga K d.cls) (d.at_ K) d.qual d.params d.body d.scope d.fields := by
  have a := fun i b (z : (errL K file (He.ga K d.cls) (d.at_ K) d.qual d.fields)[i]? = some b) => all_at h i z
  refine ⟨⟨clsRaw_ok (a 5 _ rfl), He.eqO_ok (a 6 _ rfl), of_decide_eq_true (a 7 _ rfl), of_decide_eq_true (a 8 _ rfl), a 9 _ rfl⟩, a 0 _ rfl, He.eqO_ok (a 1 _ rfl), He.eqO_ok (a 2 _ rfl), of_decide_eq_true (a 3 _ rfl), of_decide_eq_true (a 4 _ rfl), He.eqO_ok (a 10 _ rfl), of_decide_eq_true (a 11 _ rfl),
    fun x hx => He.eqO_ok (List.all_eq_true.mp (a 12 _ rfl) x hx), xfB_ok (a 13 _ rfl), of_decide_eq_true (a 15 _ rfl), ?_⟩
  have r := a 14 _ rfl
  unfold initRaw at r
  unfold fnS ErrD.val at e
  split at r
  · rename_i oc od fd osl ho
    rw [ho] at e
    obtain ⟨n1, n2, n3, n4, n5, n6, n7, n8, n9, n10, n11, n12, n13, n14, n15⟩ := fd
    simp only [Option.some.injEq, Prod.mk.injEq] at e
    obtain ⟨h1, h2, h3, h4, h5, h6, h7, h8⟩ := e
    obtain ⟨r1, r⟩ := He.ba r
    obtain ⟨r2, r⟩ := He.ba r
    obtain ⟨r3, r4⟩ := He.ba r
    obtain ⟨cda, ccl, cdd, vs, ccs, tf, e1, e2, e3⟩ := codeFile_ok r3
    obtain ⟨cc, cl, cld, csl, e4, e5⟩ := cellOf_ok r4 h7
    replace r1 := of_decide_eq_true r1
    dsimp only at r1 r2 e1 e4
    subst h1 h2 h3 h4 h5 h6 h8 r1 e1 e4
    exact ⟨_, oc, od, n9, n10, n11, n12, n14, osl, cc, cda, ccl, cdd, vs, ccs, tf, cl, cld, csl, rfl, ho, r2, e2, e3, e5⟩
  · cases r
theorem ErrOf.sup {P : Program} {K : PySem.W.Frag} {file : Str} {C f : Addr} {qual : Str} {params : Arguments} {body : List Stmt} {scope : Scope} {fields : List Str} (T : ErrOf K file C f qual params body scope fields) [p : PFa P file] : ∃ fd, SupF P K "__init__" qual params body scope f C fd := by
  obtain ⟨fd, oc, od, kV, doc, pm, an, ct, osl, cc, cda, ccl, cdd, vs, ccs, tf, cl, cld, csl, e, l, c, cd, v2, ce⟩ := T.fd
  exact ⟨fd, ⟨⟨oc, od, kV, doc, pm, an, ct, osl, cc, cda, ccl, cdd, vs, ccs, file, tf, cl, cld, csl, e, l, c, cd, v2, p.file, ce⟩, T.kp, p.top, T.noany, T.to, T.ve, T.self, T.ox⟩⟩
/-! the hook -/
abbrev SeenE : Type := He.AlD × (List FnS × Bool)
/-- the cells of the defs that are told -/
def cellsG (g : Addr → Option Obj) (as : List Addr) : List Addr := as.flatMap fun a => match g a with
  | some ⟨_, _, .func fd, _⟩ => fd.closure.map (·.2)
  | _ => []
def lookE (n : Nat) (fa : List He.Fa) (fn : List He5.DefA) (file : Str) (er : List ErrD) (ex : PySem.W.Frag → Bool) (g : Addr → Option Obj) : SeenE :=
  let K := He.frG g (He5.asA g n ++ cellsG g (He5.asA g n))
  (He5.obsA fa fn K, er.map fun d => fnS K (d.at_ K), ex K && er.all fun d => d.ok K file)
def SaysE (file : Str) (er : List ErrD) (K : PySem.W.Frag) : Prop := ∀ d ∈ er, ErrOf K file (He.ga K d.cls) (d.at_ K) d.qual d.params d.body d.scope d.fields
theorem says_of {K : PySem.W.Frag} {file : Str} : ∀ {er : List ErrD}, (er.map fun d => fnS K (d.at_ K)) = er.map ErrD.val → (er.all fun d => d.ok K file) = true → SaysE file er K
  | [], _, _ => fun d hd => absurd hd (by simp)
  | e :: er, h, a => fun d hd => by
    rw [List.map_cons, List.map_cons] at h
    rw [List.all_cons] at a
    obtain ⟨a1, a2⟩ := He.ba a
    have ⟨h1, h2⟩ := List.cons.inj h
    rcases List.mem_cons.mp hd with q | q
    · subst q
      exact err_ok a1 h1
    · exact says_of h2 a2 d q
def hookE (n : Nat) (fa : List He.Fa) (fn : List He5.DefA) (file : Str) (er : List ErrD) (ex : PySem.W.Frag → Bool) : PySem.W.Hook where
  α := SeenE
  obs := fun s => lookE n fa fn file er ex s.heap.get?
  val := fun _ => (He5.valA fn, er.map ErrD.val, true)
  says := fun _ h => ∃ K : PySem.W.Frag, K.In h ∧ (He5.SaysA fa fn K ∧ ex K = true ∧ SaysE file er K)
  of := fun _ _ e => by
    have e1 := congrArg (fun z : SeenE => z.1) e
    have e2 := congrArg (fun z : SeenE => z.2.1) e
    have e3 := He.ba (congrArg (fun z : SeenE => z.2.2) e)
    exact ⟨_, He.frG_in, e1, e3.1, says_of e2 e3.2⟩
  keeps := fun _ _ _ ⟨K, hK, c⟩ k => ⟨K, PySem.W.Frag.In.keeps hK k, c⟩
theorem lookE_eq {n : Nat} {fa : List He.Fa} {fn : List He5.DefA} {file : Str} {er : List ErrD} {ex : PySem.W.Frag → Bool} {g : Addr → Option Obj} {s : Shared} (h : ∀ a, g a = s.heap.get? a) : lookE n fa fn file er ex g = (hookE n fa fn file er ex).obs s := by
  have e : g = s.heap.get? := funext h
  rw [e] <;> rfl
end Bk
/-! errors with fields: what their __init__ keeps, their making, defs that raise, calls of those -/
namespace Bk
open PySem PySem.Spec PyProof.Rows L2
def spErr (C : Addr) (ks : List Str) (ok : List V → Prop) : Sp := fun vs H Q _ => ∃ a zs, vs = .ref a :: zs ∧ zs.length = ks.length ∧ ok zs ∧ H a = some (exo a C none) ∧ ∀ d, H d = none → d ≠ a → Q .non (upd (upd H d (exd d (ks.zip zs).reverse)) a (exo a C (some d)))
/-- the wish of making it: the fields stand in the error's dict -/
def GErr (C : Addr) (ks : List Str) (ok : List V → Prop) (zs : List V) (H1 : Hp) (Q : XK) : Prop := zs.length = ks.length ∧ ok zs ∧ ∀ d, H1 d = none → Q (.ref C) (some d) (upd H1 d (.xd (ks.zip zs).reverse))
theorem gerr {C : Addr} {ks : List Str} {ok : List V → Prop} (zs : List V) (H1 : Hp) (Q : XK) (h : GErr C ks ok zs H1 Q) : MkX C ks.length (spErr C ks ok) zs H1 Q := by
  obtain ⟨hl, ho, h⟩ := h
  refine ⟨hl, fun a na => ⟨a, zs, rfl, hl, ho, upd_same, fun d nd dn => ?_⟩⟩
  have d1 : H1 d = none := by
    rw [upd_ne dn] at nd
    exact nd
  refine ⟨rfl, d, (ks.zip zs).reverse, upd_same, (upd_ne dn).trans upd_same, d1, ?_⟩
  have e : upd (del (upd (upd (upd H1 a (exo a C none)) d (exd d (ks.zip zs).reverse)) a (exo a C (some d))) a) d (.xd (ks.zip zs).reverse) = upd H1 d (.xd (ks.zip zs).reverse) := by
    funext b
    by_cases hb : b = d
    · rw [hb, upd_same, upd_same]
    · rw [upd_ne hb, upd_ne hb]
      by_cases hc : b = a
      · rw [hc, del_same, na]
      · rw [del_ne hc, upd_ne hc, upd_ne hb, upd_ne hc]
  rw [e]
  exact h d d1
section
variable {X : Cx} {x : Str} {C fI : Addr} {k j : Nat} {ks : List Str} {file qual : Str} {params : Arguments} {body : List Stmt} {scope : Scope} {kws : List Keyword} {p pos : Pos} {tk : TA} {ok : List V → Prop}
/-- C(k = v, ..) of an error of the text, to be raised -/
theorem pmk_err (T : ErrOf X.K file C fI qual params body scope ks) (F : KFx X.prog X.w X.K X.mg X.base k fI 1 ks (spErr C ks ok)) (hr : Room j X.A) (hm : X.mg x = some (.ref C)) (hkw : PK X kws tk) (hj : k + 1 ≤ j := by decide) (hg : Gl X x := by rfl)
    (hall : (backToKw pos (keywordEach kws X.env)).all (·.1.isSome) = true := by rfl) (hks : (backToKw pos (keywordEach kws X.env)).filterMap (·.1) = ks := by rfl) (hdb : (x == ("__debug__" : Str)) = false := by decide)
    (hpl : ((backTo pos (starEach [] X.env)).any (·.1) || (backToKw pos (keywordEach kws X.env)).any (·.1.isNone)) = false := by rfl) : PMk X (.Call (.Name x p) [] kws pos) (tMkX (GErr C ks ok) tk) := by
  obtain ⟨fd, ps, F1, b⟩ := F.ex
  exact pmk_kw T.ox T.iC T.tI F1 (hr.mono hj) b gerr passL hg hm hkw hall hks hdb hpl
end
section
variable {P : Program} {w : World} {K : PySem.W.Frag} {mg : Str → Option Value} {base : Heap} {x qual : Str} {params : Arguments} {body : List Stmt} {scope : Scope} {kws : List (Str × V)} {f : Addr} {fd : FuncData} {N ps : List Str} {k : Nat} {sp : Sp}
/-- a def that may raise -/
theorem fxr_of (F : FunD K x qual params body scope [] kws f fd) (S : FnScope N ps scope) (len : ∀ vs H Q E, sp vs H Q E → vs.length = ps.length)
    (hb : ∀ (kV doc pm : Value) (an : Option Addr) (cdv ct : Value) (us : List Value), us.length = ps.length → bindArgs (PySem.W.fnOf x qual params body scope .none kV doc pm an cdv ct) ⟨us, []⟩ = pure (ps.zip us))
    (h : ∀ (cdv : Value) (A : Around) (outer : List Env) (s : Shared) (H : Hp) (vs : List V) (Q : VK) (E : XK), Room k (A.deeper (envOfC qual scope s.heap.objs.size f cdv)) → sp vs H Q E →
      ∃ t, PSs (Cb P w K mg base N qual scope f cdv A outer s H E) body t ∧ t { nx := fun _ H' => Q .non H', rt := Q } (start N vs) H) : Fx P w K mg base (k + 1) f sp := by
  have G : FnOk P w K mg base (L2.CX P w) (k + 1) f fd ps sp := F.ok S len h
  have R := G.raw (F.bindsN hb) .nil
  exact R.imp fun vs H Q E q => by rw [List.append_nil]; exact q
theorem takesE {cdv : Value} {A : Around} {outer : List Env} {s : Shared} {H : Hp} {E : XK} : Takes (Cb P w K mg base N qual scope f cdv A outer s H E) (fun cls d _ H' => E cls d H') := takes_of rfl rfl rfl rfl
end
section
variable {X : Cx} {k j : Nat} {f : Addr} {sp : Sp} {W : WX} {x : Str} {p pos : Pos} {e : Expr} {es : List Expr} {t : TA}
/-- f(e, ..) of a def that may raise: what it lets out is in our air -/
def tClW (sp : Sp) (W : WX) (t : TA) : TE := fun σ H Q => t σ H fun vs H1 => sp vs H1 Q fun cls d H' => W cls d σ H'
theorem pe_clW (F : FnR X.prog X.w X.K X.mg X.base (L2.CX X.prog X.w) k f sp) (hr : Room j X.A) (hk : PySem.W.keepIn X.K (.ref f) = true) (hm : X.mg x = some (.ref f)) (tk : Takes X W) (ha : PA X (e :: es) t) (hj : k ≤ j := by decide) (hg : Gl X x := by rfl)
    (hd : (x == ("__debug__" : Str)) = false := by decide) (he : starEach (e :: es) X.env = (false, eval e X.env) :: starEach es X.env := by rfl) (hp : (backTo pos (starEach es X.env)).any (·.1) = false := by rfl) :
    PE X (.Call (.Name x p) (e :: es) [] pos) (tClW sp W t) := by
  constructor
  intro pins s σ H Q I h
  apply wpAny_Call_Name_kw
  apply ld_glob I hg hm _ hd
  refine PySem.W.callWith_K (h₀ := X.base) I.ok.mod.kin hk ?_ he hp
  refine thn (ha.run pos pins s σ H _ I h) ?_
  rintro us s1 ⟨vs, H1, I1, r, q⟩
  refine ⟨I1.kIn, wpAny_call (codeAny_mono (F X.A X.stack s1 H1 us vs Q _ (hr.mono hj) I1.env0 r q) fun r s' y => ?_)⟩
  cases r with
  | error u => exact tk u s' (XE.of_call I1 (fun _ _ _ z => z) y)
  | ok fl =>
    cases fl
    case ret u => exact I1.after y
    all_goals exact False.elim y
end
/-! an f-string of short texts and ints -/
section
variable {ts : List TE} {acc z : Str} {σ : L2.St} {H : Hp} {Q : Str → Hp → Prop} {j : Nat} {i : Int}
theorem app_len (a b : Str) : (a ++ b).length = a.length + b.length := by
  show (a.cps ++ b.cps).size = a.cps.size + b.cps.size
  exact Array.size_append
theorem js_nil (r : Q acc H) : tJs [] acc σ H Q := r
theorem js_str (ha : acc.length ≤ 100000) (hz : z.length ≤ 1000) (r : ∀ out : Str, out.length ≤ acc.length + 1000 → tJs ts out σ H Q) : tJs (tC (.str z) :: ts) acc σ H Q := by
  have e := app_len acc z
  exact ⟨z, rfl, by rw [sizeLine_eq]; omega, r _ (by omega)⟩
theorem js_int (hv : σ[j]? = some (some (.int i))) (hi : i.natAbs.log2 < 1920) (ha : acc.length ≤ 100000) (r : ∀ out : Str, out.length ≤ acc.length + 5000 → tJs ts out σ H Q) : tJs (tFmt (tVar j) :: ts) acc σ H Q := by
  have e1 := int_text_length_le (k := 1920) (by decide) hi
  have e2 : (Str.ofString (toString i)).length = _ := PySem.ofString_length _
  have e := app_len acc (Str.ofString (toString i))
  refine ⟨_, hv, .inr ⟨i, rfl, hi, Str.ofString (toString i), rfl, by rw [sizeLine_eq]; omega, r _ (by omega)⟩⟩
end
end Bk
/-! the head where the law makes lambdas: its code object's table is empty and stays out of what is known -/
namespace Bk
open PySem PySem.Spec PyProof.Rows L2
/-- the law's code object and its table -/
def ctL (K : PySem.W.Frag) : Addr × Addr := He.cT K ("law", none)
def tabL (g : Addr → Option Obj) (K : PySem.W.Frag) : Bool := PySem.W.codeHdIn K (ctL K).1 (ctL K).2 && (match g (ctL K).2 with
  | some o => He.emptyTab o
  | none => false)
/-- what is known of them -/
structure TabK (K : PySem.W.Frag) (h : Heap) : Prop where
  hd : PySem.W.codeHdIn K (ctL K).1 (ctL K).2 = true
  out : K.lookup (ctL K).2 = none
  emp : h.get? (ctL K).2 = some { cls := .none, data := .fields #[] }
abbrev SeenL : Type := SeenE × Bool
def frL (n : Nat) (g : Addr → Option Obj) : PySem.W.Frag := He.frT g (He5.asA g n ++ cellsG g (He5.asA g n))
def lookL (n : Nat) (fa : List He.Fa) (fn : List He5.DefA) (file : Str) (er : List ErrD) (ex : PySem.W.Frag → Bool) (g : Addr → Option Obj) : SeenL :=
  let K := frL n g
  ((He5.obsA fa fn K, er.map fun d => fnS K (d.at_ K), ex K && er.all fun d => d.ok K file), tabL g K)
theorem tabL_ok {n : Nat} {h : Heap} (e : tabL h.get? (frL n h.get?) = true) : TabK (frL n h.get?) h := by
  obtain ⟨h1, h2⟩ := He.ba e
  cases q : h.get? (ctL (frL n h.get?)).2 with
  | none =>
    rw [q] at h2
    cases h2
  | some o =>
    rw [q] at h2
    exact ⟨h1, He.frT_none q h2, by rw [q, He.emptyTab_eq h2]⟩
def hookL (n : Nat) (fa : List He.Fa) (fn : List He5.DefA) (file : Str) (er : List ErrD) (ex : PySem.W.Frag → Bool) : PySem.W.Hook where
  α := SeenL
  obs := fun s => lookL n fa fn file er ex s.heap.get?
  val := fun _ => ((He5.valA fn, er.map ErrD.val, true), true)
  says := fun _ h => ∃ K : PySem.W.Frag, K.In h ∧ (He5.SaysA fa fn K ∧ ex K = true ∧ SaysE file er K) ∧ TabK K h
  of := fun _ _ e => by
    have e1 := congrArg (fun z : SeenL => z.1.1) e
    have e2 := congrArg (fun z : SeenL => z.1.2.1) e
    have e3 := He.ba (congrArg (fun z : SeenL => z.1.2.2) e)
    have e4 := congrArg (fun z : SeenL => z.2) e
    exact ⟨_, He.frT_in, ⟨e1, e3.1, says_of e2 e3.2⟩, tabL_ok e4⟩
  keeps := fun _ _ _ ⟨K, hK, c, t⟩ k => ⟨K, PySem.W.Frag.In.keeps hK k, c, ⟨t.hd, t.out, k _ _ t.emp⟩⟩
theorem lookL_eq {n : Nat} {fa : List He.Fa} {fn : List He5.DefA} {file : Str} {er : List ErrD} {ex : PySem.W.Frag → Bool} {g : Addr → Option Obj} {s : Shared} (h : ∀ a, g a = s.heap.get? a) : lookL n fa fn file er ex g = (hookL n fa fn file er ex).obs s := by
  have e : g = s.heap.get? := funext h
  rw [e] <;> rfl
section
variable {P : Program} {w : World} {K : PySem.W.Frag} {mg : Str → Option Value} {base : Heap} {x qual : Str} {params : Arguments} {body : List Stmt} {scope : Scope} {kws : List (Str × V)} {f : Addr} {fd : FuncData} {N ps : List Str} {k : Nat} {sp : Sp}
/-- the law's code is where the head saw it -/
theorem law_code (F : FunD K x qual params body scope [] kws (He.ga K "law") fd) : fd.code = .ref (ctL K).1 := by
  obtain ⟨oc, od, dV, kV, doc, pm, an, cdv, ct, osl, e, lk, hcd, _, _⟩ := F.ex
  obtain ⟨c, rfl⟩ := He.codeIn_ref hcd
  have hc : fd.code = .ref c := by rw [e] <;> rfl
  have := He.codeOf_eq (p := ("law", none)) (show K.lookup (He.fAd K ("law", none)) = _ from lk) hc
  rw [hc]
  show _ = Value.ref (He.codeOf K ("law", none))
  rw [this]
/-- a def whose code object is known -/
theorem fo_ofL {c : Addr} (F : FunD K x qual params body scope [] kws f fd) (hc : fd.code = .ref c) (S : FnScope N ps scope) (len : ∀ vs H Q E, sp vs H Q E → vs.length = ps.length)
    (h : ∀ (A : Around) (outer : List Env) (s : Shared) (H : Hp) (vs : List V) (Q : VK) (E : XK), Room k (A.deeper (envOfC qual scope s.heap.objs.size f (.ref c))) → sp vs H Q E →
      ∃ t, PSs (Cb P w K mg base N qual scope f (.ref c) A outer s H E).nox body t ∧ t { nx := fun _ H' => Q .non H', rt := Q } (start N vs) H) : FnOk P w K mg base (L2.CX P w) (k + 1) f fd ps sp := by
  obtain ⟨oc, od, dV, kV, doc, pm, an, cdv, ct, osl, e, lk, hcd, _, _⟩ := F.ex
  subst e
  cases (show cdv = .ref c from hc)
  exact fn_of lk hcd S len fun A outer s H vs Q E hr hs => by
    obtain ⟨t, h1, h2⟩ := h A outer s H vs Q E hr hs
    exact ⟨t, h1.nox, h2⟩
end
end Bk
/-! a lambda handed to a def of the text that calls it in a try with a name -/
namespace Bk
open PySem PySem.Spec PyProof.Rows L2 LamX
section
variable {X : Cx}
theorem takesLam {A : Around} {outer : List Env} {s : Shared} {H : Hp} {E : XK} {scope : Scope} {f c' : Addr} : Takes (lamCx X A outer s H E scope f c') (fun cls d _ H' => E cls d H') := takes_of rfl rfl rfl rfl
/-- an error is let out where the names are as many as they are -/
theorem takes_len {W : WX} (t : Takes X W) : Takes X (fun c d σ H => σ.length = X.N.length → W c d σ H) := fun u s' ⟨a, B, sI, pins, σ, H, cls, d, e, I, nb, up, sky, na, os, ag, w⟩ => t u s' ⟨a, B, sI, pins, σ, H, cls, d, e, I, nb, up, sky, na, os, ag, w I.len⟩
/-- x(lambda: body) of a def of the text -/
theorem pe_lamF {TT : (XK → Hp → VK → Prop) → Hp → VK → Prop} {x a : Str} {g c P : Addr} {k j : Nat} {pg : Arguments} {bg : List Stmt} {sg : Scope} {fd : FuncData} {Ng : List Str} {params : Arguments} {body : Expr} {scope : Scope} {t : XK → TE} {p lpos pos : Pos}
    (F : FunD X.K x x pg bg sg [] [] g fd) (hm : X.mg x = some (.ref g)) (Sg : FnScope Ng [a] sg)
    (hb : ∀ (kV doc pm : Value) (an : Option Addr) (cdv ct : Value) (us : List Value), us.length = [a].length → bindArgs (PySem.W.fnOf x x pg bg sg .none kV doc pm an cdv ct) ⟨us, []⟩ = pure ([a].zip us))
    (hG : ∀ cdv, GivesTo X Ng x sg g cdv bg a (X.env.qual ++ "<lambda>") TT) (TB : TabB X.base X.mg c P) (hcode : X.env.code = .ref c) (hr : Room j X.A)
    (hbody : ∀ (A : Around) (outer : List Env) (s : Shared) (H : Hp) (E : XK) (f c' : Addr), Room k (A.deeper (lamEnv X scope s.heap.objs.size f c')) → PE (lamCx X A outer s H E scope f c') body (t E))
    (hj : k + 2 ≤ j := by decide) (hg : Gl X x := by rfl) (hNg : Ng[0]? = some a := by rfl) (hva : Vis sg a := by exact Or.inl rfl) (L : LamS X.env.scope scope := by exact lamS_by (by decide +kernel)) (hdef : defaultsOf params X.env = ([], []) := by rfl)
    (hbind : ∀ (q : Str) (cl : List (Str × Addr)) (pm cv ctv : Value), bindArgs (PySem.W.kla_fn "<lambda>" q params body scope cl pm cv ctv) ⟨[], []⟩ = pure [] := by intros; rfl)
    (hdb : (x == ("__debug__" : Str)) = false := by decide) (hd : (a == ("__debug__" : Str)) = false := by decide) (hcd : (a == ("__classdict__" : Str)) = false := by decide) :
    PE X (.Call (.Name x p) [.Lambda params body scope lpos] [] pos) (tLam [(P, X.env.qual ++ "<lambda>")] TT t) := by
  have B := F.bindsN (ps := [a]) hb
  obtain ⟨oc, od, dV, kV, doc, pm, an, cdv, ct, osl, e, lk, hcg, _, _⟩ := F.ex
  subst e
  exact pe_lamcall hg hm F.kp lk hcg B Sg hNg hva (hG cdv) TB hcode (List.mem_singleton.mpr rfl) (fun p hp _ => by rw [List.mem_singleton.mp hp]) (hr.mono hj) L hdef hbind hbody hdb hd hcd
end
theorem _root_.L2.Room.units65 {k : Nat} {A : Around} (r : Room k A) : A.units + 65 < cLine := by have := r.un; omega
/-- told: try: return a() / except C as e: return (word, e.index) -/
def TOut (C : Addr) (word : Str) (f : Str) : (XK → Hp → VK → Prop) → Hp → VK → Prop := fun tl H Q =>
  tl (fun cls d H' => cls = .ref C ∧ ∃ (dd : Addr) (fs : List (Str × V)) (v : V), d = some dd ∧ H' dd = some (.xd fs) ∧ fs.lookup f = some v ∧ ∀ t, H' t = none → Q (.ref t) (upd H' t (.tup [.str word, v]))) H Q
end Bk
/-! isinstance of a caught error of the text, with fields or without -/
namespace Bk
open PySem PySem.Spec PyProof.Rows L2 LamX
structure XE (K : PySem.W.Frag) (D : Addr) : Prop where
  cl : (PySem.W.clsIn K D).isSome = true
  ga : PySem.W.findIn K (.ref D) "__getattribute__" = some (some (.builtin "BaseException.__getattribute__"))
  gt : PySem.W.findIn K (.ref D) "__getattr__" = some none
  be : PySem.W.subIn K (.ref D) (.type "BaseException") = some true
  co : PySem.W.findIn K (.ref D) "__class__" = some (some (.builtin "object.__class__"))
  gg : PySem.W.specialIn K (.builtin "object.__class__") "__get__" = some (some (.builtin "getset_descriptor.__get__"))
  tk : PySem.W.takesIn K (.builtin "object.__class__") = some true
  mo : PySem.W.mroIn K D (.type "object") = some true
/-- what the head tells of a class of errors: of which classes its instances are -/
structure XKof (K : PySem.W.Frag) (nm : Str) (cs : List (Str × Bool)) : Prop where
  x : XE K (He.ga K nm)
  exm : PySem.W.exmOne K (.ref (He.ga K nm)) (.ref (He.ga K "LineError")) = some true
  ve : PySem.W.kitOne K (.ref (He.ga K nm)) (.type "ValueError") = some true
  kit : ∀ p ∈ cs, PySem.W.kitOne K (.ref (He.ga K nm)) (.ref (He.ga K p.1)) = some p.2
def isXK (K : PySem.W.Frag) (nm : Str) (cs : List (Str × Bool)) : Bool :=
  [(PySem.W.clsIn K (He.ga K nm)).isSome,
   He.eqO (PySem.W.findIn K (.ref (He.ga K nm)) "__getattribute__") (some (some (.builtin "BaseException.__getattribute__"))),
   He.eqO (PySem.W.findIn K (.ref (He.ga K nm)) "__getattr__") (some none),
   decide (PySem.W.subIn K (.ref (He.ga K nm)) (.type "BaseException") = some true),
   He.eqO (PySem.W.findIn K (.ref (He.ga K nm)) "__class__") (some (some (.builtin "object.__class__"))),
   He.eqO (PySem.W.specialIn K (.builtin "object.__class__") "__get__") (some (some (.builtin "getset_descriptor.__get__"))),
   decide (PySem.W.takesIn K (.builtin "object.__class__") = some true),
   decide (PySem.W.mroIn K (He.ga K nm) (.type "object") = some true),
   decide (PySem.W.exmOne K (.ref (He.ga K nm)) (.ref (He.ga K "LineError")) = some true),
   decide (PySem.W.kitOne K (.ref (He.ga K nm)) (.type "ValueError") = some true),
   cs.all fun p => decide (PySem.W.kitOne K (.ref (He.ga K nm)) (.ref (He.ga K p.1)) = some p.2)].all id
theorem isXK_ok {K : PySem.W.Frag} {nm : Str} {cs : List (Str × Bool)} (h : isXK K nm cs = true) : XKof K nm cs :=
  ⟨⟨all_at h 0, He.eqO_ok (all_at h 1), He.eqO_ok (all_at h 2), of_decide_eq_true (all_at h 3), He.eqO_ok (all_at h 4), He.eqO_ok (all_at h 5), of_decide_eq_true (all_at h 6), of_decide_eq_true (all_at h 7)⟩,
   of_decide_eq_true (all_at h 8), of_decide_eq_true (all_at h 9), fun p hp => of_decide_eq_true (List.all_eq_true.mp (all_at h 10) p hp)⟩
/-- isinstance(e, c): e the error that the suite holds, d its dict -/
def rIsX (K : PySem.W.Frag) (a : Addr) (cls : Value) (d : Option Addr) : List V → Hp → VK → Prop := fun xs H Q => ∃ (D dd : Addr) (fs : List (Str × V)) (c : V) (cv : Value) (b : Bool), cls = .ref D ∧ XE K D ∧ d = some dd ∧ H dd = some (.xd fs) ∧ xs = [.ref a, c] ∧ (∀ u, RelV c u → u = cv) ∧ PySem.W.kitOne K (.ref D) cv = some b ∧ Q (.bl b) H
theorem call_isX {X : Cx} {a : Addr} {cls : Value} {d : Option Addr} {oe : Obj} {pn : List (Addr × Obj)} (hz : Zc cls d oe) (hf : ∃ vs, oe.data = .fields vs) : CallR (X.suite a ((a, oe) :: pn)) (.builtin "isinstance") (rIsX X.K a cls d) := by
  intro pins s σ H xs us Q I r h
  obtain ⟨D, dd, fs, c, cv, b, rfl, T, rfl, ed, rfl, hcv, e, q⟩ := h
  match us, r with
  | [_, ut], .cons rx (.cons rt .nil) =>
    cases rx
    cases hcv _ rt
    obtain ⟨he, _⟩ := I.pin (a, oe) (List.mem_append_left _ List.mem_cons_self)
    obtain ⟨vs, hv⟩ := hf
    obtain ⟨mA, hns, _⟩ := (show ObjOk X.prog X.w H s.heap dd (.xd fs) from I.hok dd _ ed)
    obtain ⟨od, ho, _⟩ := lookIn_ns hns
    have J : PySem.W.InstAt s.heap a oe D (some od) := ⟨he, hz.1, by unfold PySem.W.notCls; rw [hv] <;> rfl, by rw [hz.2]; exact ho⟩
    exact PySem.W.kia_one (PySem.W.kitx_exc T.cl T.ga T.gt T.be T.co T.gg T.tk T.mo) I.kIn J e (fun z => nomatch z) fun tk => ⟨.bl b, H, I.kept (t' := tk) fun _ _ z => z, rfl, q⟩
end Bk
/-! errors of own classes without an own __init__: made of one text, without a dict -/
namespace Bk
open PySem PySem.Spec PyProof.Rows L2 LamX
def vEb : List Value := [.type "ValueError", .type "Exception", .type "BaseException", .type "object"]
structure OxcOf (K : PySem.W.Frag) (nm : Str) : Prop where
  q : PySem.W.excIn K (He.ga K nm) vEb "ValueError.__new__" = true
  kp : PySem.W.keepIn K (.ref (He.ga K nm)) = true
  su : PySem.W.subIn K (.ref (He.ga K nm)) (.type "BaseException") = some true
  ty : PySem.W.typeIn K (.ref (He.ga K nm)) = some (.type "type")
def isOxc (K : PySem.W.Frag) (nm : Str) : Bool :=
  [PySem.W.excIn K (He.ga K nm) vEb "ValueError.__new__", PySem.W.keepIn K (.ref (He.ga K nm)),
   decide (PySem.W.subIn K (.ref (He.ga K nm)) (.type "BaseException") = some true), decide (PySem.W.typeIn K (.ref (He.ga K nm)) = some (.type "type"))].all id
theorem isOxc_ok {K : PySem.W.Frag} {nm : Str} (h : isOxc K nm = true) : OxcOf K nm :=
  ⟨all_at h 0, all_at h 1, of_decide_eq_true (all_at h 2), of_decide_eq_true (all_at h 3)⟩
/-- X(e): an error of an own class without an own __init__ -/
theorem pmk_oxc {X : Cx} {x : Str} {e : Expr} {ta : TE} {p pos : Pos} (T : OxcOf X.K x) (gC : X.mg x = some (.ref (He.ga X.K x))) (he : PE X e ta) (hg : Gl X x := by rfl)
    (hs : starEach [e] X.env = (false, eval e X.env) :: starEach [] X.env := by rfl) (hdb : (x == ("__debug__" : Str)) = false := by decide) :
    PMk X (.Call (.Name x p) [e] [] pos) (fun σ H Q => ta σ H fun _ H1 => Q (.ref (He.ga X.K x)) none H1) :=
  SkE.pmk_own1 PySem.F.excBase_ValueError T.q gC T.kp (raises_own T.su T.ty) hg he hs hdb
end Bk
/-! the head seen by fewer steps: after n steps only what functions and records name -/
namespace Bk
open PySem PySem.Spec PyProof.Rows L2
def fnRefs (g : Addr → Option Obj) (as : List Addr) : List Addr := as.flatMap fun a => match g a with
  | some o => (match o.data with
    | .func _ => He.refsD o
    | .fields _ => He.refsO o
    | _ => [])
  | none => []
def exR (g : Addr → Option Obj) : Nat → List Addr → List Addr
  | 0, _ => []
  | k + 1, as => fnRefs g as ++ exR g k (fnRefs g as)
def frM (n : Nat) (g : Addr → Option Obj) : PySem.W.Frag := He.frT g (He5.asA g n ++ exR g 2 (He5.asA g n))
def lookM (n : Nat) (fa : List He.Fa) (fn : List He5.DefA) (file : Str) (er : List ErrD) (ex : PySem.W.Frag → Bool) (g : Addr → Option Obj) : SeenL :=
  let K := frM n g
  ((He5.obsA fa fn K, er.map fun d => fnS K (d.at_ K), ex K && er.all fun d => d.ok K file), tabL g K)
theorem tabM_ok {n : Nat} {h : Heap} (e : tabL h.get? (frM n h.get?) = true) : TabK (frM n h.get?) h := by
  obtain ⟨h1, h2⟩ := He.ba e
  cases q : h.get? (ctL (frM n h.get?)).2 with
  | none =>
    rw [q] at h2
    cases h2
  | some o =>
    rw [q] at h2
    exact ⟨h1, He.frT_none q h2, by rw [q, He.emptyTab_eq h2]⟩
def hookM (n : Nat) (fa : List He.Fa) (fn : List He5.DefA) (file : Str) (er : List ErrD) (ex : PySem.W.Frag → Bool) : PySem.W.Hook where
  α := SeenL
  obs := fun s => lookM n fa fn file er ex s.heap.get?
  val := fun _ => ((He5.valA fn, er.map ErrD.val, true), true)
  says := fun _ h => ∃ K : PySem.W.Frag, K.In h ∧ (He5.SaysA fa fn K ∧ ex K = true ∧ SaysE file er K) ∧ TabK K h
  of := fun _ _ e => by
    have e1 := congrArg (fun z : SeenL => z.1.1) e
    have e2 := congrArg (fun z : SeenL => z.1.2.1) e
    have e3 := He.ba (congrArg (fun z : SeenL => z.1.2.2) e)
    have e4 := congrArg (fun z : SeenL => z.2) e
    exact ⟨_, He.frT_in, ⟨e1, e3.1, says_of e2 e3.2⟩, tabM_ok e4⟩
  keeps := fun _ _ _ ⟨K, hK, c, t⟩ k => ⟨K, PySem.W.Frag.In.keeps hK k, c, ⟨t.hd, t.out, k _ _ t.emp⟩⟩
theorem lookM_eq {n : Nat} {fa : List He.Fa} {fn : List He5.DefA} {file : Str} {er : List ErrD} {ex : PySem.W.Frag → Bool} {g : Addr → Option Obj} {s : Shared} (h : ∀ a, g a = s.heap.get? a) : lookM n fa fn file er ex g = (hookM n fa fn file er ex).obs s := by
  have e : g = s.heap.get? := funext h
  rw [e] <;> rfl
end Bk
/-! lambdas as values: made, kept in lists and tuples, handed to a def that calls them in a try -/
namespace Bk
open PySem PySem.Spec PyProof.Rows L2 LamX
/-- a function's object -/
def FnO (f : Addr) (fd : FuncData) : HO := .ext fun h => h.get? f = some { cls := .type "function", data := .func fd }
/-- a tuple's raw object -/
def RawT (t : Addr) (us : List Value) : HO := .ext fun h => h.get? t = some (PySem.W.kdv_tup us)
theorem fnO_ne {f : Addr} {fd : FuncData} (ps : Array Value) : FnO f fd ≠ .tbl ps := nofun
theorem rawT_ne {t : Addr} {us : List Value} (ps : Array Value) : RawT t us ≠ .tbl ps := nofun
/-- a lambda's names: no cell of its own, its parameters are none of the maker's names -/
structure LamSD (N : List Str) (sc scope : Scope) : Prop where
  fnk : scope.kind = .function
  nco : scope.isCoroutine = false
  nge : scope.isGenerator = false
  nce : ∀ y k, (y, k) ∈ scope.names → k ≠ .cell
  par : ∀ y, (y, NameKind.local) ∈ scope.names → y ∉ N
  fre : ∀ y, (y, NameKind.free) ∈ scope.names → sc.names.lookup y = some .cell ∨ sc.names.lookup y = some .free
def lamKb (N : List Str) (sc : Scope) : Str × NameKind → Bool
  | (_, .cell) => false
  | (y, .local) => !N.contains y
  | (y, .free) => match sc.names.lookup y with
    | some .cell => true
    | some .free => true
    | _ => false
  | _ => true
def lamSDB (N : List Str) (sc scope : Scope) : Bool := scope.kind == .function && scope.isCoroutine == false && scope.isGenerator == false && scope.names.all (lamKb N sc)
theorem lamSD_by {N : List Str} {sc scope : Scope} (h : lamSDB N sc scope = true) : LamSD N sc scope := by
  simp only [lamSDB, Bool.and_eq_true, beq_iff_eq, List.all_eq_true] at h
  obtain ⟨⟨⟨a, b⟩, c⟩, d⟩ := h
  refine ⟨a, b, c, fun y k m e => ?_, fun y m i => ?_, fun y m => ?_⟩
  · subst e
    exact absurd (d _ m) (by simp [lamKb])
  · have q := d _ m
    simp [lamKb, i] at q
  · have q := d _ m
    unfold lamKb at q
    dsimp only at q
    split at q <;> simp_all
section
variable {X : Cx} {pins : List (Addr × Obj)} {σ : L2.St} {H HZ : Hp} {s s1 : Shared}
/-- the captured names have cells -/
theorem LamSD.caught {scope : Scope} (L : LamSD X.N X.env.scope scope) (ok : X.Ok) (y : Str × NameKind) (m : y ∈ scope.names) (e : y.2 = .free) : ∃ c, X.env.cells.lookup y.1 = some c :=
  ok.has y.1 (L.fre y.1 (by rw [← e]; exact m))
/-- an object that is laid now, known by its raw form -/
theorem ext_new {φ : Heap → Prop} {o : Obj} {h' : Heap} {t' : Nat} (I : Inv X pins σ H s) (k : ∀ b u, s.heap.get? b = some u → h'.get? b = some u) (hs : s.heap.objs.size ≤ h'.objs.size) (p : φ (h'.push o)) (nf : o.isFreed = false) (st : ∀ h1 h2 : Heap, φ h1 → (∀ u, h1.get? h'.objs.size = some u → h2.get? h'.objs.size = some u) → φ h2) :
    H h'.objs.size = none ∧ Inv X pins σ (upd H h'.objs.size (.ext φ)) { s with heap := h'.push o, toks := t' } :=
  ⟨I.hok.fresh hs, I.laid (fun b u e => Heap.get?_push_of_some o (k b u e)) hs ⟨p, ⟨o, Heap.get?_push_size h' nf⟩, st⟩⟩
theorem fn_new {fd : FuncData} {h' : Heap} {t' : Nat} (I : Inv X pins σ H s) (k : ∀ b u, s.heap.get? b = some u → h'.get? b = some u) (hs : s.heap.objs.size ≤ h'.objs.size) :
    H h'.objs.size = none ∧ Inv X pins σ (upd H h'.objs.size (FnO h'.objs.size fd)) { s with heap := h'.push { cls := .type "function", data := .func fd }, toks := t' } :=
  ext_new I k hs (Heap.get?_push_size h' rfl) rfl fun _ _ a st => st _ a
theorem upd_ext {a : Addr} {o : HO} (n : H a = none) : ExtN H (upd H a o) := ExtN.of fun b u e => (upd_ne (ne_of_none e n)).trans e
theorem tabs_upd {T : List (Addr × Str)} {a : Addr} {o : HO} (t : Tabs T H) (n : H a = none) : Tabs T (upd H a o) := t.ext fun b u e => (upd_ne (ne_of_none e n)).trans e
/-- the maker's code object and its table -/
structure Mk (X : Cx) (T : List (Addr × Str)) (c P : Addr) : Prop where
  tb : TabB X.base X.mg c P
  co : X.env.code = .ref c
  mem : (P, X.env.qual ++ "<lambda>") ∈ T
  one : ∀ p ∈ T, p.1 = P → p.2 = X.env.qual ++ "<lambda>"
theorem Mk.single {c P : Addr} (tb : TabB X.base X.mg c P) (co : X.env.code = .ref c) : Mk X [(P, X.env.qual ++ "<lambda>")] c P := ⟨tb, co, List.mem_singleton.mpr rfl, fun p hp _ => (congrArg Prod.snd (List.mem_singleton.mp hp))⟩
/-- one more code object in the table -/
theorem tabs_more {T : List (Addr × Str)} {P c' : Addr} {q : Str} {ps : Array Value} {p : Pos} (hT : Tabs T H) (one : ∀ p ∈ T, p.1 = P → p.2 = q) (mem : (P, q) ∈ T) (hP : H P = some (.tbl ps)) (nc : H c' = none) :
    ExtN H (upd (upd H P (.tbl (ps ++ #[rawInt p.line, rawInt p.col, .ref c']))) c' (CodeO c' q)) ∧ Tabs T (upd (upd H P (.tbl (ps ++ #[rawInt p.line, rawInt p.col, .ref c']))) c' (CodeO c' q)) := by
  have keep : ExtN H (upd (upd H P (.tbl (ps ++ #[rawInt p.line, rawInt p.col, .ref c']))) c' (CodeO c' q)) := by
    intro b u e n
    have n1 : b ≠ c' := ne_of_none e nc
    have n2 : b ≠ P := fun z => by
      subst z
      rw [hP] at e
      exact n _ (Option.some.inj e.symm)
    rw [upd_ne n1, upd_ne n2, e]
  refine ⟨keep, ?_⟩
  rintro ⟨R, r⟩ hp
  obtain ⟨qs, b1, b2, b3⟩ := hT _ hp
  by_cases hR : R = P
  · subst hR
    obtain rfl : r = q := one _ hp rfl
    obtain rfl : qs = ps := by
      have b1 : H R = some (.tbl qs) := b1
      rw [hP] at b1
      cases b1
      rfl
    have spell : (qs ++ #[rawInt p.line, rawInt p.col, .ref c']).toList = qs.toList ++ [rawInt p.line, rawInt p.col, .ref c'] := Array.toList_append
    refine ⟨_, (upd_ne (ne_of_none hP nc)).trans upd_same, spell ▸ PySem.TriplesOk_snoc _ _ _ _ b2, fun pos cv found => ?_⟩
    rw [spell] at found
    cases among_app _ b2 found with
    | inl old =>
      obtain ⟨d, d1, d2⟩ := b3 pos cv old
      exact ⟨d, d1, keep _ _ d2 codeO_ne⟩
    | inr new => exact ⟨c', new, upd_same⟩
  · refine ⟨qs, ?_, b2, fun pos cv found => ?_⟩
    · rw [upd_ne (ne_of_none b1 nc), upd_ne hR]
      exact b1
    · obtain ⟨d, d1, d2⟩ := b3 pos cv found
      exact ⟨d, d1, keep _ _ d2 codeO_ne⟩
/-- what a lambda's object says -/
abbrev lamFd (X : Cx) (params : Arguments) (body : Expr) (scope : Scope) (dV doc pm : Value) (c' : Addr) (ctv : Value) : FuncData := PySem.W.kdv_fn "<lambda>" (X.env.qual ++ "<lambda>") params (.expr body) scope (cloFrom X.env.cells scope.names []) dV doc pm (.ref c') ctv
/-- the rest of the making, its defaults there -/
theorem lam_tail {T : List (Addr × Str)} {c P : Addr} {params : Arguments} {body : Expr} {scope : Scope} {pos : Pos} {dV : Value} {E : Value → Shared → Prop} {Q : Value → Shared → Prop} (I : Inv X pins σ H s) (M : Mk X T c P) (hT : Tabs T H) (L : LamSD X.N X.env.scope scope)
    (h : ∀ (f c' : Addr) (doc pm ctv : Value) (H1 : Hp) (s' : Shared), Inv X pins σ H1 s' → ExtN H H1 → Tabs T H1 → H f = none → H1 f = some (FnO f (lamFd X params body scope dV doc pm c' ctv)) → H1 c' = some (CodeO c' (X.env.qual ++ "<lambda>")) → Q (.ref f) s') :
    wpAny (model X.prog X.w) X.A (makeTail "<lambda>" (X.env.qual ++ "<lambda>") params (.expr body) scope X.env dV .none none pos pos.line) Q E s := by
  obtain ⟨ps, hP, tr, known⟩ := hT _ M.mem
  have blt := M.tb.bm.keeps I.bk
  have glb := I.mod.glob.keeps I.bk
  have cod := M.tb.code.keeps I.bk
  have raw : s.heap.get? P = some (PySem.W.tabObj ps) := I.hok P _ hP
  have clo := closure_ok (L.caught I.ok)
  rcases found : codeAmong pos ps.toList with _ | cv
  · refine PySem.W.kdv_makeTail clo I.ok.glob glb M.co cod raw tr found M.tb.gP blt ?_
    rintro c' ctv doc h' tk same new old ⟨d, od, vs, tq, e, r1, r2, r3⟩ tab
    injection e with e
    subst e
    have nc : H c' = none := I.hok.fresh new
    obtain ⟨eN, tN⟩ := tabs_more (p := pos) hT M.one M.mem hP nc
    obtain ⟨nf, J⟩ := fn_new (t' := tk) (inv_table (t' := tk) I hP same tab new ⟨od, vs, tq, r1, r2, r3⟩) (fun _ _ e => e) (Nat.le_refl _)
    have nH : H h'.objs.size = none := I.hok.fresh (Nat.le_trans new (Nat.le_of_lt old))
    exact h _ c' doc _ ctv _ _ J (eN.trans (upd_ext nf)) (tabs_upd tN nf) nH upd_same (upd_ext nf _ _ upd_same codeO_ne)
  · obtain ⟨c', e, hc⟩ := known pos cv found
    subst e
    refine PySem.W.kdv_makeTailHit clo I.ok.glob glb M.co cod raw tr found blt ?_
    intro ctv doc h' tk same size
    obtain ⟨nf, J⟩ := fn_new (t' := tk) (I.kept (t' := tk) same) (fun _ _ e => e) (Nat.le_refl _)
    exact h _ c' doc _ ctv _ _ J (upd_ext nf) (tabs_upd hT nf) nf upd_same (upd_ext nf _ _ hc codeO_ne)
/-- how its parameters are bound when it is called without arguments -/
def LBind (H : Hp) (fd : FuncData) (bs : List (Str × Value)) : Prop :=
  (fd.defaults = .none ∧ bs = [] ∧ bindArgs fd ⟨[], []⟩ = pure []) ∨
  ∃ (t : Addr) (a : Str) (u : Value) (k : Option (Array Value) → Sem (List (Str × Value))), fd.defaults = .ref t ∧ bs = [(a, u)] ∧ H t = some (RawT t [u]) ∧ bindArgs fd ⟨[], []⟩ = seqItems? fd.defaults >>= k ∧ k (some #[u]) = pure [(a, u)]
theorem LBind.to {P : Program} {w : World} {fd : FuncData} {bs : List (Str × Value)} (b : LBind H fd bs) (ok : HOk P w H s.heap) : BindsTo s fd ⟨[], []⟩ bs := by
  rcases b with ⟨_, rfl, e⟩ | ⟨t, a, u, k, e1, rfl, e2, e3, e4⟩
  · exact BindsTo.of_eq e
  · exact BindsTo.of_defaults e1 (ok t _ e2).1 rfl e3 e4
/-- what is known by its raw form stays -/
def ExtE (H H' : Hp) : Prop := ∀ b φ, H b = some (.ext φ) → H' b = some (.ext φ)
theorem ExtE.of {H' : Hp} (e : ExtN H H') : ExtE H H' := fun b _ q => e b _ q nofun
theorem LBind.ext {H' : Hp} {fd : FuncData} {bs : List (Str × Value)} (b : LBind H fd bs) (e : ExtE H H') : LBind H' fd bs := by
  rcases b with b | ⟨t, a, u, k, e1, e5, e2, e3, e4⟩
  · exact .inl b
  · exact .inr ⟨t, a, u, k, e1, e5, e _ _ e2, e3, e4⟩
/-- what a frame's cells hold stays while others run -/
theorem cell_stays {fs ex : List Addr} {h' : Heap} (I : Inv X pins σ H s) (un : Un fs ex H HZ s.heap s1.heap) (hex : ∀ b ∈ ex, ∀ x c, X.env.cells.lookup x = some c → c ≠ b) (kp : ∀ b o, s1.heap.get? b = some o → h'.get? b = some o) {y : Str} {c : Addr} (e : X.env.cells.lookup y = some c) :
    (∀ v, s.heap.IsCell c v → h'.IsCell c v) ∧ HZ c = none := by
  have out : c ∉ ex := fun z => hex c z y c e rfl
  refine ⟨?_, ?_⟩
  · rintro v ⟨o, q1, q2⟩
    obtain ⟨sl, r⟩ := un.any q1 (I.freeC y c e) out
    exact ⟨_, kp _ _ r, q2⟩
  · obtain ⟨v, o, q1, _⟩ := I.cell y c e
    exact un.free c o q1 (I.freeC y c e) out
theorem clo_at {cells : List (Str × Addr)} {names : List (Str × NameKind)} {y : Str} {c : Addr} (has : ∀ p ∈ names, p.2 = .free → ∃ c, cells.lookup p.1 = some c) (e : (cloFrom cells names []).lookup y = some c) : cells.lookup y = some c := by
  rcases cloFrom_mem (PySem.mem_of_lookup e) with z | ⟨m, d⟩
  · cases z
  · obtain ⟨b, hb⟩ := has _ m rfl
    rw [d, show cells.lookup y = some b from hb, Option.getD_some]
/-- its frame, entered -/
theorem lam_enter {fs ex : List Addr} {A : Around} {outer : List Env} {E : XK} {scope : Scope} {f c' : Addr} {h' : Heap} {tk : Nat} {bs : List (Str × Value)} (I : Inv X pins σ H s) (L : LamSD X.N X.env.scope scope) (e0 : Env0 X.prog X.w X.K X.mg X.base A outer s1 HZ) (hd : A.handled = none)
    (un : Un fs ex H HZ s.heap s1.heap) (hex : ∀ b ∈ ex, ∀ x c, X.env.cells.lookup x = some c → c ≠ b) (hns : h'.Ns s1.heap.objs.size fun y => bs.reverse.lookup y) (kp : ∀ b o, s1.heap.get? b = some o → h'.get? b = some o) :
    Inv (lamCx X A outer s1 HZ E scope f c') [] σ HZ { s1 with heap := h', toks := tk } := by
  have here := fun {y c} (e : (cloFrom X.env.cells scope.names []).lookup y = some c) => clo_at (L.caught I.ok) e
  have stays := fun {y c} (e : X.env.cells.lookup y = some c) => cell_stays I un hex kp e
  have mem := fun {y k} (e : scope.names.lookup y = some k) => (PySem.mem_of_lookup e : (y, k) ∈ scope.names)
  have none_ex : ∀ b, b ∉ (lamCx X A outer s1 HZ E scope f c').ex := fun b z => (List.not_mem_nil z).elim
  have caught : ∀ {y}, scope.names.lookup y = some .free → ∃ c, (cloFrom X.env.cells scope.names []).lookup y = some c := fun e => mem_lookup (cloFrom_has (mem e))
  exact {
    ok := {
      mod := e0.mod
      kind := L.fnk
      glob := rfl
      blt := rfl
      above := Nat.le_refl _
      inj := fun y z c a b => I.ok.inj y z c (here a) (here b)
      has := fun y k => k.elim (fun q => absurd rfl (L.nce _ _ (mem (show scope.names.lookup y = some .cell from q)))) fun q => caught (show scope.names.lookup y = some .free from q)
      cab := fun y c z => (Bool.noConfusion (show false = true from z))
      hd := fun _ => hd
      frames := Around.frames_deeper e0.frames
      stk := .inr ⟨rfl, rfl⟩
      exf := fun b z => (none_ex b z).elim
      bs := e0.bs
      bsz := e0.bsz
      noex := fun b _ _ => none_ex b
      exfs := fun b z => (none_ex b z).elim
      funs := e0.funs
      frf := e0.frf }
    os := rfl
    bare := e0.bare
    base := Un.kept kp
    loc := ⟨_, hns, fun i y v a b vis => by
      rcases (show Vis scope y from vis) with k | k | k
      · exact absurd (List.mem_of_getElem? a) (L.par y (mem k))
      · exact absurd rfl (L.nce _ _ (mem k))
      · have outside := L.fre y (mem k)
        obtain ⟨c, hc⟩ := caught k
        have hX := here hc
        obtain ⟨m, _, look⟩ := I.loc
        obtain ⟨u, ru, place⟩ := look i y v a b (outside.elim (fun q => .inr (.inl q)) fun q => .inr (.inr q))
        refine ⟨u, ru, .inr ⟨.inr k, c, hc, ?_⟩⟩
        cases place with
        | inl q =>
          have q : X.env.scope.names.lookup y = some .local := q.1
          rw [q] at outside
          rcases outside with z | z <;> cases z
        | inr q =>
          obtain ⟨_, d, hd, cell⟩ := q
          rw [hX] at hd
          cases hd
          exact (stays hX).1 _ cell⟩
    cell := fun y c e => (I.cell y c (here e)).imp fun v q => (stays (here e)).1 v q
    free := e0.hok.fresh (Nat.le_refl _)
    freeC := fun y c e => (stays (here e)).2
    pin := fun q hq => (List.not_mem_nil (show q ∈ ([] : List (Addr × Obj)) from hq)).elim
    hok := e0.hok.kept kp
    len := I.len }
/-- a lambda of this frame's, kept somewhere -/
def LamV (X : Cx) (k : Nat) (H : Hp) (f : Addr) (t : XK → TE) : Prop := ∃ (params : Arguments) (body : Expr) (scope : Scope) (dV doc pm ctv : Value) (c' : Addr) (bs : List (Str × Value)),
  H f = some (FnO f (lamFd X params body scope dV doc pm c' ctv)) ∧ H c' = some (CodeO c' (X.env.qual ++ "<lambda>")) ∧ LBind H (lamFd X params body scope dV doc pm c' ctv) bs ∧ (∀ x ∈ bs, scope.names.lookup x.1 = some .local) ∧ LamSD X.N X.env.scope scope ∧
  ∀ (A : Around) (outer : List Env) (s : Shared) (H : Hp) (E : XK) (f c' : Addr), Room k (A.deeper (lamEnv X scope s.heap.objs.size f c')) → PE (lamCx X A outer s H E scope f c') body (t E)
theorem LamV.ext {k : Nat} {H' : Hp} {f : Addr} {t : XK → TE} (h : LamV X k H f t) (e : ExtE H H') : LamV X k H' f t := by
  obtain ⟨params, body, scope, dV, doc, pm, ctv, c', bs, h1, h2, h3, h4, h5, h6⟩ := h
  exact ⟨params, body, scope, dV, doc, pm, ctv, c', bs, e _ _ h1, e _ _ h2, h3.ext e, h4, h5, h6⟩
/-- it is called -/
theorem lam_run {fs ex : List Addr} {A' : Around} {outer' : List Env} {Q : VK} {E : XK} {k : Nat} {f : Addr} {t : XK → TE} (I : Inv X pins σ H s) (V : LamV X k HZ f t) (e0 : Env0 X.prog X.w X.K X.mg X.base A' outer' s1 HZ) (un : Un fs ex H HZ s.heap s1.heap) (hex : ∀ b ∈ ex, ∀ x c, X.env.cells.lookup x = some c → c ≠ b) (hr : Room (k + 1) A') (ht : t E σ HZ Q) :
    codeAny (model X.prog X.w) A' (.call (.ref f) ⟨[], []⟩) (CR (L2.CX X.prog X.w) outer' X.prog X.w HZ s1 Q E) s1 := by
  obtain ⟨params, body, scope, dV, doc, pm, ctv, c', bs, objF, objC, bind, pars, L, promise⟩ := V
  have rawF := (e0.hok f _ objF).1
  obtain ⟨od, vs, tq, r1, r2, r3⟩ := (e0.hok c' _ objC).1
  refine PySem.W.kla_callFunE hr.depth rawF rfl L.nco L.nge rfl ⟨c', od, vs, tq, rfl, r1, r2, r3⟩ (bind.to e0.hok _ _ _ _ (wpAny_newFunctionEnv (fun y m => L.nce y.1 y.2 m) pars (fun h' ns but => ⟨?_, ?_⟩) L.fnk))
  · exact (e0.mod.nolimit.keeps fun b o e => (e0.bs b o e).1).fresh _ but
  · have kp := fun b o (e : s1.heap.get? b = some o) => but.extBut b o (Nat.ne_of_lt (Heap.lt_size e)) (Heap.get?_push_of_some _ e)
    refine PySem.W.kla_codeExpr (env := lamEnv X scope s1.heap.objs.size f c') (wpAny_mono ((promise A' outer' s1 HZ E f c' (hr.deeper _)).run [] _ σ HZ Q (lam_enter I L e0 hr.hd un hex ns kp) ht) ?_ fun _ _ q => q)
    rintro u s2 ⟨v, H2, J, rv, q⟩
    exact ⟨v, H2, J.os, J.bare, J.base, J.hok, rv, q⟩
/-- how a call ends for who calls -/
theorem fn_call {Y : Cx} {pinsY : List (Addr × Obj)} {σY : L2.St} {C : CXT} {E : XK} {Q : VK} {HY : Hp} {u : Shared} {f : Addr} {us : List Value} (I : Inv Y pinsY σY HY u) (pass : ∀ e s', C Y.stack HY u E e s' → Y.xe e s')
    (rc : codeAny (model Y.prog Y.w) Y.A (.call (.ref f) ⟨us, []⟩) (CR C Y.stack Y.prog Y.w HY u Q E) u) : wpAny (model Y.prog Y.w) Y.A (call (.ref f) us []) (EP Y pinsY σY Q) Y.xe u :=
  wpAny_call (codeAny_mono rc fun r s' q => match r, q with
    | .error e, q => pass e s' q
    | .ok (.ret _), q => I.after q
    | .ok .next, q => q
    | .ok .brk, q => q
    | .ok .cont, q => q)
/-- a(), in the def that got it; u0 is where that def was called, maybe within a block -/
theorem pe_actV {C : CXT} {Eg : XK} {Ng : List Str} {qg : Str} {sg : Scope} {g f : Addr} {cdg : Value} {k i : Nat} {a : Str} {pn : List (Addr × Obj)} {xe : Value → Shared → Prop} {W : WX} {E : XK} {t : XK → TE} {p1 p2 : Pos} {fs ex : List Addr} {H0 : Hp} {u0 : Shared}
    (I : Inv X pins σ H s) (un : Un fs ex H H0 s.heap u0.heap) (sub : ∀ b ∈ frs X.stack, b ∈ fs) (hex : ∀ b ∈ ex, ∀ x c, X.env.cells.lookup x = some c → c ≠ b) (tk : Takes ((cxOf C X.prog X.w X.K X.mg X.base Ng qg sg g cdg X.A X.stack u0 H0 Eg).tr pn xe) W) (hW : ∀ cls d σ' H', E cls d H' → W cls d σ' H')
    (hr : Room (k + 1) (X.A.deeper (envOfC qg sg u0.heap.objs.size g cdg))) (hN : Ng[i]? = some a) (hv : Vis sg a) (hd : (a == ("__debug__" : Str)) = false := by decide) (hcd : (a == ("__classdict__" : Str)) = false := by decide) :
    PE ((cxOf C X.prog X.w X.K X.mg X.base Ng qg sg g cdg X.A X.stack u0 H0 Eg).tr pn xe) (.Call (.Name a p1) [] [] p2) (fun σZ HZ Q => σZ[i]? = some (some (.ref f)) ∧ LamV X k HZ f t ∧ t E σ HZ Q) := by
  constructor
  rintro pinsZ sZ σZ HZ Q IZ ⟨at_i, V, ht⟩
  have run := (pe_var (X := (cxOf C X.prog X.w X.K X.mg X.base Ng qg sg g cdg X.A X.stack u0 H0 Eg).tr pn xe) (pos := p1) hN hv hd hcd).run pinsZ sZ σZ HZ (fun v H1 => v = .ref f ∧ H1 = HZ) IZ ⟨_, at_i, rfl, rfl⟩
  refine wpAny_Call_Name_kw (thn run ?_)
  rintro w u1 ⟨v, H1, I1, r1, ev, eH⟩
  subst ev eH
  obtain rfl : w = Value.ref f := r1
  have known : ∃ fd : FuncData, u1.heap.get? f = some { cls := .type "function", data := .func fd } := by
    obtain ⟨_, _, _, _, _, _, _, _, _, e, _⟩ := id V
    exact ⟨_, (I1.hok f _ e).1⟩
  obtain ⟨o, known⟩ := known
  refine PySem.W.callWith_F0 ⟨_, _, _, _, known⟩ ?_
  have all : Un fs ex H H1 s.heap u1.heap := un.trans (Un.mono (show Un (frs X.stack) [] H0 H1 u0.heap u1.heap from I1.base) sub fun b z => (List.not_mem_nil z).elim)
  have rc := lam_run (E := E) (Q := Q) I V I1.env0 all hex hr ht
  exact fn_call I1 (fun e s' => passes_call tk hW _ _ _ _ e s' I1) rc
/-- its making, as an expression -/
def tLamV (X : Cx) (P : Addr) (k : Nat) (t : XK → TE) : TE := fun σ H Q => Tabs [(P, X.env.qual ++ "<lambda>")] H ∧ ∀ f H1, ExtN H H1 → Tabs [(P, X.env.qual ++ "<lambda>")] H1 → H f = none → LamV X k H1 f t → Q (.ref f) H1
theorem pe_lamV {c P : Addr} {k : Nat} {params : Arguments} {body : Expr} {scope : Scope} {t : XK → TE} {pos : Pos} (TB : TabB X.base X.mg c P) (hcode : X.env.code = .ref c)
    (hbody : ∀ (A : Around) (outer : List Env) (s : Shared) (H : Hp) (E : XK) (f c' : Addr), Room k (A.deeper (lamEnv X scope s.heap.objs.size f c')) → PE (lamCx X A outer s H E scope f c') body (t E))
    (L : LamSD X.N X.env.scope scope := by exact lamSD_by (by decide +kernel)) (hdef : defaultsOf params X.env = ([], []) := by rfl)
    (hbind : ∀ (q : Str) (cl : List (Str × Addr)) (doc pm cv ctv : Value), bindArgs (PySem.W.kdv_fn "<lambda>" q params (.expr body) scope cl .none doc pm cv ctv) ⟨[], []⟩ = pure [] := by intros; rfl) :
    PE X (.Lambda params body scope pos) (tLamV X P k t) := by
  constructor
  rintro pins s σ H Q I ⟨hT, h⟩
  refine PySem.W.kla_eval hdef ?_
  rw [makeFunction_eq]
  simp only [List.zip_nil_right, List.filterMap_nil, List.isEmpty_nil, if_true, pure_bind]
  refine lam_tail I (Mk.single TB hcode) hT L fun f c' doc pm ctv H1 s' I1 eN T1 nf ef ec => ⟨.ref f, H1, I1, rfl, h f H1 eN T1 nf ?_⟩
  exact ⟨params, body, scope, .none, doc, pm, ctv, c', [], ef, ec, .inl ⟨rfl, rfl, hbind _ _ _ _ _ _⟩, fun x hx => (List.not_mem_nil hx).elim, L, hbody⟩
/-- with one default, a number -/
theorem pe_lamD {c P : Addr} {k : Nat} {params : Arguments} {body : Expr} {scope : Scope} {t : XK → TE} {pos dpos : Pos} {i : Int} {j : Nat} {a : Str} (TB : TabB X.base X.mg c P) (hcode : X.env.code = .ref c)
    (hbody : ∀ (A : Around) (outer : List Env) (s : Shared) (H : Hp) (E : XK) (f c' : Addr), Room k (A.deeper (lamEnv X scope s.heap.objs.size f c')) → PE (lamCx X A outer s H E scope f c') body (t E))
    (ha : scope.names.lookup a = some .local) (hdef : params.defaults = [.Constant (.int i) j dpos] := by rfl) (hkd : params.kw_defaults = [] := by rfl) (L : LamSD X.N X.env.scope scope := by exact lamSD_by (by decide +kernel))
    (hbind : ∀ (q : Str) (cl : List (Str × Addr)) (doc pm cv ctv u : Value) (t : Addr), ∃ k : Option (Array Value) → Sem (List (Str × Value)), bindArgs (PySem.W.kdv_fn "<lambda>" q params (.expr body) scope cl (.ref t) doc pm cv ctv) ⟨[], []⟩ = seqItems? (.ref t) >>= k ∧ k (some #[u]) = pure [(a, u)] := by intros; exact ⟨_, rfl, rfl⟩) :
    PE X (.Lambda params body scope pos) (tLamV X P k t) := by
  constructor
  rintro pins s σ H Q I ⟨hT, h⟩
  refine PySem.W.kdv_lam (hdef ▸ rfl) hkd ?_
  rw [hdef]
  refine PySem.W.kdv_all1 (thn ((pe_int (pos := dpos)).run pins s σ H (fun v H1 => v = .int i ∧ H1 = H) I ⟨rfl, rfl⟩) ?_)
  rintro u s1 ⟨v, H1, I1, _, rfl, rfl⟩
  refine PySem.W.kdv_all0 ?_
  rw [makeFunction_eq]
  simp only [List.zip_nil_right, List.filterMap_nil, List.isEmpty_nil, List.isEmpty_cons, if_true, pure_bind, Bool.false_eq_true, if_false]
  refine wpAny_bind (wpAny_newTextTuple ?_)
  obtain ⟨nt, I2⟩ := ext_new (φ := fun h => h.get? s1.heap.objs.size = some (PySem.W.kdv_tup [u])) (o := PySem.W.kdv_tup [u]) (t' := s1.toks) I1 (fun _ _ e => e) (Nat.le_refl _) (Heap.get?_push_size _ rfl) rfl fun _ _ e st => st _ e
  refine lam_tail I2 (Mk.single TB hcode) (tabs_upd hT nt) L fun f c' doc pm ctv H3 s' I3 eN T3 nf ef ec => ⟨.ref f, H3, I3, rfl, h f H3 ((upd_ext nt).trans eN) T3 ?_ ⟨params, body, scope, .ref s1.heap.objs.size, doc, pm, ctv, c', [(a, u)], ef, ec, ?_, ?_, L, hbody⟩⟩
  · exact (upd_ne (a := s1.heap.objs.size) (fun z => by rw [z, upd_same] at nf; cases nf)).symm.trans nf
  · obtain ⟨k, k1, k2⟩ := hbind (X.env.qual ++ "<lambda>") (cloFrom X.env.cells scope.names []) doc pm (.ref c') ctv u s1.heap.objs.size
    exact .inr ⟨s1.heap.objs.size, a, u, k, rfl, rfl, eN _ _ upd_same rawT_ne, k1, k2⟩
  · intro x hx
    rw [List.mem_singleton.mp hx]
    exact ha
/-- a def of one parameter that calls what it gets: what a call of it asks -/
structure Giv (X : Cx) (k : Nat) (TT : (XK → Hp → VK → Prop) → Hp → VK → Prop) (x : Str) (g : Addr) : Prop where
  ex : ∃ (a : Str) (pg : Arguments) (bg : List Stmt) (sg : Scope) (fd : FuncData) (Ng : List Str), FunD X.K x x pg bg sg [] [] g fd ∧ FnScope Ng [a] sg ∧
    (∀ (kV doc pm : Value) (an : Option Addr) (cdv ct : Value) (us : List Value), us.length = [a].length → bindArgs (PySem.W.fnOf x x pg bg sg .none kV doc pm an cdv ct) ⟨us, []⟩ = pure ([a].zip us)) ∧
    (∀ cdv, GivesTo X Ng x sg g cdv bg a (X.env.qual ++ "<lambda>") TT) ∧ Ng[0]? = some a ∧ Vis sg a ∧ (a == ("__debug__" : Str)) = false ∧ (a == ("__classdict__" : Str)) = false
  mg : X.mg x = some (.ref g)
  dbg : (x == ("__debug__" : Str)) = false
  kp : PySem.W.keepIn X.K (.ref g) = true
  room : Room (k + 2) X.A
/-- it is run with a lambda -/
theorem Giv.run {TT : (XK → Hp → VK → Prop) → Hp → VK → Prop} {x : Str} {g f : Addr} {k : Nat} {t : XK → TE} {Q : VK} {H0 : Hp} {u0 : Shared} {fs ex : List Addr} (G : Giv X k TT x g) (I : Inv X pins σ H s) (e0 : Env0 X.prog X.w X.K X.mg X.base X.A X.stack u0 H0) (un : Un fs ex H H0 s.heap u0.heap) (sub : ∀ b ∈ frs X.stack, b ∈ fs) (hex : ∀ b ∈ ex, ∀ x c, X.env.cells.lookup x = some c → c ≠ b)
    (V : LamV X k H0 f t) (h : TT (fun E H' Q' => LamV X k H' f t ∧ t E σ H' Q') H0 Q) : codeAny (model X.prog X.w) X.A (.call (.ref g) ⟨[.ref f], []⟩) (CR C8.CX0 X.stack X.prog X.w H0 u0 Q C8.E0) u0 := by
  obtain ⟨a, pg, bg, sg, fd, Ng, F, Sg, hb, gives, at0, va, d1, d2⟩ := G.ex
  have B := F.bindsN (ps := [a]) hb
  obtain ⟨oc, od, dV, kV, doc, pm, an, cdv, ct, osl, rfl, lk, hcg, _⟩ := F.ex
  have kin : X.K.In u0.heap := e0.mod.kin.keeps fun b o e => (e0.bs b o e).1
  refine run_ofS (N := Ng) (ps := [a]) (us := [.ref f]) (vs := [.ref f]) lk hcg Sg G.room e0 (B u0 [.ref f] kin rfl) (.cons rfl .nil) rfl fun room => ?_
  obtain ⟨_, _, _, _, _, _, _, c', _, _, objC, _⟩ := id V
  have act : ∀ (W : WX) (pn : List (Addr × Obj)) (xe : Value → Shared → Prop) (E : XK) (p1 p2 : Pos), Takes ((cxOf C8.CX0 X.prog X.w X.K X.mg X.base Ng x sg g cdv X.A X.stack u0 H0 C8.E0).tr pn xe) W → (∀ cls d σ' H', E cls d H' → W cls d σ' H') →
      PE ((cxOf C8.CX0 X.prog X.w X.K X.mg X.base Ng x sg g cdv X.A X.stack u0 H0 C8.E0).tr pn xe) (.Call (.Name a p1) [] [] p2) (fun σZ HZ Q => σZ[0]? = some (some (.ref f)) ∧ HZ c' = some (CodeO c' (X.env.qual ++ "<lambda>")) ∧ LamV X k HZ f t ∧ t E σ HZ Q) := by
    intro W pn xe E p1 p2 tk hW
    have p := pe_actV (i := 0) (p1 := p1) (p2 := p2) (f := f) (t := t) I un sub hex tk hW room at0 va d1 d2
    exact ⟨fun pinsZ sZ σZ HZ QZ IZ q => p.run pinsZ sZ σZ HZ QZ IZ ⟨q.1, q.2.2⟩⟩
  obtain ⟨t', ht, hq⟩ := gives cdv f c' u0 H0 Q _ act objC h
  exact ⟨t', ht.nox, hq⟩
/-- handed to a def that calls it in a try -/
def tCallV (X : Cx) (k : Nat) (TT : (XK → Hp → VK → Prop) → Hp → VK → Prop) (te : TE) : TE := fun σ H Q => te σ H fun v H1 => ∃ (f : Addr) (t : XK → TE), v = .ref f ∧ LamV X k H1 f t ∧ TT (fun E H' Q' => LamV X k H' f t ∧ t E σ H' Q') H1 Q
theorem pe_callV {TT : (XK → Hp → VK → Prop) → Hp → VK → Prop} {x y : Str} {g : Addr} {k : Nat} {te : TE} {p pos yp : Pos} (G : Giv X k TT x g) (he : PE X (.Name y yp) te) (hg : Gl X x := by rfl) : PE X (.Call (.Name x p) [.Name y yp] [] pos) (tCallV X k TT te) := by
  constructor
  intro pins s σ H Q I h
  refine wpAny_Call_Name_kw (ld_glob I hg G.mg (PySem.W.callWith_K (h₀ := X.base) I.ok.mod.kin G.kp ?_ (by rfl) (by rfl)) G.dbg)
  show wpAny _ _ (spliced ((false, eval (.Name y yp) X.env) :: backTo pos (starEach [] X.env))) _ _ s
  refine Calls.spliced_cons (thn (he.run pins s σ H _ I h) ?_)
  rintro u s' ⟨v, H1, I1, r1, f, t, rfl, V, ht⟩
  obtain rfl : u = Value.ref f := r1
  exact Calls.spliced_nil ⟨I1.kIn, fn_call I1 (fun e s' => False.elim) (G.run I1 I1.env0 (Un.refl (fs := frs X.stack) (ex := [])) (fun b hb => hb) (fun b z => (List.not_mem_nil z).elim) V ht)⟩
/-- a lambda with a default, handed over at once -/
theorem pe_callD {TT : (XK → Hp → VK → Prop) → Hp → VK → Prop} {x : Str} {g : Addr} {k : Nat} {te : TE} {p pos lp : Pos} {pr : Arguments} {bd : Expr} {so : Scope} (G : Giv X k TT x g) (he : PE X (.Lambda pr bd so lp) te) (hg : Gl X x := by rfl) : PE X (.Call (.Name x p) [.Lambda pr bd so lp] [] pos) (tCallV X k TT te) := by
  constructor
  intro pins s σ H Q I h
  refine wpAny_Call_Name_kw (ld_glob I hg G.mg (PySem.W.callWith_K (h₀ := X.base) I.ok.mod.kin G.kp ?_ (by rfl) (by rfl)) G.dbg)
  show wpAny _ _ (spliced ((false, eval (.Lambda pr bd so lp) X.env) :: backTo pos (starEach [] X.env))) _ _ s
  refine Calls.spliced_cons (thn (he.run pins s σ H _ I h) ?_)
  rintro u s' ⟨v, H1, I1, r1, f, t, rfl, V, ht⟩
  obtain rfl : u = Value.ref f := r1
  exact Calls.spliced_nil ⟨I1.kIn, fn_call I1 (fun e s' => False.elim) (G.run I1 I1.env0 (Un.refl (fs := frs X.stack) (ex := [])) (fun b hb => hb) (fun b z => (List.not_mem_nil z).elim) V ht)⟩
/-- what is told in a block: of the frame's own names, as they are at its start -/
def tCallB (X : Cx) (k : Nat) (TT : (XK → Hp → VK → Prop) → Hp → VK → Prop) (iw : Nat) (σ0 : L2.St) : TE := fun σ H Q => tVar iw σ H fun v H1 => ∃ (f : Addr) (t : XK → TE), v = .ref f ∧ LamV X k H1 f t ∧ TT (fun E H' Q' => LamV X k H' f t ∧ t E σ0 H' Q') H1 Q
theorem pe_callB {TT : (XK → Hp → VK → Prop) → Hp → VK → Prop} {x y : Str} {g : Addr} {k iw : Nat} {p pos yp : Pos} {fp : List Addr} {cenv : Env} {scope : Scope} (G : Giv X k TT x g) (I0 : Inv X pins σ H s) (hfp : ∀ b ∈ fp, ∀ x c, X.env.cells.lookup x = some c → c ≠ b) (he : PE (X.blk s H scope cenv fp) (.Name y yp) (tVar iw)) (hg : Gl (X.blk s H scope cenv fp) x) :
    PE (X.blk s H scope cenv fp) (.Call (.Name x p) [.Name y yp] [] pos) (tCallB X k TT iw σ) := by
  constructor
  intro pinsB sB σB HB Q I h
  refine wpAny_Call_Name_kw (ld_glob I hg G.mg (PySem.W.callWith_K (h₀ := X.base) I.ok.mod.kin G.kp ?_ (by rfl) (by rfl)) G.dbg)
  show wpAny _ _ (spliced ((false, eval (.Name y yp) cenv) :: backTo pos (starEach [] cenv))) _ _ sB
  refine Calls.spliced_cons (thn (he.run pinsB sB σB HB _ I h) ?_)
  rintro u s' ⟨v, H1, I1, r1, f, t, rfl, V, ht⟩
  obtain rfl : u = Value.ref f := r1
  exact Calls.spliced_nil ⟨I1.kIn, fn_call I1 (fun e s' => False.elim) (G.run I0 I1.env0 I1.base (fun b hb => hb) hfp V ht)⟩
end
end Bk
/-! objects made by keywords whose __init__ raises; errors of fires, told -/
namespace L2
open PySem PySem.Spec PyProof.Rows Bk
section
variable {P : Program} {w : World} {K : PySem.W.Frag} {mg : Str → Option Value} {base : Heap} {x qual : Str} {params : Arguments} {body : List Stmt} {scope : Scope} {f : Addr} {fd : FuncData} {N ps ks : List Str} {k n : Nat} {sp : Sp}
theorem kfxr_of (F : FunD K x qual params body scope [] [] f fd) (S : FnScope N ps scope) (len : ∀ vs H Q E, sp vs H Q E → vs.length = ps.length)
    (hb : ∀ (kV doc pm : Value) (an : Option Addr) (cdv ct : Value) (us ws : List Value), us.length = n → ws.length = ks.length → bindArgs (PySem.W.fnOf x qual params body scope .none kV doc pm an cdv ct) ⟨us, ks.zip ws⟩ = pure (ps.zip (us ++ ws)))
    (h : ∀ (cdv : Value) (A : Around) (outer : List Env) (s : Shared) (H : Hp) (vs : List V) (Q : VK) (E : XK), Room k (A.deeper (envOfC qual scope s.heap.objs.size f cdv)) → sp vs H Q E →
      ∃ t, PSs (Cb P w K mg base N qual scope f cdv A outer s H E) body t ∧ t { nx := fun _ H' => Q .non H', rt := Q } (start N vs) H) : KFx P w K mg base (k + 1) f n ks sp := by
  have G : FnOk P w K mg base (L2.CX P w) (k + 1) f fd ps sp := F.ok S len h
  refine ⟨fd, ps, G, ?_⟩
  obtain ⟨oc, od, dV, kV, doc, pm, an, cdv, ct, osl, rfl, lk, hcd, hD, hK⟩ := F.ex
  rcases hD with ⟨_, rfl⟩ | ⟨e, _⟩
  · exact ⟨fun s us ws _ l1 l2 => .of_eq (hb kV doc pm an cdv ct us ws l1 l2), fun r1 r2 => r1.append r2⟩
  · exact absurd rfl e
end
section
variable {X : Cx} {k j n : Nat} {f C : Addr} {ks : List Str} {sp : Sp} {x : Str} {p pos : Pos} {e : Expr} {es : List Expr} {kws : List Keyword} {t tk : TA} {E : XK}
theorem pe_mkKW (M : Mk X.K C f) (F : KFx X.prog X.w X.K X.mg X.base k f (n + 1) ks sp) (hr : Room j X.A) (hg : Gl X x) (hm : X.mg x = some (.ref C)) (tko : Takes X (fun cls d _ H' => E cls d H')) (ha : PA X (e :: es) t) (hkw : PK X kws tk) (hj : k + 1 ≤ j := by decide)
    (hall : (backToKw pos (keywordEach kws X.env)).all (·.1.isSome) = true := by rfl) (hks : (backToKw pos (keywordEach kws X.env)).filterMap (·.1) = ks := by rfl) (hdb : (x == ("__debug__" : Str)) = false := by decide)
    (he : starEach (e :: es) X.env = (false, eval e X.env) :: starEach es X.env := by rfl) (hpl : ((backTo pos (starEach (e :: es) X.env)).any (·.1) || (backToKw pos (keywordEach kws X.env)).any (·.1.isNone)) = false := by rfl) :
    PE X (.Call (.Name x p) (e :: es) kws pos) (tMkK C n ks.length sp E t tk) := by
  obtain ⟨fd, ps, G, b⟩ := F.ex
  exact pe_makeK M G (hr.mono hj) hg hm b (passes_call tko fun _ _ _ _ h => h) ha hkw hall hks hdb he hpl
end
end L2
namespace Bk
open PySem PySem.Spec PyProof.Rows L2
/-- told: what an error of a fire or of a number says -/
def TErrF (U N : Addr) : (XK → Hp → VK → Prop) → Hp → VK → Prop := fun tl H Q =>
  tl (fun cls d H' => (cls = .ref U ∧ ∃ (dd : Addr) (z : Str), d = some dd ∧ H' dd = some (.xd [("part", .str z)]) ∧ ∀ t H2, Same H' H2 → H' t = none → H2 t = some (.tup [.str "fire", .str z]) → Q (.ref t) H2) ∨
    (cls = .ref N ∧ d = none ∧ ∀ t H2, Same H' H2 → H' t = none → H2 t = some (.tup [.str "number", .int 0]) → Q (.ref t) H2)) H fun _ H1 => Q .non H1
theorem js_strv {ts : List TE} {acc z : Str} {σ : L2.St} {H : Hp} {Q : Str → Hp → Prop} {j : Nat} (hv : σ[j]? = some (some (.str z))) (hz : z.length ≤ 1000) (ha : acc.length ≤ 100000) (r : ∀ out : Str, out.length ≤ acc.length + 1000 → tJs ts out σ H Q) : tJs (tFmt (tVar j) :: ts) acc σ H Q := by
  have e := app_len acc z
  exact ⟨_, hv, .inl ⟨z, rfl, by rw [sizeLine_eq]; omega, z, rfl, by rw [sizeLine_eq]; omega, r _ (by omega)⟩⟩
end Bk
/-! whether an error is caught by a clause that names a class -/
namespace Bk
open PySem PySem.Spec PyProof.Rows L2
structure ExmOf (K : PySem.W.Frag) (x y : Str) (b : Bool) : Prop where
  at_ : PySem.W.exmOne K (.ref (He.ga K x)) (.ref (He.ga K y)) = some b
def isExm (K : PySem.W.Frag) (x y : Str) (b : Bool) : Bool := decide (PySem.W.exmOne K (.ref (He.ga K x)) (.ref (He.ga K y)) = some b)
theorem isExm_ok {K : PySem.W.Frag} {x y : Str} {b : Bool} (h : isExm K x y b = true) : ExmOf K x y b := ⟨of_decide_eq_true h⟩
end Bk
/-! the head where several defs make lambdas: the tables of their code objects are empty, stay out of what is known, and are no two the same -/
namespace Bk
open PySem PySem.Spec PyProof.Rows L2 LamX
/-- a def's code object and its table -/
def ctN (K : PySem.W.Frag) (x : Str) : Addr × Addr := He.cT K (x, none)
def tabN (g : Addr → Option Obj) (K : PySem.W.Frag) (x : Str) : Bool := PySem.W.codeHdIn K (ctN K x).1 (ctN K x).2 && (match g (ctN K x).2 with
  | some o => He.emptyTab o
  | none => false)
structure TabKN (K : PySem.W.Frag) (h : Heap) (x : Str) : Prop where
  hd : PySem.W.codeHdIn K (ctN K x).1 (ctN K x).2 = true
  out : K.lookup (ctN K x).2 = none
  emp : h.get? (ctN K x).2 = some { cls := .none, data := .fields #[] }
structure TabsK (ls : List Str) (K : PySem.W.Frag) (h : Heap) : Prop where
  at_ : ∀ x ∈ ls, TabKN K h x
  ne : (ls.map fun x => (ctN K x).2).Nodup
def tabsB (ls : List Str) (g : Addr → Option Obj) (K : PySem.W.Frag) : Bool := ls.all (tabN g K) && decide (ls.map fun x => (ctN K x).2).Nodup
def lookN (n : Nat) (ls : List Str) (fa : List He.Fa) (fn : List He5.DefA) (file : Str) (er : List ErrD) (ex : PySem.W.Frag → Bool) (g : Addr → Option Obj) : SeenL :=
  let K := frM n g
  ((He5.obsA fa fn K, er.map fun d => fnS K (d.at_ K), ex K && er.all fun d => d.ok K file), tabsB ls g K)
theorem tabsB_ok {n : Nat} {ls : List Str} {h : Heap} (e : tabsB ls h.get? (frM n h.get?) = true) : TabsK ls (frM n h.get?) h := by
  obtain ⟨e1, e2⟩ := He.ba e
  refine ⟨fun x hx => ?_, of_decide_eq_true e2⟩
  obtain ⟨h1, h2⟩ := He.ba (List.all_eq_true.mp e1 x hx)
  cases q : h.get? (ctN (frM n h.get?) x).2 with
  | none =>
    rw [q] at h2
    cases h2
  | some o =>
    rw [q] at h2
    exact ⟨h1, He.frT_none q h2, by rw [q, He.emptyTab_eq h2]⟩
def hookN (n : Nat) (ls : List Str) (fa : List He.Fa) (fn : List He5.DefA) (file : Str) (er : List ErrD) (ex : PySem.W.Frag → Bool) : PySem.W.Hook where
  α := SeenL
  obs := fun s => lookN n ls fa fn file er ex s.heap.get?
  val := fun _ => ((He5.valA fn, er.map ErrD.val, true), true)
  says := fun _ h => ∃ K : PySem.W.Frag, K.In h ∧ (He5.SaysA fa fn K ∧ ex K = true ∧ SaysE file er K) ∧ TabsK ls K h
  of := fun _ _ e => by
    have e1 := congrArg (fun z : SeenL => z.1.1) e
    have e2 := congrArg (fun z : SeenL => z.1.2.1) e
    have e3 := He.ba (congrArg (fun z : SeenL => z.1.2.2) e)
    have e4 := congrArg (fun z : SeenL => z.2) e
    exact ⟨_, He.frT_in, ⟨e1, e3.1, says_of e2 e3.2⟩, tabsB_ok e4⟩
  keeps := fun _ _ _ ⟨K, hK, c, t⟩ k => ⟨K, PySem.W.Frag.In.keeps hK k, c, fun x hx => ⟨(t.at_ x hx).hd, (t.at_ x hx).out, k _ _ (t.at_ x hx).emp⟩, t.ne⟩
theorem lookN_eq {n : Nat} {ls : List Str} {fa : List He.Fa} {fn : List He5.DefA} {file : Str} {er : List ErrD} {ex : PySem.W.Frag → Bool} {g : Addr → Option Obj} {s : Shared} (h : ∀ a, g a = s.heap.get? a) : lookN n ls fa fn file er ex g = (hookN n ls fa fn file er ex).obs s := by
  have e : g = s.heap.get? := funext h
  rw [e] <;> rfl
section
variable {P : Program} {w : World} {K : PySem.W.Frag} {mg : Str → Option Value} {base : Heap} {x y qual : Str} {params : Arguments} {body : List Stmt} {scope : Scope} {kws : List (Str × V)} {f : Addr} {fd : FuncData} {N ps : List Str} {k : Nat} {sp : Sp}
/-- a def's code is where the head saw it -/
theorem def_code (F : FunD K x qual params body scope [] kws (He.ga K y) fd) : fd.code = .ref (ctN K y).1 := by
  obtain ⟨oc, od, dV, kV, doc, pm, an, cdv, ct, osl, e, lk, hcd, _, _⟩ := F.ex
  obtain ⟨c, rfl⟩ := He.codeIn_ref hcd
  have hc : fd.code = .ref c := by rw [e] <;> rfl
  have := He.codeOf_eq (p := (y, none)) (show K.lookup (He.fAd K (y, none)) = _ from lk) hc
  rw [hc]
  show _ = Value.ref (He.codeOf K (y, none))
  rw [this]
/-- a def that makes lambdas -/
theorem fx_ofT {c : Addr} (F : FunD K x qual params body scope [] [] f fd) (hc : fd.code = .ref c) (S : FnScope N ps scope) (len : ∀ vs H Q E, sp vs H Q E → vs.length = ps.length)
    (hb : ∀ (kV doc pm : Value) (an : Option Addr) (cdv ct : Value) (us : List Value), us.length = ps.length → bindArgs (PySem.W.fnOf x qual params body scope .none kV doc pm an cdv ct) ⟨us, []⟩ = pure (ps.zip us))
    (h : ∀ (A : Around) (outer : List Env) (s : Shared) (H : Hp) (vs : List V) (Q : VK) (E : XK), Room k (A.deeper (envOfC qual scope s.heap.objs.size f (.ref c))) → sp vs H Q E →
      ∃ t, PSs (Cb P w K mg base N qual scope f (.ref c) A outer s H E).nox body t ∧ t { nx := fun _ H' => Q .non H', rt := Q } (start N vs) H) : Fx P w K mg base (k + 1) f sp := by
  have G : FnOk P w K mg base (L2.CX P w) (k + 1) f fd ps sp := by
    obtain ⟨oc, od, dV, kV, doc, pm, an, cdv, ct, osl, e, lk, hcd, _, _⟩ := F.ex
    subst e
    cases (show cdv = .ref c from hc)
    exact fn_of lk hcd S len fun A outer s H vs Q E hr hs => by
      obtain ⟨t, h1, h2⟩ := h A outer s H vs Q E hr hs
      exact ⟨t, h1.nox, h2⟩
  have R := G.raw (F.bindsN hb) .nil
  exact R.imp fun vs H Q E q => by rw [List.append_nil]; exact q
end
section
variable {X : Cx}
/-- x(lambda: body) of a def of the text, where others make lambdas too -/
theorem pe_lamFT {T : List (Addr × Str)} {TT : (XK → Hp → VK → Prop) → Hp → VK → Prop} {x a : Str} {g c P : Addr} {k j : Nat} {pg : Arguments} {bg : List Stmt} {sg : Scope} {fd : FuncData} {Ng : List Str} {params : Arguments} {body : Expr} {scope : Scope} {t : XK → TE} {p lpos pos : Pos}
    (M : Bk.Mk X T c P) (F : FunD X.K x x pg bg sg [] [] g fd) (hm : X.mg x = some (.ref g)) (Sg : FnScope Ng [a] sg)
    (hb : ∀ (kV doc pm : Value) (an : Option Addr) (cdv ct : Value) (us : List Value), us.length = [a].length → bindArgs (PySem.W.fnOf x x pg bg sg .none kV doc pm an cdv ct) ⟨us, []⟩ = pure ([a].zip us))
    (hG : ∀ cdv, GivesTo X Ng x sg g cdv bg a (X.env.qual ++ "<lambda>") TT) (hr : Room j X.A)
    (hbody : ∀ (A : Around) (outer : List Env) (s : Shared) (H : Hp) (E : XK) (f c' : Addr), Room k (A.deeper (lamEnv X scope s.heap.objs.size f c')) → PE (lamCx X A outer s H E scope f c') body (t E))
    (hj : k + 2 ≤ j := by decide) (hg : Gl X x := by rfl) (hNg : Ng[0]? = some a := by rfl) (hva : Vis sg a := by exact Or.inl rfl) (L : LamS X.env.scope scope := by exact lamS_by (by decide +kernel)) (hdef : defaultsOf params X.env = ([], []) := by rfl)
    (hbind : ∀ (q : Str) (cl : List (Str × Addr)) (pm cv ctv : Value), bindArgs (PySem.W.kla_fn "<lambda>" q params body scope cl pm cv ctv) ⟨[], []⟩ = pure [] := by intros; rfl)
    (hdb : (x == ("__debug__" : Str)) = false := by decide) (hd : (a == ("__debug__" : Str)) = false := by decide) (hcd : (a == ("__classdict__" : Str)) = false := by decide) :
    PE X (.Call (.Name x p) [.Lambda params body scope lpos] [] pos) (tLam T TT t) := by
  have B := F.bindsN (ps := [a]) hb
  obtain ⟨oc, od, dV, kV, doc, pm, an, cdv, ct, osl, e, lk, hcg, _, _⟩ := F.ex
  subst e
  exact pe_lamcall hg hm F.kp lk hcg B Sg hNg hva (hG cdv) M.tb M.co M.mem M.one (hr.mono hj) L hdef hbind hbody hdb hd hcd
/-- a lambda's making, where others make lambdas too -/
def tLamT (X : Cx) (T : List (Addr × Str)) (k : Nat) (t : XK → TE) : TE := fun σ H Q => Tabs T H ∧ ∀ f H1, ExtN H H1 → Tabs T H1 → H f = none → LamV X k H1 f t → Q (.ref f) H1
theorem pe_lamT {T : List (Addr × Str)} {c P : Addr} {k : Nat} {params : Arguments} {body : Expr} {scope : Scope} {t : XK → TE} {pos : Pos} (M : Bk.Mk X T c P)
    (hbody : ∀ (A : Around) (outer : List Env) (s : Shared) (H : Hp) (E : XK) (f c' : Addr), Room k (A.deeper (lamEnv X scope s.heap.objs.size f c')) → PE (lamCx X A outer s H E scope f c') body (t E))
    (L : LamSD X.N X.env.scope scope := by exact lamSD_by (by decide +kernel)) (hdef : defaultsOf params X.env = ([], []) := by rfl)
    (hbind : ∀ (q : Str) (cl : List (Str × Addr)) (doc pm cv ctv : Value), bindArgs (PySem.W.kdv_fn "<lambda>" q params (.expr body) scope cl .none doc pm cv ctv) ⟨[], []⟩ = pure [] := by intros; rfl) :
    PE X (.Lambda params body scope pos) (tLamT X T k t) := by
  constructor
  rintro pins s σ H Q I ⟨hT, h⟩
  refine PySem.W.kla_eval hdef ?_
  rw [makeFunction_eq]
  simp only [List.zip_nil_right, List.filterMap_nil, List.isEmpty_nil, if_true, pure_bind]
  refine lam_tail I M hT L fun f c' doc pm ctv H1 s' I1 eN T1 nf ef ec => ⟨.ref f, H1, I1, rfl, h f H1 eN T1 nf ?_⟩
  exact ⟨params, body, scope, .none, doc, pm, ctv, c', [], ef, ec, .inl ⟨rfl, rfl, hbind _ _ _ _ _ _⟩, fun x hx => (List.not_mem_nil hx).elim, L, hbody⟩
theorem pe_lamDT {T : List (Addr × Str)} {c P : Addr} {k : Nat} {params : Arguments} {body : Expr} {scope : Scope} {t : XK → TE} {pos dpos : Pos} {i : Int} {j : Nat} {a : Str} (M : Bk.Mk X T c P)
    (hbody : ∀ (A : Around) (outer : List Env) (s : Shared) (H : Hp) (E : XK) (f c' : Addr), Room k (A.deeper (lamEnv X scope s.heap.objs.size f c')) → PE (lamCx X A outer s H E scope f c') body (t E))
    (ha : scope.names.lookup a = some .local) (hdef : params.defaults = [.Constant (.int i) j dpos] := by rfl) (hkd : params.kw_defaults = [] := by rfl) (L : LamSD X.N X.env.scope scope := by exact lamSD_by (by decide +kernel))
    (hbind : ∀ (q : Str) (cl : List (Str × Addr)) (doc pm cv ctv u : Value) (t : Addr), ∃ k : Option (Array Value) → Sem (List (Str × Value)), bindArgs (PySem.W.kdv_fn "<lambda>" q params (.expr body) scope cl (.ref t) doc pm cv ctv) ⟨[], []⟩ = seqItems? (.ref t) >>= k ∧ k (some #[u]) = pure [(a, u)] := by intros; exact ⟨_, rfl, rfl⟩) :
    PE X (.Lambda params body scope pos) (tLamT X T k t) := by
  constructor
  rintro pins s σ H Q I ⟨hT, h⟩
  refine PySem.W.kdv_lam (hdef ▸ rfl) hkd ?_
  rw [hdef]
  refine PySem.W.kdv_all1 (thn ((pe_int (pos := dpos)).run pins s σ H (fun v H1 => v = .int i ∧ H1 = H) I ⟨rfl, rfl⟩) ?_)
  rintro u s1 ⟨v, H1, I1, _, rfl, rfl⟩
  refine PySem.W.kdv_all0 ?_
  rw [makeFunction_eq]
  simp only [List.zip_nil_right, List.filterMap_nil, List.isEmpty_nil, List.isEmpty_cons, if_true, pure_bind, Bool.false_eq_true, if_false]
  refine wpAny_bind (wpAny_newTextTuple ?_)
  obtain ⟨nt, I2⟩ := ext_new (φ := fun h => h.get? s1.heap.objs.size = some (PySem.W.kdv_tup [u])) (o := PySem.W.kdv_tup [u]) (t' := s1.toks) I1 (fun _ _ e => e) (Nat.le_refl _) (Heap.get?_push_size _ rfl) rfl fun _ _ e st => st _ e
  refine lam_tail I2 M (tabs_upd hT nt) L fun f c' doc pm ctv H3 s' I3 eN T3 nf ef ec => ⟨.ref f, H3, I3, rfl, h f H3 ((upd_ext nt).trans eN) T3 ?_ ⟨params, body, scope, .ref s1.heap.objs.size, doc, pm, ctv, c', [(a, u)], ef, ec, ?_, ?_, L, hbody⟩⟩
  · exact (upd_ne (a := s1.heap.objs.size) (fun z => by rw [z, upd_same] at nf; cases nf)).symm.trans nf
  · obtain ⟨k, k1, k2⟩ := hbind (X.env.qual ++ "<lambda>") (cloFrom X.env.cells scope.names []) doc pm (.ref c') ctv u s1.heap.objs.size
    exact .inr ⟨s1.heap.objs.size, a, u, k, rfl, rfl, eN _ _ upd_same rawT_ne, k1, k2⟩
  · intro x hx
    rw [List.mem_singleton.mp hx]
    exact ha
variable {k j : Nat} {f C : Addr} {sp : Sp} {x : Str} {p pos : Pos} {e : Expr} {es : List Expr} {t : TA} {E : XK}
/-- C(e, ..) whose __init__ may raise, within a lambda -/
theorem pe_mkW (M : L2.Mk X.K C f) (F : Fx X.prog X.w X.K X.mg X.base k f sp) (hr : Room j X.A) (hg : Gl X x) (hm : X.mg x = some (.ref C)) (tk : Takes X (fun cls d _ H' => E cls d H')) (ha : PA X (e :: es) t) (hj : k + 1 ≤ j := by decide) (hdb : (x == ("__debug__" : Str)) = false := by decide)
    (he : starEach (e :: es) X.env = (false, eval e X.env) :: starEach es X.env := by rfl) (hpl : (backTo pos (starEach es X.env)).any (·.1) = false := by rfl) : PE X (.Call (.Name x p) (e :: es) [] pos) (StX.tMakeR C sp E t) :=
  StX.pe_makeR M F (hr.mono hj) hg hm (passes_call tk fun _ _ _ _ h => h) ha hdb he hpl
end
end Bk
/-! len(set(xs)) of any ints -/
namespace Bk
open PySem PySem.Spec PyProof.Rows L2
/-- how many different ones -/
def difs (ns : List Int) : Nat := (PyProof.Rows.firstMet (fun i => ns.getD i 0) ns.length).length
theorem sd_if (l : List Int) (x : Int) : PyProof.Rows.step_dedup l x = if l.any (· == x) = true then l else l ++ [x] := rfl
theorem met_le (f : Nat → Int) : ∀ n, (PyProof.Rows.firstMet f n).length ≤ n
  | 0 => Nat.le_refl _
  | n + 1 => by
    have ih := met_le f n
    rw [PyProof.Rows.firstMet_succ, sd_if]
    split
    · omega
    · rw [List.length_append, List.length_singleton]; omega
theorem met_mem (f : Nat → Int) : ∀ n i, i < n → f i ∈ PyProof.Rows.firstMet f n
  | 0, i, h => absurd h (Nat.not_lt_zero _)
  | n + 1, i, h => by
    rw [PyProof.Rows.firstMet_succ, sd_if]
    by_cases hi : i < n
    · have ih := met_mem f n i hi
      split
      · exact ih
      · exact List.mem_append_left _ ih
    · have e : i = n := by omega
      subst e
      split
      · rename_i hb
        obtain ⟨y, hy, ey⟩ := List.any_eq_true.mp hb
        rw [← eq_of_beq ey]
        exact hy
      · exact List.mem_append_right _ (List.mem_singleton.mpr rfl)
/-- two alike: fewer -/
theorem met_lt (f : Nat → Int) {i j : Nat} (hij : i < j) (e : f i = f j) : ∀ n, j < n → (PyProof.Rows.firstMet f n).length < n
  | 0, h => absurd h (Nat.not_lt_zero _)
  | n + 1, h => by
    rw [PyProof.Rows.firstMet_succ, sd_if]
    by_cases hj : j < n
    · have ih := met_lt f hij e n hj
      split
      · omega
      · rw [List.length_append, List.length_singleton]; omega
    · have e2 : j = n := by omega
      subst e2
      have hm := met_mem f j i hij
      have hle := met_le f j
      rw [if_pos (List.any_eq_true.mpr ⟨f i, hm, by rw [e]; exact beq_self_eq_true _⟩)]
      omega
theorem difs_nodup {ns : List Int} (h : ns.Nodup) : difs ns = ns.length := by
  unfold difs
  rw [RZ.firstMet_nodup h _ (Nat.le_refl _), List.take_length]
theorem difs_lt {ns : List Int} {i j : Nat} {x : Int} (hij : i < j) (hi : ns[i]? = some x) (hj : ns[j]? = some x) : difs ns < ns.length := by
  refine met_lt _ hij ?_ _ (List.getElem?_eq_some_iff.mp hj).1
  rw [List.getD_eq_getElem?_getD, List.getD_eq_getElem?_getD, hi, hj]
def tLenSetF (K : PySem.W.Frag) (ta : TE) : TE := fun σ H Q => ta σ H fun x H1 => ∃ (l : Addr) (ns : List Int), x = .ref l ∧ SqL K H1 l (ns.map V.int) ∧ ns.length ≤ 4000 ∧ Q (.int (difs ns : Nat)) H1
theorem pe_lenSetF {X : Cx} {a : Expr} {ta : TE} {p p2 q pos : Pos} (hg : Gl X "len") (hm : X.mg "len" = none) (hg2 : Gl X "set") (hm2 : X.mg "set" = none) (ha : PE X a ta) (hc : X.calm = true := by rfl)
    (na : starEach [a] X.env = (false, eval a X.env) :: starEach [] X.env := by rfl) : PE X (.Call (.Name "len" p) [.Call (.Name "set" p2) [a] [] q] [] pos) (tLenSetF X.K ta) := by
  refine ⟨fun pins s σ H Q I h => ?_⟩
  refine Call_ (ld_blt I hg hm boot_len (PyProof.Rows.callWith_builtin1 (PyProof.Rows.args_cons ?_ rfl) rfl rfl))
  refine Call_ (ld_blt I hg2 hm2 boot_set (PyProof.Rows.callWith_type1 (PyProof.Rows.args_cons (thn (ha.run pins s σ H _ I h) ?_) na) na rfl))
  rintro v s1 ⟨x, H1, I1, r1, l, ns, rfl, hq, hl, q1⟩
  cases r1
  obtain ⟨its, r, pl, hz⟩ := I1.list hq
  have size : its.toArray.size = ns.length := by rw [List.size_toArray, ← r.length, List.length_map]
  refine PyProof.Rows.args_nil (call_set_list (I1.ok.hd hc) pl.isList (by simpa using RZ.intsAre_vals r) (by rw [size]; unfold scanBound; omega) fun h' tk made kept => ?_)
  rw [size] at made
  obtain ⟨o, es, ep, t, ho, hex, hd, _, _, _, hf, hn⟩ := made
  have hn : es.size = difs ns := hn
  have fits : es.size < 2 ^ 63 := by
    have := met_le (fun i => ns.getD i 0) ns.length
    have : difs ns ≤ ns.length := this
    omega
  exact PyProof.Rows.args_nil (call_len_set ho hex hd hf (by omega) ⟨.int (difs ns : Nat), H1, (I1.kept fun b o e => kept b o (Heap.lt_size e) e : Inv X pins σ H1 { s1 with heap := h', toks := tk }).tok _, ⟨_, by rw [hn]⟩, q1⟩)
end Bk
namespace K
open PySem PySem.Spec PyProof.Rows L2 Bk
def topS (i : Nat) : Stmt := PySem.Challenge.pw_bucketline_k58_whole_hidden_paces.main.body.getD i (.Pass ⟨0, 0, 0, 0⟩)
abbrev s_is_whole : Stmt := (topS 9)
abbrev s_in_range : Stmt := (topS 10)
abbrev s_check_number : Stmt := (topS 11)
abbrev s_check_person : Stmt := (topS 12)
abbrev s_place_of : Stmt := (topS 13)
abbrev s_is_name : Stmt := (topS 19)
abbrev s_check_people : Stmt := (topS 20)
abbrev s_durations_of : Stmt := (topS 21)
abbrev s_Lineu_initu : Stmt := (inClass (topS 22) 2)
abbrev s_Line_names : Stmt := (inClass (topS 22) 5)
abbrev s_Lineu_subu : Stmt := (inClass (topS 22) 12)
abbrev s_Lineu_addu : Stmt := (inClass (topS 22) 13)
abbrev s_Lineu_callu : Stmt := (inClass (topS 22) 16)
abbrev s_Line_trained : Stmt := (inClass (topS 22) 17)
abbrev s_turns : Stmt := (topS 23)
abbrev s_growths : Stmt := (topS 24)
abbrev s_hand_over_end : Stmt := (topS 25)
abbrev s_PaceObserveru_initu : Stmt := (inClass (topS 28) 0)
abbrev s_PaceObserver_possible_paces : Stmt := (inClass (topS 28) 1)
abbrev s_PaceObserver_records : Stmt := (inClass (topS 28) 2)
abbrev s_PaceObserveruheld_from : Stmt := (inClass (topS 28) 3)
abbrev s_PaceObserverufirst_pace : Stmt := (inClass (topS 28) 4)
abbrev s_PaceObserver_see : Stmt := (inClass (topS 28) 5)
abbrev s_PaceObserver_telling_bucket : Stmt := (inClass (topS 28) 6)
abbrev s_has_digits_only : Stmt := (topS 32)
abbrev s_is_number : Stmt := (topS 33)
abbrev s_wrong_word : Stmt := (topS 34)
abbrev s_parse_line : Stmt := (topS 35)
abbrev s__law_mix : Stmt := (topS 37)
abbrev s__law_next : Stmt := (topS 38)
abbrev s__law_alike : Stmt := (topS 39)
abbrev s__law_people : Stmt := (topS 40)
abbrev s__law_text : Stmt := (topS 41)
abbrev s__law_durations : Stmt := (topS 42)
abbrev s__law_held : Stmt := (topS 43)
abbrev s__law_seen : Stmt := (topS 44)
abbrev s_law : Stmt := (topS 45)
def fn0 : List He5.DefA := [⟨atG "is_whole", "is_whole", "is_whole", defArgs s_is_whole, defBody s_is_whole, defScope s_is_whole, [], []⟩,
  ⟨atG "in_range", "in_range", "in_range", defArgs s_in_range, defBody s_in_range, defScope s_in_range, [], []⟩,
  ⟨atG "check_number", "check_number", "check_number", defArgs s_check_number, defBody s_check_number, defScope s_check_number, [], []⟩,
  ⟨atG "check_person", "check_person", "check_person", defArgs s_check_person, defBody s_check_person, defScope s_check_person, [], []⟩,
  ⟨atG "place_of", "place_of", "place_of", defArgs s_place_of, defBody s_place_of, defScope s_place_of, [], []⟩,
  ⟨atG "is_name", "is_name", "is_name", defArgs s_is_name, defBody s_is_name, defScope s_is_name, [], []⟩,
  ⟨atG "check_people", "check_people", "check_people", defArgs s_check_people, defBody s_check_people, defScope s_check_people, [], []⟩,
  ⟨atG "durations_of", "durations_of", "durations_of", defArgs s_durations_of, defBody s_durations_of, defScope s_durations_of, [], []⟩,
  ⟨atM "Line" "__init__", "__init__", "Line.__init__", defArgs s_Lineu_initu, defBody s_Lineu_initu, defScope s_Lineu_initu, [], []⟩,
  ⟨atP "Line" "names", "names", "Line.names", defArgs s_Line_names, defBody s_Line_names, defScope s_Line_names, [], []⟩]
def fn1 : List He5.DefA := [⟨atM "Line" "__sub__", "__sub__", "Line.__sub__", defArgs s_Lineu_subu, defBody s_Lineu_subu, defScope s_Lineu_subu, [], []⟩,
  ⟨atM "Line" "__add__", "__add__", "Line.__add__", defArgs s_Lineu_addu, defBody s_Lineu_addu, defScope s_Lineu_addu, [], []⟩,
  ⟨atM "Line" "__call__", "__call__", "Line.__call__", defArgs s_Lineu_callu, defBody s_Lineu_callu, defScope s_Lineu_callu, [], []⟩,
  ⟨atM "Line" "trained", "trained", "Line.trained", defArgs s_Line_trained, defBody s_Line_trained, defScope s_Line_trained, [], []⟩,
  ⟨atG "turns", "turns", "turns", defArgs s_turns, defBody s_turns, defScope s_turns, [], []⟩,
  ⟨atG "growths", "growths", "growths", defArgs s_growths, defBody s_growths, defScope s_growths, [], []⟩,
  ⟨atG "hand_over_end", "hand_over_end", "hand_over_end", defArgs s_hand_over_end, defBody s_hand_over_end, defScope s_hand_over_end, [], []⟩,
  ⟨atM "PaceObserver" "__init__", "__init__", "PaceObserver.__init__", defArgs s_PaceObserveru_initu, defBody s_PaceObserveru_initu, defScope s_PaceObserveru_initu, [], []⟩,
  ⟨atP "PaceObserver" "possible_paces", "possible_paces", "PaceObserver.possible_paces", defArgs s_PaceObserver_possible_paces, defBody s_PaceObserver_possible_paces, defScope s_PaceObserver_possible_paces, [], []⟩,
  ⟨atP "PaceObserver" "records", "records", "PaceObserver.records", defArgs s_PaceObserver_records, defBody s_PaceObserver_records, defScope s_PaceObserver_records, [], []⟩]
def fn2 : List He5.DefA := [⟨atM "PaceObserver" "_held_from", "_held_from", "PaceObserver._held_from", defArgs s_PaceObserveruheld_from, defBody s_PaceObserveruheld_from, defScope s_PaceObserveruheld_from, [], []⟩,
  ⟨atM "PaceObserver" "_first_pace", "_first_pace", "PaceObserver._first_pace", defArgs s_PaceObserverufirst_pace, defBody s_PaceObserverufirst_pace, defScope s_PaceObserverufirst_pace, [], []⟩,
  ⟨atM "PaceObserver" "see", "see", "PaceObserver.see", defArgs s_PaceObserver_see, defBody s_PaceObserver_see, defScope s_PaceObserver_see, [], []⟩,
  ⟨atM "PaceObserver" "telling_bucket", "telling_bucket", "PaceObserver.telling_bucket", defArgs s_PaceObserver_telling_bucket, defBody s_PaceObserver_telling_bucket, defScope s_PaceObserver_telling_bucket, [], []⟩,
  ⟨atG "has_digits_only", "has_digits_only", "has_digits_only", defArgs s_has_digits_only, defBody s_has_digits_only, defScope s_has_digits_only, [], []⟩,
  ⟨atG "is_number", "is_number", "is_number", defArgs s_is_number, defBody s_is_number, defScope s_is_number, [], []⟩,
  ⟨atG "wrong_word", "wrong_word", "wrong_word", defArgs s_wrong_word, defBody s_wrong_word, defScope s_wrong_word, [], []⟩,
  ⟨atG "parse_line", "parse_line", "parse_line", defArgs s_parse_line, defBody s_parse_line, defScope s_parse_line, [], []⟩,
  ⟨atG "_law_mix", "_law_mix", "_law_mix", defArgs s__law_mix, defBody s__law_mix, defScope s__law_mix, [], []⟩,
  ⟨atG "_law_next", "_law_next", "_law_next", defArgs s__law_next, defBody s__law_next, defScope s__law_next, [], []⟩]
def fn3 : List He5.DefA := [⟨atG "_law_alike", "_law_alike", "_law_alike", defArgs s__law_alike, defBody s__law_alike, defScope s__law_alike, [], []⟩,
  ⟨atG "_law_people", "_law_people", "_law_people", defArgs s__law_people, defBody s__law_people, defScope s__law_people, [], []⟩,
  ⟨atG "_law_text", "_law_text", "_law_text", defArgs s__law_text, defBody s__law_text, defScope s__law_text, [], []⟩,
  ⟨atG "_law_durations", "_law_durations", "_law_durations", defArgs s__law_durations, defBody s__law_durations, defScope s__law_durations, [], []⟩,
  ⟨atG "_law_held", "_law_held", "_law_held", defArgs s__law_held, defBody s__law_held, defScope s__law_held, [], []⟩,
  ⟨atG "_law_seen", "_law_seen", "_law_seen", defArgs s__law_seen, defBody s__law_seen, defScope s__law_seen, [], []⟩,
  ⟨atG "law", "law", "law", defArgs s_law, defBody s_law, defScope s_law, [], []⟩]
def fnl : List He5.DefA := fn0 ++ fn1 ++ fn2 ++ fn3
def fa0 : List He.Fa := [.glo "is_whole", .glo "in_range", .glo "check_number", .glo "check_person", .glo "place_of", .glo "is_name", .glo "check_people", .glo "durations_of", .glo "turns", .glo "growths", .glo "hand_over_end", .glo "has_digits_only", .glo "is_number", .glo "wrong_word", .glo "parse_line", .glo "_law_mix", .glo "_law_next", .glo "_law_alike", .glo "_law_people", .glo "_law_text"]
def fa1 : List He.Fa := [.glo "_law_durations", .glo "_law_held", .glo "_law_seen", .glo "law", .glo "LineError", .glo "InvalidLine", .glo "UnknownPerson", .glo "InvalidNumber", .glo "Contradiction", .glo "InvalidText", .glo "Line", .glo "PaceObserver", .free "NotImplemented", .free "all", .free "bool", .free "dict", .free "enumerate", .free "int", .free "isinstance", .free "len"]
def fa2 : List He.Fa := [.free "list", .free "max", .free "min", .free "property", .free "range", .free "set", .free "sorted", .free "str", .free "sum", .free "tuple", .free "zip", .str "LETTERS" "abcdefghijklmnopqrstuvwxyz", .int "MAX_LETTERS" 8, .int "MIN_PEOPLE" 2, .int "MAX_BUCKET" 1000000000000000000, .int "MAX_LIMIT" 200, .str "DIGITS" "0123456789", .int "MAX_DIGITS" 4, .meth "Line" "__init__", .meth "Line" "__sub__"]
def fa3 : List He.Fa := [.meth "Line" "__add__", .meth "Line" "__call__", .meth "Line" "trained", .meth "PaceObserver" "__init__", .meth "PaceObserver" "_held_from", .meth "PaceObserver" "_first_pace", .meth "PaceObserver" "see", .meth "PaceObserver" "telling_bucket", .cls "Line", .mkr "Line", .noat "Line" "_people", .noat "Line" "_names", .noat "Line" "_durations", .cls "PaceObserver", .mkr "PaceObserver", .noat "PaceObserver" "_line", .noat "PaceObserver" "_hidden", .noat "PaceObserver" "_least", .noat "PaceObserver" "_greatest", .noat "PaceObserver" "_seen"]
def fal : List He.Fa := fa0 ++ fa1 ++ fa2 ++ fa3
def exl (K : PySem.W.Frag) : List Bool := [isProp K "Line" "people",
  isProp K "Line" "names",
  isProp K "Line" "durations",
  isProp K "Line" "pace",
  isCallO K "Line",
  isOps K "Line",
  isConC K "Line" "MAX_PEOPLE" 12,
  isConC K "Line" "MAX_PACE" 1000,
  isIsi K "Line",
  isProp K "PaceObserver" "possible_paces",
  isProp K "PaceObserver" "records",
  isOxc K "Contradiction",
  isExm K "Contradiction" "Contradiction" true]
def exB (K : PySem.W.Frag) : Bool := (exl K).all id
abbrev R : PySem.W.OpenRow := PySem.W.OpenLaw.row PySem.Challenge.rw_bucketline_k58_whole_hidden_paces
abbrev hk : PySem.W.Hook := bkHook 6 fal fnl exB
def ob (s : PySem.W.SharedT) : Bk.Seen := look 6 fal fnl exB (HandSHeadRun.getT s)
theorem ob_eq (s : PySem.W.SharedT) : ob s = hk.obs s.abs := look_eq (HandSHeadRun.getT_eq s)
def lo : List PySem.Str := (["_wall", "LineError", "InvalidLine", "UnknownPerson", "InvalidNumber", "Contradiction", "InvalidText", "is_whole", "in_range", "check_number", "check_person", "place_of", "LETTERS", "MAX_LETTERS", "MIN_PEOPLE", "MAX_BUCKET", "is_name", "check_people", "durations_of", "Line"] : List PySem.Str) ++ (["turns", "growths", "hand_over_end", "MAX_LIMIT", "PaceObserver", "DIGITS", "MAX_DIGITS", "has_digits_only", "is_number", "wrong_word", "parse_line", "_law_mix", "_law_next", "_law_alike", "_law_people", "_law_text", "_law_durations", "_law_held", "_law_seen"] : List PySem.Str)
structure Tx (K : PySem.W.Frag) (mg : Str → Option Value) : Prop where
  g_is_whole : mg "is_whole" = some (.ref (He.ga K "is_whole"))
  g_in_range : mg "in_range" = some (.ref (He.ga K "in_range"))
  g_check_number : mg "check_number" = some (.ref (He.ga K "check_number"))
  g_check_person : mg "check_person" = some (.ref (He.ga K "check_person"))
  g_place_of : mg "place_of" = some (.ref (He.ga K "place_of"))
  g_is_name : mg "is_name" = some (.ref (He.ga K "is_name"))
  g_check_people : mg "check_people" = some (.ref (He.ga K "check_people"))
  g_durations_of : mg "durations_of" = some (.ref (He.ga K "durations_of"))
  g_turns : mg "turns" = some (.ref (He.ga K "turns"))
  g_growths : mg "growths" = some (.ref (He.ga K "growths"))
  g_hand_over_end : mg "hand_over_end" = some (.ref (He.ga K "hand_over_end"))
  g_has_digits_only : mg "has_digits_only" = some (.ref (He.ga K "has_digits_only"))
  g_is_number : mg "is_number" = some (.ref (He.ga K "is_number"))
  g_wrong_word : mg "wrong_word" = some (.ref (He.ga K "wrong_word"))
  g_parse_line : mg "parse_line" = some (.ref (He.ga K "parse_line"))
  g__law_mix : mg "_law_mix" = some (.ref (He.ga K "_law_mix"))
  g__law_next : mg "_law_next" = some (.ref (He.ga K "_law_next"))
  g__law_alike : mg "_law_alike" = some (.ref (He.ga K "_law_alike"))
  g__law_people : mg "_law_people" = some (.ref (He.ga K "_law_people"))
  g__law_text : mg "_law_text" = some (.ref (He.ga K "_law_text"))
  g__law_durations : mg "_law_durations" = some (.ref (He.ga K "_law_durations"))
  g__law_held : mg "_law_held" = some (.ref (He.ga K "_law_held"))
  g__law_seen : mg "_law_seen" = some (.ref (He.ga K "_law_seen"))
  g_law : mg "law" = some (.ref (He.ga K "law"))
  g_LineError : mg "LineError" = some (.ref (He.ga K "LineError"))
  g_InvalidLine : mg "InvalidLine" = some (.ref (He.ga K "InvalidLine"))
  g_UnknownPerson : mg "UnknownPerson" = some (.ref (He.ga K "UnknownPerson"))
  g_InvalidNumber : mg "InvalidNumber" = some (.ref (He.ga K "InvalidNumber"))
  g_Contradiction : mg "Contradiction" = some (.ref (He.ga K "Contradiction"))
  g_InvalidText : mg "InvalidText" = some (.ref (He.ga K "InvalidText"))
  g_Line : mg "Line" = some (.ref (He.ga K "Line"))
  g_PaceObserver : mg "PaceObserver" = some (.ref (He.ga K "PaceObserver"))
  m_NotImplemented : mg "NotImplemented" = none
  m_all : mg "all" = none
  m_bool : mg "bool" = none
  m_dict : mg "dict" = none
  m_enumerate : mg "enumerate" = none
  m_int : mg "int" = none
  m_isinstance : mg "isinstance" = none
  m_len : mg "len" = none
  m_list : mg "list" = none
  m_max : mg "max" = none
  m_min : mg "min" = none
  m_property : mg "property" = none
  m_range : mg "range" = none
  m_set : mg "set" = none
  m_sorted : mg "sorted" = none
  m_str : mg "str" = none
  m_sum : mg "sum" = none
  m_tuple : mg "tuple" = none
  m_zip : mg "zip" = none
  c_LETTERS : ∃ t, mg "LETTERS" = some (.str "abcdefghijklmnopqrstuvwxyz" t)
  c_MAX_LETTERS : ∃ t, mg "MAX_LETTERS" = some (.int 8 t)
  c_MIN_PEOPLE : ∃ t, mg "MIN_PEOPLE" = some (.int 2 t)
  c_MAX_BUCKET : ∃ t, mg "MAX_BUCKET" = some (.int 1000000000000000000 t)
  c_MAX_LIMIT : ∃ t, mg "MAX_LIMIT" = some (.int 200 t)
  c_DIGITS : ∃ t, mg "DIGITS" = some (.str "0123456789" t)
  c_MAX_DIGITS : ∃ t, mg "MAX_DIGITS" = some (.int 4 t)
  me_Lineu_initu : Meth K (He.ga K "Line") "__init__" (He.ma K (He.ga K "Line") "__init__")
  me_Lineu_subu : Meth K (He.ga K "Line") "__sub__" (He.ma K (He.ga K "Line") "__sub__")
  me_Lineu_addu : Meth K (He.ga K "Line") "__add__" (He.ma K (He.ga K "Line") "__add__")
  me_Lineu_callu : Meth K (He.ga K "Line") "__call__" (He.ma K (He.ga K "Line") "__call__")
  me_Line_trained : Meth K (He.ga K "Line") "trained" (He.ma K (He.ga K "Line") "trained")
  me_PaceObserveru_initu : Meth K (He.ga K "PaceObserver") "__init__" (He.ma K (He.ga K "PaceObserver") "__init__")
  me_PaceObserveruheld_from : Meth K (He.ga K "PaceObserver") "_held_from" (He.ma K (He.ga K "PaceObserver") "_held_from")
  me_PaceObserverufirst_pace : Meth K (He.ga K "PaceObserver") "_first_pace" (He.ma K (He.ga K "PaceObserver") "_first_pace")
  me_PaceObserver_see : Meth K (He.ga K "PaceObserver") "see" (He.ma K (He.ga K "PaceObserver") "see")
  me_PaceObserver_telling_bucket : Meth K (He.ga K "PaceObserver") "telling_bucket" (He.ma K (He.ga K "PaceObserver") "telling_bucket")
  cl_Line : Cls K (He.ga K "Line")
  mk_Line : Mk K (He.ga K "Line") (He.ma K (He.ga K "Line") "__init__")
  no_Line_people : NoAttr K (He.ga K "Line") "_people"
  no_Line_names : NoAttr K (He.ga K "Line") "_names"
  no_Line_durations : NoAttr K (He.ga K "Line") "_durations"
  cl_PaceObserver : Cls K (He.ga K "PaceObserver")
  mk_PaceObserver : Mk K (He.ga K "PaceObserver") (He.ma K (He.ga K "PaceObserver") "__init__")
  no_PaceObserver_line : NoAttr K (He.ga K "PaceObserver") "_line"
  no_PaceObserver_hidden : NoAttr K (He.ga K "PaceObserver") "_hidden"
  no_PaceObserver_least : NoAttr K (He.ga K "PaceObserver") "_least"
  no_PaceObserver_greatest : NoAttr K (He.ga K "PaceObserver") "_greatest"
  no_PaceObserver_seen : NoAttr K (He.ga K "PaceObserver") "_seen"
  p_people : PropOf K (He.ga K "Line") "people" (He.ma K (He.ga K "Line") "people") (gt K "Line" "people")
  p_names : PropOf K (He.ga K "Line") "names" (He.ma K (He.ga K "Line") "names") (gt K "Line" "names")
  p_durations : PropOf K (He.ga K "Line") "durations" (He.ma K (He.ga K "Line") "durations") (gt K "Line" "durations")
  p_pace : PropOf K (He.ga K "Line") "pace" (He.ma K (He.ga K "Line") "pace") (gt K "Line" "pace")
  co_Line : StX.CallO K (He.ga K "Line") (He.ma K (He.ga K "Line") "__call__")
  op_Line : OpsOf K "Line"
  cc_MAX_PEOPLE : ConC K "Line" "MAX_PEOPLE" 12
  cc_MAX_PACE : ConC K "Line" "MAX_PACE" 1000
  isi_Line : IsiOf K "Line"
  p_possible_paces : PropOf K (He.ga K "PaceObserver") "possible_paces" (He.ma K (He.ga K "PaceObserver") "possible_paces") (gt K "PaceObserver" "possible_paces")
  p_records : PropOf K (He.ga K "PaceObserver") "records" (He.ma K (He.ga K "PaceObserver") "records") (gt K "PaceObserver" "records")
  ox_Contradiction : OxcOf K "Contradiction"
  em_CC : ExmOf K "Contradiction" "Contradiction" true
  F_is_whole : ∃ fd, FunD K "is_whole" "is_whole" (defArgs s_is_whole) (defBody s_is_whole) (defScope s_is_whole) [] [] (He.ga K "is_whole") fd
  F_in_range : ∃ fd, FunD K "in_range" "in_range" (defArgs s_in_range) (defBody s_in_range) (defScope s_in_range) [] [] (He.ga K "in_range") fd
  F_check_number : ∃ fd, FunD K "check_number" "check_number" (defArgs s_check_number) (defBody s_check_number) (defScope s_check_number) [] [] (He.ga K "check_number") fd
  F_check_person : ∃ fd, FunD K "check_person" "check_person" (defArgs s_check_person) (defBody s_check_person) (defScope s_check_person) [] [] (He.ga K "check_person") fd
  F_place_of : ∃ fd, FunD K "place_of" "place_of" (defArgs s_place_of) (defBody s_place_of) (defScope s_place_of) [] [] (He.ga K "place_of") fd
  F_is_name : ∃ fd, FunD K "is_name" "is_name" (defArgs s_is_name) (defBody s_is_name) (defScope s_is_name) [] [] (He.ga K "is_name") fd
  F_check_people : ∃ fd, FunD K "check_people" "check_people" (defArgs s_check_people) (defBody s_check_people) (defScope s_check_people) [] [] (He.ga K "check_people") fd
  F_durations_of : ∃ fd, FunD K "durations_of" "durations_of" (defArgs s_durations_of) (defBody s_durations_of) (defScope s_durations_of) [] [] (He.ga K "durations_of") fd
  F_Lineu_initu : ∃ fd, FunD K "__init__" "Line.__init__" (defArgs s_Lineu_initu) (defBody s_Lineu_initu) (defScope s_Lineu_initu) [] [] (He.ma K (He.ga K "Line") "__init__") fd
  F_Line_names : ∃ fd, FunD K "names" "Line.names" (defArgs s_Line_names) (defBody s_Line_names) (defScope s_Line_names) [] [] (gt K "Line" "names") fd
  F_Lineu_subu : ∃ fd, FunD K "__sub__" "Line.__sub__" (defArgs s_Lineu_subu) (defBody s_Lineu_subu) (defScope s_Lineu_subu) [] [] (He.ma K (He.ga K "Line") "__sub__") fd
  F_Lineu_addu : ∃ fd, FunD K "__add__" "Line.__add__" (defArgs s_Lineu_addu) (defBody s_Lineu_addu) (defScope s_Lineu_addu) [] [] (He.ma K (He.ga K "Line") "__add__") fd
  F_Lineu_callu : ∃ fd, FunD K "__call__" "Line.__call__" (defArgs s_Lineu_callu) (defBody s_Lineu_callu) (defScope s_Lineu_callu) [] [] (He.ma K (He.ga K "Line") "__call__") fd
  F_Line_trained : ∃ fd, FunD K "trained" "Line.trained" (defArgs s_Line_trained) (defBody s_Line_trained) (defScope s_Line_trained) [] [] (He.ma K (He.ga K "Line") "trained") fd
  F_turns : ∃ fd, FunD K "turns" "turns" (defArgs s_turns) (defBody s_turns) (defScope s_turns) [] [] (He.ga K "turns") fd
  F_growths : ∃ fd, FunD K "growths" "growths" (defArgs s_growths) (defBody s_growths) (defScope s_growths) [] [] (He.ga K "growths") fd
  F_hand_over_end : ∃ fd, FunD K "hand_over_end" "hand_over_end" (defArgs s_hand_over_end) (defBody s_hand_over_end) (defScope s_hand_over_end) [] [] (He.ga K "hand_over_end") fd
  F_PaceObserveru_initu : ∃ fd, FunD K "__init__" "PaceObserver.__init__" (defArgs s_PaceObserveru_initu) (defBody s_PaceObserveru_initu) (defScope s_PaceObserveru_initu) [] [] (He.ma K (He.ga K "PaceObserver") "__init__") fd
  F_PaceObserver_possible_paces : ∃ fd, FunD K "possible_paces" "PaceObserver.possible_paces" (defArgs s_PaceObserver_possible_paces) (defBody s_PaceObserver_possible_paces) (defScope s_PaceObserver_possible_paces) [] [] (gt K "PaceObserver" "possible_paces") fd
  F_PaceObserver_records : ∃ fd, FunD K "records" "PaceObserver.records" (defArgs s_PaceObserver_records) (defBody s_PaceObserver_records) (defScope s_PaceObserver_records) [] [] (gt K "PaceObserver" "records") fd
  F_PaceObserveruheld_from : ∃ fd, FunD K "_held_from" "PaceObserver._held_from" (defArgs s_PaceObserveruheld_from) (defBody s_PaceObserveruheld_from) (defScope s_PaceObserveruheld_from) [] [] (He.ma K (He.ga K "PaceObserver") "_held_from") fd
  F_PaceObserverufirst_pace : ∃ fd, FunD K "_first_pace" "PaceObserver._first_pace" (defArgs s_PaceObserverufirst_pace) (defBody s_PaceObserverufirst_pace) (defScope s_PaceObserverufirst_pace) [] [] (He.ma K (He.ga K "PaceObserver") "_first_pace") fd
  F_PaceObserver_see : ∃ fd, FunD K "see" "PaceObserver.see" (defArgs s_PaceObserver_see) (defBody s_PaceObserver_see) (defScope s_PaceObserver_see) [] [] (He.ma K (He.ga K "PaceObserver") "see") fd
  F_PaceObserver_telling_bucket : ∃ fd, FunD K "telling_bucket" "PaceObserver.telling_bucket" (defArgs s_PaceObserver_telling_bucket) (defBody s_PaceObserver_telling_bucket) (defScope s_PaceObserver_telling_bucket) [] [] (He.ma K (He.ga K "PaceObserver") "telling_bucket") fd
  F_has_digits_only : ∃ fd, FunD K "has_digits_only" "has_digits_only" (defArgs s_has_digits_only) (defBody s_has_digits_only) (defScope s_has_digits_only) [] [] (He.ga K "has_digits_only") fd
  F_is_number : ∃ fd, FunD K "is_number" "is_number" (defArgs s_is_number) (defBody s_is_number) (defScope s_is_number) [] [] (He.ga K "is_number") fd
  F_wrong_word : ∃ fd, FunD K "wrong_word" "wrong_word" (defArgs s_wrong_word) (defBody s_wrong_word) (defScope s_wrong_word) [] [] (He.ga K "wrong_word") fd
  F_parse_line : ∃ fd, FunD K "parse_line" "parse_line" (defArgs s_parse_line) (defBody s_parse_line) (defScope s_parse_line) [] [] (He.ga K "parse_line") fd
  F__law_mix : ∃ fd, FunD K "_law_mix" "_law_mix" (defArgs s__law_mix) (defBody s__law_mix) (defScope s__law_mix) [] [] (He.ga K "_law_mix") fd
  F__law_next : ∃ fd, FunD K "_law_next" "_law_next" (defArgs s__law_next) (defBody s__law_next) (defScope s__law_next) [] [] (He.ga K "_law_next") fd
  F__law_alike : ∃ fd, FunD K "_law_alike" "_law_alike" (defArgs s__law_alike) (defBody s__law_alike) (defScope s__law_alike) [] [] (He.ga K "_law_alike") fd
  F__law_people : ∃ fd, FunD K "_law_people" "_law_people" (defArgs s__law_people) (defBody s__law_people) (defScope s__law_people) [] [] (He.ga K "_law_people") fd
  F__law_text : ∃ fd, FunD K "_law_text" "_law_text" (defArgs s__law_text) (defBody s__law_text) (defScope s__law_text) [] [] (He.ga K "_law_text") fd
  F__law_durations : ∃ fd, FunD K "_law_durations" "_law_durations" (defArgs s__law_durations) (defBody s__law_durations) (defScope s__law_durations) [] [] (He.ga K "_law_durations") fd
  F__law_held : ∃ fd, FunD K "_law_held" "_law_held" (defArgs s__law_held) (defBody s__law_held) (defScope s__law_held) [] [] (He.ga K "_law_held") fd
  F__law_seen : ∃ fd, FunD K "_law_seen" "_law_seen" (defArgs s__law_seen) (defBody s__law_seen) (defScope s__law_seen) [] [] (He.ga K "_law_seen") fd
  F_law : ∃ fd, FunD K "law" "law" (defArgs s_law) (defBody s_law) (defScope s_law) [] [] (He.ga K "law") fd
theorem ex_at {K : PySem.W.Frag} (i : Nat) {b : Bool} (h : (exl K)[i]? = some b) (e : exB K = true) : b = true := List.all_eq_true.mp e b (List.mem_of_getElem? h)
theorem tx_of {K : PySem.W.Frag} {mg : Str → Option Value} {h : Heap} (X : K.In h) (G : h.Ns mainGlobals mg) (c : He5.SaysA fal fnl K) (e : exB K = true) : Tx K mg where
  g_is_whole := He.glo_ok X G (c.fact 0 (f := .glo "is_whole") rfl)
  g_in_range := He.glo_ok X G (c.fact 1 (f := .glo "in_range") rfl)
  g_check_number := He.glo_ok X G (c.fact 2 (f := .glo "check_number") rfl)
  g_check_person := He.glo_ok X G (c.fact 3 (f := .glo "check_person") rfl)
  g_place_of := He.glo_ok X G (c.fact 4 (f := .glo "place_of") rfl)
  g_is_name := He.glo_ok X G (c.fact 5 (f := .glo "is_name") rfl)
  g_check_people := He.glo_ok X G (c.fact 6 (f := .glo "check_people") rfl)
  g_durations_of := He.glo_ok X G (c.fact 7 (f := .glo "durations_of") rfl)
  g_turns := He.glo_ok X G (c.fact 8 (f := .glo "turns") rfl)
  g_growths := He.glo_ok X G (c.fact 9 (f := .glo "growths") rfl)
  g_hand_over_end := He.glo_ok X G (c.fact 10 (f := .glo "hand_over_end") rfl)
  g_has_digits_only := He.glo_ok X G (c.fact 11 (f := .glo "has_digits_only") rfl)
  g_is_number := He.glo_ok X G (c.fact 12 (f := .glo "is_number") rfl)
  g_wrong_word := He.glo_ok X G (c.fact 13 (f := .glo "wrong_word") rfl)
  g_parse_line := He.glo_ok X G (c.fact 14 (f := .glo "parse_line") rfl)
  g__law_mix := He.glo_ok X G (c.fact 15 (f := .glo "_law_mix") rfl)
  g__law_next := He.glo_ok X G (c.fact 16 (f := .glo "_law_next") rfl)
  g__law_alike := He.glo_ok X G (c.fact 17 (f := .glo "_law_alike") rfl)
  g__law_people := He.glo_ok X G (c.fact 18 (f := .glo "_law_people") rfl)
  g__law_text := He.glo_ok X G (c.fact 19 (f := .glo "_law_text") rfl)
  g__law_durations := He.glo_ok X G (c.fact 20 (f := .glo "_law_durations") rfl)
  g__law_held := He.glo_ok X G (c.fact 21 (f := .glo "_law_held") rfl)
  g__law_seen := He.glo_ok X G (c.fact 22 (f := .glo "_law_seen") rfl)
  g_law := He.glo_ok X G (c.fact 23 (f := .glo "law") rfl)
  g_LineError := He.glo_ok X G (c.fact 24 (f := .glo "LineError") rfl)
  g_InvalidLine := He.glo_ok X G (c.fact 25 (f := .glo "InvalidLine") rfl)
  g_UnknownPerson := He.glo_ok X G (c.fact 26 (f := .glo "UnknownPerson") rfl)
  g_InvalidNumber := He.glo_ok X G (c.fact 27 (f := .glo "InvalidNumber") rfl)
  g_Contradiction := He.glo_ok X G (c.fact 28 (f := .glo "Contradiction") rfl)
  g_InvalidText := He.glo_ok X G (c.fact 29 (f := .glo "InvalidText") rfl)
  g_Line := He.glo_ok X G (c.fact 30 (f := .glo "Line") rfl)
  g_PaceObserver := He.glo_ok X G (c.fact 31 (f := .glo "PaceObserver") rfl)
  m_NotImplemented := He.free_ok X G (c.fact 32 (f := .free "NotImplemented") rfl)
  m_all := He.free_ok X G (c.fact 33 (f := .free "all") rfl)
  m_bool := He.free_ok X G (c.fact 34 (f := .free "bool") rfl)
  m_dict := He.free_ok X G (c.fact 35 (f := .free "dict") rfl)
  m_enumerate := He.free_ok X G (c.fact 36 (f := .free "enumerate") rfl)
  m_int := He.free_ok X G (c.fact 37 (f := .free "int") rfl)
  m_isinstance := He.free_ok X G (c.fact 38 (f := .free "isinstance") rfl)
  m_len := He.free_ok X G (c.fact 39 (f := .free "len") rfl)
  m_list := He.free_ok X G (c.fact 40 (f := .free "list") rfl)
  m_max := He.free_ok X G (c.fact 41 (f := .free "max") rfl)
  m_min := He.free_ok X G (c.fact 42 (f := .free "min") rfl)
  m_property := He.free_ok X G (c.fact 43 (f := .free "property") rfl)
  m_range := He.free_ok X G (c.fact 44 (f := .free "range") rfl)
  m_set := He.free_ok X G (c.fact 45 (f := .free "set") rfl)
  m_sorted := He.free_ok X G (c.fact 46 (f := .free "sorted") rfl)
  m_str := He.free_ok X G (c.fact 47 (f := .free "str") rfl)
  m_sum := He.free_ok X G (c.fact 48 (f := .free "sum") rfl)
  m_tuple := He.free_ok X G (c.fact 49 (f := .free "tuple") rfl)
  m_zip := He.free_ok X G (c.fact 50 (f := .free "zip") rfl)
  c_LETTERS := He.str_ok X G (c.fact 51 (f := .str "LETTERS" "abcdefghijklmnopqrstuvwxyz") rfl)
  c_MAX_LETTERS := He.int_ok X G (c.fact 52 (f := .int "MAX_LETTERS" 8) rfl)
  c_MIN_PEOPLE := He.int_ok X G (c.fact 53 (f := .int "MIN_PEOPLE" 2) rfl)
  c_MAX_BUCKET := He.int_ok X G (c.fact 54 (f := .int "MAX_BUCKET" 1000000000000000000) rfl)
  c_MAX_LIMIT := He.int_ok X G (c.fact 55 (f := .int "MAX_LIMIT" 200) rfl)
  c_DIGITS := He.str_ok X G (c.fact 56 (f := .str "DIGITS" "0123456789") rfl)
  c_MAX_DIGITS := He.int_ok X G (c.fact 57 (f := .int "MAX_DIGITS" 4) rfl)
  me_Lineu_initu := He.meth_ok (c.fact 58 (f := .meth "Line" "__init__") rfl)
  me_Lineu_subu := He.meth_ok (c.fact 59 (f := .meth "Line" "__sub__") rfl)
  me_Lineu_addu := He.meth_ok (c.fact 60 (f := .meth "Line" "__add__") rfl)
  me_Lineu_callu := He.meth_ok (c.fact 61 (f := .meth "Line" "__call__") rfl)
  me_Line_trained := He.meth_ok (c.fact 62 (f := .meth "Line" "trained") rfl)
  me_PaceObserveru_initu := He.meth_ok (c.fact 63 (f := .meth "PaceObserver" "__init__") rfl)
  me_PaceObserveruheld_from := He.meth_ok (c.fact 64 (f := .meth "PaceObserver" "_held_from") rfl)
  me_PaceObserverufirst_pace := He.meth_ok (c.fact 65 (f := .meth "PaceObserver" "_first_pace") rfl)
  me_PaceObserver_see := He.meth_ok (c.fact 66 (f := .meth "PaceObserver" "see") rfl)
  me_PaceObserver_telling_bucket := He.meth_ok (c.fact 67 (f := .meth "PaceObserver" "telling_bucket") rfl)
  cl_Line := He.cls_ok (c.fact 68 (f := .cls "Line") rfl)
  mk_Line := He.mkr_ok (c.fact 69 (f := .mkr "Line") rfl)
  no_Line_people := He.noat_ok (c.fact 70 (f := .noat "Line" "_people") rfl)
  no_Line_names := He.noat_ok (c.fact 71 (f := .noat "Line" "_names") rfl)
  no_Line_durations := He.noat_ok (c.fact 72 (f := .noat "Line" "_durations") rfl)
  cl_PaceObserver := He.cls_ok (c.fact 73 (f := .cls "PaceObserver") rfl)
  mk_PaceObserver := He.mkr_ok (c.fact 74 (f := .mkr "PaceObserver") rfl)
  no_PaceObserver_line := He.noat_ok (c.fact 75 (f := .noat "PaceObserver" "_line") rfl)
  no_PaceObserver_hidden := He.noat_ok (c.fact 76 (f := .noat "PaceObserver" "_hidden") rfl)
  no_PaceObserver_least := He.noat_ok (c.fact 77 (f := .noat "PaceObserver" "_least") rfl)
  no_PaceObserver_greatest := He.noat_ok (c.fact 78 (f := .noat "PaceObserver" "_greatest") rfl)
  no_PaceObserver_seen := He.noat_ok (c.fact 79 (f := .noat "PaceObserver" "_seen") rfl)
  p_people := isProp_ok (ex_at 0 rfl e)
  p_names := isProp_ok (ex_at 1 rfl e)
  p_durations := isProp_ok (ex_at 2 rfl e)
  p_pace := isProp_ok (ex_at 3 rfl e)
  co_Line := isCallO_ok (ex_at 4 rfl e)
  op_Line := isOps_ok (ex_at 5 rfl e)
  cc_MAX_PEOPLE := isConC_ok (ex_at 6 rfl e)
  cc_MAX_PACE := isConC_ok (ex_at 7 rfl e)
  isi_Line := isIsi_ok (ex_at 8 rfl e)
  p_possible_paces := isProp_ok (ex_at 9 rfl e)
  p_records := isProp_ok (ex_at 10 rfl e)
  ox_Contradiction := isOxc_ok (ex_at 11 rfl e)
  em_CC := isExm_ok (ex_at 12 rfl e)
  F_is_whole := c.def_ 0 rfl
  F_in_range := c.def_ 1 rfl
  F_check_number := c.def_ 2 rfl
  F_check_person := c.def_ 3 rfl
  F_place_of := c.def_ 4 rfl
  F_is_name := c.def_ 5 rfl
  F_check_people := c.def_ 6 rfl
  F_durations_of := c.def_ 7 rfl
  F_Lineu_initu := c.def_ 8 rfl
  F_Line_names := c.def_ 9 rfl
  F_Lineu_subu := c.def_ 10 rfl
  F_Lineu_addu := c.def_ 11 rfl
  F_Lineu_callu := c.def_ 12 rfl
  F_Line_trained := c.def_ 13 rfl
  F_turns := c.def_ 14 rfl
  F_growths := c.def_ 15 rfl
  F_hand_over_end := c.def_ 16 rfl
  F_PaceObserveru_initu := c.def_ 17 rfl
  F_PaceObserver_possible_paces := c.def_ 18 rfl
  F_PaceObserver_records := c.def_ 19 rfl
  F_PaceObserveruheld_from := c.def_ 20 rfl
  F_PaceObserverufirst_pace := c.def_ 21 rfl
  F_PaceObserver_see := c.def_ 22 rfl
  F_PaceObserver_telling_bucket := c.def_ 23 rfl
  F_has_digits_only := c.def_ 24 rfl
  F_is_number := c.def_ 25 rfl
  F_wrong_word := c.def_ 26 rfl
  F_parse_line := c.def_ 27 rfl
  F__law_mix := c.def_ 28 rfl
  F__law_next := c.def_ 29 rfl
  F__law_alike := c.def_ 30 rfl
  F__law_people := c.def_ 31 rfl
  F__law_text := c.def_ 32 rfl
  F__law_durations := c.def_ 33 rfl
  F__law_held := c.def_ 34 rfl
  F__law_seen := c.def_ 35 rfl
  F_law := c.def_ 36 rfl
end K
namespace K
open PySem PySem.Spec PyProof.Rows L2 Bk
theorem run (w : World) : HandSHeadRun.RunEq R (PySem.W.view R.prog [45]) hk ob 9000 lo w := by
  intro os
  kernel_rfl
end K
/-! a dict comprehension over any walk; the dict of places -/
namespace Bk
open PySem PySem.Spec PyProof.Rows L2
theorem _root_.L2.Room.units1 {k : Nat} {A : Around} (r : Room k A) : A.units + 1 < cLine := by
  have := r.un
  omega
section
variable {J : It} {n : Nat} {G : Hp → Prop} {Y : Nat → Hp → V → Hp → Prop} {g : TG} {tk tv : TE} {vs : List Nat} {σ : L2.St} {H1 : Hp} {D : Addr} {Qd : Hp → Prop}
theorem dc_w (w : Walk J n G Y) (Pv : Nat → Hp → Prop) (h0 : Pv 0 (upd H1 D (.dK []))) (hG : ∀ i H, i ≤ n → Pv i H → G H)
    (hs : ∀ i x H H', i < n → Pv i H → Y i H x H' → g x (wipe σ vs) H' fun σ2 H2 => wipe σ2 vs = wipe σ vs ∧ tk σ2 H2 fun y H4 => tv σ2 H4 fun z H5 => ∃ kvs k, y = kV k ∧ H5 D = some (.dK kvs) ∧ kvs.length < sizeLine ∧ Pv (i + 1) (upd H5 D (.dK (putK kvs k z))))
    (hd : ∀ H, Pv n H → Qd H) :
    ∃ W : Nat → Nat → Hp → Prop, (∃ m, W 0 m (upd H1 D (.dK []))) ∧ ∀ i m H, W i m H →
      (J.stop i H ∧ Qd H) ∨ (J.go i H ∧ ∃ Nx : Hp → Prop, (∀ H', Nx H' → ∃ m', m' < m ∧ W (i + 1) m' H') ∧ ∀ x H', J.yld i H x H' → g x (wipe σ vs) H' fun σ2 H2 => wipe σ2 vs = wipe σ vs ∧ tYes σ2 H2 fun b H3 =>
        if b = true then tk σ2 H3 fun y H4 => tv σ2 H4 fun z H5 => ∃ kvs k, y = kV k ∧ H5 D = some (.dK kvs) ∧ kvs.length < sizeLine ∧ Nx (upd H5 D (.dK (putK kvs k z))) else Nx H3) := by
  refine ⟨fun i m H => m = n - i ∧ i ≤ n ∧ Pv i H, ⟨n, rfl, Nat.zero_le _, h0⟩, ?_⟩
  rintro i m H ⟨rfl, hi, p⟩
  have q := hG i H hi p
  by_cases hlt : i < n
  · refine .inr ⟨w.goes i H hlt q, Pv (i + 1), fun H' p' => ⟨n - (i + 1), by omega, rfl, hlt, p'⟩, fun x H' y => ?_⟩
    exact hs i x H H' hlt p (w.yields i H x H' hlt q y)
  · obtain rfl : i = n := by omega
    exact .inl ⟨w.stops H q, hd H p⟩
end
/-- names and their places -/
def plK (l : List Str) : List (Key × V) := l.zipIdx.map fun p => (Sum.inr p.1, V.int (p.2 : Nat))
theorem plK_len (l : List Str) : (plK l).length = l.length := by simp [plK]
theorem plK_snoc (l : List Str) (z : Str) : plK (l ++ [z]) = plK l ++ [(Sum.inr z, V.int (l.length : Nat))] := by
  unfold plK
  rw [List.zipIdx_append, List.map_append]
  simp
theorem find_pl (z : Str) : ∀ (l : List Str) (n : Nat), valV ((l.zipIdx n).map fun p => ((Sum.inr p.1 : Key), V.int (p.2 : Nat))) (Sum.inr z) = if z ∈ l then some (.int ((n + l.idxOf z : Nat) : Int)) else none
  | [], _ => by simp [valV]
  | x :: l, n => by
    rw [List.zipIdx_cons, List.map_cons]
    by_cases e : x = z
    · subst e
      rw [valV_pos rfl, if_pos (by simp)]
      simp
    · rw [valV_neg (by intro c; exact e (Sum.inr.inj c)), find_pl z l (n + 1), show (x :: l).idxOf z = l.idxOf z + 1 by rw [List.idxOf_cons, show (x == z) = false by simpa using e]; rfl]
      by_cases m : z ∈ l
      · rw [if_pos m, if_pos (List.mem_cons_of_mem _ m)]
        congr 3
        omega
      · rw [if_neg m, if_neg (fun c => by
          rcases List.mem_cons.mp c with c | c
          · exact e c.symm
          · exact m c)]
theorem plK_at (l : List Str) (z : Str) : valV (plK l) (Sum.inr z) = if z ∈ l then some (.int (l.idxOf z : Nat)) else none := by
  have := find_pl z l 0
  rw [Nat.zero_add] at this
  exact this
theorem plK_put (l : List Str) (z : Str) (h : z ∉ l) : putK (plK l) (Sum.inr z) (.int (l.length : Nat)) = plK (l ++ [z]) := by
  rw [plK_snoc]
  exact putK_new _ (by rw [plK_at, if_neg h])
/-! x = {k: v for ..} on one line, x a local -/
section
variable {X : Cx} {i : Nat} {y : Str} {py pq ps' : Pos} {kx vx tgt src : Expr} {cs : List Expr} {sc : Scope} {nm : List (Str × Nat)} {wi : TI} {g : TG} {tt : TT} {ta tb : TE}
theorem swD_true {l : Nat} {env : Env} {gs : List Comprehension} (hk : env.scope.kind = .function) (hy : env.scope.names.lookup y = some .local) (hl : (py.line == pq.line) = true)
    (ha : (sc.names.any fun (a, b) => a == y && (b == .local || b == .cell)) = false) : swapsWith (.DictComp kx vx gs sc pq) (some (.Name y py)) l env = pure true := by
  have e1 : env.kindOf y = some .local := hy
  have e2 : env.blockKind = .function := by
    unfold Env.blockKind
    rw [hk]
    rfl
  unfold swapsWith
  simp only [e2, e1, ha, Expr.pos, hl]
  rfl
theorem ps_setDc (hN : X.N.Nodup) (hy : X.N[i]? = some y) (hc : X.calm = true) (hyl : X.env.scope.names.lookup y = some .local) (hsw : swapsWith (.DictComp kx vx [⟨tgt, src, cs, 0⟩] sc pq) (some (.Name y py)) ps'.line X.env = pure true) (hi : PI X tgt src wi)
    (ok : BlkOk X.N X.env.scope sc nm)
    (h1 : ∀ (s : Shared) (H : Hp) (b : Addr) (cl : List (Str × Addr)) (fp : List Addr), PG (X.blk s H sc (compEnvC sc cl b X.env) fp) tgt g)
    (h2 : ∀ (s : Shared) (H : Hp) (b : Addr) (cl : List (Str × Addr)) (fp : List Addr), PTs (X.blk s H sc (compEnvC sc cl b X.env) fp) cs tt)
    (h3 : ∀ (s : Shared) (H : Hp) (b : Addr) (cl : List (Str × Addr)) (fp : List Addr), PE (X.blk s H sc (compEnvC sc cl b X.env) fp) kx ta)
    (h4 : ∀ (s : Shared) (H : Hp) (b : Addr) (cl : List (Str × Addr)) (fp : List Addr), PE (X.blk s H sc (compEnvC sc cl b X.env) fp) vx tb)
    (hs : ∀ x, foldedSetIterable src X.env x = pure x := by intro _; rfl) : PS X (.Assign [.Name y py] (.DictComp kx vx [⟨tgt, src, cs, 0⟩] sc pq) ps') (tAsg (tDc wi g tt ta tb (nm.map (·.2))) (gName i)) := by
  constructor
  intro pins s σ H D I h
  rw [exec_Assign_Name_used _ _ _ _ hsw]
  refine wpAny_bind (wpAny_standAt (wpAny_bind ?_))
  show wpAny _ X.A (do
    let _ ← comprehension (.DictComp kx vx [⟨tgt, src, cs, 0⟩] sc pq) sc X.env (firstIterPos [⟨tgt, src, cs, 0⟩] pq) newDict false (eval src X.env) (some (assign (.Name y py) X.env))
    _) _ _ s
  have h : tDc wi g tt ta tb (nm.map (·.2)) σ H (fun x H1 => gName i x σ H1 D.nx) := h
  refine wpAny_bind (thn (dc_core (Qf := fun _ s' => SP X pins D .next s') hc hN I hi ok h1 h2 h3 h4 hs h fun d b s' m H' J q ns f => ?_) fun _ s' z => wpAny_pure (wpAny_pure z))
  show wpAny _ _ (assign (.Name y py) X.env (.ref d)) _ _ _
  refine wpAny_assign_Name (store_ok2 (v := V.ref d) J hN hy (.inl hyl) rfl (fun s2 J2 ⟨a, sb, ha⟩ => ?_) (.inr hyl))
  obtain ⟨f0, f1, f2, f3, f4, f5⟩ := f
  have na : b ≠ a := by
    rcases ha with z | z
    · rw [z]
      exact f1
    · exact fun e => f4 y a z e.symm
  refine ⟨m, ns.sameBut sb na, fun h3 sb3 => ?_⟩
  exact ⟨_, H', J2.turned (t' := s2.toks) (fun c o hb e => (sb3.2 c hb).trans e) f0 f1 f3 f4 f5, q⟩
end
theorem go_dc {wi : TI} {g : TG} {tt : TT} {tk tv : TE} {vs : List Nat} {σ : L2.St} {H : Hp} {Q : VK}
    (h : wi σ H fun J H1 => ∀ D, H1 D = none → ∃ W : Nat → Nat → Hp → Prop, (∃ m, W 0 m (upd H1 D (.dK []))) ∧ ∀ i m H, W i m H →
      (J.stop i H ∧ Q (.ref D) H) ∨ (J.go i H ∧ ∃ Nx : Hp → Prop, (∀ H', Nx H' → ∃ m', m' < m ∧ W (i + 1) m' H') ∧ ∀ x H', J.yld i H x H' → g x (wipe σ vs) H' fun σ2 H2 => wipe σ2 vs = wipe σ vs ∧ tt σ2 H2 fun b H3 =>
        if b = true then tk σ2 H3 fun y H4 => tv σ2 H4 fun z H5 => ∃ kvs k, y = kV k ∧ H5 D = some (.dK kvs) ∧ kvs.length < sizeLine ∧ Nx (upd H5 D (.dK (putK kvs k z))) else Nx H3)) : tDc wi g tt tk tv vs σ H Q := h
theorem go_mkx {G : List V → Hp → XK → Prop} {tk : TA} {σ : L2.St} {H : Hp} {Q : XK} (h : tk σ H fun zs H1 => G zs H1 Q) : tMkX G tk σ H Q := h
theorem go_dget {td ty : TE} {σ : L2.St} {H : Hp} {Q : VK} (h : td σ H fun x H1 => ty σ H1 fun y H2 => ∃ a v, x = .ref a ∧ DGet H2 a y (some v) ∧ Q v H2) : tDGet td ty σ H Q := h
theorem go_dnotin {td ty : TE} {σ : L2.St} {H : Hp} {Q : VK} (h : ty σ H fun y H1 => td σ H1 fun x H2 => ∃ a o, x = .ref a ∧ DGet H2 a y o ∧ Q (.bl (!o.isSome)) H2) : tDNotIn ty td σ H Q := h
theorem dget_pl {H : Hp} {a : Addr} {l : List Str} {z : Str} (e : H a = some (.dK (plK l))) : DGet H a (.str z) (if z ∈ l then some (.int (l.idxOf z : Nat)) else none) := by
  have := DGet.k (k := Sum.inr z) e
  rw [plK_at] at this
  exact this
theorem go_clW {sp : Sp} {W : WX} {t : TA} {σ : L2.St} {H : Hp} {Q : VK} (h : t σ H fun vs H1 => sp vs H1 Q fun cls d H' => W cls d σ H') : tClW sp W t σ H Q := h
theorem go_xf {a C : Addr} {cls : Value} {d : Option Addr} {f : Str} {te : TE} {σ : L2.St} {H : Hp} {Q : VK} (h : te σ H fun x H1 => x = .ref a ∧ cls = .ref C ∧ ∃ (dd : Addr) (fs : List (Str × V)) (v : V), d = some dd ∧ H1 dd = some (.xd fs) ∧ fs.lookup f = some v ∧ Q v H1) : tXf a cls d C f te σ H Q := h
end Bk
/-! list.count of flat things; what is never read; the outcome of a lambda, told by the error's class -/
namespace Bk
open PySem PySem.Spec PyProof.Rows L2 LamX
section
variable {X : Cx}
def rCount (K : PySem.W.Frag) : V → List V → Hp → VK → Prop := fun x xs H Q => ∃ (a : Addr) (ys : List V) (y : V), x = V.ref a ∧ xs = [y] ∧ SqL K H a ys ∧ flatV y = true ∧ ys.all flatV = true ∧ Q (.int (ys.countP (fun z => eqV z y) : Nat)) H
theorem count_eqU {y : V} : ∀ {ys : List V} {its : List Value}, Vals ys its → ys.all flatV = true → its.countP (eqU y) = ys.countP fun z => eqV z y
  | _, _, .nil, _ => rfl
  | _, _, .cons r rs, f => by
    rw [List.all_cons, Bool.and_eq_true] at f
    rw [List.countP_cons, List.countP_cons, count_eqU rs f.2, eqU_of r f.1]
theorem mt_count : MtR X "list.count" (rCount X.K) := by
  intro pins s σ H x xs v us Q I rx rxs h
  obtain ⟨a, ys, y, rfl, rfl, hs, fy, fys, q⟩ := h
  cases rx
  match us, rxs with
  | [uy], .cons ry .nil =>
    obtain ⟨its, rv, ⟨⟨cls, dd, data, sl⟩, n, ho, hc, hdn, hd⟩, hlen⟩ := I.list hs
    dsimp only at hc hd
    subst hc hd
    refine call_meets PySem.F.slot_list_count ⟨_, ho, rfl⟩ PySem.F.entry_list_count (PySem.F.args_list_count_2 _ _) (SeqAt.list_countAt a its.toArray n dd sl uy (eqU y)) ⟨ho, fun u hu => mem_eqAt ry fy rv fys u (by simpa using hu), ?_⟩
    refine ⟨.int (ys.countP (fun z => eqV z y) : Nat), H, I.tok _, ⟨s.toks, ?_⟩, q⟩
    show Value.int ((its.toArray.toList.countP (eqU y) : Nat) : Int) s.toks = Value.int ((ys.countP (fun z => eqV z y) : Nat) : Int) s.toks
    rw [show its.toArray.toList = its from rfl, count_eqU rv fys]
theorem mt_countK (K0 : PySem.W.Frag) (h : X.K = K0 := by rfl) : MtR X "list.count" (rCount K0) := h ▸ mt_count
theorem mt_indexK (K0 : PySem.W.Frag) (h : X.K = K0 := by rfl) : MtR X "list.index" (rIndex K0) := h ▸ mt_index
/-- the context's part of the world unnamed -/
theorem bmK (K0 : PySem.W.Frag) {T : String} {r : V → List V → Hp → VK → Prop} {e : Expr} {to : TE} {t : TA} (p : PE X e (tBM X.K T r to t)) (h : X.K = K0 := by rfl) : PE X e (tBM K0 T r to t) := h ▸ p
def tNv : TE := fun _ _ _ => False
/-- never read -/
theorem pe_never {e : Expr} : PE X e tNv := ⟨fun _ _ _ _ _ _ h => h.elim⟩
end
section
variable {P : Program} {w : World} {K : PySem.W.Frag} {mg : Str → Option Value} {base : Heap} {x qual : Str} {params : Arguments} {body : List Stmt} {scope : Scope} {kws : List (Str × V)} {f : Addr} {fd : FuncData} {N ps : List Str} {k : Nat} {sp : Sp}
/-- a def with a star parameter that may raise -/
theorem fxr_star {pv : Str} (F : FunD K x qual params body scope [] kws f fd) (S : FnScope N (ps ++ [pv]) scope)
    (hb : ∀ (kV doc pm : Value) (an : Option Addr) (cdv ct : Value) (us rest : List Value), us.length = ps.length → bindArgs (PySem.W.fnOf x qual params body scope .none kV doc pm an cdv ct) ⟨us ++ rest, []⟩ = (newTuple rest >>= fun t => pure (ps.zip us ++ [(pv, t)])))
    (h : ∀ (cdv : Value) (A : Around) (outer : List Env) (s : Shared) (H : Hp) (vs : List V) (Q : VK) (E : XK), Room k (A.deeper (envOfC qual scope s.heap.objs.size f cdv)) → sp vs H Q E →
      ∃ t, PSs (Cb P w K mg base N qual scope f cdv A outer s H E) body t ∧ t { nx := fun _ H' => Q .non H', rt := Q } (start N vs) H) : Fx P w K mg base (k + 1) f (StSp ps.length sp) := by
  obtain ⟨oc, od, dV, kV, doc, pm, an, cdv, ct, osl, rfl, lk, hcd, hD, hK⟩ := F.ex
  have eD : dV = .none := by
    rcases hD with ⟨_, e⟩ | ⟨e, _⟩
    · exact e
    · exact absurd rfl e
  subst eD
  exact StX.fn_star lk hcd S StX.cxUp (hb kV doc pm an cdv ct) fun A outer s H vs Q E hr hs => h cdv A outer s H vs Q E hr hs
end
/-- told: the error's class and its fields; nothing where there is none -/
def TErr (L T : Addr) : (XK → Hp → VK → Prop) → Hp → VK → Prop := fun tl H Q =>
  tl (fun cls d H' => (cls = .ref L ∧ ∃ (dd : Addr) (i : Int), d = some dd ∧ H' dd = some (.xd [("index", .int i)]) ∧ ∀ t H2, Same H' H2 → H' t = none → H2 t = some (.tup [.str "line", .int i]) → Q (.ref t) H2) ∨
    (cls = .ref T ∧ ∃ (dd : Addr) (r w : Int), d = some dd ∧ H' dd = some (.xd [("word", .int w), ("row", .int r)]) ∧ ∀ t t2 H2, Same H' H2 → H2 t2 = some (.tup [.int r, .int w]) → H2 t = some (.tup [.str "text", .ref t2]) → Q (.ref t) H2)) H fun _ H1 => Q .non H1
end Bk
/-! isinstance of a caught error with a dict or without one -/
namespace Bk
open PySem PySem.Spec PyProof.Rows L2 LamX
/-- isinstance(e, c): e the error that the suite holds; d its dict, if there is one -/
def rIsY (K : PySem.W.Frag) (a : Addr) (cls : Value) (d : Option Addr) : List V → Hp → VK → Prop := fun xs H Q => ∃ (D : Addr) (c : V) (cv : Value) (b : Bool), cls = .ref D ∧ XE K D ∧ (d = none ∨ ∃ (dd : Addr) (fs : List (Str × V)), d = some dd ∧ H dd = some (.xd fs)) ∧ xs = [.ref a, c] ∧ (∀ u, RelV c u → u = cv) ∧ PySem.W.kitOne K (.ref D) cv = some b ∧ Q (.bl b) H
theorem call_isY {X : Cx} {a : Addr} {cls : Value} {d : Option Addr} {oe : Obj} {pn : List (Addr × Obj)} (hz : Zc cls d oe) (hf : ∃ vs, oe.data = .fields vs) : CallR (X.suite a ((a, oe) :: pn)) (.builtin "isinstance") (rIsY X.K a cls d) := by
  intro pins s σ H xs us Q I r h
  obtain ⟨D, c, cv, b, rfl, T, hd, rfl, hcv, e, q⟩ := h
  match us, r with
  | [_, ut], .cons rx (.cons rt .nil) =>
    cases rx
    cases hcv _ rt
    obtain ⟨he, _⟩ := I.pin (a, oe) (List.mem_append_left _ List.mem_cons_self)
    obtain ⟨vs, hv⟩ := hf
    have hno : PySem.W.notCls oe = true := by unfold PySem.W.notCls; rw [hv] <;> rfl
    rcases hd with rfl | ⟨dd, fs, rfl, ed⟩
    · have J : PySem.W.InstAt s.heap a oe D none := ⟨he, hz.1, hno, by rw [hz.2]; trivial⟩
      exact PySem.W.kia_one (PySem.W.kitx_exc T.cl T.ga T.gt T.be T.co T.gg T.tk T.mo) I.kIn J e (fun z => nomatch z) fun tk => ⟨.bl b, H, I.kept (t' := tk) fun _ _ z => z, rfl, q⟩
    · obtain ⟨mA, hns, _⟩ := (show ObjOk X.prog X.w H s.heap dd (.xd fs) from I.hok dd _ ed)
      obtain ⟨od, ho, _⟩ := lookIn_ns hns
      have J : PySem.W.InstAt s.heap a oe D (some od) := ⟨he, hz.1, hno, by rw [hz.2]; exact ho⟩
      exact PySem.W.kia_one (PySem.W.kitx_exc T.cl T.ga T.gt T.be T.co T.gg T.tk T.mo) I.kIn J e (fun z => nomatch z) fun tk => ⟨.bl b, H, I.kept (t' := tk) fun _ _ z => z, rfl, q⟩
/-- told: the error of an unknown name, the error of a number; nothing where there is none -/
def TErrN (U N : Addr) : (XK → Hp → VK → Prop) → Hp → VK → Prop := fun tl H Q =>
  tl (fun cls d H' => (cls = .ref U ∧ ∃ (dd : Addr) (z : Str), d = some dd ∧ H' dd = some (.xd [("name", .str z)]) ∧ ∀ t H2, Same H' H2 → H' t = none → H2 t = some (.tup [.str "person", .str z]) → Q (.ref t) H2) ∨
    (cls = .ref N ∧ d = none ∧ ∀ t H2, Same H' H2 → H' t = none → H2 t = some (.tup [.str "number", .int 0]) → Q (.ref t) H2)) H fun _ H1 => Q .non H1
end Bk
/-! o.m() of a method by its positional promise -/
namespace Bk
open PySem PySem.Spec PyProof.Rows L2
theorem pe_methR0 {X : Cx} {CX : CXT} {k : Nat} {C f : Addr} {m : Str} {sp : Sp} {E : XK} {o : Expr} {ta : TE} {ap pos : Pos} {pl : Sem Bool} (he : PE X o ta) (c : Cls X.K C) (hm : Meth X.K C m f) (F : FnR X.prog X.w X.K X.mg X.base CX k f sp) (hr : Room k X.A) (hx : Passes CX X E)
    (ht : eval (.Call (.Attribute o m ap) [] [] pos) X.env = (do
      let v ← eval o X.env
      standAt ap.atName
      let (g, one) ← holding [v] (getMethod v m pl)
      callWith pos g one (backTo pos (starEach [] X.env)) (backToKw pos (keywordEach [] X.env))) := by rfl) : PE X (.Call (.Attribute o m ap) [] [] pos) (tMethR C m sp E ta tNil) := by
  constructor
  intro pins s σ H Q I h
  refine PySem.W.methodCall_KW (pl := pl) (thn (he.run pins s σ H _ I h) ?_) ht
  rintro u s1 ⟨x, H1, I1, rx, a, dx, fs, ex, ea, l, q⟩
  subst ex
  cases (show u = Value.ref a from rx)
  refine getmeth_ok I1 ea c hm l ?_
  exact PySem.W.callWith_K0 (first := [.ref a]) I1.kIn hm.kp (wpAny_call (run_fnR (us := [.ref a]) (vs := [.ref a]) F hr hx I1 (.cons rfl .nil) q))
end Bk
/-! o.m(e, ..) of a method that may raise; list(d.items()) -/
namespace Bk
open PySem PySem.Spec PyProof.Rows L2
/-- o.m(e, ..): what the method lets out is in our air -/
def tMethW (C : Addr) (m : Str) (sp : Sp) (W : WX) (ta : TE) (t : TA) : TE := fun σ H Q => ta σ H fun x G1 => ∃ a dx fs, x = .ref a ∧ G1 a = some (.ins C dx fs) ∧ fs.lookup m = none ∧ t σ G1 fun vs G2 => sp (x :: vs) G2 Q fun cls d H' => W cls d σ H'
theorem go_methW {C : Addr} {m : Str} {sp : Sp} {W : WX} {ta : TE} {t : TA} {σ : L2.St} {H : Hp} {Q : VK} (h : ta σ H fun x G1 => ∃ a dx fs, x = .ref a ∧ G1 a = some (.ins C dx fs) ∧ fs.lookup m = none ∧ t σ G1 fun vs G2 => sp (x :: vs) G2 Q fun cls d H' => W cls d σ H') : tMethW C m sp W ta t σ H Q := h
theorem pe_methW {X : Cx} {k j : Nat} {C f : Addr} {m : Str} {sp : Sp} {W : WX} {o e : Expr} {es : List Expr} {ta : TE} {t : TA} {ap pos : Pos} {pl : Sem Bool} (he : PE X o ta) (c : Cls X.K C) (hm : Meth X.K C m f)
    (F : FnR X.prog X.w X.K X.mg X.base (L2.CX X.prog X.w) k f sp) (hr : Room j X.A) (tk : Takes X W) (ha : PA X (e :: es) t) (hj : k ≤ j := by decide)
    (hs : starEach (e :: es) X.env = (false, eval e X.env) :: starEach es X.env := by rfl) (hp : (backTo pos (starEach es X.env)).any (·.1) = false := by rfl)
    (ht : eval (.Call (.Attribute o m ap) (e :: es) [] pos) X.env = (do
      let w0 ← eval o X.env
      standAt ap.atName
      let (g, fst) ← holding [w0] (getMethod w0 m pl)
      callWith pos g fst (backTo pos (starEach (e :: es) X.env)) (backToKw pos (keywordEach [] X.env))) := by rfl) :
    PE X (.Call (.Attribute o m ap) (e :: es) [] pos) (tMethW C m sp W ta t) := by
  refine ⟨fun pn s σ H Q I h => ?_⟩
  refine PySem.W.methodCall_KW (pl := pl) (thn (he.run pn s σ H _ I h) fun u t1 ⟨x, G1, J1, rx, a, dx, fs, ex, ha1, l, q⟩ => ?_) ht
  subst ex
  cases (show u = Value.ref a from rx)
  refine (getmeth_ok J1 ha1 c hm l ?_)
  refine PySem.W.callWith_K (first := [.ref a]) (h₀ := X.base) I.ok.mod.kin hm.kp (thn (ha.run pos pn t1 σ G1 _ J1 q) fun us t2 ⟨vs, G2, J2, r, q2⟩ => ⟨J2.kIn, ?_⟩) hs hp
  refine wpAny_call (codeAny_mono (F X.A X.stack t2 G2 (.ref a :: us) (.ref a :: vs) Q _ (hr.mono hj) J2.env0 (.cons rfl r) q2) fun r s' y => ?_)
  cases r with
  | error u => exact tk u s' (XE.of_call J2 (fun _ _ _ z => z) y)
  | ok fl =>
    cases fl
    case ret u => exact J2.after y
    all_goals exact False.elim y
theorem go_listItems {te : TE} {σ : L2.St} {H : Hp} {Q : VK} (h : te σ H fun x G1 => LiI.rItemsL x G1 Q) : LiI.tListItems te σ H Q := h
end Bk
namespace Bk
open PySem PySem.Spec PyProof.Rows L2
def rListOf (K : PySem.W.Frag) : List V → Hp → VK → Prop := fun xs H Q => ∃ p ys, xs = [.ref p] ∧ (SqL K H p ys ∨ SqT K H p ys) ∧ ∀ l, H l = none → Q (.ref l) (upd H l (.lst ys))
theorem listK (K0 : PySem.W.Frag) {X : Cx} (h : X.K = K0 := by rfl) : CallR X (.type "list") (rListOf K0) := h ▸ call_list_of
theorem go_gLst {K : PySem.W.Frag} {n : Nat} {gs : TGs} {a : Addr} {xs : List V} {σ : L2.St} {H : Hp} {QS : L2.St → Hp → Prop} (h : SqL K H a xs) (hl : xs.length = n) (q : gs xs σ H QS) : gLst K n gs (.ref a) σ H QS := ⟨a, xs, rfl, h, hl, q⟩
end Bk
namespace K
open PySem PySem.Spec PyProof.Rows L2 Bk
local macro_rules | `(tactic| walk_at "go1") => `(tactic| (first
  | ((with_reducible show tVar _ _ _ _); refine go_var rfl ?_)
  | (with_reducible first | refine go_c ?_ | refine go_op ?_ | refine go_cons ?_ | refine go_nil ?_ | refine go_cb ?_ | refine go_cl ?_ | refine go_seq ?_ | refine go_asg ?_ | refine go_name ?_ | refine go_ifS ?_ | refine go_test ?_ | refine go_bl ?_)
  | (with_reducible first | refine go_rI0 ?_ | refine go_rU ?_ | refine go_ret ?_ | refine go_next ?_ | refine go_B ?_ | refine go_and ?_ | refine go_or ?_ | refine go_not ?_ | refine go_if ?_ | refine go_andV ?_ | refine go_orV ?_ | refine go_notV ?_)
  | ((with_reducible show rEq _ _ _ _); refine go_rEq rfl ?_)
  | ((with_reducible show rNe _ _ _ _); refine go_rNe rfl ?_)
  | (with_reducible first | refine go_un ?_ | refine go_chain ?_ | refine go_drop ?_ | refine go_retN ?_ | refine go_isN ?_ | refine go_notN ?_ | refine go_cont ?_ | refine go_break ?_ | refine go_par ?_ | refine go_two ?_ | refine go_part ?_ | refine go_noPart ?_ | refine go_int ?_ | refine go_sl ?_ | refine go_yes ?_ | refine go_tup ?_ | refine go_lst ?_)
  | (with_reducible first | refine go_gCons ?_ | refine go_gNil ?_ | refine go_for ?_ | refine go_iEnT ?_ | refine go_iEnum ?_ | refine go_iList ?_ | refine go_iTup ?_ | refine go_iStr ?_ | refine go_iRng1 ?_ | refine go_iRng2 ?_ | refine go_iZip ?_ | refine go_lc ?_ | refine go_mkR ?_ | refine go_mkS ?_ | refine go_clO ?_ | refine go_pr ?_ | refine go_sfld ?_ | refine go_bm ?_ | refine go_ref ?_)))
local macro_rules | `(tactic| walk_at "go") => `(tactic| ((repeat (walk_at "go1")); try dsimp only))
local macro_rules | `(tactic| walk_at "so") => `(tactic| first | omega | (simp; done) | (simp; omega) | (simp at *; omega))
section
variable {P : Program} {w : World} {K : PySem.W.Frag} {mg : Str → Option Value} {base : Heap}
theorem isi_b {H : Hp} {x : V} {n m : String} {b : Bool} {Q : VK} (ty : TyOf K H x (.type n)) (e : PySem.W.kitOne K (.type n) (.type m) = some b) (h : Q (.bl b) H) : rIsi K [x, .ty m] H Q := ⟨_, _, _, _, b, rfl, ClsV.ty m, .base ty, e, h⟩
/-! is_whole, in_range, check_number: of ints that are in range -/
def spWhole : Sp := fun vs H Q _ => ∃ i : Int, vs = [.int i] ∧ Q (.bl true) H
def spInRange : Sp := fun vs H Q _ => ∃ v lo hi : Int, vs = [.int v, .int lo, .int hi] ∧ Q (.bl (decide (lo ≤ v ∧ v ≤ hi))) H
def spCheckNumber : Sp := fun vs H Q _ => ∃ v lo hi : Int, vs = [.int v, .int lo, .int hi] ∧ lo ≤ v ∧ v ≤ hi ∧ Q .non H
theorem sc_is_whole : FnScope ["value"] ["value"] (defScope s_is_whole) := ⟨rfl, rfl, rfl, by decide +kernel, rfl, by decide +kernel, by decide +kernel⟩
theorem ok_is_whole (T : Tx K mg) : Fx P w K mg base 1 (He.ga K "is_whole") spWhole := by
  obtain ⟨fd, F⟩ := T.F_is_whole
  have nd := sc_is_whole.nd
  refine fx_of F sc_is_whole (fun vs H Q E h => ?_) (fun _ _ _ _ _ _ us hl => match us, hl with | [_], _ => rfl) fun cdv A outer s H vs Q E hr h => ?_
  · obtain ⟨i, rfl, _⟩ := h
    rfl
  obtain ⟨i, rfl, h⟩ := h
  refine ⟨_, (pss_one (ps_ret (pe_and (cB call_isi T.m_isinstance (pa_cons (pv 0) (pa_cons (pe_bty "int" T.m_int) pa_nil))) (pe_one (pe_not (cB call_isi T.m_isinstance (pa_cons (pv 0) (pa_cons (pe_bty "bool" T.m_bool) pa_nil)))))))), ?_⟩
  walk_at "go"
  refine isi_b (.int i) (kit_ty (b := "int") (r := true) (by decide +kernel)) ?_
  walk_at "go"
  refine iteT ?_
  walk_at "go"
  refine isi_b (.int i) (kit_ty (b := "bool") (r := false) (by decide +kernel)) ?_
  walk_at "go"
  exact h

theorem sc_in_range : FnScope ["value", "low", "high"] ["value", "low", "high"] (defScope s_in_range) := ⟨rfl, rfl, rfl, by decide +kernel, rfl, by decide +kernel, by decide +kernel⟩
theorem ok_in_range (T : Tx K mg) (D_is_whole : Fx P w K mg base 1 (He.ga K "is_whole") spWhole) : Fx P w K mg base 2 (He.ga K "in_range") spInRange := by
  have K_is_whole : PySem.W.keepIn K (.ref (He.ga K "is_whole")) = true := T.F_is_whole.elim fun _ q => q.kp
  obtain ⟨fd, F⟩ := T.F_in_range
  have nd := sc_in_range.nd
  refine fx_of F sc_in_range (fun vs H Q E h => ?_) (fun _ _ _ _ _ _ us hl => match us, hl with | [_, _, _], _ => rfl) fun cdv A outer s H vs Q E hr h => ?_
  · obtain ⟨v, lo, hi, rfl, _⟩ := h
    rfl
  obtain ⟨v, lo, hi, rfl, h⟩ := h
  refine ⟨_, (pss_one (ps_ret (pe_and (pe_cl D_is_whole hr K_is_whole T.g_is_whole passL (pa_cons (pv 0) pa_nil)) (pe_one (pe_chain op_le op_le (pv 1) (pv 0) (pv 2)))))), ?_⟩
  walk_at "go"
  refine ⟨v, rfl, ?_⟩
  walk_at "go"
  refine iteT ?_
  walk_at "go"
  refine iteD (fun h1 => ?_) fun h1 => ?_
  all_goals walk_at "go"
  · rw [show decide (v ≤ hi) = decide (lo ≤ v ∧ v ≤ hi) from by simp [h1]]
    exact h
  · rw [show false = decide (lo ≤ v ∧ v ≤ hi) from by simp [h1]]
    exact h

theorem sc_check_number : FnScope ["value", "low", "high"] ["value", "low", "high"] (defScope s_check_number) := ⟨rfl, rfl, rfl, by decide +kernel, rfl, by decide +kernel, by decide +kernel⟩
theorem ok_check_number (T : Tx K mg) (D_in_range : Fx P w K mg base 2 (He.ga K "in_range") spInRange) : Fx P w K mg base 3 (He.ga K "check_number") spCheckNumber := by
  have K_in_range : PySem.W.keepIn K (.ref (He.ga K "in_range")) = true := T.F_in_range.elim fun _ q => q.kp
  obtain ⟨fd, F⟩ := T.F_check_number
  have nd := sc_check_number.nd
  refine fx_of F sc_check_number (fun vs H Q E h => ?_) (fun _ _ _ _ _ _ us hl => match us, hl with | [_, _, _], _ => rfl) fun cdv A outer s H vs Q E hr h => ?_
  · obtain ⟨v, lo, hi, rfl, _⟩ := h
    rfl
  obtain ⟨v, lo, hi, rfl, h1, h2, h⟩ := h
  refine ⟨_, (pss_one (ps_if (pt_not (pt_val (pe_cl D_in_range hr K_in_range T.g_in_range passL (pa_cons (pv 0) (pa_cons (pv 1) (pa_cons (pv 2) pa_nil)))))) (pss_one ps_never) pss_nil)), ?_⟩
  walk_at "go"
  refine ⟨v, lo, hi, rfl, ?_⟩
  walk_at "go"
  rw [decide_eq_true (show lo ≤ v ∧ v ≤ hi from ⟨h1, h2⟩)]
  exact iteF h

/-! place_of: the first place of a name that is there -/
def spPlaceOf (K : PySem.W.Frag) : Sp := fun vs H Q _ => ∃ (a : Addr) (ns : List Str) (i : Nat) (z : Str), vs = [.ref a, .str z] ∧ SqT K H a (ns.map V.str) ∧ ns[i]? = some z ∧ (∀ j, j < i → ns[j]? ≠ some z) ∧ ∀ H', Same H H' → Q (.int (i : Int)) H'
theorem sc_place_of : FnScope ["names", "name", "place", "other"] ["names", "name"] (defScope s_place_of) := ⟨rfl, rfl, rfl, by decide +kernel, rfl, by decide +kernel, by decide +kernel⟩
theorem ok_place_of (T : Tx K mg) : Fx P w K mg base 1 (He.ga K "place_of") (spPlaceOf K) := by
  obtain ⟨fd, F⟩ := T.F_place_of
  have nd := sc_place_of.nd
  refine fx_of F sc_place_of (fun vs H Q E h => ?_) (fun _ _ _ _ _ _ us hl => match us, hl with | [_, _], _ => rfl) fun cdv A outer s H vs Q E hr h => ?_
  · obtain ⟨a, ns, i, z, rfl, _⟩ := h
    rfl
  obtain ⟨a, ns, i, z, rfl, hS, hi, hf, h⟩ := h
  refine ⟨_, (pss_cons (ps_for PassesOwn.never rfl (pi_enT T.m_enumerate (pa_cons (pv 0) pa_nil)) (pg_tup (by rfl) (pgs_cons (pg_name (i := 2) nd rfl (Or.inl rfl)) (pgs_cons (pg_name (i := 3) nd rfl (Or.inl rfl)) pgs_nil))) (pss_one (ps_if (pt_cmpR op_eq (pv 3) (pv 1) (nomark _)) (pss_one (ps_ret (pv 2))) pss_nil))) (pss_one ps_never)), ?_⟩
  walk_at "go"
  refine ⟨_, _, rfl, hS, ?_⟩
  refine for_w walk_en (fun j σ H' => j ≤ i ∧ Same H H' ∧ ∃ u v, σ = [some (.ref a), some (.str z), u, v]) ⟨Nat.zero_le _, Same.refl H, none, none, rfl⟩ (fun j σ H' _ p => same_t p.2.1 hS) ?_ ?_
  · rintro j x σ H1 H2 hj ⟨hle, s1, u, v, rfl⟩ ⟨T', y1, y2, rfl, hT, rfl, e1, e2⟩
    obtain ⟨q, hq, rfl⟩ := map_at e2
    cases e1
    have s2 : Same H (upd H1 T' (.tup [V.int (j : Nat), V.str q])) := s1.trans (same_upd hT)
    refine go_gTup (.inl (.inl upd_same)) rfl ?_
    walk_at "go"
    refine iteD (fun hc => ?_) fun hc => ?_
    · walk_at "go"
      have ez : q = z := by injection hc
      have ej : j = i := by
        by_cases hlt : j < i
        · exact absurd (ez ▸ hq) (hf j hlt)
        · omega
      rw [ej]
      exact h _ (ej ▸ s2)
    · walk_at "go"
      refine ⟨?_, s2, _, _, rfl⟩
      by_cases ej : j = i
      · subst ej
        rw [hi] at hq
        cases hq
        exact absurd rfl hc
      · omega
  · rintro σ H1 ⟨hle, _⟩
    have := (List.getElem?_eq_some_iff.mp hi).1
    simp at hle
    omega

/-! is_name -/
def spIsName : Sp := fun vs H Q _ => ∃ z : Str, vs = [.str z] ∧ z.length ≤ 1000 ∧ ∀ H', Same H H' → Q (.bl (nmB z)) H'
theorem all_range {n : Nat} (l : List Nat) (hl : l.length = n) (p : Nat → Bool) (g : Nat → Nat) (hg : ∀ i (hi : i < l.length), g i = l[i]) : (((List.range n).map fun i => p (g i)).all id) = l.all p := by
  rw [Bool.eq_iff_iff, List.all_eq_true, List.all_eq_true]
  constructor
  · intro h x hx
    obtain ⟨i, hi, rfl⟩ := List.mem_iff_getElem.mp hx
    have := h (p (g i)) (List.mem_map.mpr ⟨i, List.mem_range.mpr (by omega), rfl⟩)
    rw [hg i hi] at this
    exact this
  · intro h x hx
    obtain ⟨i, hi, rfl⟩ := List.mem_map.mp hx
    have hi' : i < l.length := by rw [hl]; exact List.mem_range.mp hi
    rw [hg i hi']
    exact h _ (List.getElem_mem _)
theorem str_len (z : Str) : z.length = z.cps.toList.length := by simp [Str.length]
theorem sc_is_name : FnScope ["name", "letter"] ["name"] (defScope s_is_name) := ⟨rfl, rfl, rfl, by decide +kernel, rfl, by decide +kernel, by decide +kernel⟩
theorem ok_is_name (T : Tx K mg) : Fx P w K mg base 1 (He.ga K "is_name") spIsName := by
  obtain ⟨fd, F⟩ := T.F_is_name
  have nd := sc_is_name.nd
  refine fx_of F sc_is_name (fun vs H Q E h => ?_) (fun _ _ _ _ _ _ us hl => match us, hl with | [_], _ => rfl) fun cdv A outer s H vs Q E hr h => ?_
  · obtain ⟨z, rfl, _⟩ := h
    rfl
  obtain ⟨z, rfl, hz, h⟩ := h
  refine ⟨_, (pss_cons (ps_if (PW.pt (pw_or (pt_not (pt_val (cB call_isi T.m_isinstance (pa_cons (pv 0) (pa_cons (pe_bty "str" T.m_str) pa_nil))))) (pw_or1 (pt_not (pt_chain op_le op_le pe_int (cB call_len_str T.m_len (pa_cons (pv 0) pa_nil)) (gI T.c_MAX_LETTERS)))))) (pss_one (ps_ret pe_bl)) pss_nil) (pss_one (ps_ret (cB (cr_all rfl) T.m_all (pa_cons (pe_lc (own := [("letter", 1)]) (g := (gName 1)) rfl nd (pi_str (pv 0)) (blkOk_by (N := ["name", "letter"]) (sc := defScope s_is_name) (own := [("letter", 1)]) (by decide +kernel)) (fun _ _ _ _ _ => (pg_name (i := 1) nd rfl (Or.inl rfl))) (fun _ _ _ _ _ => pts_nil) (fun _ _ _ _ _ => (pe_cmpR op_in_sign (pv 1) (gS T.c_LETTERS) rfl))) pa_nil))))), ?_⟩
  walk_at "go"
  refine isi_b (.str z) (kit_ty (b := "str") (r := true) (by decide +kernel)) ?_
  walk_at "go"
  refine iteF ?_
  walk_at "go"
  refine ⟨z, rfl, Nat.le_trans hz (by decide), ?_⟩
  walk_at "go"
  refine iteD (fun h1 => ?_) fun h1 => ?_
  · walk_at "go"
    refine iteB (fun h2 => ?_) fun h2 => ?_
    · walk_at "go"
      have : nmB z = false := by
        unfold nmB
        have : ¬ ((z.length : Int) ≤ 8) := by simpa using h2
        rw [decide_eq_false (by omega)]
        rfl
      rw [← this]
      exact h _ (Same.refl _)
    · walk_at "go"
      have h3 : (z.length : Int) ≤ 8 := by simpa using h2
      have hl : decide (1 ≤ z.length ∧ z.length ≤ 8) = true := decide_eq_true ⟨by omega, by omega⟩
      refine ⟨z, rfl, ?_⟩
      refine lc_fun (walk_str (z := z)) (fun _ _ => trivial) (fun i => .bl (decide (z.cps.getD i 0 ∈ letters))) (by have e8 := str_len z; rw [Array.length_toList] at e8; omega) ?_ ?_
      · rintro i x H2 H3 k hi s2 ⟨rfl, c, hc, rfl⟩ hk
        walk_at "go"
        refine ⟨rfl, ?_⟩
        walk_at "go"
        refine ⟨c, _, rfl, rfl, ?_⟩
        have ec : z.cps.getD i 0 = c := by simp [Array.getD, Array.getElem?_eq_some_iff.mp hc |>.1, Array.getElem?_eq_some_iff.mp hc |>.2]
        have := hk _ (Same.refl _)
        rw [ec] at this
        exact this
      · intro D H2 hD s2 e2
        walk_at "go"
        refine ⟨D, (List.range z.cps.size).map fun i => decide (z.cps.getD i 0 ∈ letters), rfl, .inl (.inl (by rw [e2, List.map_map]; rfl)), ?_⟩
        have ea := all_range (n := z.cps.size) z.cps.toList (by simp) (fun c => decide (c ∈ letters)) (fun i => z.cps.getD i 0) (fun i hi => by simp at hi; simp [Array.getD, hi])
        rw [ea]
        have en : nmB z = z.cps.toList.all fun c => decide (c ∈ letters) := by unfold nmB; rw [hl]; rfl
        rw [← en]
        exact h _ s2
  · walk_at "go"
    refine iteT ?_
    walk_at "go"
    have : nmB z = false := by
      unfold nmB
      rw [decide_eq_false (by omega)]
      rfl
    rw [← this]
    exact h _ (Same.refl _)

/-! check_people: of people who can be a line -/
def spCheckPeople (K : PySem.W.Frag) : Sp := fun vs H Q _ => ∃ (N : Addr → Prop) (a : Addr) (rs : List Addr) (ps : List Pr), vs = [.ref a] ∧ SqT K H a (rs.map V.ref) ∧ Rows N H rs ps ∧ Good ps ∧ ∀ H', Same H H' → Q .non H'
theorem nmB_len {z : Str} (h : nmB z = true) : z.length ≤ 1000 := by
  unfold nmB at h
  rw [Bool.and_eq_true, decide_eq_true_iff] at h
  omega
theorem sc_check_people : FnScope ["people", "names", "index", "name", "pace", "fits", "_"] ["people"] (defScope s_check_people) := ⟨rfl, rfl, rfl, by decide +kernel, rfl, by decide +kernel, by decide +kernel⟩
theorem ok_check_people (T : Tx K mg) (D_is_name : Fx P w K mg base 1 (He.ga K "is_name") spIsName) (D_in_range : Fx P w K mg base 2 (He.ga K "in_range") spInRange) : Fx P w K mg base 3 (He.ga K "check_people") (spCheckPeople K) := by
  have K_is_name : PySem.W.keepIn K (.ref (He.ga K "is_name")) = true := T.F_is_name.elim fun _ q => q.kp
  have K_in_range : PySem.W.keepIn K (.ref (He.ga K "in_range")) = true := T.F_in_range.elim fun _ q => q.kp
  obtain ⟨fd, F⟩ := T.F_check_people
  have nd := sc_check_people.nd
  refine fx_of F sc_check_people (fun vs H Q E h => ?_) (fun _ _ _ _ _ _ us hl => match us, hl with | [_], _ => rfl) fun cdv A outer s H vs Q E hr h => ?_
  · obtain ⟨N, a, rs, ps, rfl, _⟩ := h
    rfl
  obtain ⟨N, a, rs, ps, rfl, hS, hR, hG, h⟩ := h
  refine ⟨_, (pss_cons (ps_setLc (i := 1) (own := [("name", 3), ("_", 6)]) (g := (gTup K 2 (gCons (gName 3) (gCons (gName 6) gNil)))) rfl nd rfl rfl (sw_true rfl rfl rfl (by decide +kernel)) (pi_tup (pv 0)) (blkOk_by (N := ["people", "names", "index", "name", "pace", "fits", "_"]) (sc := defScope s_check_people) (own := [("name", 3), ("_", 6)]) (by decide +kernel)) (fun _ _ _ _ _ => (pg_tup (by rfl) (pgs_cons (pg_name (i := 3) nd rfl (Or.inl rfl)) (pgs_cons (pg_name (i := 6) nd rfl (Or.inl rfl)) pgs_nil)))) (fun _ _ _ _ _ => pts_nil) (fun _ _ _ _ _ => (pv 3))) (pss_cons (ps_for PassesOwn.never rfl (pi_enT T.m_enumerate (pa_cons (pv 0) pa_nil)) (pg_tup (by rfl) (pgs_cons (pg_name (i := 2) nd rfl (Or.inl rfl)) (pgs_cons (pg_tup (by rfl) (pgs_cons (pg_name (i := 3) nd rfl (Or.inl rfl)) (pgs_cons (pg_name (i := 4) nd rfl (Or.inl rfl)) pgs_nil))) pgs_nil))) (pss_cons (ps_set (i := 5) nd rfl (Or.inl rfl) (pe_and (pe_cl D_is_name hr K_is_name T.g_is_name passL (pa_cons (pv 3) pa_nil)) (pe_one (pe_cl D_in_range hr K_in_range T.g_in_range passL (pa_cons (pv 4) (pa_cons pe_int (pa_cons (ClX.pe_cval (gR T.g_Line)) pa_nil))))))) (pss_one (ps_if (PW.pt (pw_or (pt_cmpR op_ge (pv 2) (ClX.pe_cval (gR T.g_Line)) (nomark _)) (pw_or (pt_not (pt_val (pv 5))) (pw_or1 (pt_cmpR op_in_seq (pv 3) (pe_slice sl_list (pv 1) po_none (po_some (pv 2))) rfl))))) (pss_one ps_never) pss_nil)))) (pss_one (ps_if (pt_cmpR op_lt (cB call_len_seq T.m_len (pa_cons (pv 0) pa_nil)) (gI T.c_MIN_PEOPLE) (nomark _)) (pss_one ps_never) pss_nil)))), ?_⟩
  have hlen := hR.1
  have hmost := hG.most
  have htwo := hG.two
  walk_at "go"
  refine ⟨⟨_, hS⟩, ?_⟩
  refine lc_fun (walk_tup (xs := rs.map V.ref)) (fun H2 s2 => same_t s2 hS) (fun i => .str ((ps.map (·.1)).getD i ("" : Str))) (by simp; omega) ?_ ?_
  · rintro i x H2 H3 k hi s2 ⟨rfl, hx⟩ hk
    obtain ⟨p, t, hp, rfl, _, ht⟩ := (hR.mono (frn_same s2)).at hx
    refine go_gTup (.inl (.inl ht)) rfl ?_
    walk_at "go"
    refine ⟨rfl, ?_⟩
    walk_at "go"
    have q := hk _ (Same.refl _)
    have e1 : (ps.map (·.1)).getD i ("" : Str) = p.1 := by simp [List.getD, hp]
    rw [e1] at q
    exact q
  · intro D H2 hD s2 e2
    have e3 : H2 D = some (.lst ((ps.map (·.1)).map V.str)) := by
      rw [e2]
      congr 2
      exact range_map (n := (rs.map V.ref).length) (ps.map (·.1)) V.str ("" : Str) (by simp; exact hlen)
    walk_at "go"
    refine ⟨_, _, rfl, same_t s2 hS, ?_⟩
    refine for_w (walk_en (xs := rs.map V.ref)) (fun i σ H' => Same H2 H' ∧ ∃ u1 u2 u3 u4, σ = [some (.ref a), some (.ref D), u1, u2, u3, u4, none]) ⟨Same.refl _, _, _, _, _, rfl⟩ (fun i σ H' _ p => same_t (s2.trans p.1) hS) ?_ ?_
    · rintro i x σ H3 H4 hi ⟨s3, u1, u2, u3, u4, rfl⟩ ⟨T', y1, y2, rfl, hT, rfl, e4, e5⟩
      obtain ⟨p, t, hp, rfl, _, ht⟩ := (hR.mono (frn_same (s2.trans s3))).at e5
      cases e4
      have s4 : Same H3 (upd H3 T' (.tup [V.int (i : Nat), V.ref t])) := same_upd hT
      have hmem : p ∈ ps := List.mem_of_getElem? hp
      have hip : i < ps.length := (List.getElem?_eq_some_iff.mp hp).1
      refine go_gTup (.inl (.inl upd_same)) rfl ?_
      walk_at "go"
      refine go_gTup (.inl (.inl (s4 _ _ ht))) rfl ?_
      walk_at "go"
      refine ⟨p.1, rfl, nmB_len (hG.nm p hmem), fun H5 s5 => ?_⟩
      walk_at "go"
      rw [hG.nm p hmem]
      refine iteT ?_
      walk_at "go"
      refine go_cval T.cc_MAX_PACE.rd T.cc_MAX_PACE.va.choose_spec ?_
      walk_at "go"
      refine ⟨p.2, 1, 1000, rfl, ?_⟩
      rw [decide_eq_true (hG.pc p hmem)]
      walk_at "go"
      refine go_cval T.cc_MAX_PEOPLE.rd T.cc_MAX_PEOPLE.va.choose_spec ?_
      walk_at "go"
      rw [decide_eq_false (show ¬ (12 : Int) ≤ (i : Int) by omega)]
      refine iteF ?_
      walk_at "go"
      refine iteF ?_
      walk_at "go"
      refine go_slL (.inl (.inl (s5 _ _ (s4 _ _ (s3 _ _ e3))))) fun q H6 s6 hq e6 => ?_
      walk_at "go"
      rw [cut_take, ← List.map_take] at e6
      refine go_inL (.inl (.inl (.inl e6))) ?_
      walk_at "go"
      have hn : p.1 ∉ (ps.map (·.1)).take i := by
        intro hm
        obtain ⟨j, hj, ej⟩ := List.mem_iff_getElem.mp hm
        simp at hj ej
        have h1 : (ps.map (·.1))[j]'(by simp; omega) = (ps.map (·.1))[i]'(by simp; omega) := by
          have h2 := (List.getElem?_eq_some_iff.mp hp).2
          simp [ej, h2]
        have := (List.getElem_inj hG.nd).mp h1
        omega
      rw [decide_eq_false hn]
      refine iteF ?_
      walk_at "go"
      exact ⟨s3.trans (s4.trans (s5.trans s6)), _, _, _, _, rfl⟩
    · rintro σ H3 ⟨s3, u1, u2, u3, u4, rfl⟩
      walk_at "go"
      refine ⟨_, _, rfl, .inr (same_t (s2.trans s3) hS), ?_⟩
      walk_at "go"
      rw [decide_eq_false (show ¬ (((rs.map V.ref).length : Int) < 2) by simp; omega)]
      refine iteF ?_
      exact h _ (s2.trans s3)

/-! durations_of -/
def spDurationsOf (K : PySem.W.Frag) : Sp := fun vs H Q _ => ∃ (N : Addr → Prop) (a : Addr) (rs : List Addr) (ps : List Pr), vs = [.ref a] ∧ SqT K H a (rs.map V.ref) ∧ Rows N H rs ps ∧ ps.length ≤ 1000 ∧ ∀ p H', Same H H' → H p = Option.none → H' p = some (.tup ((dsOf ps).map V.int)) → Q (.ref p) H'
theorem sc_durations_of : FnScope ["people", "paces", "_", "pace", "ahead", "behind"] ["people"] (defScope s_durations_of) := ⟨rfl, rfl, rfl, by decide +kernel, rfl, by decide +kernel, by decide +kernel⟩
theorem ok_durations_of (T : Tx K mg) : Fx P w K mg base 1 (He.ga K "durations_of") (spDurationsOf K) := by
  obtain ⟨fd, F⟩ := T.F_durations_of
  have nd := sc_durations_of.nd
  refine fx_of F sc_durations_of (fun vs H Q E h => ?_) (fun _ _ _ _ _ _ us hl => match us, hl with | [_], _ => rfl) fun cdv A outer s H vs Q E hr h => ?_
  · obtain ⟨N, a, rs, ps, rfl, _⟩ := h
    rfl
  obtain ⟨N, a, rs, ps, rfl, hS, hR, hG, h⟩ := h
  refine ⟨_, (pss_cons (ps_setLc (i := 1) (own := [("_", 2), ("pace", 3)]) (g := (gTup K 2 (gCons (gName 2) (gCons (gName 3) gNil)))) rfl nd rfl rfl (sw_true rfl rfl rfl (by decide +kernel)) (pi_tup (pv 0)) (blkOk_by (N := ["people", "paces", "_", "pace", "ahead", "behind"]) (sc := defScope s_durations_of) (own := [("_", 2), ("pace", 3)]) (by decide +kernel)) (fun _ _ _ _ _ => (pg_tup (by rfl) (pgs_cons (pg_name (i := 2) nd rfl (Or.inl rfl)) (pgs_cons (pg_name (i := 3) nd rfl (Or.inl rfl)) pgs_nil)))) (fun _ _ _ _ _ => pts_nil) (fun _ _ _ _ _ => (pv 3))) (pss_one (ps_ret (cT call_tuple_of T.m_tuple (pa_cons (pe_lc (own := [("ahead", 4), ("behind", 5)]) (g := (gTup K 2 (gCons (gName 4) (gCons (gName 5) gNil)))) rfl nd (RZ.pi_zipA rfl T.m_zip (pa_cons (pv 1) (pa_cons (pe_slice sl_list (pv 1) (po_some pe_int) po_none) pa_nil))) (blkOk_by (N := ["people", "paces", "_", "pace", "ahead", "behind"]) (sc := defScope s_durations_of) (own := [("ahead", 4), ("behind", 5)]) (by decide +kernel)) (fun _ _ _ _ _ => (pg_tup (by rfl) (pgs_cons (pg_name (i := 4) nd rfl (Or.inl rfl)) (pgs_cons (pg_name (i := 5) nd rfl (Or.inl rfl)) pgs_nil)))) (fun _ _ _ _ _ => pts_nil) (fun _ _ _ _ _ => (cB (call_max2 rfl) T.m_max (pa_cons (pv 4) (pa_cons (pv 5) pa_nil))))) pa_nil))))), ?_⟩
  have hlen := hR.1
  walk_at "go"
  refine ⟨⟨_, hS⟩, ?_⟩
  refine lc_fun (walk_tup (xs := rs.map V.ref)) (fun H2 s2 => same_t s2 hS) (fun i => .int ((ps.map (·.2)).getD i 0)) (by simp; omega) ?_ ?_
  · rintro i x H2 H3 k hi s2 ⟨rfl, hx⟩ hk
    obtain ⟨p, t, hp, rfl, _, ht⟩ := (hR.mono (frn_same s2)).at hx
    refine go_gTup (.inl (.inl ht)) rfl ?_
    walk_at "go"
    refine ⟨rfl, ?_⟩
    walk_at "go"
    have q := hk _ (Same.refl _)
    have e1 : (ps.map (·.2)).getD i 0 = p.2 := by simp [List.getD, hp]
    rw [e1] at q
    exact q
  · intro D H2 hD s2 e2
    have e3 : H2 D = some (.lst ((ps.map (·.2)).map V.int)) := by
      rw [e2]
      congr 2
      exact range_map (n := (rs.map V.ref).length) (ps.map (·.2)) V.int 0 (by simp; exact hlen)
    walk_at "go"
    refine go_slL (.inl (.inl e3)) fun q H3 s3 hq e4 => ?_
    walk_at "go"
    rw [show (1 : Int) = ((1 : Nat) : Int) from rfl, cut_drop, ← List.map_drop] at e4
    refine ⟨D, q, _, _, rfl, .inl ⟨.inl (.inl (s3 _ _ e3)), .inl (.inl e4), ?_⟩⟩
    refine lc_fun (walk_zip (n := ps.length - 1) (xs := (ps.map (·.2)).map V.int) (ys := ((ps.map (·.2)).drop 1).map V.int) (by walk_at "so")) (fun H4 s4 => ⟨.inl (.inl (s4 _ _ (s3 _ _ e3))), .inl (.inl (s4 _ _ e4))⟩) (fun i => .int (max ((ps.map (·.2)).getD i 0) ((ps.map (·.2)).getD (i + 1) 0))) (by omega) ?_ ?_
    · rintro i x H4 H5 k hi s4 ⟨T', y1, y2, rfl, hT, rfl, f1, f2⟩ hk
      obtain ⟨z1, g1, rfl⟩ := map_at f1
      obtain ⟨z2, g2, rfl⟩ := map_at f2
      refine go_gTup (.inl (.inl upd_same)) rfl ?_
      walk_at "go"
      refine ⟨rfl, ?_⟩
      walk_at "go"
      refine ⟨z1, z2, rfl, ?_⟩
      have q := hk _ (same_upd (o := .tup [V.int z1, V.int z2]) hT)
      have g3 : (ps.map (·.2)).getD i 0 = z1 := by rw [List.getD, g1]; rfl
      have g4 : (ps.map (·.2)).getD (i + 1) 0 = z2 := by
        rw [List.getElem?_drop, Nat.add_comm] at g2
        rw [List.getD, g2]
        rfl
      rw [g3, g4] at q
      have e5 : (if z2 > z1 then z2 else z1) = max z1 z2 := by omega
      rw [e5]
      exact q
    · intro D2 H4 hD2 s4 e5
      walk_at "go"
      refine ⟨D2, _, rfl, .inl ⟨.inl (.inl e5), fun l hl => ?_⟩⟩
      refine h l _ (s2.trans (s3.trans (s4.trans (same_upd hl)))) ((s2.trans (s3.trans s4)).free hl) ?_
      rw [upd_same, dsOf_eq, List.map_map]
      rfl

end
end K
namespace K
open PySem PySem.Spec PyProof.Rows L2 Bk
local macro_rules | `(tactic| walk_at "go1") => `(tactic| (first
  | ((with_reducible show tVar _ _ _ _); refine go_var rfl ?_)
  | (with_reducible first | refine go_c ?_ | refine go_op ?_ | refine go_cons ?_ | refine go_nil ?_ | refine go_cb ?_ | refine go_cl ?_ | refine go_seq ?_ | refine go_asg ?_ | refine go_name ?_ | refine go_ifS ?_ | refine go_test ?_ | refine go_bl ?_)
  | (with_reducible first | refine go_rI0 ?_ | refine go_rU ?_ | refine go_ret ?_ | refine go_next ?_ | refine go_B ?_ | refine go_and ?_ | refine go_or ?_ | refine go_not ?_ | refine go_if ?_ | refine go_andV ?_ | refine go_orV ?_ | refine go_notV ?_)
  | ((with_reducible show rEq _ _ _ _); refine go_rEq rfl ?_)
  | ((with_reducible show rNe _ _ _ _); refine go_rNe rfl ?_)
  | (with_reducible first | refine go_un ?_ | refine go_chain ?_ | refine go_drop ?_ | refine go_retN ?_ | refine go_isN ?_ | refine go_notN ?_ | refine go_cont ?_ | refine go_break ?_ | refine go_par ?_ | refine go_two ?_ | refine go_part ?_ | refine go_noPart ?_ | refine go_int ?_ | refine go_sl ?_ | refine go_yes ?_ | refine go_tup ?_ | refine go_lst ?_)
  | (with_reducible first | refine go_gCons ?_ | refine go_gNil ?_ | refine go_for ?_ | refine go_iEnT ?_ | refine go_iEnum ?_ | refine go_iList ?_ | refine go_iTup ?_ | refine go_iStr ?_ | refine go_iRng1 ?_ | refine go_iRng2 ?_ | refine go_iZip ?_ | refine go_lc ?_ | refine go_mkR ?_ | refine go_mkS ?_ | refine go_clO ?_ | refine go_pr ?_ | refine go_sfld ?_ | refine go_bm ?_ | refine go_ref ?_)))
local macro_rules | `(tactic| walk_at "go") => `(tactic| ((repeat (walk_at "go1")); try dsimp only))
local macro_rules | `(tactic| walk_at "so") => `(tactic| first | omega | (simp; done) | (simp; omega) | (simp at *; omega))
section
variable {P : Program} {w : World} {K : PySem.W.Frag} {mg : Str → Option Value} {base : Heap}
/-! Line.__init__ and the properties -/
def spInit (K : PySem.W.Frag) : Sp := fun vs H Q _ => ∃ (N M : Addr → Prop) (o dx a : Addr) (rs : List Addr) (ps : List Pr), vs = [.ref o, .ref a] ∧ N o ∧ (∀ p, H p = Option.none → N p) ∧ H o = some (.ins (He.ga K "Line") dx []) ∧ H a = some (.tup (rs.map V.ref)) ∧ Rows M H rs ps ∧ Good ps ∧
  ∀ H', FrD o H H' → LineAt K N H' o ps → Q .non H'
theorem mk_ok {K : PySem.W.Frag} {N M : Addr → Prop} {H : Hp} {vs : List V} {rs : List Addr} {ps : List Pr} {Q : VK} {E : XK} (hN : ∀ p, H p = Option.none → N p) (ev : vs = rs.map V.ref) (hR : Rows M H rs ps) (hG : Good ps)
    (k : ∀ x H2, Same H H2 → H x = Option.none → LineAt K N H2 x ps → Q (.ref x) H2) :
    ∀ x dx, H x = Option.none → H dx = Option.none → dx ≠ x → StSp 1 (spInit K) (V.ref x :: vs) (upd (upd H dx (.own x)) x (.ins (He.ga K "Line") dx [])) (fun v H2 => v = .non ∧ Q (.ref x) H2) E := by
  intro x dx hx hdx hne
  subst ev
  have s0 : Same H (upd (upd H dx (.own x)) x (.ins (He.ga K "Line") dx [])) := fun b o e => by
    rw [upd_ne (ne_of_none e hx), upd_ne (ne_of_none e hdx)]
    exact e
  have hlen := hR.1
  have hm := hG.most
  refine ⟨[V.ref x], rs.map V.ref, rfl, rfl, Nat.le_trans (by simp; omega) (show 12 ≤ sizeLine by decide), fun p hp => ?_⟩
  have s1 := same_upd (o := .tup (rs.map V.ref)) hp
  refine ⟨N, M, x, dx, p, rs, ps, rfl, hN _ hx, fun q hq => hN _ (s0.free (s1.free hq)), s1 _ _ upd_same, upd_same, hR.mono (frn_same (s0.trans s1)), hG, fun H' f L => ⟨rfl, k x H' (fun b o e => f b o (ne_of_none e hx) (s1 _ _ (s0 _ _ e))) hx L⟩⟩
def spNames (K : PySem.W.Frag) : Sp := fun vs H Q _ => ∃ (N : Addr → Prop) (o dx tp tn td : Addr) (rs : List Addr) (ps : List Pr), vs = [.ref o] ∧ LineF K N H o dx tp tn td rs ps ∧ Q (.ref tn) H
def spDurs (K : PySem.W.Frag) : Sp := fun vs H Q _ => ∃ (N : Addr → Prop) (o dx tp tn td : Addr) (rs : List Addr) (ps : List Pr), vs = [.ref o] ∧ LineF K N H o dx tp tn td rs ps ∧ Q (.ref td) H
theorem sc_Lineu_initu : FnScope ["self", "people", "name", "pace", "_"] ["self", "people"] (defScope s_Lineu_initu) := ⟨rfl, rfl, rfl, by decide +kernel, rfl, by decide +kernel, by decide +kernel⟩
theorem ok_Lineu_initu (T : Tx K mg) (D_check_people : Fx P w K mg base 3 (He.ga K "check_people") (spCheckPeople K)) (D_durations_of : Fx P w K mg base 1 (He.ga K "durations_of") (spDurationsOf K)) : Fx P w K mg base 5 (He.ma K (He.ga K "Line") "__init__") (StSp 1 (spInit K)) := by
  have K_check_people : PySem.W.keepIn K (.ref (He.ga K "check_people")) = true := T.F_check_people.elim fun _ q => q.kp
  have K_durations_of : PySem.W.keepIn K (.ref (He.ga K "durations_of")) = true := T.F_durations_of.elim fun _ q => q.kp
  obtain ⟨fd, F⟩ := T.F_Lineu_initu
  have nd := sc_Lineu_initu.nd
  refine fx_star (ps := ["self"]) F sc_Lineu_initu (fun kV doc pm an cdv ct => StX.bind_star1 (B := fun l => bindArgs (PySem.W.fnOf "__init__" "Line.__init__" (defArgs s_Lineu_initu) (defBody s_Lineu_initu) (defScope s_Lineu_initu) .none kV doc pm an cdv ct) ⟨l, []⟩) (p1 := "self") (pv := "people") (fun a => rfl) (fun a r rs => rfl)) fun cdv A outer s H vs Q E hr h => ?_
  obtain ⟨N, M, o, dx, a, rs, ps, rfl, No, hN, hO, hS, hR, hG, h⟩ := h
  refine ⟨_, (pss_cons (ps_expr (pe_cl D_check_people hr K_check_people T.g_check_people passL (pa_cons (pv 1) pa_nil))) (pss_cons (ps_fld (pv 0) (cT call_tuple_of T.m_tuple (pa_cons (pe_lc (own := [("name", 2), ("pace", 3)]) (g := (gTup K 2 (gCons (gName 2) (gCons (gName 3) gNil)))) rfl nd (pi_tup (pv 1)) (blkOk_by (N := ["self", "people", "name", "pace", "_"]) (sc := defScope s_Lineu_initu) (own := [("name", 2), ("pace", 3)]) (by decide +kernel)) (fun _ _ _ _ _ => (pg_tup (by rfl) (pgs_cons (pg_name (i := 2) nd rfl (Or.inl rfl)) (pgs_cons (pg_name (i := 3) nd rfl (Or.inl rfl)) pgs_nil)))) (fun _ _ _ _ _ => pts_nil) (fun _ _ _ _ _ => (pe_tup (pa_cons (pv 2) (pa_cons (pv 3) pa_nil))))) pa_nil)) rfl) (pss_cons (ps_fld (pv 0) (cT call_tuple_of T.m_tuple (pa_cons (pe_lc (own := [("name", 2), ("_", 4)]) (g := (gTup K 2 (gCons (gName 2) (gCons (gName 4) gNil)))) rfl nd (pi_tup (pv 1)) (blkOk_by (N := ["self", "people", "name", "pace", "_"]) (sc := defScope s_Lineu_initu) (own := [("name", 2), ("_", 4)]) (by decide +kernel)) (fun _ _ _ _ _ => (pg_tup (by rfl) (pgs_cons (pg_name (i := 2) nd rfl (Or.inl rfl)) (pgs_cons (pg_name (i := 4) nd rfl (Or.inl rfl)) pgs_nil)))) (fun _ _ _ _ _ => pts_nil) (fun _ _ _ _ _ => (pv 2))) pa_nil)) rfl) (pss_one (ps_fld (pv 0) (pe_cl D_durations_of hr K_durations_of T.g_durations_of passL (pa_cons (pv 1) pa_nil)) rfl))))), ?_⟩
  have hlen := hR.1
  have hm := hG.most
  have hao : a ≠ o := ne_of hS hO (fun z => by cases z)
  walk_at "go"
  refine ⟨M, _, rs, ps, rfl, .inl (.inl hS), hR, hG, fun H1 s1 => ?_⟩
  walk_at "go"
  refine ⟨⟨_, .inl (.inl (s1 _ _ hS))⟩, ?_⟩
  refine lc_gen (walk_tup (xs := rs.map V.ref)) (fun H2 s2 => .inl (.inl (s2 _ _ (s1 _ _ hS)))) (fun D i y H => ∃ p t, ps[i]? = some p ∧ y = V.ref t ∧ t ≠ D ∧ t ≠ o ∧ N t ∧ H t = some (.tup [.str p.1, .int p.2])) (fun D i y H2 H3 f ⟨p, t, a1, a2, a3, a4, a5, a6⟩ => ⟨p, t, a1, a2, a3, a4, a5, f _ _ a3 a6⟩) (by walk_at "so") ?_ ?_
  · rintro D i x H2 H3 k hD hi s2 ⟨oD, hoD⟩ ⟨rfl, hx⟩ hk
    obtain ⟨p, t, hp, rfl, _, ht⟩ := (hR.mono (frn_same (s1.trans s2))).at hx
    refine go_gTup (.inl (.inl ht)) rfl ?_
    walk_at "go"
    refine ⟨rfl, ?_⟩
    walk_at "go"
    refine ⟨show 2 ≤ sizeLine by decide, fun q hq => hk _ _ (same_upd hq) ⟨p, q, hp, rfl, fun z => ?_, fun z => ?_, hN _ ((s1.trans s2).free hq), upd_same⟩⟩
    · rw [z, hoD] at hq
      cases hq
    · rw [z, s2 _ _ (s1 _ _ hO)] at hq
      cases hq
  · intro D ys H2 hD s2 e2 hl hy
    walk_at "go"
    refine ⟨D, _, rfl, .inl ⟨.inl (.inl e2), fun tp htp => ?_⟩⟩
    walk_at "go"
    have s3 := same_upd (o := .tup ys) htp
    have s03 := (s1.trans s2).trans s3
    refine ⟨o, _, dx, _, rfl, s03 _ _ hO, T.cl_Line, T.no_Line_people, by decide, ?_⟩
    have rows : ∃ rs2 : List Addr, ys = rs2.map V.ref ∧ ∀ (H' : Hp), FrD o (upd H2 tp (.tup ys)) H' → Rows N H' rs2 ps := by
      refine ⟨ys.map fun y => match y with | .ref t => t | _ => 0, ?_, fun H' fr => ⟨by simp at hl ⊢; omega, fun i p hp => ?_⟩⟩
      · rw [List.map_map]
        symm
        apply List.ext_getElem?
        intro i
        cases ei : ys[i]? with
        | none => simp [ei]
        | some y =>
          obtain ⟨p, t, _, rfl, _⟩ := hy i y ei
          simp [ei]
      · have hi : i < ys.length := by
          have := (List.getElem?_eq_some_iff.mp hp).1
          simp at hl
          omega
        obtain ⟨p', t, a1, a2, a3, a4, a5, a6⟩ := hy i ys[i] (by simp [hi])
        rw [hp] at a1
        cases a1
        refine ⟨t, ?_, a5, fr _ _ a4 (s3 _ _ a6)⟩
        rw [List.getElem?_map, show ys[i]? = some ys[i] by simp [hi], a2]
        rfl
    obtain ⟨rs2, ey, rows⟩ := rows
    have otp : tp ≠ o := fun z => by
      rw [z, (s1.trans s2) _ _ hO] at htp
      cases htp
    have Ntp : N tp := hN _ ((s1.trans s2).free htp)
    generalize hU1 : upd (upd H2 tp (.tup ys)) o (.ins (He.ga K "Line") dx (putF "_people" (.ref tp) [])) = U1
    have f1 : FrD o (upd H2 tp (.tup ys)) U1 := hU1 ▸ frd_upd
    have o1 : U1 o = some (.ins (He.ga K "Line") dx (putF "_people" (.ref tp) [])) := hU1 ▸ upd_same
    have p1 : U1 tp = some (.tup (rs2.map V.ref)) := f1 _ _ otp (by rw [← ey]; exact upd_same)
    have g1 : FrD o H U1 := (frd_same s03).trans f1
    have free1 : ∀ q, U1 q = Option.none → H q = Option.none := fun q hq => by
      cases e : H q with
      | none => rfl
      | some u =>
        by_cases z : q = o
        · rw [z, o1] at hq; cases hq
        · rw [g1 _ _ z e] at hq; cases hq
    have R2 : Rows N U1 rs2 ps := rows U1 f1
    have A1 : U1 a = some (.tup (rs.map V.ref)) := g1 _ _ hao hS
    have hRo : ∀ (i : Nat) (p : Pr), ps[i]? = some p → ∃ t, rs[i]? = some t ∧ t ≠ o ∧ H t = some (.tup [.str p.1, .int p.2]) := fun i p hp => by
      obtain ⟨t, b1, _, b3⟩ := hR.2 i p hp
      exact ⟨t, b1, ne_of b3 hO (fun z => by cases z), b3⟩
    have R1 : Rows (fun b => b ≠ o) U1 rs ps := ⟨hlen, fun i p hp => by
      obtain ⟨t, b1, b2, b3⟩ := hRo i p hp
      exact ⟨t, b1, b2, g1 _ _ b2 b3⟩⟩
    walk_at "go"
    refine ⟨⟨_, .inl (.inl A1)⟩, ?_⟩
    refine lc_fun (walk_tup (xs := rs.map V.ref)) (fun H3 s4 => .inl (.inl (s4 _ _ A1))) (fun i => .str ((ps.map (·.1)).getD i ("" : Str))) (by walk_at "so") ?_ ?_
    · rintro i x H3 H4 k hi s4 ⟨rfl, hx⟩ hk
      obtain ⟨p, t, hp, rfl, _, ht⟩ := (R1.mono (frn_same s4)).at hx
      refine go_gTup (.inl (.inl ht)) rfl ?_
      walk_at "go"
      refine ⟨rfl, ?_⟩
      walk_at "go"
      have q := hk _ (Same.refl _)
      have e1 : (ps.map (·.1)).getD i ("" : Str) = p.1 := by simp [List.getD, hp]
      rw [e1] at q
      exact q
    · intro D2 H3 hD2 s4 e4
      have e5 : H3 D2 = some (.lst ((ps.map (·.1)).map V.str)) := by
        rw [e4]
        congr 2
        exact range_map (n := (rs.map V.ref).length) (ps.map (·.1)) V.str ("" : Str) (by simp; exact hlen)
      walk_at "go"
      refine ⟨D2, _, rfl, .inl ⟨.inl (.inl e5), fun tn htn => ?_⟩⟩
      walk_at "go"
      have s5 := same_upd (o := .tup ((ps.map (·.1)).map V.str)) htn
      have s45 := s4.trans s5
      refine ⟨o, _, dx, _, rfl, s45 _ _ o1, T.cl_Line, T.no_Line_names, putF_len1 _ _, ?_⟩
      have otn : tn ≠ o := fun z => by
        rw [z, s4 _ _ o1] at htn
        cases htn
      have Ntn : N tn := hN _ (free1 _ (s4.free htn))
      have n2 : (upd H3 tn (.tup ((ps.map (·.1)).map V.str))) tn = some (.tup ((ps.map (·.1)).map V.str)) := upd_same
      generalize hU2 : upd (upd H3 tn (.tup ((ps.map (·.1)).map V.str))) o (.ins (He.ga K "Line") dx (putF "_names" (.ref tn) (putF "_people" (.ref tp) []))) = U2
      have f2 : FrD o (upd H3 tn (.tup ((ps.map (·.1)).map V.str))) U2 := hU2 ▸ frd_upd
      have o2 : U2 o = some (.ins (He.ga K "Line") dx (putF "_names" (.ref tn) (putF "_people" (.ref tp) []))) := hU2 ▸ upd_same
      have g2 : FrD o U1 U2 := (frd_same s45).trans f2
      have fn2 := f2 _ _ otn n2
      walk_at "go"
      refine ⟨(fun b => b ≠ o), _, rs, ps, rfl, .inl (.inl (g2 _ _ hao A1)), R1.mono (fun b u n e => g2 b u n e), by omega, fun td H4 s6 htd etd => ?_⟩
      walk_at "go"
      refine ⟨o, _, dx, _, rfl, s6 _ _ o2, T.cl_Line, T.no_Line_durations, putF_len2 _ _ _ _, ?_⟩
      have otd : td ≠ o := fun z => by
        rw [z, o2] at htd
        cases htd
      have free2 : H td = Option.none := by
        cases e : H td with
        | none => rfl
        | some u => rw [g2 _ _ otd (g1 _ _ otd e)] at htd; cases htd
      have f3 : FrD o H4 (upd H4 o (.ins (He.ga K "Line") dx (lf tp tn td))) := frd_upd
      have g3 : FrD o U2 (upd H4 o (.ins (He.ga K "Line") dx (lf tp tn td))) := (frd_same s6).trans f3
      refine h _ (g1.trans (g2.trans g3)) ⟨dx, tp, tn, td, rs2, No, Ntp, Ntn, hN _ free2, upd_same, g3 _ _ otp (g2 _ _ otp p1), rows _ (f1.trans (g2.trans g3)), g3 _ _ otn fn2, f3 _ _ otd etd⟩

theorem sc_Line_names : FnScope ["self"] ["self"] (defScope s_Line_names) := ⟨rfl, rfl, rfl, by decide +kernel, rfl, by decide +kernel, by decide +kernel⟩
theorem ok_Line_names (T : Tx K mg) : Fx P w K mg base 1 (gt K "Line" "names") (spNames K) := by
  obtain ⟨fd, F⟩ := T.F_Line_names
  have nd := sc_Line_names.nd
  refine fx_of F sc_Line_names (fun vs H Q E h => ?_) (fun _ _ _ _ _ _ us hl => match us, hl with | [_], _ => rfl) fun cdv A outer s H vs Q E hr h => ?_
  · obtain ⟨N, o, dx, tp, tn, td, rs, ps, rfl, _⟩ := h
    rfl
  obtain ⟨N, o, dx, tp, tn, td, rs, ps, rfl, L, h⟩ := h
  refine ⟨_, (pss_one (ps_ret (pe_fld (pv 0) rfl))), ?_⟩
  walk_at "go"
  exact go_fld L.obj T.cl_Line T.no_Line_names (lf_n _ _ _) h

/-! turns, growths, hand_over_end -/
def turnsL (ds : List Int) : List Int := if ds.length = 1 then ds else (List.range (ds.length - 1)).map fun i => ds.getD i 0 + ds.getD (i + 1) 0
def spTurns (K : PySem.W.Frag) : Sp := fun vs H Q _ => ∃ (a : Addr) (ds : List Int), vs = [.ref a] ∧ SqT K H a (ds.map V.int) ∧ 1 ≤ ds.length ∧ ds.length ≤ 1000 ∧ ∀ p H', Same H H' → H p = Option.none → H' p = some (.lst ((turnsL ds).map V.int)) → Q (.ref p) H'
theorem sc_turns : FnScope ["durations", "one", "two"] ["durations"] (defScope s_turns) := ⟨rfl, rfl, rfl, by decide +kernel, rfl, by decide +kernel, by decide +kernel⟩
theorem ok_turns (T : Tx K mg) : Fx P w K mg base 1 (He.ga K "turns") (spTurns K) := by
  obtain ⟨fd, F⟩ := T.F_turns
  have nd := sc_turns.nd
  refine fx_of F sc_turns (fun vs H Q E h => ?_) (fun _ _ _ _ _ _ us hl => match us, hl with | [_], _ => rfl) fun cdv A outer s H vs Q E hr h => ?_
  · obtain ⟨a, ds, rfl, _⟩ := h
    rfl
  obtain ⟨a, ds, rfl, hS, h1, h2, h⟩ := h
  refine ⟨_, (pss_cons (ps_if (pt_cmpR op_eq (cB call_len_seq T.m_len (pa_cons (pv 0) pa_nil)) pe_int (nomark _)) (pss_one (ps_ret (cT call_list_of T.m_list (pa_cons (pv 0) pa_nil)))) pss_nil) (pss_one (ps_ret (pe_lc (own := [("one", 1), ("two", 2)]) (g := (gTup K 2 (gCons (gName 1) (gCons (gName 2) gNil)))) rfl nd (RZ.pi_zipA rfl T.m_zip (pa_cons (pv 0) (pa_cons (pe_slice sl_tupA (pv 0) (po_some pe_int) po_none) pa_nil))) (blkOk_by (N := ["durations", "one", "two"]) (sc := defScope s_turns) (own := [("one", 1), ("two", 2)]) (by decide +kernel)) (fun _ _ _ _ _ => (pg_tup (by rfl) (pgs_cons (pg_name (i := 1) nd rfl (Or.inl rfl)) (pgs_cons (pg_name (i := 2) nd rfl (Or.inl rfl)) pgs_nil)))) (fun _ _ _ _ _ => pts_nil) (fun _ _ _ _ _ => (pe_op op_add (pv 1) (pv 2))))))), ?_⟩
  walk_at "go"
  refine ⟨_, _, rfl, .inr hS, ?_⟩
  walk_at "go"
  refine iteD (fun hc => ?_) fun hc => ?_
  · walk_at "go"
    refine ⟨_, _, rfl, .inr hS, fun p hp => h p _ (same_upd hp) hp ?_⟩
    have e1 : ds.length = 1 := by
      have := V.int.inj hc
      simp at this
      omega
    rw [upd_same, turnsL, if_pos e1]
  · have e1 : ds.length ≠ 1 := fun z => hc (by simp [z])
    walk_at "go"
    refine go_slT hS fun q H2 s2 _ hq => ?_
    walk_at "go"
    rw [show (1 : Int) = ((1 : Nat) : Int) from rfl, cut_drop, ← List.map_drop] at hq
    refine ⟨a, q, _, _, rfl, .inr ⟨same_t s2 hS, hq, ?_⟩⟩
    refine lc_fun (walk_zipT (n := ds.length - 1) (xs := ds.map V.int) (ys := (ds.drop 1).map V.int) (by walk_at "so")) (fun H4 s4 => ⟨same_t (s2.trans s4) hS, same_t s4 hq⟩) (fun i => .int (ds.getD i 0 + ds.getD (i + 1) 0)) (by omega) ?_ ?_
    · rintro i x H4 H5 k hi s4 ⟨T', y1, y2, rfl, hT, rfl, f1, f2⟩ hk
      obtain ⟨z1, g1, rfl⟩ := map_at f1
      obtain ⟨z2, g2, rfl⟩ := map_at f2
      refine go_gTup (.inl (.inl upd_same)) rfl ?_
      walk_at "go"
      refine ⟨rfl, ?_⟩
      walk_at "go"
      have q := hk _ (same_upd (o := .tup [V.int z1, V.int z2]) hT)
      have g3 : ds.getD i 0 = z1 := by rw [List.getD, g1]; rfl
      have g4 : ds.getD (i + 1) 0 = z2 := by
        rw [List.getElem?_drop, Nat.add_comm] at g2
        rw [List.getD, g2]
        rfl
      rw [g3, g4] at q
      exact q
    · intro D2 H4 hD2 s4 e5
      walk_at "go"
      refine h D2 _ (s2.trans s4) (s2.free hD2) ?_
      rw [e5, turnsL, if_neg e1, List.map_map]
      rfl

theorem _root_.Bk.ixL (K0 : PySem.W.Frag) {X : Cx} (h : X.K = K0 := by rfl) : IxR X (rIxL K0) := h ▸ ix_list
theorem _root_.Bk.ixT (K0 : PySem.W.Frag) {X : Cx} (h : X.K = K0 := by rfl) : IxR X (rIxT K0) := h ▸ ix_tup
theorem ty_lst {K : PySem.W.Frag} {H : Hp} {a : Addr} {xs : List V} (h : H a = some (.lst xs)) : tyV K "list" (.ref a) H := .inl ⟨rfl, xs, .inl (.inl h)⟩
/-! the mathematics of growths -/
def dd (ds : List Int) (i : Nat) : Int := ds.getD i 0
def tN (n : Nat) : Nat := max (n - 1) 1
theorem turns_eq {ds : List Int} (h : 1 ≤ ds.length) : turnsL ds = (List.range (tN ds.length)).map (Mt.tn (dd ds)) := by
  unfold turnsL tN
  by_cases e : ds.length = 1
  · rw [if_pos e, e]
    match ds, e with
    | [x], _ => simp [Mt.tn, dd]
  · rw [if_neg e, show max (ds.length - 1) 1 = ds.length - 1 by omega]
    rfl
theorem Lm_mem (d : Nat → Int) : ∀ r, 1 ≤ r → ∃ i, i < r ∧ Mt.Lm d r = Mt.tn d i
  | 0, h => by omega
  | 1, _ => ⟨0, by omega, Mt.Lm_1 d⟩
  | r + 2, _ => by
    obtain ⟨i, hi, e⟩ := Lm_mem d (r + 1) (by omega)
    have e2 : Mt.Lm d (r + 2) = max (Mt.Lm d (r + 1)) (Mt.tn d (r + 1)) := rfl
    by_cases hc : Mt.Lm d (r + 1) ≤ Mt.tn d (r + 1)
    · exact ⟨r + 1, by omega, by omega⟩
    · exact ⟨i, by omega, by omega⟩
theorem max_is {d : Nat → Int} {r : Nat} {m : Int} (h1 : 1 ≤ r) (hm : m ∈ (List.range r).map (Mt.tn d)) (hle : ∀ y, y ∈ (List.range r).map (Mt.tn d) → y ≤ m) : m = Mt.Lm d r := by
  obtain ⟨i, hi, e⟩ := Lm_mem d r h1
  have a1 := hle (Mt.tn d i) (List.mem_map.mpr ⟨i, List.mem_range.mpr hi, rfl⟩)
  obtain ⟨j, hj, rfl⟩ := List.mem_map.mp hm
  have a2 := Mt.Lm_le d (List.mem_range.mp hj)
  omega
theorem sum_take (ds : List Int) : ∀ p, p < ds.length → (ds.take (p + 1)).sum = Mt.Wy (dd ds) p
  | 0, h => by
    match ds, h with
    | x :: r, _ => simp [Mt.Wy, dd]
  | p + 1, h => by
    rw [List.take_succ_eq_append_getElem h, List.sum_append, sum_take ds p (by omega)]
    have e : dd ds (p + 1) = ds[p + 1] := by simp [dd, List.getD, h]
    simp [Mt.Wy, e]
theorem sum_Ls (d : Nat → Int) (L : Int) : ∀ (k p : Nat), ((List.range k).map fun i => L - Mt.tn d (p + i)).sum = Mt.Ls d L p k
  | 0, p => by simp [Mt.Ls]
  | k + 1, p => by
    have e := sum_Ls d L k (p + 1)
    rw [List.range_succ_eq_map, List.map_cons, List.map_map, List.sum_cons]
    have e2 : ((fun i => L - Mt.tn d (p + i)) ∘ Nat.succ) = fun i => L - Mt.tn d (p + 1 + i) := by
      funext i
      simp only [Function.comp]
      rw [show p + i.succ = p + 1 + i by omega]
    rw [e2, e]
    rfl
theorem take_rm {α : Type} (f : Nat → α) (r n : Nat) (h : r ≤ n) : ((List.range n).map f).take r = (List.range r).map f := by
  rw [← List.map_take, List.take_range, Nat.min_eq_left h]
theorem drop_rm {α : Type} (f : Nat → α) (p r : Nat) : ((List.range r).map f).drop p = (List.range (r - p)).map fun i => f (p + i) := by
  apply List.ext_getElem?
  intro i
  rw [List.getElem?_drop]
  by_cases h : p + i < r
  · simp [h, show i < r - p by omega]
  · simp [h, show ¬ i < r - p by omega]
def StV (d : Nat → Int) (p r : Nat) : Int := Mt.Wy d p - Mt.Ls d (Mt.Lm d r) p (r - p)
theorem Fv_St (d : Nat → Int) (r b p : Nat) : Mt.Fv d r b p = StV d p r + Mt.Lm d r * (b : Int) := rfl
def GrAt (H : Hp) (D : Addr) (d : Nat → Int) (p n : Nat) : Prop := ∃ ys : List V, H D = some (.lst ys) ∧ ys.length = tN n + 1 - max p 1 ∧ ∀ (i : Nat) (y : V), ys[i]? = some y → ∃ t, y = .ref t ∧ H t = some (.tup [.int (StV d p (max p 1 + i)), .int (Mt.Lm d (max p 1 + i))])
theorem GrAt.mono {H H' : Hp} {D : Addr} {d : Nat → Int} {p n : Nat} (s : Same H H') (h : GrAt H D d p n) : GrAt H' D d p n := by
  obtain ⟨ys, a, b, c⟩ := h
  exact ⟨ys, s _ _ a, b, fun i y e => by
    obtain ⟨t, x, z⟩ := c i y e
    exact ⟨t, x, s _ _ z⟩⟩
theorem dd_bd {ds : List Int} (h : ∀ x ∈ ds, 0 ≤ x ∧ x ≤ 1000) (i : Nat) : 0 ≤ dd ds i ∧ dd ds i ≤ 1000 := by
  unfold dd
  by_cases hi : i < ds.length
  · have := h ds[i] (List.getElem_mem _)
    simpa [List.getD, hi] using this
  · simp [List.getD, hi]
theorem Lm_bd {d : Nat → Int} (h : ∀ i, 0 ≤ d i ∧ d i ≤ 1000) : ∀ r, 0 ≤ Mt.Lm d r ∧ Mt.Lm d r ≤ 2000
  | 0 => by
    have a := h 0
    have b := h (0 + 1)
    simp only [Mt.Lm, Mt.tn]
    omega
  | r + 1 => by
    have a := h r
    have b := h (r + 1)
    have c := Lm_bd h r
    simp only [Mt.Lm, Mt.tn]
    omega
theorem end_is {ds : List Int} (hb : ∀ x ∈ ds, 0 ≤ x ∧ x ≤ 1000) {p b : Nat} {m : Int} (hp : p < ds.length) (hm : m ∈ (List.range (tN ds.length + 1 - max p 1)).map fun i => Mt.Fv (dd ds) (max p 1 + i) b p)
    (hle : ∀ y, (y ∈ (List.range (tN ds.length + 1 - max p 1)).map fun i => Mt.Fv (dd ds) (max p 1 + i) b p) → y ≤ m) : m = Mt.En (dd ds) (ds.length - 1) b p := by
  obtain ⟨i, hi, rfl⟩ := List.mem_map.mp hm
  have hi := List.mem_range.mp hi
  by_cases e : ds.length = 1
  · have e0 : p = 0 := by omega
    subst e0
    rw [e] at hi ⊢
    have ei : i = 0 := by unfold tN at hi; omega
    subst ei
    have d1 : dd ds 1 = 0 := by simp [dd, List.getD, e]
    show Mt.Fv (dd ds) 1 b 0 = _
    have el : Mt.Lm (dd ds) 1 = dd ds 0 := by
      rw [Mt.Lm_1]
      simp [Mt.tn, d1]
    rw [show 1 - 1 = 0 from rfl, Mt.En_one]
    unfold Mt.Fv
    rw [el]
    simp [Mt.Ls, Mt.Wy, Mt.tn, d1]
  · have eT : tN ds.length = ds.length - 1 := by unfold tN; omega
    rw [eT] at hi hle
    have h0 := Mt.Fv_le (dd ds) (ds.length - 1) b p (max p 1 + i) (by omega) (by omega) (by omega) (by omega)
    obtain ⟨r, h1, h2, h3, e1⟩ := Mt.Fv_is (dd ds) (ds.length - 1) (fun i _ => (dd_bd hb i).1) (by omega) b p (by omega)
    have h4 := hle (Mt.Fv (dd ds) r b p) (List.mem_map.mpr ⟨r - max p 1, List.mem_range.mpr (by omega), by rw [show max p 1 + (r - max p 1) = r by omega]⟩)
    omega
def spPace (K : PySem.W.Frag) : Sp := fun vs H Q _ => ∃ (N : Addr → Prop) (o dx tp tn td : Addr) (rs : List Addr) (ps : List Pr), vs = [.ref o] ∧ LineF K N H o dx tp tn td rs ps ∧ 2 ≤ ps.length ∧ ps.length ≤ 1000 ∧ ∀ H', Same H H' → Q (.int (Mt.Lm (dd (dsOf ps)) (tN (ps.length - 1)))) H'
def spGrowths (K : PySem.W.Frag) : Sp := fun vs H Q _ => ∃ (a : Addr) (ds : List Int) (p : Nat), vs = [.ref a, .int p] ∧ SqT K H a (ds.map V.int) ∧ 1 ≤ ds.length ∧ ds.length ≤ 1000 ∧ p < ds.length ∧ ∀ D H', Same H H' → H D = Option.none → GrAt H' D (dd ds) p ds.length → Q (.ref D) H'
def spEnd (K : PySem.W.Frag) : Sp := fun vs H Q _ => ∃ (a : Addr) (ds : List Int) (p b : Nat), vs = [.ref a, .int p, .int b] ∧ SqT K H a (ds.map V.int) ∧ (∀ x ∈ ds, 0 ≤ x ∧ x ≤ 1000) ∧ 1 ≤ ds.length ∧ ds.length ≤ 1000 ∧ p < ds.length ∧ ∀ H', Same H H' → Q (.int (Mt.En (dd ds) (ds.length - 1) b p)) H'
theorem sc_growths : FnScope ["durations", "place", "ticks", "way", "pairs", "reach", "longest", "lost", "turn"] ["durations", "place"] (defScope s_growths) := ⟨rfl, rfl, rfl, by decide +kernel, rfl, by decide +kernel, by decide +kernel⟩
theorem ok_growths (T : Tx K mg) (D_turns : Fx P w K mg base 1 (He.ga K "turns") (spTurns K)) : Fx P w K mg base 2 (He.ga K "growths") (spGrowths K) := by
  have K_turns : PySem.W.keepIn K (.ref (He.ga K "turns")) = true := T.F_turns.elim fun _ q => q.kp
  obtain ⟨fd, F⟩ := T.F_growths
  have nd := sc_growths.nd
  refine fx_of F sc_growths (fun vs H Q E h => ?_) (fun _ _ _ _ _ _ us hl => match us, hl with | [_, _], _ => rfl) fun cdv A outer s H vs Q E hr h => ?_
  · obtain ⟨a, ds, p, rfl, _⟩ := h
    rfl
  obtain ⟨a, ds, p, rfl, hS, h1, h2, hp, h⟩ := h
  refine ⟨_, (pss_cons (ps_set (i := 2) nd rfl (Or.inl rfl) (pe_cl D_turns hr K_turns T.g_turns passL (pa_cons (pv 0) pa_nil))) (pss_cons (ps_set (i := 3) nd rfl (Or.inl rfl) (cB (cr_sumT rfl) T.m_sum (pa_cons (pe_slice sl_tupA (pv 0) po_none (po_some (pe_op op_add (pv 1) pe_int))) pa_nil))) (pss_cons (ps_set (i := 4) nd rfl (Or.inl rfl) (pe_lst pa_nil)) (pss_cons (ps_for PassesOwn.never rfl (pi_range2 rfl T.m_range (pa_cons (cB (call_max2 rfl) T.m_max (pa_cons (pv 1) (pa_cons pe_int pa_nil))) (pa_cons (pe_op op_add (cB call_len_seq T.m_len (pa_cons (pv 2) pa_nil)) pe_int) pa_nil))) (pg_name (i := 5) nd rfl (Or.inl rfl)) (pss_cons (ps_set (i := 6) nd rfl (Or.inr rfl) (cB (cr_max rfl) T.m_max (pa_cons (pe_slice sl_list (pv 2) po_none (po_some (pv 5))) pa_nil))) (pss_cons (ps_set (i := 7) nd rfl (Or.inl rfl) (cB (cr_sum rfl) T.m_sum (pa_cons (pe_lc (own := [("turn", 8)]) (g := (gName 8)) rfl nd (pi_list (pe_slice sl_list (pv 2) (po_some (pv 1)) (po_some (pv 5)))) (blkOk_by (N := ["durations", "place", "ticks", "way", "pairs", "reach", "longest", "lost", "turn"]) (sc := defScope s_growths) (own := [("turn", 8)]) (by decide +kernel)) (fun _ _ _ _ _ => (pg_name (i := 8) nd rfl (Or.inl rfl))) (fun _ _ _ _ _ => pts_nil) (fun _ _ _ _ _ => (pe_op op_sub (pv 6) (pv 8)))) pa_nil))) (pss_one (ps_expr (pe_bm PySem.F.plainAttrs_list PySem.F.slot_list_append PySem.F.type_list_append mt_append (pv 4) (pa_cons (pe_tup (pa_cons (pe_op op_sub (pv 3) (pv 7)) (pa_cons (pv 6) pa_nil))) pa_nil))))))) (pss_one (ps_ret (pv 4))))))), ?_⟩
  walk_at "go"
  refine ⟨a, ds, rfl, hS, h1, h2, fun tk H1 s1 htk e1 => ?_⟩
  rw [turns_eq h1] at e1
  walk_at "go"
  refine go_slT (same_t s1 hS) fun q H2 s2 _ hq => ?_
  walk_at "go"
  rw [show ((p : Int) + 1) = ((p + 1 : Nat) : Int) from rfl, cut_take, ← List.map_take] at hq
  refine ⟨q, _, rfl, hq, ?_⟩
  rw [sum_take ds p hp]
  walk_at "go"
  refine ⟨Nat.zero_le _, fun D hD => ?_⟩
  walk_at "go"
  refine ⟨_, _, rfl, ?_⟩
  rw [show (if (1 : Int) > (p : Int) then (1 : Int) else (p : Int)) = ((max p 1 : Nat) : Int) by split <;> omega]
  walk_at "go"
  have e3 := (same_upd hD : Same H2 (upd H2 D (.lst []))) _ _ (s2 _ _ e1)
  refine ⟨_, _, rfl, .inl (.inl (.inl e3)), ?_⟩
  walk_at "go"
  have ht1 : tN ds.length ≤ 1000 ∧ p ≤ tN ds.length ∧ 1 ≤ tN ds.length := by unfold tN; omega
  refine ⟨_, _, rfl, ⟨by omega, by omega, by simp; omega, by simp; omega⟩, ?_⟩
  rw [List.length_map, List.length_map, List.length_range, show ((tN ds.length : Int) + 1 - ((max p 1 : Nat) : Int)).toNat = tN ds.length + 1 - max p 1 by omega]
  have s02 := s1.trans s2
  refine for_w (walk_range (lo := ((max p 1 : Nat) : Int)) (n := tN ds.length + 1 - max p 1)) (fun i σ H' => Same H2 H' ∧ (∃ ys : List V, H' D = some (.lst ys) ∧ ys.length = i ∧ ∀ (j : Nat) (y : V), ys[j]? = some y → ∃ t, y = .ref t ∧ H' t = some (.tup [.int (StV (dd ds) p (max p 1 + j)), .int (Mt.Lm (dd ds) (max p 1 + j))])) ∧ ∃ u1 u2 u3, σ = [some (.ref a), some (.int p), some (.ref tk), some (.int (Mt.Wy (dd ds) p)), some (.ref D), u1, u2, u3, none]) ⟨same_upd hD, ⟨[], upd_same, rfl, fun j y e => by simp at e⟩, _, _, _, rfl⟩ (fun _ _ _ _ _ => trivial) ?_ ?_
  · rintro i x σ H4 H5 hi ⟨s4, ⟨ys, e5, hl, hy⟩, u1, u2, u3, rfl⟩ ⟨rfl, rfl⟩
    dsimp only
    rw [show ((max p 1 : Nat) : Int) + (i : Int) = ((max p 1 + i : Nat) : Int) from rfl]
    have hr1 : 1 ≤ max p 1 + i := by omega
    have hr2 : max p 1 + i ≤ tN ds.length := by omega
    walk_at "go"
    refine go_slL (.inl (.inl (s4 _ _ (s2 _ _ e1)))) fun q2 H5 s5 hq2 e6 => ?_
    walk_at "go"
    rw [cut_take, ← List.map_take, take_rm _ _ _ hr2] at e6
    refine ⟨q2, _, rfl, .inl (.inl e6), by simp; omega, fun m hm hle => ?_⟩
    rw [max_is hr1 hm hle]
    walk_at "go"
    refine go_slL (.inl (.inl (s5 _ _ (s4 _ _ (s2 _ _ e1))))) fun q3 H6 s6 hq3 e7 => ?_
    walk_at "go"
    rw [cut_mid, ← List.map_take, take_rm _ _ _ hr2, ← List.map_drop, drop_rm] at e7
    refine ⟨⟨_, .inl (.inl e7)⟩, ?_⟩
    refine lc_fun (walk_list (xs := (List.map V.int ((List.range (max p 1 + i - p)).map fun i => Mt.tn (dd ds) (p + i))))) (fun H7 s7 => .inl (.inl (s7 _ _ e7))) (fun j => .int (Mt.Lm (dd ds) (max p 1 + i) - Mt.tn (dd ds) (p + j))) (by simp; omega) ?_ ?_
    · rintro j x H7 H8 k hj s7 ⟨rfl, hx⟩ hk
      obtain ⟨z, hz, rfl⟩ := map_at hx
      obtain ⟨z2, hz2, rfl⟩ := map_at hz
      have ez : z2 = j := by
        rw [List.getElem?_range (by simp at hj; omega)] at hz2
        exact (Option.some.inj hz2).symm
      subst ez
      walk_at "go"
      refine ⟨rfl, ?_⟩
      walk_at "go"
      exact hk _ (Same.refl _)
    · intro D2 H7 hD2 s7 e8
      walk_at "go"
      rw [List.length_map, List.length_map, List.length_range] at e8
      refine ⟨D2, (List.range (max p 1 + i - p)).map fun j => Mt.Lm (dd ds) (max p 1 + i) - Mt.tn (dd ds) (p + j), rfl, .inl (.inl (by rw [e8, List.map_map]; rfl)), ?_⟩
      rw [sum_Ls]
      walk_at "go"
      have s57 := s5.trans (s6.trans s7)
      have e9 := s57 _ _ e5
      refine ⟨ty_lst e9, ?_⟩
      walk_at "go"
      refine ⟨show 2 ≤ sizeLine by decide, fun t ht => ?_⟩
      have s8 := same_upd (o := .tup [.int (Mt.Wy (dd ds) p - Mt.Ls (dd ds) (Mt.Lm (dd ds) (max p 1 + i)) p (max p 1 + i - p)), .int (Mt.Lm (dd ds) (max p 1 + i))]) ht
      walk_at "go"
      refine ⟨D, ys, _, rfl, rfl, s8 _ _ e9, by rw [hl]; exact Nat.lt_of_lt_of_le (show i < 2000 by omega) (by decide), ?_⟩
      walk_at "go"
      have hDt : t ≠ D := fun z => by rw [z, e9] at ht; cases ht
      refine ⟨fun b o eb => ?_, ⟨ys ++ [.ref t], upd_same, by simp [hl], fun j y ej => ?_⟩, _, _, _, rfl⟩
      · rw [upd_ne (ne_of_none eb hD)]
        exact s8 _ _ (s57 _ _ (s4 _ _ eb))
      · by_cases hj : j < ys.length
        · rw [List.getElem?_append_left hj] at ej
          obtain ⟨t2, a1, a2⟩ := hy j y ej
          refine ⟨t2, a1, ?_⟩
          rw [upd_ne (ne_of a2 e5 (fun z => by cases z))]
          exact s8 _ _ (s57 _ _ a2)
        · have hlj : j < (ys ++ [V.ref t]).length := (List.getElem?_eq_some_iff.mp ej).1
          have e10 : j = ys.length := by simp at hlj; omega
          subst e10
          rw [List.getElem?_append_right (Nat.le_refl _)] at ej
          simp at ej
          refine ⟨t, ej.symm, ?_⟩
          rw [upd_ne hDt, hl]
          exact upd_same
  · rintro σ H4 ⟨s4, ⟨ys, e5, hl, hy⟩, u1, u2, u3, rfl⟩
    walk_at "go"
    exact h D H4 (s02.trans s4) (s02.free hD) ⟨ys, e5, hl, hy⟩

theorem sc_hand_over_end : FnScope ["durations", "place", "bucket", "start", "step"] ["durations", "place", "bucket"] (defScope s_hand_over_end) := ⟨rfl, rfl, rfl, by decide +kernel, rfl, by decide +kernel, by decide +kernel⟩
theorem ok_hand_over_end (T : Tx K mg) (D_growths : Fx P w K mg base 2 (He.ga K "growths") (spGrowths K)) : Fx P w K mg base 3 (He.ga K "hand_over_end") (spEnd K) := by
  have K_growths : PySem.W.keepIn K (.ref (He.ga K "growths")) = true := T.F_growths.elim fun _ q => q.kp
  obtain ⟨fd, F⟩ := T.F_hand_over_end
  have nd := sc_hand_over_end.nd
  refine fx_of F sc_hand_over_end (fun vs H Q E h => ?_) (fun _ _ _ _ _ _ us hl => match us, hl with | [_, _, _], _ => rfl) fun cdv A outer s H vs Q E hr h => ?_
  · obtain ⟨a, ds, p, b, rfl, _⟩ := h
    rfl
  obtain ⟨a, ds, p, b, rfl, hS, hb, h1, h2, hp, h⟩ := h
  refine ⟨_, (pss_one (ps_ret (cB (cr_max rfl) T.m_max (pa_cons (pe_lc (own := [("start", 3), ("step", 4)]) (g := (gTup K 2 (gCons (gName 3) (gCons (gName 4) gNil)))) rfl nd (pi_list (pe_cl D_growths hr K_growths T.g_growths passL (pa_cons (pv 0) (pa_cons (pv 1) pa_nil)))) (blkOk_by (N := ["durations", "place", "bucket", "start", "step"]) (sc := defScope s_hand_over_end) (own := [("start", 3), ("step", 4)]) (by decide +kernel)) (fun _ _ _ _ _ => (pg_tup (by rfl) (pgs_cons (pg_name (i := 3) nd rfl (Or.inl rfl)) (pgs_cons (pg_name (i := 4) nd rfl (Or.inl rfl)) pgs_nil)))) (fun _ _ _ _ _ => pts_nil) (fun _ _ _ _ _ => (pe_op op_add (pv 3) (pe_op op_mul (pv 4) (pv 2))))) pa_nil)))), ?_⟩
  walk_at "go"
  refine ⟨a, ds, p, rfl, hS, h1, h2, hp, fun D H1 s1 hD hg => ?_⟩
  obtain ⟨ys, e1, hl, hy⟩ := hg
  walk_at "go"
  refine ⟨⟨_, .inl (.inl e1)⟩, ?_⟩
  have ht1 : tN ds.length ≤ 1000 := by unfold tN; omega
  have ht2 : max p 1 ≤ tN ds.length := by unfold tN; omega
  refine lc_fun (walk_list (xs := ys)) (fun H2 s2 => .inl (.inl (s2 _ _ e1))) (fun i => .int (Mt.Fv (dd ds) (max p 1 + i) b p)) (by omega) ?_ ?_
  · rintro i x H2 H3 k hi s2 ⟨rfl, hx⟩ hk
    obtain ⟨t, rfl, et⟩ := hy i x hx
    refine go_gTup (.inl (.inl (s2 _ _ et))) rfl ?_
    walk_at "go"
    refine ⟨rfl, ?_⟩
    walk_at "go"
    have hc := Lm_bd (dd_bd hb) (max p 1 + i)
    refine go_rI (.inl ⟨by omega, by omega⟩) ?_
    walk_at "go"
    have q := hk _ (Same.refl _)
    rw [Fv_St] at q
    exact q
  · intro D2 H2 hD2 s2 e2
    walk_at "go"
    rw [hl] at e2
    refine ⟨D2, (List.range (tN ds.length + 1 - max p 1)).map fun i => Mt.Fv (dd ds) (max p 1 + i) b p, rfl, .inl (.inl (by rw [e2, List.map_map]; rfl)), by simp; omega, fun m hm hle => ?_⟩
    rw [end_is hb hp hm hle]
    exact h _ (s1.trans s2)

end
end K
namespace K
open PySem PySem.Spec PyProof.Rows L2 Bk
local macro_rules | `(tactic| walk_at "go1") => `(tactic| (first
  | ((with_reducible show tVar _ _ _ _); refine go_var rfl ?_)
  | (with_reducible first | refine go_c ?_ | refine go_op ?_ | refine go_cons ?_ | refine go_nil ?_ | refine go_cb ?_ | refine go_cl ?_ | refine go_seq ?_ | refine go_asg ?_ | refine go_name ?_ | refine go_ifS ?_ | refine go_test ?_ | refine go_bl ?_)
  | (with_reducible first | refine go_rI0 ?_ | refine go_rU ?_ | refine go_ret ?_ | refine go_next ?_ | refine go_B ?_ | refine go_and ?_ | refine go_or ?_ | refine go_not ?_ | refine go_if ?_ | refine go_andV ?_ | refine go_orV ?_ | refine go_notV ?_)
  | ((with_reducible show rEq _ _ _ _); refine go_rEq rfl ?_)
  | ((with_reducible show rNe _ _ _ _); refine go_rNe rfl ?_)
  | (with_reducible first | refine go_un ?_ | refine go_chain ?_ | refine go_drop ?_ | refine go_retN ?_ | refine go_isN ?_ | refine go_notN ?_ | refine go_cont ?_ | refine go_break ?_ | refine go_par ?_ | refine go_two ?_ | refine go_part ?_ | refine go_noPart ?_ | refine go_int ?_ | refine go_sl ?_ | refine go_yes ?_ | refine go_tup ?_ | refine go_lst ?_)
  | (with_reducible first | refine go_gCons ?_ | refine go_gNil ?_ | refine go_for ?_ | refine go_iEnT ?_ | refine go_iEnum ?_ | refine go_iList ?_ | refine go_iTup ?_ | refine go_iStr ?_ | refine go_iRng1 ?_ | refine go_iRng2 ?_ | refine go_iZip ?_ | refine go_lc ?_ | refine go_mkR ?_ | refine go_mkS ?_ | refine go_clO ?_ | refine go_pr ?_ | refine go_sfld ?_ | refine go_bm ?_ | refine go_ref ?_)))
local macro_rules | `(tactic| walk_at "go") => `(tactic| ((repeat (walk_at "go1")); try dsimp only))
local macro_rules | `(tactic| walk_at "so") => `(tactic| first | omega | (simp; done) | (simp; omega) | (simp at *; omega))
section
variable {P : Program} {w : World} {K : PySem.W.Frag} {mg : Str → Option Value} {base : Heap}
/-! a line called; two lines together; a line without somebody -/
def Cm (ds : List Int) (b i : Nat) : Int := if i = 0 then (if b = 0 then 0 else Mt.En (dd ds) (ds.length - 1) (b - 1) 0) else Mt.En (dd ds) (ds.length - 1) b (i - 1)
theorem Good.ds {ps : List Pr} (h : Good ps) : ∀ x ∈ dsOf ps, 0 ≤ x ∧ x ≤ 1000 := fun x hx => by
  have := dsOf_bd h.pc x hx
  omega
theorem Good.first {ps : List Pr} (h : Good ps) {i : Nat} {z : Str} (e : (ps.map (·.1))[i]? = some z) : ∀ j, j < i → (ps.map (·.1))[j]? ≠ some z := by
  intro j hj ej
  obtain ⟨h1, e1⟩ := List.getElem?_eq_some_iff.mp e
  obtain ⟨h2, e2⟩ := List.getElem?_eq_some_iff.mp ej
  have := (List.getElem_inj h.nd (i := i) (j := j) (h₀ := h1) (h₁ := h2)).mp (by rw [e1, e2])
  omega
def spCall (K : PySem.W.Frag) : Sp := fun vs H Q _ => ∃ (N : Addr → Prop) (o dx tp tn td : Addr) (rs : List Addr) (ps : List Pr) (b i : Nat) (z : Str), vs = [.ref o, .int b, .str z] ∧ LineF K N H o dx tp tn td rs ps ∧ Good ps ∧ b ≤ 10 ^ 18 ∧ (ps.map (·.1))[i]? = some z ∧ ∀ H', Same H H' → Q (.int (Cm (dsOf ps) b i)) H'
def spAdd (K : PySem.W.Frag) : Sp := fun vs H Q _ => ∃ (N N1 N2 : Addr → Prop) (o1 o2 dx1 dx2 tp1 tp2 tn1 tn2 td1 td2 : Addr) (rs1 rs2 : List Addr) (ps1 ps2 : List Pr), vs = [.ref o1, .ref o2] ∧ LineF K N1 H o1 dx1 tp1 tn1 td1 rs1 ps1 ∧ LineF K N2 H o2 dx2 tp2 tn2 td2 rs2 ps2 ∧ Good (ps1 ++ ps2) ∧ (∀ p, H p = Option.none → N p) ∧
  ∀ x H', Same H H' → H x = Option.none → LineAt K N H' x (ps1 ++ ps2) → Q (.ref x) H'
def spSub (K : PySem.W.Frag) : Sp := fun vs H Q _ => ∃ (N N1 : Addr → Prop) (o dx tp tn td : Addr) (rs : List Addr) (ps : List Pr) (i : Nat) (z : Str), vs = [.ref o, .str z] ∧ LineF K N1 H o dx tp tn td rs ps ∧ Good ps ∧ Good (ps.take i ++ ps.drop (i + 1)) ∧ (ps.map (·.1))[i]? = some z ∧ (∀ p, H p = Option.none → N p) ∧
  ∀ x H', Same H H' → H x = Option.none → LineAt K N H' x (ps.take i ++ ps.drop (i + 1)) → Q (.ref x) H'
theorem Rows.app {N : Addr → Prop} {H : Hp} {r1 r2 : List Addr} {p1 p2 : List Pr} (h1 : Rows N H r1 p1) (h2 : Rows N H r2 p2) : Rows N H (r1 ++ r2) (p1 ++ p2) := by
  refine ⟨by simp [h1.1, h2.1], fun i p hp => ?_⟩
  by_cases hi : i < p1.length
  · rw [List.getElem?_append_left hi] at hp
    obtain ⟨t, a, b, c⟩ := h1.2 i p hp
    exact ⟨t, by rw [List.getElem?_append_left (by rw [h1.1]; exact hi)]; exact a, b, c⟩
  · rw [List.getElem?_append_right (by omega)] at hp
    obtain ⟨t, a, b, c⟩ := h2.2 _ p hp
    exact ⟨t, by rw [List.getElem?_append_right (by rw [h1.1]; omega), h1.1]; exact a, b, c⟩
theorem Rows.take {N : Addr → Prop} {H : Hp} {r : List Addr} {p : List Pr} (h : Rows N H r p) (k : Nat) : Rows N H (r.take k) (p.take k) := by
  refine ⟨by simp [h.1], fun i q hq => ?_⟩
  rw [List.getElem?_take] at hq ⊢
  split at hq
  · rename_i hi
    rw [if_pos hi]
    exact h.2 i q hq
  · cases hq
theorem Rows.drop {N : Addr → Prop} {H : Hp} {r : List Addr} {p : List Pr} (h : Rows N H r p) (k : Nat) : Rows N H (r.drop k) (p.drop k) := by
  refine ⟨by simp [h.1], fun i q hq => ?_⟩
  rw [List.getElem?_drop] at hq ⊢
  exact h.2 _ q hq
theorem sc_Lineu_callu : FnScope ["self", "bucket", "name", "place"] ["self", "bucket", "name"] (defScope s_Lineu_callu) := ⟨rfl, rfl, rfl, by decide +kernel, rfl, by decide +kernel, by decide +kernel⟩
theorem ok_Lineu_callu (T : Tx K mg) (D_check_number : Fx P w K mg base 3 (He.ga K "check_number") spCheckNumber) (D_place_of : Fx P w K mg base 1 (He.ga K "place_of") (spPlaceOf K)) (D_hand_over_end : Fx P w K mg base 3 (He.ga K "hand_over_end") (spEnd K)) : Fx P w K mg base 4 (He.ma K (He.ga K "Line") "__call__") (spCall K) := by
  have K_check_number : PySem.W.keepIn K (.ref (He.ga K "check_number")) = true := T.F_check_number.elim fun _ q => q.kp
  have K_place_of : PySem.W.keepIn K (.ref (He.ga K "place_of")) = true := T.F_place_of.elim fun _ q => q.kp
  have K_hand_over_end : PySem.W.keepIn K (.ref (He.ga K "hand_over_end")) = true := T.F_hand_over_end.elim fun _ q => q.kp
  obtain ⟨fd, F⟩ := T.F_Lineu_callu
  have nd := sc_Lineu_callu.nd
  refine fx_of F sc_Lineu_callu (fun vs H Q E h => ?_) (fun _ _ _ _ _ _ us hl => match us, hl with | [_, _, _], _ => rfl) fun cdv A outer s H vs Q E hr h => ?_
  · obtain ⟨N, o, dx, tp, tn, td, rs, ps, b, i, z, rfl, _⟩ := h
    rfl
  obtain ⟨N, o, dx, tp, tn, td, rs, ps, b, i, z, rfl, L, hG, hb, hz, h⟩ := h
  refine ⟨_, (pss_cons (ps_expr (pe_cl D_check_number hr K_check_number T.g_check_number passL (pa_cons (pv 1) (pa_cons pe_int (pa_cons (gI T.c_MAX_BUCKET) pa_nil))))) (pss_cons (ps_set (i := 3) nd rfl (Or.inl rfl) (pe_cl D_place_of hr K_place_of T.g_place_of passL (pa_cons (pe_fld (pv 0) rfl) (pa_cons (pv 2) pa_nil)))) (pss_cons (ps_if (pt_cmpR op_gt (pv 3) pe_int (nomark _)) (pss_one (ps_ret (pe_cl D_hand_over_end hr K_hand_over_end T.g_hand_over_end passL (pa_cons (pe_fld (pv 0) rfl) (pa_cons (pe_op op_sub (pv 3) pe_int) (pa_cons (pv 1) pa_nil)))))) pss_nil) (pss_cons (ps_if (pt_cmpR op_gt (pv 1) pe_int (nomark _)) (pss_one (ps_ret (pe_cl D_hand_over_end hr K_hand_over_end T.g_hand_over_end passL (pa_cons (pe_fld (pv 0) rfl) (pa_cons pe_int (pa_cons (pe_op op_sub (pv 1) pe_int) pa_nil)))))) pss_nil) (pss_one (ps_ret pe_int)))))), ?_⟩
  have hl := dsOf_len ps
  have hil : i < ps.length := by
    have := (List.getElem?_eq_some_iff.mp hz).1
    simpa using this
  have htwo := hG.two
  have hmost := hG.most
  walk_at "go"
  refine ⟨b, 0, 1000000000000000000, rfl, by omega, by omega, ?_⟩
  walk_at "go"
  refine go_fld L.obj T.cl_Line T.no_Line_names (lf_n _ _ _) ?_
  walk_at "go"
  refine ⟨tn, ps.map (·.1), i, z, rfl, .inl (.inl L.nm), hz, hG.first hz, fun H1 s1 => ?_⟩
  walk_at "go"
  refine iteD (fun h1 => ?_) fun h1 => ?_
  · walk_at "go"
    refine go_fld (s1 _ _ L.obj) T.cl_Line T.no_Line_durations (lf_d _ _ _) ?_
    walk_at "go"
    have hi0 : ¬ i = 0 := by omega
    refine ⟨td, dsOf ps, i - 1, b, ?_, .inl (.inl (s1 _ _ L.ds)), hG.ds, by omega, by omega, by omega, fun H2 s2 => ?_⟩
    · rw [show (i : Int) - 1 = ((i - 1 : Nat) : Int) by omega]
    · have q := h H2 (s1.trans s2)
      unfold Cm at q
      rw [if_neg hi0] at q
      exact q
  · walk_at "go"
    have hi0 : i = 0 := by omega
    refine iteD (fun h2 => ?_) fun h2 => ?_
    · walk_at "go"
      refine go_fld (s1 _ _ L.obj) T.cl_Line T.no_Line_durations (lf_d _ _ _) ?_
      walk_at "go"
      refine ⟨td, dsOf ps, 0, b - 1, ?_, .inl (.inl (s1 _ _ L.ds)), hG.ds, by omega, by omega, by omega, fun H2 s2 => ?_⟩
      · rw [show (b : Int) - 1 = ((b - 1 : Nat) : Int) by omega]
        rfl
      · have q := h H2 (s1.trans s2)
        unfold Cm at q
        rw [if_pos hi0, if_neg (show ¬ b = 0 by omega)] at q
        exact q
    · walk_at "go"
      have q := h H1 s1
      unfold Cm at q
      rw [if_pos hi0, if_pos (show b = 0 by omega)] at q
      exact q

theorem sc_Lineu_addu : FnScope ["self", "other", "people"] ["self", "other"] (defScope s_Lineu_addu) := ⟨rfl, rfl, rfl, by decide +kernel, rfl, by decide +kernel, by decide +kernel⟩
theorem ok_Lineu_addu (T : Tx K mg) (D_Lineu_initu : Fx P w K mg base 5 (He.ma K (He.ga K "Line") "__init__") (StSp 1 (spInit K))) : Fx P w K mg base 7 (He.ma K (He.ga K "Line") "__add__") (spAdd K) := by
  obtain ⟨fd, F⟩ := T.F_Lineu_addu
  have nd := sc_Lineu_addu.nd
  refine fx_of F sc_Lineu_addu (fun vs H Q E h => ?_) (fun _ _ _ _ _ _ us hl => match us, hl with | [_, _], _ => rfl) fun cdv A outer s H vs Q E hr h => ?_
  · obtain ⟨N, N1, N2, o1, o2, dx1, dx2, tp1, tp2, tn1, tn2, td1, td2, rs1, rs2, ps1, ps2, rfl, _⟩ := h
    rfl
  obtain ⟨N, N1, N2, o1, o2, dx1, dx2, tp1, tp2, tn1, tn2, td1, td2, rs1, rs2, ps1, ps2, rfl, L1, L2, hG, hN, h⟩ := h
  refine ⟨_, (pss_cons (ps_if (pt_not (pt_val (cB (C8.call_isC T.isi_Line.c) T.m_isinstance (pa_cons (pv 1) (pa_cons (gR T.g_Line) pa_nil))))) (pss_one ps_never) pss_nil) (pss_cons (ps_set (i := 2) nd rfl (Or.inl rfl) (pe_op op_catA (pe_fld (pv 0) rfl) (pe_fld (pv 1) rfl))) (pss_one (ps_ret (pe_mkS T.mk_Line D_Lineu_initu hr T.g_Line passL (pv 2)))))), ?_⟩
  have hm := hG.most
  have l1 := L1.rows.1
  have l2 := L2.rows.1
  rw [List.length_append] at hm
  walk_at "go"
  refine ⟨o2, dx2, _, rfl, L2.obj, ?_⟩
  walk_at "go"
  refine iteF ?_
  walk_at "go"
  refine go_fld L1.obj T.cl_Line T.no_Line_people (lf_p _ _ _) ?_
  refine go_fld L2.obj T.cl_Line T.no_Line_people (lf_p _ _ _) ?_
  refine go_catT (.inl (.inl L1.pp)) (.inl (.inl L2.pp)) (by simp; omega) fun p H1 s1 _ hp => ?_
  walk_at "go"
  refine ⟨_, _, rfl, .inl hp, ?_⟩
  rw [← List.map_append]
  exact mk_ok (fun q hq => hN q (s1.free hq)) rfl ((L1.rows.weak (M := fun _ => True) fun _ _ => trivial).app (L2.rows.weak fun _ _ => trivial) |>.mono (frn_same s1)) hG fun x H2 s2 hx hL => h x H2 (s1.trans s2) (s1.free hx) hL

theorem sc_Lineu_subu : FnScope ["self", "name", "place", "people"] ["self", "name"] (defScope s_Lineu_subu) := ⟨rfl, rfl, rfl, by decide +kernel, rfl, by decide +kernel, by decide +kernel⟩
theorem ok_Lineu_subu (T : Tx K mg) (D_place_of : Fx P w K mg base 1 (He.ga K "place_of") (spPlaceOf K)) (D_Lineu_initu : Fx P w K mg base 5 (He.ma K (He.ga K "Line") "__init__") (StSp 1 (spInit K))) : Fx P w K mg base 7 (He.ma K (He.ga K "Line") "__sub__") (spSub K) := by
  have K_place_of : PySem.W.keepIn K (.ref (He.ga K "place_of")) = true := T.F_place_of.elim fun _ q => q.kp
  obtain ⟨fd, F⟩ := T.F_Lineu_subu
  have nd := sc_Lineu_subu.nd
  refine fx_of F sc_Lineu_subu (fun vs H Q E h => ?_) (fun _ _ _ _ _ _ us hl => match us, hl with | [_, _], _ => rfl) fun cdv A outer s H vs Q E hr h => ?_
  · obtain ⟨N, N1, o, dx, tp, tn, td, rs, ps, i, z, rfl, _⟩ := h
    rfl
  obtain ⟨N, N1, o, dx, tp, tn, td, rs, ps, i, z, rfl, L, hG0, hG, hz, hN, h⟩ := h
  refine ⟨_, (pss_cons (ps_set (i := 2) nd rfl (Or.inl rfl) (pe_cl D_place_of hr K_place_of T.g_place_of passL (pa_cons (pe_fld (pv 0) rfl) (pa_cons (pv 1) pa_nil)))) (pss_cons (ps_set (i := 3) nd rfl (Or.inl rfl) (pe_op op_catA (pe_slice sl_tupA (pe_fld (pv 0) rfl) po_none (po_some (pv 2))) (pe_slice sl_tupA (pe_fld (pv 0) rfl) (po_some (pe_op op_add (pv 2) pe_int)) po_none))) (pss_one (ps_ret (pe_mkS T.mk_Line D_Lineu_initu hr T.g_Line passL (pv 3)))))), ?_⟩
  have hm := hG.most
  have hm0 := hG0.most
  have l1 := L.rows.1
  walk_at "go"
  refine go_fld L.obj T.cl_Line T.no_Line_names (lf_n _ _ _) ?_
  walk_at "go"
  refine ⟨tn, ps.map (·.1), i, z, rfl, .inl (.inl L.nm), hz, hG0.first hz, fun H1 s1 => ?_⟩
  walk_at "go"
  refine go_fld (s1 _ _ L.obj) T.cl_Line T.no_Line_people (lf_p _ _ _) ?_
  walk_at "go"
  refine go_slT (.inl (.inl (s1 _ _ L.pp))) fun q1 H2 s2 _ hq1 => ?_
  rw [cut_take, ← List.map_take] at hq1
  walk_at "go"
  refine go_fld (s2 _ _ (s1 _ _ L.obj)) T.cl_Line T.no_Line_people (lf_p _ _ _) ?_
  walk_at "go"
  refine go_slT (.inl (.inl (s2 _ _ (s1 _ _ L.pp)))) fun q2 H3 s3 _ hq2 => ?_
  rw [show ((i : Int) + 1) = ((i + 1 : Nat) : Int) from rfl, cut_drop, ← List.map_drop] at hq2
  refine go_catT (same_t s3 hq1) hq2 (by simp; omega) fun p H4 s4 _ hp => ?_
  walk_at "go"
  refine ⟨_, _, rfl, .inl hp, ?_⟩
  rw [← List.map_append]
  have s04 := s1.trans (s2.trans (s3.trans s4))
  have hR := (L.rows.weak (M := fun _ => True) fun _ _ => trivial).mono (frn_same s04)
  exact mk_ok (fun q hq => hN q (s04.free hq)) rfl ((hR.take i).app (hR.drop (i + 1))) hG fun x H5 s5 hx hL => h x H5 (s04.trans s5) (s04.free hx) hL

/-! a comprehension with a test, of ints -/
theorem lc_fil {J : It} {n : Nat} {G : Hp → Prop} {Y : Nat → Hp → V → Hp → Prop} {g : TG} {tt : TT} {te : TE} {vs : List Nat} {σ : L2.St} {H1 : Hp} {QD : Addr → Hp → Prop} (w : Walk J n G Y) (hG : ∀ H, Same H1 H → G H) (f : Nat → Option Int) (hn : n ≤ 100000)
    (hs : ∀ i x H H' (k : VK) (k0 : Hp → Prop), i < n → Same H1 H → Y i H x H' → (∀ z H4, f i = some z → Same H H4 → k (.int z) H4) → (f i = none → ∀ H4, Same H H4 → k0 H4) → g x (wipe σ vs) H' fun σ2 H2 => wipe σ2 vs = wipe σ vs ∧ tt σ2 H2 fun b H3 => if b = true then te σ2 H3 k else k0 H3)
    (hd : ∀ (D : Addr) H2, H1 D = Option.none → Same H1 H2 → H2 D = some (.lst (((List.range n).filterMap f).map V.int)) → QD D H2) :
    ∀ D, H1 D = Option.none → ∃ W : Nat → Nat → Hp → Prop, (∃ m, W 0 m (upd H1 D (.lst []))) ∧ ∀ i m H, W i m H →
      (J.stop i H ∧ QD D H) ∨ (J.go i H ∧ ∃ Nx : Hp → Prop, (∀ H', Nx H' → ∃ m', m' < m ∧ W (i + 1) m' H') ∧ ∀ x H', J.yld i H x H' → g x (wipe σ vs) H' fun σ2 H2 => wipe σ2 vs = wipe σ vs ∧ tt σ2 H2 fun b H3 =>
        if b = true then te σ2 H3 fun y H4 => ∃ acc, H4 D = some (.lst acc) ∧ acc.length < sizeLine ∧ Nx (upd H4 D (.lst (acc ++ [y]))) else Nx H3) := by
  intro D hD
  refine lc_it w (Qd := fun H => QD D H) (fun i H => Same H1 H ∧ H D = some (.lst (((List.range i).filterMap f).map V.int))) ⟨same_upd hD, upd_same⟩ (fun i H _ p => hG H p.1) ?_ ?_
  · rintro i x H H' hi ⟨s1, e1⟩ hy
    refine hs i x H H' _ _ hi s1 hy ?_ ?_
    · intro z H4 ez s4
      refine ⟨_, s4 _ _ e1, ?_, fun b o e => ?_, ?_⟩
      · rw [List.length_map]
        exact Nat.lt_of_le_of_lt (List.length_filterMap_le _ _) (by rw [List.length_range]; exact Nat.lt_of_lt_of_le (Nat.lt_of_lt_of_le hi hn) (by decide))
      · rw [upd_ne (ne_of_none e hD)]
        exact s4 _ _ (s1 _ _ e)
      · rw [upd_same, List.range_succ, List.filterMap_append, List.map_append]
        simp [ez]
    · intro ez H4 s4
      refine ⟨s1.trans s4, ?_⟩
      rw [s4 _ _ e1, List.range_succ, List.filterMap_append]
      simp [ez]
  · rintro H ⟨s1, e1⟩
    exact hd D H hD s1 e1
theorem go_star {K : PySem.W.Frag} {te : TE} {t : TA} {σ : L2.St} {H : Hp} {QL : List V → Hp → Prop} (h : te σ H fun x H1 => ∃ p xs, x = V.ref p ∧ (SqT K H1 p xs ∨ SqL K H1 p xs) ∧ t σ H1 fun ys H2 => QL (xs ++ ys) H2) : StX.tStar K te t σ H QL := h
/-! when a maximum of lines is steady -/
theorem steady_abs {F : Nat → Int} {s g : Nat → Int} {lo hi : Nat} {P m : Int} (hF1 : ∀ (k r : Nat), lo ≤ r → r ≤ hi → s r + g r * (k : Int) ≤ F k) (hF2 : ∀ k : Nat, ∃ r, lo ≤ r ∧ r ≤ hi ∧ s r + g r * (k : Int) = F k)
    (hg : ∀ r, lo ≤ r → r ≤ hi → g r ≤ P) (hm1 : ∃ r, lo ≤ r ∧ r ≤ hi ∧ g r = P ∧ s r = m) (hm2 : ∀ r, lo ≤ r → r ≤ hi → g r = P → s r ≤ m) (k : Nat) :
    F (k + 1) = F k + P ↔ ∀ r, lo ≤ r → r ≤ hi → g r < P → s r + g r * (k : Int) ≤ m + P * (k : Int) := by
  have ex : ∀ c : Int, c * ((k + 1 : Nat) : Int) = c * (k : Int) + c := fun c => by rw [Int.natCast_add, Int.mul_add]; simp
  constructor
  · intro h r h1 h2 h3
    apply Classical.byContradiction
    intro hc
    have a1 := hF1 k r h1 h2
    obtain ⟨q, b1, b2, b3⟩ := hF2 (k + 1)
    have a2 := hF1 k q b1 b2
    have a3 := hg q b1 b2
    rw [ex] at b3
    by_cases e : g q = P
    · have a4 := hm2 q b1 b2 e
      rw [e] at b3
      omega
    · omega
  · intro h
    obtain ⟨r, h1, h2, h3, h4⟩ := hm1
    have al : ∀ q, lo ≤ q → q ≤ hi → s q + g q * (k : Int) ≤ m + P * (k : Int) := fun q a b => by
      by_cases e : g q = P
      · have := hm2 q a b e
        rw [e]
        omega
      · exact h q a b (by have := hg q a b; omega)
    have c1 := hF1 k r h1 h2
    have c2 := hF1 (k + 1) r h1 h2
    obtain ⟨q, b1, b2, b3⟩ := hF2 k
    obtain ⟨q', d1, d2, d3⟩ := hF2 (k + 1)
    have e1 := al q b1 b2
    have e2 := al q' d1 d2
    have e3 := hg q' d1 d2
    rw [ex] at c2 d3
    rw [h3, h4] at c1 c2
    omega
theorem reach_iff {a c : Int} {k : Int} (hc : 0 < c) : -(a / c) ≤ k ↔ -(c * k) ≤ a := by
  have h := Int.le_ediv_iff_mul_le (a := -k) (b := a) hc
  have e : -k * c = -(c * k) := by rw [Int.neg_mul, Int.mul_comm]
  rw [e] at h
  rw [← h]
  omega
theorem fil_ne {d : Nat → Int} {p lo n : Nat} (hlo : 1 ≤ lo) (hn : 1 ≤ n) : 0 < ((List.range n).filterMap fun i => if Mt.Lm d (lo + i) = Mt.Lm d (lo + (n - 1)) then some (StV d p (lo + i)) else none).length := by
  apply List.length_pos_of_mem (a := StV d p (lo + (n - 1)))
  refine List.mem_filterMap.mpr ⟨n - 1, List.mem_range.mpr (by omega), ?_⟩
  rw [if_pos rfl]
theorem Lm_up (d : Nat → Int) {r : Nat} : ∀ k, Mt.Lm d r ≤ Mt.Lm d (r + k)
  | 0 => Int.le_refl _
  | k + 1 => Int.le_trans (Lm_up d k) (Mt.Lm_mono d (r + k))
theorem en_lo {ds : List Int} (hb : ∀ x ∈ ds, 0 ≤ x ∧ x ≤ 1000) {p : Nat} (hp : p < ds.length) (b r : Nat) (h1 : max p 1 ≤ r) (h2 : r ≤ tN ds.length) : Mt.Fv (dd ds) r b p ≤ Mt.En (dd ds) (ds.length - 1) b p := by
  by_cases e : ds.length = 1
  · have eT : tN ds.length = 1 := by unfold tN; omega
    have e1 : r = 1 := by omega
    have e0 : p = 0 := by omega
    subst e1 e0
    have := end_is hb hp (b := b) (m := Mt.Fv (dd ds) 1 b 0) (by rw [eT]; simp) (by rw [eT]; simp)
    omega
  · have eT : tN ds.length = ds.length - 1 := by unfold tN; omega
    exact Mt.Fv_le (dd ds) (ds.length - 1) b p r (by omega) (by omega) (by omega) (by omega)
theorem en_ex {ds : List Int} (hb : ∀ x ∈ ds, 0 ≤ x ∧ x ≤ 1000) {p : Nat} (hp : p < ds.length) (b : Nat) : ∃ r, max p 1 ≤ r ∧ r ≤ tN ds.length ∧ Mt.Fv (dd ds) r b p = Mt.En (dd ds) (ds.length - 1) b p := by
  by_cases e : ds.length = 1
  · have eT : tN ds.length = 1 := by unfold tN; omega
    have e0 : p = 0 := by omega
    subst e0
    refine ⟨1, by omega, by omega, ?_⟩
    exact end_is hb hp (b := b) (m := Mt.Fv (dd ds) 1 b 0) (by rw [eT]; simp) (by rw [eT]; simp)
  · have eT : tN ds.length = ds.length - 1 := by unfold tN; omega
    obtain ⟨r, h1, h2, h3, e1⟩ := Mt.Fv_is (dd ds) (ds.length - 1) (fun i _ => (dd_bd hb i).1) (by omega) b p (by omega)
    exact ⟨r, by omega, by omega, e1⟩
theorem Wy_bd {d : Nat → Int} (h : ∀ i, 0 ≤ d i ∧ d i ≤ 1000) : ∀ p : Nat, 0 ≤ Mt.Wy d p ∧ Mt.Wy d p ≤ 1000 * (p : Int) + 1000
  | 0 => by
    have := h 0
    simp only [Mt.Wy]
    omega
  | p + 1 => by
    have := h (p + 1)
    have := Wy_bd h p
    simp only [Mt.Wy]
    omega
theorem Ls_bd {d : Nat → Int} (h : ∀ i, 0 ≤ d i ∧ d i ≤ 1000) {L : Int} (hL : 0 ≤ L ∧ L ≤ 2000) : ∀ (k p : Nat), -(2000 * (k : Int)) ≤ Mt.Ls d L p k ∧ Mt.Ls d L p k ≤ 2000 * (k : Int)
  | 0, p => by simp [Mt.Ls]
  | k + 1, p => by
    have a := h p
    have b := h (p + 1)
    have := Ls_bd h hL k (p + 1)
    simp only [Mt.Ls, Mt.tn]
    omega
theorem St_bd {d : Nat → Int} (h : ∀ i, 0 ≤ d i ∧ d i ≤ 1000) {p r : Nat} (hp : p ≤ 20) (hr : r ≤ 20) : -100000 ≤ StV d p r ∧ StV d p r ≤ 100000 := by
  have a := Wy_bd h p
  have b := Ls_bd h (Lm_bd h r) (r - p) p
  unfold StV
  omega
def Steady (ds : List Int) (p : Nat) (B : Int) : Prop := 0 ≤ B ∧ B ≤ 1000000 ∧ ∀ k : Nat, B ≤ (k : Int) ↔ Mt.En (dd ds) (ds.length - 1) (k + 1) p = Mt.En (dd ds) (ds.length - 1) k p + Mt.Lm (dd ds) (tN ds.length)
theorem steady_is {ds : List Int} (hb : ∀ x ∈ ds, 0 ≤ x ∧ x ≤ 1000) {p : Nat} (hp : p < ds.length) (h12 : ds.length ≤ 12) {m B : Int}
    (hm : m ∈ (List.range (tN ds.length + 1 - max p 1)).filterMap fun i => if Mt.Lm (dd ds) (max p 1 + i) = Mt.Lm (dd ds) (tN ds.length) then some (StV (dd ds) p (max p 1 + i)) else none)
    (hml : ∀ y, (y ∈ (List.range (tN ds.length + 1 - max p 1)).filterMap fun i => if Mt.Lm (dd ds) (max p 1 + i) = Mt.Lm (dd ds) (tN ds.length) then some (StV (dd ds) p (max p 1 + i)) else none) → y ≤ m)
    (hB : B ∈ (0 : Int) :: (List.range (tN ds.length + 1 - max p 1)).filterMap fun i => if Mt.Lm (dd ds) (max p 1 + i) < Mt.Lm (dd ds) (tN ds.length) then some (-((m - StV (dd ds) p (max p 1 + i)) / (Mt.Lm (dd ds) (tN ds.length) - Mt.Lm (dd ds) (max p 1 + i)))) else none)
    (hBl : ∀ y, (y ∈ (0 : Int) :: (List.range (tN ds.length + 1 - max p 1)).filterMap fun i => if Mt.Lm (dd ds) (max p 1 + i) < Mt.Lm (dd ds) (tN ds.length) then some (-((m - StV (dd ds) p (max p 1 + i)) / (Mt.Lm (dd ds) (tN ds.length) - Mt.Lm (dd ds) (max p 1 + i)))) else none) → y ≤ B) : Steady ds p B := by
  have hd := dd_bd hb
  generalize hP : Mt.Lm (dd ds) (tN ds.length) = P at *
  have ht : tN ds.length ≤ 12 ∧ max p 1 ≤ tN ds.length := by unfold tN; omega
  have hg : ∀ r, max p 1 ≤ r → r ≤ tN ds.length → Mt.Lm (dd ds) r ≤ P := fun r _ h => by
    have := Lm_up (dd ds) (r := r) (tN ds.length - r)
    rw [show r + (tN ds.length - r) = tN ds.length by omega, hP] at this
    exact this
  have mem1 : ∀ r, max p 1 ≤ r → r ≤ tN ds.length → Mt.Lm (dd ds) r = P → StV (dd ds) p r ≤ m := fun r h1 h2 h3 => hml _ (List.mem_filterMap.mpr ⟨r - max p 1, List.mem_range.mpr (by omega), by rw [show max p 1 + (r - max p 1) = r by omega, if_pos h3]⟩)
  have mem2 : ∃ r, max p 1 ≤ r ∧ r ≤ tN ds.length ∧ Mt.Lm (dd ds) r = P ∧ StV (dd ds) p r = m := by
    obtain ⟨i, hi, e⟩ := List.mem_filterMap.mp hm
    have hi := List.mem_range.mp hi
    split at e
    · rename_i h1
      exact ⟨max p 1 + i, by omega, by omega, h1, Option.some.inj e⟩
    · cases e
  have bm : -100000 ≤ m ∧ m ≤ 100000 := by
    obtain ⟨r, h1, h2, h3, h4⟩ := mem2
    have := St_bd hd (p := p) (r := r) (by omega) (by omega)
    omega
  have key : ∀ k : Int, 0 ≤ k → (B ≤ k ↔ ∀ r, max p 1 ≤ r → r ≤ tN ds.length → Mt.Lm (dd ds) r < P → StV (dd ds) p r + Mt.Lm (dd ds) r * k ≤ m + P * k) := by
    intro k hk
    have one : ∀ r, Mt.Lm (dd ds) r < P → (-((m - StV (dd ds) p r) / (P - Mt.Lm (dd ds) r)) ≤ k ↔ StV (dd ds) p r + Mt.Lm (dd ds) r * k ≤ m + P * k) := fun r hr => by
      rw [reach_iff (by omega), Int.sub_mul]
      omega
    constructor
    · intro h r h1 h2 h3
      rw [← one r h3]
      have := hBl (-((m - StV (dd ds) p r) / (P - Mt.Lm (dd ds) r))) (List.mem_cons_of_mem _ (List.mem_filterMap.mpr ⟨r - max p 1, List.mem_range.mpr (by omega), by rw [show max p 1 + (r - max p 1) = r by omega, if_pos h3]⟩))
      omega
    · intro h
      rcases List.mem_cons.mp hB with e | hB
      · omega
      · obtain ⟨i, hi, e⟩ := List.mem_filterMap.mp hB
        have hi := List.mem_range.mp hi
        split at e
        · rename_i h1
          rw [← Option.some.inj e, one _ h1]
          exact h _ (by omega) (by omega) h1
        · cases e
  refine ⟨hBl 0 (by simp), ?_, fun k => ?_⟩
  · rw [key 1000000 (by omega)]
    intro r h1 h2 h3
    have := St_bd hd (p := p) (r := r) (by omega) (by omega)
    omega
  · rw [key k (by omega), hP]
    symm
    refine steady_abs (F := fun k => Mt.En (dd ds) (ds.length - 1) k p) (s := StV (dd ds) p) (g := Mt.Lm (dd ds)) (lo := max p 1) (hi := tN ds.length) ?_ ?_ hg mem2 mem1 k
    · intro k r h1 h2
      have := en_lo hb hp k r h1 h2
      rw [Fv_St] at this
      exact this
    · intro k
      obtain ⟨r, h1, h2, h3⟩ := en_ex hb hp k
      rw [Fv_St] at h3
      exact ⟨r, h1, h2, h3⟩
def spSteadyAt (K : PySem.W.Frag) : Sp := fun vs H Q _ => ∃ (a : Addr) (ds : List Int) (p : Nat), vs = [.ref a, .int p, .int (Mt.Lm (dd ds) (tN ds.length))] ∧ SqT K H a (ds.map V.int) ∧ (∀ x ∈ ds, 0 ≤ x ∧ x ≤ 1000) ∧ ds.length ≤ 12 ∧ p < ds.length ∧ ∀ B H', Same H H' → Steady ds p B → Q (.int B) H'
def SteadyAll (ds : List Int) (B : Int) : Prop := 0 ≤ B ∧ B ≤ 1000000 ∧ ∀ k : Nat, B ≤ (k : Int) ↔ ∀ p, p < ds.length → Mt.En (dd ds) (ds.length - 1) (k + 1) p = Mt.En (dd ds) (ds.length - 1) k p + Mt.Lm (dd ds) (tN ds.length)
theorem steady_all {ds : List Int} {ys : List Int} {B : Int} (hl : ys.length = ds.length) (h : ∀ (i : Nat) (y : Int), ys[i]? = some y → Steady ds i y) (hB : B ∈ ys) (hBl : ∀ y, y ∈ ys → y ≤ B) : SteadyAll ds B := by
  obtain ⟨j, hj, ej⟩ := List.mem_iff_getElem.mp hB
  have sj := h j B (by rw [← ej]; simp [hj])
  refine ⟨sj.1, sj.2.1, fun k => ⟨fun hk p hp => ?_, fun ha => ?_⟩⟩
  · have sp := h p (ys[p]'(by omega)) (by simp [show p < ys.length by omega])
    have le := hBl (ys[p]'(by omega)) (List.getElem_mem _)
    exact (sp.2.2 k).mp (by omega)
  · exact (sj.2.2 k).mpr (ha j (by omega))
def spSteadyFrom (K : PySem.W.Frag) : Sp := fun vs H Q _ => ∃ (N : Addr → Prop) (o dx tp tn td : Addr) (rs : List Addr) (ps : List Pr), vs = [.ref o] ∧ LineF K N H o dx tp tn td rs ps ∧ Good ps ∧ ∀ B H', Same H H' → SteadyAll (dsOf ps) B → Q (.int B) H'
end
end K
namespace K
open PySem PySem.Spec PyProof.Rows L2 Bk
local macro_rules | `(tactic| walk_at "go1") => `(tactic| (first
  | ((with_reducible show tVar _ _ _ _); refine go_var rfl ?_)
  | (with_reducible first | refine go_c ?_ | refine go_op ?_ | refine go_cons ?_ | refine go_nil ?_ | refine go_cb ?_ | refine go_cl ?_ | refine go_seq ?_ | refine go_asg ?_ | refine go_name ?_ | refine go_ifS ?_ | refine go_test ?_ | refine go_bl ?_)
  | (with_reducible first | refine go_rI0 ?_ | refine go_rU ?_ | refine go_ret ?_ | refine go_next ?_ | refine go_B ?_ | refine go_and ?_ | refine go_or ?_ | refine go_not ?_ | refine go_if ?_ | refine go_andV ?_ | refine go_orV ?_ | refine go_notV ?_)
  | ((with_reducible show rEq _ _ _ _); refine go_rEq rfl ?_)
  | ((with_reducible show rNe _ _ _ _); refine go_rNe rfl ?_)
  | (with_reducible first | refine go_un ?_ | refine go_chain ?_ | refine go_drop ?_ | refine go_retN ?_ | refine go_isN ?_ | refine go_notN ?_ | refine go_cont ?_ | refine go_break ?_ | refine go_par ?_ | refine go_two ?_ | refine go_part ?_ | refine go_noPart ?_ | refine go_int ?_ | refine go_sl ?_ | refine go_yes ?_ | refine go_tup ?_ | refine go_lst ?_)
  | (with_reducible first | refine go_gCons ?_ | refine go_gNil ?_ | refine go_for ?_ | refine go_iEnT ?_ | refine go_iEnum ?_ | refine go_iList ?_ | refine go_iTup ?_ | refine go_iStr ?_ | refine go_iRng1 ?_ | refine go_iRng2 ?_ | refine go_iZip ?_ | refine go_lc ?_ | refine go_mkR ?_ | refine go_mkS ?_ | refine go_clO ?_ | refine go_pr ?_ | refine go_sfld ?_ | refine go_bm ?_ | refine go_ref ?_)))
local macro_rules | `(tactic| walk_at "go") => `(tactic| ((repeat (walk_at "go1")); try dsimp only))
local macro_rules | `(tactic| walk_at "so") => `(tactic| first | omega | (simp; done) | (simp; omega) | (simp at *; omega))
section
variable {P : Program} {w : World} {K : PySem.W.Frag} {mg : Str → Option Value} {base : Heap}
/-! the law's own drawing -/
theorem vals_of {xs : List V} {us : List Value} (h : xs.length = us.length) (g : ∀ (i : Nat) (u : Value), us[i]? = some u → ∃ x, xs[i]? = some x ∧ RelV x u) : Vals xs us := by
  induction us generalizing xs with
  | nil =>
    have : xs = [] := List.eq_nil_of_length_eq_zero h
    subst this
    exact .nil
  | cons u us ih =>
    match xs, h with
    | x :: xs, h =>
      obtain ⟨y, e, r⟩ := g 0 u rfl
      have e2 : x = y := Option.some.inj e
      subst e2
      exact .cons r (ih (by simpa using h) fun i w q => by simpa using g (i + 1) w (by simpa using q))
theorem call_list_strS {X : Cx} (hc : X.calm = true) : CallR X (.type "list") (fun xs H Q => ∃ z : Str, xs = [.str z] ∧ z.cps.size ≤ sizeLine ∧ ∀ l, H l = Option.none → Q (.ref l) (upd H l (.lst (z.cps.toList.map fun c => V.str ⟨#[c]⟩)))) := by
  intro pins s σ H xs us Q I r h
  obtain ⟨z, rfl, hz, q⟩ := h
  obtain ⟨u, rfl, t, rfl⟩ := vals1 r
  refine call_list_str (hn := hz) (I.ok.hd hc) z t fun h' tk acc' c' hk hS' hacc => ?_
  refine ⟨.ref s.heap.objs.size, _, I.laid (t' := tk) hk (Nat.le_refl _) (show ObjOk X.prog X.w _ h' _ (.lst (z.cps.toList.map fun c => V.str ⟨#[c]⟩)) from ⟨by simpa using hz, acc'.toList, c', vals_of (by simp [hacc.1]) fun i u e => ?_, by simpa using hS'⟩), rfl, q _ (I.hok.fresh (Nat.le_refl _))⟩
  obtain ⟨c, u', hc', rfl⟩ := hacc.2 i u (by simpa using e)
  exact ⟨.str ⟨#[c]⟩, by simp [hc'], ⟨_, rfl⟩⟩
theorem at_nat {α : Type} {xs : List α} {i : Nat} {x : α} (h : xs[i]? = some x) : atI xs (i : Int) = some x := by
  have hi := (List.getElem?_eq_some_iff.mp h).1
  unfold atI ixN
  rw [if_pos (by omega), if_pos (by omega)]
  simpa using h
theorem at_int {α : Type} {xs : List α} {z : Int} {x : α} (h0 : 0 ≤ z) (h : xs[z.toNat]? = some x) : atI xs z = some x := by
  have := at_nat h
  rw [show ((z.toNat : Nat) : Int) = z by omega] at this
  exact this
theorem seq_int {z : Int} {n : Nat} (h0 : 0 ≤ z) (h1 : z < n) : seqIndex? z n = some z.toNat := by
  unfold seqIndex?
  simp only [show ¬ z < 0 by omega, if_false]
  simp [h0, h1]
theorem frd_l {K : PySem.W.Frag} {D : Addr} {H H' : Hp} {a : Addr} {xs : List V} (f : FrD D H H') (n : a ≠ D) (h : SqL K H a xs) : SqL K H' a xs := by
  rcases h with (h | ⟨o, h⟩) | h
  · exact .inl (.inl (f _ _ n h))
  · exact .inl (.inr ⟨o, f _ _ n h⟩)
  · exact .inr h
theorem go_gsub {to ti : TE} {t : TSet} {v : V} {σ : L2.St} {H : Hp} {Q : L2.St → Hp → Prop} (h : to σ H fun o H1 => ti σ H1 fun i H2 => t o i v H2 fun H3 => Q σ H3) : gSub to ti t v σ H Q := h
theorem go_setL {p : Addr} {xs : List V} {k : Int} {j : Nat} {v : V} {H : Hp} {Q : Hp → Prop} (hp : H p = some (.lst xs)) (hj : ixN xs.length k = some j) (q : Q (upd H p (.lst (xs.set j v)))) : rSetL (.ref p) (.int k) v H Q := ⟨p, xs, k, j, rfl, rfl, hp, hj, q⟩
def Kst (K : PySem.W.Frag) (a : Addr) (xs : List V) : Prop := ∃ (o : Obj) (its : Array Value) (n : Nat), K.lookup a = some o ∧ o.cls = .type "list" ∧ o.dict = none ∧ o.data = .seq its n ∧ its.size ≤ sizeLine ∧ Vals xs its.toList
/-- the script: in the heap (z), or in the written part -/
def ScAt (z : Prop) (K : PySem.W.Frag) (H : Hp) (sc : Addr) (ns : List Int) : Prop := (z → Rd H sc (.lst (ns.map V.int))) ∧ (¬ z → Kst K sc (ns.map V.int))
theorem ScAt.sq {z : Prop} {K : PySem.W.Frag} {H : Hp} {sc : Addr} {ns : List Int} (h : ScAt z K H sc ns) : SqL K H sc (ns.map V.int) := by
  by_cases c : z
  · exact .inl (h.1 c)
  · exact .inr (h.2 c)
theorem ScAt.frd {z : Prop} {K : PySem.W.Frag} {H H' : Hp} {D sc : Addr} {ns : List Int} (f : FrD D H H') (n : z → sc ≠ D) (h : ScAt z K H sc ns) : ScAt z K H' sc ns := ⟨fun c => by
  rcases h.1 c with e | ⟨o, e⟩
  · exact .inl (f _ _ (n c) e)
  · exact .inr ⟨o, f _ _ (n c) e⟩, h.2⟩
theorem ScAt.keep {z : Prop} {K : PySem.W.Frag} {H H' : Hp} {sc : Addr} {ns : List Int} (f : Same H H') (h : ScAt z K H sc ns) : ScAt z K H' sc ns := ⟨fun c => by
  rcases h.1 c with e | ⟨o, e⟩
  · exact .inl (f _ _ e)
  · exact .inr ⟨o, f _ _ e⟩, h.2⟩
theorem ScAt.ne {z : Prop} {K : PySem.W.Frag} {H : Hp} {D sc : Addr} {ns : List Int} (h : ScAt z K H sc ns) (hD : H D = Option.none) : z → sc ≠ D := fun c e => by
  subst e
  rcases h.1 c with e | ⟨o, e⟩ <;> rw [hD] at e <;> cases e
def StAt (z : Prop) (K : PySem.W.Frag) (H : Hp) (s sc : Addr) (ns : List Int) : Prop := ∃ c1 c2 c3 : Int, H s = some (.lst [.ref sc, .int c1, .int c2, .int c3]) ∧ ScAt z K H sc ns ∧ (z → sc ≠ s) ∧ 0 ≤ c1 ∧ ns.length ≤ 63
def spStart (K : PySem.W.Frag) : Sp := fun vs H Q _ => ∃ (z : Prop) (sc : Addr) (ns : List Int), vs = [.ref sc] ∧ ScAt z K H sc ns ∧ ns.length ≤ 63 ∧ ∀ s H', Same H H' → H s = Option.none → StAt z K H' s sc ns → Q (.ref s) H'
def spDrawn (K : PySem.W.Frag) : Sp := fun vs H Q _ => ∃ (z : Prop) (s sc : Addr) (ns : List Int) (n : Int), vs = [.ref s, .int n] ∧ 0 < n ∧ n < 2 ^ 100 ∧ StAt z K H s sc ns ∧ ∀ (y : Int) H', FrD s H H' → StAt z K H' s sc ns → 0 ≤ y → y < n → Q (.int y) H'
/-! the law's own defs -/
def spSame : Sp := fun vs H Q _ => ∃ a b : Int, vs = [.int a, .int b] ∧ ∀ H', Same H H' → Q (.bl (decide (a = b))) H'
def spLDurs (K : PySem.W.Frag) : Sp := fun vs H Q _ => ∃ (N : Addr → Prop) (D : Addr) (rs : List Addr) (ps : List Pr), vs = [.ref D] ∧ H D = some (.lst (rs.map V.ref)) ∧ Rows N H rs ps ∧ 1 ≤ ps.length ∧ ps.length ≤ 1000 ∧ ∀ x H', Same H H' → H x = Option.none → H' x = some (.lst ((dsOf ps).map V.int)) → Q (.ref x) H'
def rowL (ds : List Int) (b : Nat) : List Int := (List.range ds.length).map fun p => Mt.En (dd ds) (ds.length - 1) b p
def TabAt (H : Hp) (x : Addr) (ds : List Int) (n : Nat) : Prop := ∃ ts : List Addr, H x = some (.lst (ts.map V.ref)) ∧ ts.length = n ∧ ∀ (i : Nat) (t : Addr), ts[i]? = some t → t ≠ x ∧ H t = some (.lst ((rowL ds i).map V.int))
def spEnds (K : PySem.W.Frag) : Sp := fun vs H Q _ => ∃ (a : Addr) (ds : List Int) (n : Nat), vs = [.ref a, .int n] ∧ H a = some (.lst (ds.map V.int)) ∧ (∀ x ∈ ds, 0 ≤ x ∧ x ≤ 1000) ∧ 1 ≤ ds.length ∧ ds.length ≤ 1000 ∧ n ≤ 1000 ∧ ∀ x H', Same H H' → H x = Option.none → TabAt H' x ds n → Q (.ref x) H'
theorem En_nn {d : Nat → Int} {M : Nat} (h : ∀ i, 0 ≤ d i ∧ d i ≤ 1000) (b : Nat) : ∀ p, 0 ≤ Mt.En d M b p := by
  induction b with
  | zero =>
    intro p
    rw [Mt.En_0]
    exact (Wy_bd h p).1
  | succ b ih =>
    intro p
    cases p with
    | zero =>
      have := ih (min 1 M)
      have := h 0
      rw [Mt.En_s0]
      omega
    | succ p =>
      have := ih (min (p + 2) M)
      have := h (p + 1)
      rw [Mt.En_ss]
      omega
theorem app_at {ys zs : List V} {j : Nat} {y : V} {z : V} (h : (ys ++ [z])[j]? = some y) : (j < ys.length ∧ ys[j]? = some y) ∨ (j = ys.length ∧ y = z) := by
  by_cases hj : j < ys.length
  · rw [List.getElem?_append_left hj] at h
    exact .inl ⟨hj, h⟩
  · have hl : j < (ys ++ [z]).length := (List.getElem?_eq_some_iff.mp h).1
    have e : j = ys.length := by simp at hl; omega
    subst e
    rw [List.getElem?_append_right (Nat.le_refl _)] at h
    simp at h
    exact .inr ⟨rfl, h.symm⟩
theorem sc__law_durations : FnScope ["_law_people_here", "_law_k"] ["_law_people_here"] (defScope s__law_durations) := ⟨rfl, rfl, rfl, by decide +kernel, rfl, by decide +kernel, by decide +kernel⟩
theorem ok__law_durations (T : Tx K mg) : Fx P w K mg base 1 (He.ga K "_law_durations") (spLDurs K) := by
  obtain ⟨fd, F⟩ := T.F__law_durations
  have nd := sc__law_durations.nd
  refine fx_of F sc__law_durations (fun vs H Q E h => ?_) (fun _ _ _ _ _ _ us hl => match us, hl with | [_], _ => rfl) fun cdv A outer s H vs Q E hr h => ?_
  · obtain ⟨N, D, rs, ps, rfl, _⟩ := h
    rfl
  obtain ⟨N, D, rs, ps, rfl, e0, hR, h1, h2, h⟩ := h
  refine ⟨_, (pss_one (ps_ret (pe_lc (own := [("_law_k", 1)]) (g := (gName 1)) rfl nd (pi_range1 rfl T.m_range (pa_cons (pe_op op_sub (cB call_len_seq T.m_len (pa_cons (pv 0) pa_nil)) pe_int) pa_nil)) (blkOk_by (N := ["_law_people_here", "_law_k"]) (sc := defScope s__law_durations) (own := [("_law_k", 1)]) (by decide +kernel)) (fun _ _ _ _ _ => (pg_name (i := 1) nd rfl (Or.inl rfl))) (fun _ _ _ _ _ => pts_nil) (fun _ _ _ _ _ => (cB (call_max2 rfl) T.m_max (pa_cons (pe_ix (ixT K) (pe_ix (ixL K) (pv 0) (pv 1) (fun _ _ => rfl)) pe_int (fun _ _ => rfl)) (pa_cons (pe_ix (ixT K) (pe_ix (ixL K) (pv 0) (pe_op op_add (pv 1) pe_int) (fun _ _ => rfl)) pe_int (fun _ _ => rfl)) pa_nil))))))), ?_⟩
  have hl := hR.1
  walk_at "go"
  refine ⟨_, _, rfl, .inl (.inl (.inl e0)), ?_⟩
  walk_at "go"
  refine ⟨_, rfl, by omega, by simp; omega, ?_⟩
  refine lc_fun (walk_range (lo := 0)) (fun _ _ => trivial) (fun i => .int (max ((ps.map (·.2)).getD i 0) ((ps.map (·.2)).getD (i + 1) 0))) (by simp; omega) ?_ ?_
  · rintro i x H2 H3 k hi s2 ⟨rfl, rfl⟩ hk
    dsimp only
    rw [Int.zero_add]
    have hi : i + 1 < ps.length := by simp at hi; omega
    obtain ⟨t1, a1, _, b1⟩ := hR.2 i ps[i] (by simp [show i < ps.length by omega])
    obtain ⟨t2, a2, _, b2⟩ := hR.2 (i + 1) ps[i + 1] (by simp [hi])
    walk_at "go"
    refine ⟨rfl, ?_⟩
    walk_at "go"
    refine go_ixL (.inl (.inl (s2 _ _ e0))) (at_nat (at_map a1)) ?_
    walk_at "go"
    refine go_ixT (.inl (.inl (s2 _ _ b1))) rfl ?_
    walk_at "go"
    refine go_ixL (.inl (.inl (s2 _ _ e0))) (at_nat (i := i + 1) (at_map a2)) ?_
    walk_at "go"
    refine go_ixT (.inl (.inl (s2 _ _ b2))) rfl ?_
    walk_at "go"
    refine ⟨_, _, rfl, ?_⟩
    have q := hk _ (Same.refl _)
    have g1 : (ps.map (·.2)).getD i 0 = ps[i].2 := by simp [List.getD, show i < ps.length by omega]
    have g2 : (ps.map (·.2)).getD (i + 1) 0 = ps[i + 1].2 := by simp [List.getD, hi]
    rw [g1, g2] at q
    rw [show (if ps[i + 1].2 > ps[i].2 then ps[i + 1].2 else ps[i].2) = max ps[i].2 ps[i + 1].2 by split <;> omega]
    exact q
  · intro D2 H2 hD2 s2 e2
    walk_at "go"
    refine h D2 H2 s2 hD2 ?_
    rw [e2, dsOf_eq, List.map_map, List.length_map, hl, show ((ps.length : Int) - 1).toNat = ps.length - 1 by omega]
    rfl

end
end K
namespace K
open PySem PySem.Spec PyProof.Rows L2 Bk
local macro_rules | `(tactic| walk_at "go1") => `(tactic| (first
  | ((with_reducible show tVar _ _ _ _); refine go_var rfl ?_)
  | (with_reducible first | refine go_c ?_ | refine go_op ?_ | refine go_cons ?_ | refine go_nil ?_ | refine go_cb ?_ | refine go_cl ?_ | refine go_seq ?_ | refine go_asg ?_ | refine go_name ?_ | refine go_ifS ?_ | refine go_test ?_ | refine go_bl ?_)
  | (with_reducible first | refine go_rI0 ?_ | refine go_rU ?_ | refine go_ret ?_ | refine go_next ?_ | refine go_B ?_ | refine go_and ?_ | refine go_or ?_ | refine go_not ?_ | refine go_if ?_ | refine go_andV ?_ | refine go_orV ?_ | refine go_notV ?_)
  | ((with_reducible show rEq _ _ _ _); refine go_rEq rfl ?_)
  | ((with_reducible show rNe _ _ _ _); refine go_rNe rfl ?_)
  | (with_reducible first | refine go_un ?_ | refine go_chain ?_ | refine go_drop ?_ | refine go_retN ?_ | refine go_isN ?_ | refine go_notN ?_ | refine go_cont ?_ | refine go_break ?_ | refine go_par ?_ | refine go_two ?_ | refine go_part ?_ | refine go_noPart ?_ | refine go_int ?_ | refine go_sl ?_ | refine go_yes ?_ | refine go_tup ?_ | refine go_lst ?_)
  | (with_reducible first | refine go_gCons ?_ | refine go_gNil ?_ | refine go_for ?_ | refine go_iEnT ?_ | refine go_iEnum ?_ | refine go_iList ?_ | refine go_iTup ?_ | refine go_iStr ?_ | refine go_iRng1 ?_ | refine go_iRng2 ?_ | refine go_iZip ?_ | refine go_lc ?_ | refine go_mkR ?_ | refine go_mkS ?_ | refine go_clO ?_ | refine go_pr ?_ | refine go_sfld ?_ | refine go_bm ?_ | refine go_ref ?_)))
local macro_rules | `(tactic| walk_at "go") => `(tactic| ((repeat (walk_at "go1")); try dsimp only))
local macro_rules | `(tactic| walk_at "so") => `(tactic| first | omega | (simp; done) | (simp; omega) | (simp at *; omega))
section
variable {P : Program} {w : World} {K : PySem.W.Frag} {mg : Str → Option Value} {base : Heap}
/-! people, drawn -/
def lets : List Str := letters.map fun c => ⟨#[c]⟩
theorem lets_ok : ∀ z ∈ lets, nmB z = true ∧ z ≠ ("extra" : Str) := by decide +kernel
theorem lets_nd : lets.Nodup := by decide +kernel
theorem lets_len : lets.length = 26 := by decide +kernel
theorem abc_ok : ((("abcdefghijklmnopqrstuvwxyz" : Str).cps.toList.map fun c => V.str ⟨#[c]⟩)) = lets.map V.str := by decide +kernel
def NoX (ps : List Pr) : Prop := ∀ p ∈ ps, p.1 ≠ ("extra" : Str)
def spPeople (K : PySem.W.Frag) : Sp := fun vs H Q _ => ∃ (z : Prop) (s sc : Addr) (ns : List Int) (most high : Int), vs = [.ref s, .int most, .int high] ∧ 2 ≤ most ∧ most ≤ 12 ∧ 1 ≤ high ∧ high ≤ 1000 ∧ StAt z K H s sc ns ∧
  ∀ D H' rs ps, FrD s H H' → StAt z K H' s sc ns → H D = Option.none → H' D = some (.lst (rs.map V.ref)) → Rows (fun b => b ≠ s) H' rs ps → Good ps → NoX ps → Q (.ref D) H'
theorem StAt.keep {z : Prop} {K : PySem.W.Frag} {H H' : Hp} {s sc : Addr} {ns : List Int} (e : Same H H') (h : StAt z K H s sc ns) : StAt z K H' s sc ns := by
  obtain ⟨c1, c2, c3, a, b, c⟩ := h
  exact ⟨c1, c2, c3, e _ _ a, b.keep e, c⟩
theorem StAt.at {z : Prop} {K : PySem.W.Frag} {H : Hp} {s sc : Addr} {ns : List Int} (h : StAt z K H s sc ns) : ∃ o, H s = some o := by
  obtain ⟨c1, c2, c3, a, _⟩ := h
  exact ⟨_, a⟩
theorem StAt.ne {z : Prop} {K : PySem.W.Frag} {H : Hp} {D s sc : Addr} {ns : List Int} (h : StAt z K H s sc ns) (hD : H D = Option.none) : s ≠ D ∧ (z → sc ≠ D) := by
  obtain ⟨c1, c2, c3, a, b, _⟩ := h
  exact ⟨fun e => (by rw [e, hD] at a; cases a), b.ne hD⟩
theorem StAt.frd {z : Prop} {K : PySem.W.Frag} {H H' : Hp} {D s sc : Addr} {ns : List Int} (f : FrD D H H') (n : s ≠ D ∧ (z → sc ≠ D)) (h : StAt z K H s sc ns) : StAt z K H' s sc ns := by
  obtain ⟨c1, c2, c3, a, b, c⟩ := h
  exact ⟨c1, c2, c3, f _ _ n.1 a, b.frd f n.2, c⟩
theorem erase_map {α β : Type} (f : α → β) (l : List α) (k : Nat) : (l.map f).eraseIdx k = (l.eraseIdx k).map f := by
  rw [List.eraseIdx_eq_take_drop_succ, List.eraseIdx_eq_take_drop_succ, List.map_append, List.map_take, List.map_drop]
theorem erase_perm {α : Type} {l : List α} {k : Nat} {x : α} (h : l[k]? = some x) : (x :: l.eraseIdx k).Perm l := by
  obtain ⟨hk, e⟩ := List.getElem?_eq_some_iff.mp h
  rw [List.eraseIdx_eq_take_drop_succ]
  refine List.perm_middle.symm.trans ?_
  rw [← e, ← List.drop_eq_getElem_cons hk, List.take_append_drop]
theorem perm_draw {a l m : List Str} {k : Nat} {x : Str} (h : (a ++ l).Perm m) (e : l[k]? = some x) : ((a ++ [x]) ++ l.eraseIdx k).Perm m := by
  rw [List.append_assoc]
  exact ((erase_perm e).append_left a).trans h
theorem people_ok {ps : List Pr} {ls : List Str} (h : (ps.map (·.1) ++ ls).Perm lets) (h2 : 2 ≤ ps.length) (h3 : ps.length ≤ 12) (hp : ∀ p ∈ ps, 1 ≤ p.2 ∧ p.2 ≤ 1000) : Good ps ∧ NoX ps := by
  have mem : ∀ p ∈ ps, p.1 ∈ lets := fun p q => h.mem_iff.mp (List.mem_append_left _ (List.mem_map.mpr ⟨p, q, rfl⟩))
  refine ⟨⟨h2, h3, fun p q => (lets_ok _ (mem p q)).1, hp, ?_⟩, fun p q => (lets_ok _ (mem p q)).2⟩
  exact (List.nodup_append.mp (h.nodup_iff.mpr lets_nd)).1
/-! the line of people; far buckets -/
theorem Good.sub {ps qs : List Pr} (h : Good ps) (s : qs.Sublist ps) (h2 : 2 ≤ qs.length) : Good qs := ⟨h2, Nat.le_trans s.length_le h.most, fun p hp => h.nm p (s.subset hp), fun p hp => h.pc p (s.subset hp), List.Nodup.sublist (s.map _) h.nd⟩
def spLine (K : PySem.W.Frag) : Sp := fun vs H Q _ => ∃ (N M : Addr → Prop) (D : Addr) (rs : List Addr) (ps : List Pr), vs = [.ref D] ∧ H D = some (.lst (rs.map V.ref)) ∧ Rows M H rs ps ∧ Good ps ∧ NoX ps ∧ (∀ p, H p = Option.none → N p) ∧ ∀ x H', Same H H' → H x = Option.none → LineAt K N H' x ps → Q (.ref x) H'
def spFar (K : PySem.W.Frag) : Sp := fun vs H Q _ => ∃ (N : Addr → Prop) (o dx tp tn td a : Addr) (rs : List Addr) (ps : List Pr) (b : Nat), vs = [.ref o, .ref a, .int (b + 1 : Nat)] ∧ LineF K N H o dx tp tn td rs ps ∧ Good ps ∧ H a = some (.lst ((dsOf ps).map V.int)) ∧ b + 1 ≤ 10 ^ 18 ∧ ∀ H', Same H H' → Q (.bl true) H'
theorem mk_ok2 {K : PySem.W.Frag} {N M : Addr → Prop} {H : Hp} {vs : List V} {rs : List Addr} {ps : List Pr} {Q : Addr → Hp → Prop} {E : XK} (hN : ∀ p, H p = Option.none → N p) (ev : vs = rs.map V.ref) (hR : Rows M H rs ps) (hG : Good ps)
    (k : ∀ x H2, Same H H2 → H x = Option.none → LineAt K N H2 x ps → Q x H2) :
    ∀ x dx, H x = Option.none → H dx = Option.none → dx ≠ x → StSp 1 (spInit K) (V.ref x :: vs) (upd (upd H dx (.own x)) x (.ins (He.ga K "Line") dx [])) (fun v H2 => v = .non ∧ Q x H2) E :=
  mk_ok (Q := fun v H2 => match v with | .ref x => Q x H2 | _ => False) hN ev hR hG k
theorem go_iRng3 {ta : TA} {σ : L2.St} {H : Hp} {R : It → Hp → Prop} (h : ta σ H fun vs H1 => ∃ (i j c : Int) (n : Nat), vs = [.int i, .int j, .int c] ∧ RgC i j c n ∧ R (Itc i c n) H1) : iRng3 ta σ H R := h
theorem len3 {α : Type} : ∀ {l : List α}, l.length = 3 → ∃ a b c, l = [a, b, c]
  | [a, b, c], _ => ⟨a, b, c, rfl⟩
theorem LineF.keep {K : PySem.W.Frag} {N : Addr → Prop} {H H' : Hp} {o dx tp tn td : Addr} {rs : List Addr} {ps : List Pr} (e : Same H H') (h : LineF K N H o dx tp tn td rs ps) : LineF K N H' o dx tp tn td rs ps := ⟨h.no, h.np, h.nn, h.nd, e _ _ h.obj, e _ _ h.pp, h.rows.mono (frn_same e), e _ _ h.nm, e _ _ h.ds⟩
def tClI (C : Addr) (sp : Sp) (E : XK) (te : TE) (t : TA) : TE := fun σ H Q => te σ H fun y H1 => ∃ a, y = V.ref a ∧ t σ H1 fun vs H2 => (∃ dx fs, H2 a = some (.ins C dx fs)) ∧ sp (V.ref a :: vs) H2 Q E
theorem go_clI {C : Addr} {sp : Sp} {E : XK} {te : TE} {t : TA} {σ : L2.St} {H : Hp} {Q : VK} (h : te σ H fun y H1 => ∃ a, y = V.ref a ∧ t σ H1 fun vs H2 => (∃ dx fs, H2 a = some (.ins C dx fs)) ∧ sp (V.ref a :: vs) H2 Q E) : tClI C sp E te t σ H Q := h
/-- an instance called, without the context -/
theorem _root_.Bk.pe_clI {X : Cx} {CX : CXT} {k j : Nat} {C g : Addr} {sp : Sp} {E : XK} {pos : Pos} {e fe : Expr} {es : List Expr} {t : TA} {te : TE} (hf : PE X fe te) (c : StX.CallO X.K C g) (F : FnR X.prog X.w X.K X.mg X.base CX k g sp) (hr : Room j X.A) (hx : Passes CX X E) (ha : PA X (e :: es) t) (hj : k ≤ j := by decide)
    (h1 : eval (.Call fe (e :: es) [] pos) X.env = (do callWith pos (← eval fe X.env) [] (backTo pos (starEach (e :: es) X.env)) (backToKw pos (keywordEach [] X.env))) := by rfl) (h2 : starEach (e :: es) X.env = (false, eval e X.env) :: starEach es X.env := by rfl) (h3 : (backTo pos (starEach es X.env)).any (·.1) = false := by rfl) : PE X (.Call fe (e :: es) [] pos) (tClI C sp E te t) := ⟨fun pins s σ H Q I h => by
  refine Call_ (thn (hf.run pins s σ H _ I h) ?_) h1
  rintro u s1 ⟨y, H1, I1, ry, a, rfl, q⟩
  cases (show u = Value.ref a from ry)
  refine StX.callO_with (thn (ha.run pos pins s1 σ H1 _ I1 q) ?_) h2 h3
  rintro us s2 ⟨vs, H2, I2, r, hi, q2⟩
  obtain ⟨ox, od, J, hd⟩ := StX.insC_at I2 (.inr hi)
  exact ⟨⟨C, ox, od, J, hd⟩, StX.run_callO c F (hr.mono hj) hx I2 (.inr hi) r q2⟩⟩
theorem iteNe {x y : Int} {A B : Prop} (e : x = y) (h : B) : if (!decide (V.int x = V.int y)) = true then A else B := by
  subst e
  simpa using h
theorem rg2 : ∀ L : Nat, L ≤ 10 → RgC 0 ((L : Int) - 1) 2 (L / 2) := by
  unfold RgC
  decide +kernel
theorem two_at {α : Type} {l : List α} {i : Nat} {a b : α} (h1 : l[i]? = some a) (h2 : l[i + 1]? = some b) : (l.drop i).take 2 = [a, b] := by
  obtain ⟨k1, rfl⟩ := List.getElem?_eq_some_iff.mp h1
  obtain ⟨k2, rfl⟩ := List.getElem?_eq_some_iff.mp h2
  rw [List.drop_eq_getElem_cons k1, List.drop_eq_getElem_cons k2]
  rfl
theorem at_last {α : Type} {xs : List α} {x : α} (h : xs[xs.length - 1]? = some x) : atI xs (0 - 1) = some x := by
  have hi := (List.getElem?_eq_some_iff.mp h).1
  unfold atI ixN
  rw [if_neg (by omega), if_pos (by omega)]
  rw [show ((0 : Int) - 1 + (xs.length : Int)).toNat = xs.length - 1 by omega]
  exact h
theorem nmX : nmB ("extra" : Str) = true := by decide +kernel
theorem goodX {ps : List Pr} (h : Good ps) (hX : NoX ps) (h11 : ps.length ≤ 11) : Good (ps ++ [(("extra" : Str), (1 : Int))]) := by
  refine ⟨by have := h.two; simp; omega, by simp; omega, fun p hp => ?_, fun p hp => ?_, ?_⟩
  · rcases List.mem_append.mp hp with q | q
    · exact h.nm p q
    · rw [List.mem_singleton.mp q]
      exact nmX
  · rcases List.mem_append.mp hp with q | q
    · exact h.pc p q
    · rw [List.mem_singleton.mp q]
      exact ⟨by decide, by decide⟩
  · rw [List.map_append, List.nodup_append]
    refine ⟨h.nd, by simp, fun a ha b hb => ?_⟩
    obtain ⟨p, q, rfl⟩ := List.mem_map.mp ha
    simp at hb
    rw [hb]
    exact hX p q
end
end K
namespace K
open PySem PySem.Spec PyProof.Rows L2 Bk
local macro_rules | `(tactic| walk_at "go1") => `(tactic| (first
  | ((with_reducible show tVar _ _ _ _); refine go_var rfl ?_)
  | (with_reducible first | refine go_c ?_ | refine go_op ?_ | refine go_cons ?_ | refine go_nil ?_ | refine go_cb ?_ | refine go_cl ?_ | refine go_seq ?_ | refine go_asg ?_ | refine go_name ?_ | refine go_ifS ?_ | refine go_test ?_ | refine go_bl ?_)
  | (with_reducible first | refine go_rI0 ?_ | refine go_rU ?_ | refine go_ret ?_ | refine go_next ?_ | refine go_B ?_ | refine go_and ?_ | refine go_or ?_ | refine go_not ?_ | refine go_if ?_ | refine go_andV ?_ | refine go_orV ?_ | refine go_notV ?_)
  | ((with_reducible show rEq _ _ _ _); refine go_rEq rfl ?_)
  | ((with_reducible show rNe _ _ _ _); refine go_rNe rfl ?_)
  | (with_reducible first | refine go_un ?_ | refine go_chain ?_ | refine go_drop ?_ | refine go_retN ?_ | refine go_isN ?_ | refine go_notN ?_ | refine go_cont ?_ | refine go_break ?_ | refine go_par ?_ | refine go_two ?_ | refine go_part ?_ | refine go_noPart ?_ | refine go_int ?_ | refine go_sl ?_ | refine go_yes ?_ | refine go_tup ?_ | refine go_lst ?_)
  | (with_reducible first | refine go_gCons ?_ | refine go_gNil ?_ | refine go_for ?_ | refine go_iEnT ?_ | refine go_iEnum ?_ | refine go_iList ?_ | refine go_iTup ?_ | refine go_iStr ?_ | refine go_iRng1 ?_ | refine go_iRng2 ?_ | refine go_iZip ?_ | refine go_lc ?_ | refine go_mkR ?_ | refine go_mkS ?_ | refine go_clO ?_ | refine go_pr ?_ | refine go_sfld ?_ | refine go_bm ?_ | refine go_ref ?_)))
local macro_rules | `(tactic| walk_at "go") => `(tactic| ((repeat (walk_at "go1")); try dsimp only))
local macro_rules | `(tactic| walk_at "so") => `(tactic| first | omega | (simp; done) | (simp; omega) | (simp at *; omega))
section
variable {P : Program} {w : World} {K : PySem.W.Frag} {mg : Str → Option Value} {base : Heap}
/-! a line with one pace changed -/
theorem _root_.Bk.inK (K0 : PySem.W.Frag) {X : Cx} (h : X.K = K0 := by rfl) : OpR X (compareOp .In) (rIn K0 false) := h ▸ op_in_seq
theorem _root_.Bk.pe_fldK (K0 : PySem.W.Frag) {X : Cx} {e : Expr} {f : Str} {ta : TE} {pos : Pos} (he : PE X e ta) (hb : attributeBase e f X.env (eval e X.env) = eval e X.env) (h : X.K = K0 := by rfl) : PE X (.Attribute e f pos) (tFld K0 ta f) := h ▸ pe_fld he hb
theorem go_methR {C : Addr} {m : Str} {sp : Sp} {E : XK} {ta : TE} {t : TA} {σ : L2.St} {H : Hp} {Q : VK} (h : ta σ H fun x H1 => ∃ a dx fs, x = .ref a ∧ H1 a = some (.ins C dx fs) ∧ fs.lookup m = none ∧ t σ H1 fun vs H2 => sp (x :: vs) H2 Q E) : tMethR C m sp E ta t σ H Q := h
def spCheckPerson (K : PySem.W.Frag) : Sp := fun vs H Q _ => ∃ (a : Addr) (ns : List Str) (z : Str), vs = [.ref a, .str z] ∧ SqT K H a (ns.map V.str) ∧ z ∈ ns ∧ Q .non H
def setP (ps : List Pr) (h : Nat) (v : Int) : List Pr := (List.range ps.length).map fun i => ((ps.map (·.1)).getD i ("" : Str), if i = h then v else (ps.map (·.2)).getD i 0)
theorem setP_len (ps : List Pr) (h : Nat) (v : Int) : (setP ps h v).length = ps.length := by simp [setP]
theorem setP_at {ps : List Pr} {h i : Nat} {v : Int} {p : Pr} (e : ps[i]? = some p) : (setP ps h v)[i]? = some (p.1, if i = h then v else p.2) := by
  have hi := (List.getElem?_eq_some_iff.mp e).1
  unfold setP
  rw [List.getElem?_map, List.getElem?_range hi]
  simp [List.getD, e]
theorem setP_names (ps : List Pr) (h : Nat) (v : Int) : (setP ps h v).map (·.1) = ps.map (·.1) := by
  unfold setP
  rw [List.map_map]
  exact (range_map (n := ps.length) (ps.map (·.1)) id ("" : Str) (by simp)).trans (List.map_id _)
theorem Good.setP {ps : List Pr} (g : Good ps) (h : Nat) {v : Int} (h1 : 1 ≤ v) (h2 : v ≤ 1000) : Good (setP ps h v) := by
  have at_ : ∀ q ∈ K.setP ps h v, ∃ p ∈ ps, q.1 = p.1 ∧ (q.2 = v ∨ q.2 = p.2) := fun q hq => by
    obtain ⟨i, hi, e⟩ := List.mem_iff_getElem.mp hq
    rw [setP_len] at hi
    have := setP_at (h := h) (v := v) (show ps[i]? = some ps[i] by simp [hi])
    rw [List.getElem?_eq_getElem (by rw [setP_len]; exact hi)] at this
    have e2 := Option.some.inj this
    rw [e] at e2
    refine ⟨ps[i], List.getElem_mem _, by rw [e2], ?_⟩
    rw [e2]
    by_cases c : i = h
    · exact .inl (if_pos c)
    · exact .inr (if_neg c)
  refine ⟨by rw [setP_len]; exact g.two, by rw [setP_len]; exact g.most, fun q hq => ?_, fun q hq => ?_, by rw [setP_names]; exact g.nd⟩
  · obtain ⟨p, hp, e, _⟩ := at_ q hq
    rw [e]
    exact g.nm p hp
  · obtain ⟨p, hp, _, e | e⟩ := at_ q hq
    · rw [e]
      exact ⟨h1, h2⟩
    · rw [e]
      exact g.pc p hp
theorem setP_self {ps : List Pr} {h : Nat} {p : Pr} (e : ps[h]? = some p) : setP ps h p.2 = ps := by
  apply List.ext_getElem?
  intro i
  by_cases hi : i < ps.length
  · rw [setP_at (show ps[i]? = some ps[i] by simp [hi])]
    by_cases c : i = h
    · subst c
      rw [e]
      have := (List.getElem?_eq_some_iff.mp e).2
      simp [this]
    · simp [c, hi]
  · rw [List.getElem?_eq_none (by rw [setP_len]; omega), List.getElem?_eq_none (by omega)]
/-! more time for one is never less for anybody -/
theorem En_mono {d e : Nat → Int} {M : Nat} (h : ∀ i, d i ≤ e i) (b : Nat) : ∀ p, Mt.En d M b p ≤ Mt.En e M b p := by
  induction b with
  | zero =>
    intro p
    induction p with
    | zero => rw [Mt.En_00, Mt.En_00]; exact h 0
    | succ p ih =>
      have := h (p + 1)
      rw [Mt.En_0s, Mt.En_0s]
      omega
  | succ b ihb =>
    intro p
    induction p with
    | zero =>
      have := h 0
      have := ihb (min 1 M)
      rw [Mt.En_s0, Mt.En_s0]
      omega
    | succ p ih =>
      have := h (p + 1)
      have := ihb (min (p + 2) M)
      rw [Mt.En_ss, Mt.En_ss]
      omega
theorem Lm_mono_d {d e : Nat → Int} (h : ∀ i, d i ≤ e i) : ∀ r, Mt.Lm d r ≤ Mt.Lm e r
  | 0 => by
    have := h 0
    have := h (0 + 1)
    simp only [Mt.Lm, Mt.tn]
    omega
  | r + 1 => by
    have := h r
    have := h (r + 1)
    have := Lm_mono_d h r
    simp only [Mt.Lm, Mt.tn]
    omega
theorem dd_set {ps : List Pr} {h : Nat} {u v : Int} (huv : u ≤ v) (i : Nat) : dd (dsOf (setP ps h u)) i ≤ dd (dsOf (setP ps h v)) i := by
  unfold dd
  by_cases hi : i + 1 < ps.length
  · have a1 := setP_at (h := h) (v := u) (show ps[i]? = some ps[i] by simp [show i < ps.length by omega])
    have a2 := setP_at (h := h) (v := u) (show ps[i + 1]? = some ps[i + 1] by simp [hi])
    have b1 := setP_at (h := h) (v := v) (show ps[i]? = some ps[i] by simp [show i < ps.length by omega])
    have b2 := setP_at (h := h) (v := v) (show ps[i + 1]? = some ps[i + 1] by simp [hi])
    rw [List.getD, dsOf_at _ i _ _ a1 a2, List.getD, dsOf_at _ i _ _ b1 b2]
    simp only [Option.getD_some]
    split <;> split <;> omega
  · rw [List.getD, List.getElem?_eq_none (by rw [dsOf_len, setP_len]; omega), List.getD, List.getElem?_eq_none (by rw [dsOf_len, setP_len]; omega)]
    simp
theorem Cm_mono {ps : List Pr} {h : Nat} {u v : Int} (huv : u ≤ v) (b i : Nat) : Cm (dsOf (setP ps h u)) b i ≤ Cm (dsOf (setP ps h v)) b i := by
  unfold Cm
  have l : (dsOf (setP ps h u)).length = (dsOf (setP ps h v)).length := by rw [dsOf_len, dsOf_len, setP_len, setP_len]
  rw [l]
  split
  · split
    · omega
    · exact En_mono (dd_set huv) _ _
  · exact En_mono (dd_set huv) _ _
theorem inV_ints {z : Int} {l : List Int} : inV (.int z) (l.map V.int) = decide (z ∈ l) := by
  unfold inV
  rw [List.any_map, Bool.eq_iff_iff, List.any_eq_true, decide_eq_true_iff]
  constructor
  · rintro ⟨x, hx, e⟩
    have e2 : (x == z) = true := e
    rw [← eq_of_beq e2]
    exact hx
  · intro h
    exact ⟨z, h, by show (z == z) = true; simp⟩
theorem go_inI {K : PySem.W.Frag} {H : Hp} {a : Addr} {z : Int} {l : List Int} {Q : VK} (h : SqL K H a (l.map V.int)) (q : Q (.bl (decide (z ∈ l))) H) : rIn K false (.int z) (.ref a) H Q := by
  refine ⟨a, _, rfl, .inl h, rfl, ?_, ?_⟩
  · rw [List.all_eq_true]
    intro x hx
    obtain ⟨z, _, rfl⟩ := List.mem_map.mp hx
    rfl
  · rw [inV_ints]
    exact q
/-- rows out of a list of new pairs -/
theorem rows_of {H : Hp} {D : Addr} {ys : List V} {ps : List Pr} (hl : ys.length = ps.length) (h : ∀ (i : Nat) (y : V), ys[i]? = some y → ∃ p t, ps[i]? = some p ∧ y = V.ref t ∧ t ≠ D ∧ H t = some (.tup [.str p.1, .int p.2])) : ∃ rs : List Addr, ys = rs.map V.ref ∧ Rows (fun _ => True) H rs ps := by
  refine ⟨ys.map fun y => match y with | .ref t => t | _ => 0, ?_, by simp [hl], fun i p hp => ?_⟩
  · rw [List.map_map]
    symm
    apply List.ext_getElem?
    intro i
    rw [List.getElem?_map]
    cases ei : ys[i]? with
    | none => rfl
    | some y =>
      obtain ⟨p, t, _, rfl, _⟩ := h i y ei
      rfl
  · have hi : i < ys.length := by
      have := (List.getElem?_eq_some_iff.mp hp).1
      omega
    obtain ⟨p', t, a1, a2, a3, a4⟩ := h i ys[i] (by simp [hi])
    rw [hp] at a1
    cases a1
    refine ⟨t, ?_, trivial, a4⟩
    rw [List.getElem?_map, show ys[i]? = some ys[i] by simp [hi], a2]
    rfl
def spTrained (K : PySem.W.Frag) : Sp := fun vs H Q _ => ∃ (N N1 : Addr → Prop) (o dx tp tn td a : Addr) (rs : List Addr) (ps : List Pr) (i : Nat) (v : Int) (z : Str), vs = [.ref o, .int v, .ref a] ∧ H a = some (.tup [.str z]) ∧ LineF K N1 H o dx tp tn td rs ps ∧ Good ps ∧ 1 ≤ v ∧ v ≤ 1000 ∧ (ps.map (·.1))[i]? = some z ∧ (∀ p, H p = Option.none → N p) ∧
  ∀ x H', Same H H' → H x = Option.none → LineAt K N H' x (setP ps i v) → Q (.ref x) H'
theorem sc_check_person : FnScope ["names", "name"] ["names", "name"] (defScope s_check_person) := ⟨rfl, rfl, rfl, by decide +kernel, rfl, by decide +kernel, by decide +kernel⟩
theorem ok_check_person (T : Tx K mg) : Fx P w K mg base 1 (He.ga K "check_person") (spCheckPerson K) := by
  obtain ⟨fd, F⟩ := T.F_check_person
  have nd := sc_check_person.nd
  refine fx_of F sc_check_person (fun vs H Q E h => ?_) (fun _ _ _ _ _ _ us hl => match us, hl with | [_, _], _ => rfl) fun cdv A outer s H vs Q E hr h => ?_
  · obtain ⟨a, ns, z, rfl, _⟩ := h
    rfl
  obtain ⟨a, ns, z, rfl, hS, hz, h⟩ := h
  refine ⟨_, (pss_one (ps_if (pt_cmpR op_notIn_seq (pv 1) (pv 0) rfl) (pss_one ps_never) pss_nil)), ?_⟩
  walk_at "go"
  refine go_inL (.inr hS) ?_
  walk_at "go"
  rw [decide_eq_true hz]
  refine iteF ?_
  walk_at "go"
  exact h

theorem sc_Line_trained : FnScope ["self", "pace", "names", "places", "people", "name", "place", "own_pace"] ["self", "pace", "names"] (defScope s_Line_trained) := ⟨rfl, rfl, rfl, by decide +kernel, rfl, by decide +kernel, by decide +kernel⟩
theorem ok_Line_trained (T : Tx K mg) (D_place_of : Fx P w K mg base 1 (He.ga K "place_of") (spPlaceOf K)) (D_Lineu_initu : Fx P w K mg base 5 (He.ma K (He.ga K "Line") "__init__") (StSp 1 (spInit K))) : Fx P w K mg base 7 (He.ma K (He.ga K "Line") "trained") (StSp 2 (spTrained K)) := by
  have K_place_of : PySem.W.keepIn K (.ref (He.ga K "place_of")) = true := T.F_place_of.elim fun _ q => q.kp
  obtain ⟨fd, F⟩ := T.F_Line_trained
  have nd := sc_Line_trained.nd
  refine fx_star (ps := ["self", "pace"]) F sc_Line_trained (fun kV doc pm an cdv ct => StX.bind_star2 (B := fun l => bindArgs (PySem.W.fnOf "trained" "Line.trained" (defArgs s_Line_trained) (defBody s_Line_trained) (defScope s_Line_trained) .none kV doc pm an cdv ct) ⟨l, []⟩) (p1 := "self") (p2 := "pace") (pv := "names") (fun a b => rfl) (fun a b r rs => rfl)) fun cdv A outer s H vs Q E hr h => ?_
  obtain ⟨N, N1, o, dx, tp, tn, td, a, rs, ps, i, v, z, rfl, hS, L, hG, hv1, hv2, hz, hN, h⟩ := h
  refine ⟨_, (pss_cons (ps_set (i := 3) nd rfl (Or.inr rfl) (pe_lc (own := [("name", 5)]) (g := (gName 5)) rfl nd (pi_tup (pv 2)) (blkOk_by (N := ["self", "pace", "names", "places", "people", "name", "place", "own_pace"]) (sc := defScope s_Line_trained) (own := [("name", 5)]) (by decide +kernel)) (fun _ _ _ _ _ => (pg_name (i := 5) nd rfl (Or.inl rfl))) (fun _ _ _ _ _ => pts_nil) (fun _ _ _ _ _ => (pe_cl D_place_of hr K_place_of T.g_place_of passL (pa_cons (Bk.pe_fldK K (pv 0) rfl) (pa_cons (pv 5) pa_nil)))))) (pss_cons (ps_setLc (i := 4) (own := [("place", 6), ("name", 5), ("own_pace", 7)]) (g := (gTup K 2 (gCons (gName 6) (gCons (gTup K 2 (gCons (gName 5) (gCons (gName 7) gNil))) gNil)))) rfl nd rfl rfl (sw_true rfl rfl rfl (by decide +kernel)) (pi_enT T.m_enumerate (pa_cons (pe_fld (pv 0) rfl) pa_nil)) (blkOk_by (N := ["self", "pace", "names", "places", "people", "name", "place", "own_pace"]) (sc := defScope s_Line_trained) (own := [("place", 6), ("name", 5), ("own_pace", 7)]) (by decide +kernel)) (fun _ _ _ _ _ => (pg_tup (by rfl) (pgs_cons (pg_name (i := 6) nd rfl (Or.inl rfl)) (pgs_cons (pg_tup (by rfl) (pgs_cons (pg_name (i := 5) nd rfl (Or.inl rfl)) (pgs_cons (pg_name (i := 7) nd rfl (Or.inl rfl)) pgs_nil))) pgs_nil)))) (fun _ _ _ _ _ => pts_nil) (fun _ _ _ _ _ => (pe_tup (pa_cons (pv 5) (pa_cons (pe_ifExp (pt_cmpR (Bk.inK K) (pv 6) (pv 3) rfl) (pv 1) (pv 7)) pa_nil))))) (pss_one (ps_ret (pe_mkS T.mk_Line D_Lineu_initu hr T.g_Line passL (pv 4)))))), ?_⟩
  have hm := hG.most
  have h2 := hG.two
  have l1 := L.rows.1
  walk_at "go"
  refine ⟨⟨_, .inl (.inl hS)⟩, ?_⟩
  refine lc_fun (walk_tup (xs := [V.str z])) (fun H2 s2 => .inl (.inl (s2 _ _ hS))) (fun _ => .int (i : Nat)) (by simp) ?_ ?_
  · rintro j x H2 H3 k hj s2 ⟨rfl, hx⟩ hk
    have ej : j = 0 := by simp at hj; omega
    subst ej
    have ex : V.str z = x := Option.some.inj hx
    subst ex
    have L2 := L.keep s2
    walk_at "go"
    refine ⟨rfl, ?_⟩
    walk_at "go"
    refine go_fld L2.obj T.cl_Line T.no_Line_names (lf_n _ _ _) ?_
    walk_at "go"
    refine ⟨tn, ps.map (·.1), i, z, rfl, .inl (.inl L2.nm), hz, hG.first hz, fun H4 s4 => hk _ s4⟩
  · intro D1 H2 hD1 s2 e2
    have e2 : H2 D1 = some (.lst ([(i : Int)].map V.int)) := e2
    have L2 := L.keep s2
    walk_at "go"
    refine go_fld L2.obj T.cl_Line T.no_Line_people (lf_p _ _ _) ?_
    walk_at "go"
    refine ⟨_, _, rfl, .inl (.inl L2.pp), ?_⟩
    refine lc_gen (walk_en (xs := rs.map V.ref)) (fun H3 s3 => .inl (.inl (s3 _ _ L2.pp))) (fun D j y H => ∃ p t, (setP ps i v)[j]? = some p ∧ y = V.ref t ∧ t ≠ D ∧ H t = some (.tup [.str p.1, .int p.2])) (fun D j y H3 H4 f ⟨p, t, a1, a2, a3, a4⟩ => ⟨p, t, a1, a2, a3, f _ _ a3 a4⟩) (by simp; omega) ?_ ?_
    · rintro D j x H3 H4 k hD hj s3 ⟨oD, hoD⟩ ⟨T', y1, y2, rfl, hT, rfl, e4, e5⟩ hk
      obtain ⟨p, t, hp, rfl, _, ht⟩ := (L2.rows.mono (frn_same s3)).at e5
      cases e4
      have s4 : Same H3 (upd H3 T' (.tup [V.int (j : Nat), V.ref t])) := same_upd hT
      refine go_gTup (.inl (.inl upd_same)) rfl ?_
      walk_at "go"
      refine go_gTup (.inl (.inl (s4 _ _ ht))) rfl ?_
      walk_at "go"
      refine ⟨rfl, ?_⟩
      walk_at "go"
      refine go_inI (.inl (.inl (s4 _ _ (s3 _ _ e2)))) ?_
      walk_at "go"
      have hsp := setP_at (h := i) (v := v) hp
      refine iteD (fun hc => ?_) fun hc => ?_
      · have hji : j = i := by simp at hc; omega
        rw [if_pos hji] at hsp
        walk_at "go"
        exact ⟨show 2 ≤ sizeLine by decide, fun q hq => hk _ _ (s4.trans (same_upd hq)) ⟨_, q, hsp, rfl, fun z => (by rw [z, s4 _ _ hoD] at hq; cases hq), upd_same⟩⟩
      · have hji : ¬ j = i := by simp at hc; omega
        rw [if_neg hji] at hsp
        walk_at "go"
        exact ⟨show 2 ≤ sizeLine by decide, fun q hq => hk _ _ (s4.trans (same_upd hq)) ⟨_, q, hsp, rfl, fun z => (by rw [z, s4 _ _ hoD] at hq; cases hq), upd_same⟩⟩
    · intro D ys H3 hD s3 e3 hl hy
      have s03 := s2.trans s3
      obtain ⟨rs2, ey, hR2⟩ := rows_of (by rw [hl, setP_len, List.length_map, l1]) hy
      walk_at "go"
      refine ⟨D, ys, rfl, .inr (.inl (.inl e3)), ?_⟩
      exact mk_ok (fun q hq => hN q (s03.free hq)) ey hR2 (hG.setP i hv1 hv2) fun x H4 s4 hx hL => h x H4 (s03.trans s4) (s03.free hx) hL

/-! an observer -/
structure ObF (n : Nat) (fs : List (Str × V)) (ln : Addr) (z : Str) (lo hi : Int) (sl : Addr) : Prop where
  l : fs.lookup ("_line" : Str) = some (.ref ln)
  h : fs.lookup ("_hidden" : Str) = some (.str z)
  lo : fs.lookup ("_least" : Str) = some (.int lo)
  gr : fs.lookup ("_greatest" : Str) = some (.int hi)
  se : fs.lookup ("_seen" : Str) = some (.ref sl)
  m1 : fs.lookup ("see" : Str) = none
  m2 : fs.lookup ("_first_pace" : Str) = none
  m3 : fs.lookup ("_held_from" : Str) = none
  m4 : fs.lookup ("telling_bucket" : Str) = none
  len : fs.length ≤ n
theorem lk_ne {f g : Str} {v : V} {fs : List (Str × V)} {o : Option V} (h : ¬ (g = f)) (e : fs.lookup g = o) : (putF f v fs).lookup g = o := by
  rw [lookup_putF, if_neg h]
  exact e
theorem lk_eq {f : Str} {v : V} {fs : List (Str × V)} : (putF f v fs).lookup f = some v := by
  rw [lookup_putF, if_pos rfl]
def obf (ln : Addr) (z : Str) (sl : Addr) : List (Str × V) := putF "_seen" (.ref sl) (putF "_greatest" (.int 1000) (putF "_least" (.int 1) (putF "_hidden" (.str z) (putF "_line" (.ref ln) []))))
theorem obf_ok (ln : Addr) (z : Str) (sl : Addr) : ObF 5 (obf ln z sl) ln z 1 1000 sl where
  l := lk_ne (by decide +kernel) (lk_ne (by decide +kernel) (lk_ne (by decide +kernel) (lk_ne (by decide +kernel) lk_eq)))
  h := lk_ne (by decide +kernel) (lk_ne (by decide +kernel) (lk_ne (by decide +kernel) lk_eq))
  lo := lk_ne (by decide +kernel) (lk_ne (by decide +kernel) lk_eq)
  gr := lk_ne (by decide +kernel) lk_eq
  se := lk_eq
  m1 := lk_ne (by decide +kernel) (lk_ne (by decide +kernel) (lk_ne (by decide +kernel) (lk_ne (by decide +kernel) (lk_ne (by decide +kernel) rfl))))
  m2 := lk_ne (by decide +kernel) (lk_ne (by decide +kernel) (lk_ne (by decide +kernel) (lk_ne (by decide +kernel) (lk_ne (by decide +kernel) rfl))))
  m3 := lk_ne (by decide +kernel) (lk_ne (by decide +kernel) (lk_ne (by decide +kernel) (lk_ne (by decide +kernel) (lk_ne (by decide +kernel) rfl))))
  m4 := lk_ne (by decide +kernel) (lk_ne (by decide +kernel) (lk_ne (by decide +kernel) (lk_ne (by decide +kernel) (lk_ne (by decide +kernel) rfl))))
  len := by
    unfold obf
    have h1 := putF_len "_seen" (.ref sl) (putF "_greatest" (.int 1000) (putF "_least" (.int 1) (putF "_hidden" (.str z) (putF "_line" (.ref ln) []))))
    have h2 := putF_len "_greatest" (.int 1000) (putF "_least" (.int 1) (putF "_hidden" (.str z) (putF "_line" (.ref ln) [])))
    have h3 := putF_len "_least" (.int 1) (putF "_hidden" (.str z) (putF "_line" (.ref ln) []))
    have h4 := putF_len "_hidden" (.str z) (putF "_line" (.ref ln) [])
    have h5 := putF_len "_line" (.ref ln) []
    simp only [List.length_nil] at h5
    omega
theorem ObF.least {n : Nat} {fs : List (Str × V)} {ln : Addr} {z : Str} {lo hi : Int} {sl : Addr} (h : ObF n fs ln z lo hi sl) (v : Int) : ObF (n + 1) (putF "_least" (.int v) fs) ln z v hi sl :=
  ⟨lk_ne (by decide +kernel) h.l, lk_ne (by decide +kernel) h.h, lk_eq, lk_ne (by decide +kernel) h.gr, lk_ne (by decide +kernel) h.se, lk_ne (by decide +kernel) h.m1, lk_ne (by decide +kernel) h.m2, lk_ne (by decide +kernel) h.m3, lk_ne (by decide +kernel) h.m4, Nat.le_trans (putF_len _ _ _) (Nat.succ_le_succ h.len)⟩
theorem ObF.greatest {n : Nat} {fs : List (Str × V)} {ln : Addr} {z : Str} {lo hi : Int} {sl : Addr} (h : ObF n fs ln z lo hi sl) (v : Int) : ObF (n + 1) (putF "_greatest" (.int v) fs) ln z lo v sl :=
  ⟨lk_ne (by decide +kernel) h.l, lk_ne (by decide +kernel) h.h, lk_ne (by decide +kernel) h.lo, lk_eq, lk_ne (by decide +kernel) h.se, lk_ne (by decide +kernel) h.m1, lk_ne (by decide +kernel) h.m2, lk_ne (by decide +kernel) h.m3, lk_ne (by decide +kernel) h.m4, Nat.le_trans (putF_len _ _ _) (Nat.succ_le_succ h.len)⟩
theorem lf_tr (tp tn td : Addr) : (lf tp tn td).lookup ("trained" : Str) = none := by
  unfold lf
  exact lk_ne (by decide +kernel) (lk_ne (by decide +kernel) (lk_ne (by decide +kernel) rfl))
def spObInit (K : PySem.W.Frag) : Sp := fun vs H Q _ => ∃ (N : Addr → Prop) (o dx0 ln dx tp tn td : Addr) (rs : List Addr) (ps : List Pr) (z : Str), vs = [.ref o, .ref ln, .str z] ∧ H o = some (.ins (He.ga K "PaceObserver") dx0 []) ∧ LineF K N H ln dx tp tn td rs ps ∧ z ∈ ps.map (·.1) ∧
  ∀ sl H', FrD o H H' → H sl = Option.none → H' o = some (.ins (He.ga K "PaceObserver") dx0 (obf ln z sl)) → H' sl = some (.lst []) → sl ≠ o → Q .non H'
def spPoss (K : PySem.W.Frag) : Sp := fun vs H Q _ => ∃ (n : Nat) (o dx0 ln sl : Addr) (fs : List (Str × V)) (z : Str) (lo hi : Int), vs = [.ref o] ∧ H o = some (.ins (He.ga K "PaceObserver") dx0 fs) ∧ ObF n fs ln z lo hi sl ∧ ∀ t H', Same H H' → H t = Option.none → H' t = some (.tup [.int lo, .int hi]) → Q (.ref t) H'
/-- an observer, its line, the place of the hidden one, the place of another -/
structure ObAt (K : PySem.W.Frag) (H : Hp) (n : Nat) (o dx0 ln sl : Addr) (fs : List (Str × V)) (z : Str) (lo hi : Int) (N : Addr → Prop) (dx tp tn td : Addr) (rs : List Addr) (ps : List Pr) (hI : Nat) : Prop where
  ob : H o = some (.ins (He.ga K "PaceObserver") dx0 fs)
  f : ObF n fs ln z lo hi sl
  L : LineF K N H ln dx tp tn td rs ps
  g : Good ps
  hz : (ps.map (·.1))[hI]? = some z
  lo1 : 1 ≤ lo
  hi1 : hi ≤ 1000
theorem ObAt.keep {K : PySem.W.Frag} {H H' : Hp} {n : Nat} {o dx0 ln sl : Addr} {fs : List (Str × V)} {z : Str} {lo hi : Int} {N : Addr → Prop} {dx tp tn td : Addr} {rs : List Addr} {ps : List Pr} {hI : Nat} (e : Same H H') (h : ObAt K H n o dx0 ln sl fs z lo hi N dx tp tn td rs ps hI) : ObAt K H' n o dx0 ln sl fs z lo hi N dx tp tn td rs ps hI :=
  ⟨e _ _ h.ob, h.f, h.L.keep e, h.g, h.hz, h.lo1, h.hi1⟩
def fP (ps : List Pr) (hI b i : Nat) (x : Int) : Int := Cm (dsOf (setP ps hI x)) b i
def spHeld (K : PySem.W.Frag) : Sp := fun vs H Q _ => ∃ (n : Nat) (o dx0 ln sl : Addr) (fs : List (Str × V)) (z : Str) (lo hi : Int) (N : Addr → Prop) (dx tp tn td : Addr) (rs : List Addr) (ps : List Pr) (hI b i : Nat) (v : Int) (y : Str), vs = [.ref o, .int v, .int b, .str y] ∧ ObAt K H n o dx0 ln sl fs z lo hi N dx tp tn td rs ps hI ∧
  1 ≤ v ∧ v ≤ 1000 ∧ b ≤ 10 ^ 18 ∧ (ps.map (·.1))[i]? = some y ∧ ∀ H', Same H H' → Q (.int (fP ps hI b i v)) H'
def spFirst (K : PySem.W.Frag) : Sp := fun vs H Q _ => ∃ (n : Nat) (o dx0 ln sl : Addr) (fs : List (Str × V)) (z : Str) (lo hi : Int) (N : Addr → Prop) (dx tp tn td : Addr) (rs : List Addr) (ps : List Pr) (hI b i : Nat) (tick : Int) (y : Str), vs = [.ref o, .int b, .str y, .int tick] ∧ ObAt K H n o dx0 ln sl fs z lo hi N dx tp tn td rs ps hI ∧
  lo ≤ hi ∧ b ≤ 10 ^ 18 ∧ (ps.map (·.1))[i]? = some y ∧ ∀ r H', Same H H' → lo ≤ r → r ≤ hi + 1 → (∀ x, lo ≤ x → x < r → fP ps hI b i x < tick) → (∀ x, r ≤ x → x ≤ hi → tick ≤ fP ps hI b i x) → Q (.int r) H'
def spSee (K : PySem.W.Frag) : Sp := fun vs H Q _ => ∃ (n : Nat) (o dx0 ln sl : Addr) (fs : List (Str × V)) (z : Str) (lo hi : Int) (N : Addr → Prop) (dx tp tn td : Addr) (rs : List Addr) (ps : List Pr) (hI b i : Nat) (tick v0 : Int) (y : Str) (xs : List V), vs = [.ref o, .int b, .str y, .int tick] ∧ ObAt K H n o dx0 ln sl fs z lo hi N dx tp tn td rs ps hI ∧
  n ≤ 100 ∧ H sl = some (.lst xs) ∧ sl ≠ o ∧ xs.length ≤ 100 ∧ lo ≤ v0 ∧ v0 ≤ hi ∧ fP ps hI b i v0 = tick ∧ b ≤ 10 ^ 18 ∧ (ps.map (·.1))[i]? = some y ∧ ∀ l g fs' H', (∀ a u, a ≠ o → a ≠ sl → H a = some u → H' a = some u) → H' o = some (.ins (He.ga K "PaceObserver") dx0 fs') → ObF (n + 2) fs' ln z l g sl →
  lo ≤ l → l ≤ v0 → v0 ≤ g → g ≤ hi → (∀ x, l ≤ x → x ≤ g → fP ps hI b i x = tick) → (∀ x, lo ≤ x → x < l → fP ps hI b i x < tick) → (∀ x, g < x → x ≤ hi → tick < fP ps hI b i x) → Q (.int (g - l + 1)) H'
theorem sc_PaceObserveru_initu : FnScope ["self", "line", "name"] ["self", "line", "name"] (defScope s_PaceObserveru_initu) := ⟨rfl, rfl, rfl, by decide +kernel, rfl, by decide +kernel, by decide +kernel⟩
theorem ok_PaceObserveru_initu (T : Tx K mg) (D_check_person : Fx P w K mg base 1 (He.ga K "check_person") (spCheckPerson K)) (D_Line_names : Fx P w K mg base 1 (gt K "Line" "names") (spNames K)) : Fx P w K mg base 3 (He.ma K (He.ga K "PaceObserver") "__init__") (spObInit K) := by
  have K_check_person : PySem.W.keepIn K (.ref (He.ga K "check_person")) = true := T.F_check_person.elim fun _ q => q.kp
  obtain ⟨fd, F⟩ := T.F_PaceObserveru_initu
  have nd := sc_PaceObserveru_initu.nd
  refine fx_of F sc_PaceObserveru_initu (fun vs H Q E h => ?_) (fun _ _ _ _ _ _ us hl => match us, hl with | [_, _, _], _ => rfl) fun cdv A outer s H vs Q E hr h => ?_
  · obtain ⟨N, o, dx0, ln, dx, tp, tn, td, rs, ps, z, rfl, _⟩ := h
    rfl
  obtain ⟨N, o, dx0, ln, dx, tp, tn, td, rs, ps, z, rfl, hO, L, hz, h⟩ := h
  refine ⟨_, (pss_cons (ps_expr (pe_cl D_check_person hr K_check_person T.g_check_person passL (pa_cons (pe_pr (pv 1) T.cl_Line T.p_names D_Line_names hr passL) (pa_cons (pv 2) pa_nil)))) (pss_cons (ps_fld (pv 0) (pv 1) rfl) (pss_cons (ps_fld (pv 0) (pv 2) rfl) (pss_cons (ps_fld (pv 0) pe_int rfl) (pss_cons (ps_fld (pv 0) (ClX.pe_cval (gR T.g_Line)) rfl) (pss_one (ps_fld (pv 0) (pe_lst pa_nil) rfl))))))), ?_⟩
  walk_at "go"
  refine ⟨ln, dx, _, rfl, L.obj, N, ln, dx, tp, tn, td, rs, ps, rfl, L, ?_⟩
  walk_at "go"
  refine ⟨tn, _, z, rfl, .inl (.inl L.nm), hz, ?_⟩
  walk_at "go"
  refine ⟨o, _, dx0, _, rfl, hO, T.cl_PaceObserver, T.no_PaceObserver_line, by decide, ?_⟩
  generalize hU1 : upd H o (.ins (He.ga K "PaceObserver") dx0 (putF "_line" (.ref ln) [])) = U1
  have f1 : FrD o H U1 := hU1 ▸ frd_upd
  have o1 : U1 o = some (.ins (He.ga K "PaceObserver") dx0 (putF "_line" (.ref ln) [])) := hU1 ▸ upd_same
  walk_at "go"
  refine ⟨o, _, dx0, _, rfl, o1, T.cl_PaceObserver, T.no_PaceObserver_hidden, putF_len1 _ _, ?_⟩
  generalize hU2 : upd U1 o _ = U2
  have f2 : FrD o U1 U2 := hU2 ▸ frd_upd
  have o2 : U2 o = some (.ins (He.ga K "PaceObserver") dx0 (putF "_hidden" (.str z) (putF "_line" (.ref ln) []))) := hU2 ▸ upd_same
  walk_at "go"
  refine ⟨o, _, dx0, _, rfl, o2, T.cl_PaceObserver, T.no_PaceObserver_least, putF_len2 _ _ _ _, ?_⟩
  generalize hU3 : upd U2 o _ = U3
  have f3 : FrD o U2 U3 := hU3 ▸ frd_upd
  have o3 : U3 o = some (.ins (He.ga K "PaceObserver") dx0 (putF "_least" (.int 1) (putF "_hidden" (.str z) (putF "_line" (.ref ln) [])))) := hU3 ▸ upd_same
  walk_at "go"
  refine go_cval T.cc_MAX_PACE.rd T.cc_MAX_PACE.va.choose_spec ?_
  walk_at "go"
  have hl5 := (obf_ok ln z 0).len
  have q3 := putF_len "_least" (.int 1) (putF "_hidden" (.str z) (putF "_line" (.ref ln) []))
  have q4 := putF_len "_hidden" (.str z) (putF "_line" (.ref ln) [])
  have q5 := putF_len "_line" (.ref ln) []
  simp only [List.length_nil] at q5
  refine ⟨o, _, dx0, _, rfl, o3, T.cl_PaceObserver, T.no_PaceObserver_greatest, by omega, ?_⟩
  generalize hU4 : upd U3 o _ = U4
  have f4 : FrD o U3 U4 := hU4 ▸ frd_upd
  have o4 : U4 o = some (.ins (He.ga K "PaceObserver") dx0 (putF "_greatest" (.int 1000) (putF "_least" (.int 1) (putF "_hidden" (.str z) (putF "_line" (.ref ln) []))))) := hU4 ▸ upd_same
  walk_at "go"
  refine ⟨Nat.zero_le _, fun sl hsl => ?_⟩
  have s5 := same_upd (o := .lst []) hsl
  have hso : sl ≠ o := fun q => by rw [q, o4] at hsl; cases hsl
  walk_at "go"
  have q2 := putF_len "_greatest" (.int 1000) (putF "_least" (.int 1) (putF "_hidden" (.str z) (putF "_line" (.ref ln) [])))
  refine ⟨o, _, dx0, _, rfl, s5 _ _ o4, T.cl_PaceObserver, T.no_PaceObserver_seen, by omega, ?_⟩
  have g04 : FrD o H U4 := f1.trans (f2.trans (f3.trans f4))
  have g4 : FrD o H (upd U4 sl (.lst [])) := g04.trans (frd_same s5)
  have hsl0 : H sl = Option.none := by
    cases e : H sl with
    | none => rfl
    | some u => rw [g04 _ _ hso e] at hsl; cases hsl
  exact h sl _ (g4.trans frd_upd) hsl0 upd_same (by rw [upd_ne hso]; exact upd_same) hso

theorem sc_PaceObserver_possible_paces : FnScope ["self"] ["self"] (defScope s_PaceObserver_possible_paces) := ⟨rfl, rfl, rfl, by decide +kernel, rfl, by decide +kernel, by decide +kernel⟩
theorem ok_PaceObserver_possible_paces (T : Tx K mg) : Fx P w K mg base 1 (gt K "PaceObserver" "possible_paces") (spPoss K) := by
  obtain ⟨fd, F⟩ := T.F_PaceObserver_possible_paces
  have nd := sc_PaceObserver_possible_paces.nd
  refine fx_of F sc_PaceObserver_possible_paces (fun vs H Q E h => ?_) (fun _ _ _ _ _ _ us hl => match us, hl with | [_], _ => rfl) fun cdv A outer s H vs Q E hr h => ?_
  · obtain ⟨n, o, dx0, ln, sl, fs, z, lo, hi, rfl, _⟩ := h
    rfl
  obtain ⟨n, o, dx0, ln, sl, fs, z, lo, hi, rfl, hO, F0, h⟩ := h
  refine ⟨_, (pss_one (ps_ret (pe_tup (pa_cons (pe_fld (pv 0) rfl) (pa_cons (pe_fld (pv 0) rfl) pa_nil))))), ?_⟩
  walk_at "go"
  refine go_fld hO T.cl_PaceObserver T.no_PaceObserver_least F0.lo ?_
  refine go_fld hO T.cl_PaceObserver T.no_PaceObserver_greatest F0.gr ?_
  walk_at "go"
  exact ⟨show 2 ≤ sizeLine by decide, fun t ht => h t _ (same_upd ht) ht upd_same⟩

theorem sc_PaceObserveruheld_from : FnScope ["self", "pace", "bucket", "name", "line"] ["self", "pace", "bucket", "name"] (defScope s_PaceObserveruheld_from) := ⟨rfl, rfl, rfl, by decide +kernel, rfl, by decide +kernel, by decide +kernel⟩
theorem ok_PaceObserveruheld_from (T : Tx K mg) (D_Line_trained : Fx P w K mg base 7 (He.ma K (He.ga K "Line") "trained") (StSp 2 (spTrained K))) (D_Lineu_callu : Fx P w K mg base 4 (He.ma K (He.ga K "Line") "__call__") (spCall K)) : Fx P w K mg base 8 (He.ma K (He.ga K "PaceObserver") "_held_from") (spHeld K) := by
  obtain ⟨fd, F⟩ := T.F_PaceObserveruheld_from
  have nd := sc_PaceObserveruheld_from.nd
  refine fx_of F sc_PaceObserveruheld_from (fun vs H Q E h => ?_) (fun _ _ _ _ _ _ us hl => match us, hl with | [_, _, _, _], _ => rfl) fun cdv A outer s H vs Q E hr h => ?_
  · obtain ⟨n, o, dx0, ln, sl, fs, z, lo, hi, N, dx, tp, tn, td, rs, ps, hI, b, i, v, y, rfl, _⟩ := h
    rfl
  obtain ⟨n, o, dx0, ln, sl, fs, z, lo, hi, N, dx, tp, tn, td, rs, ps, hI, b, i, v, y, rfl, O, hv1, hv2, hb, hy, h⟩ := h
  refine ⟨_, (pss_cons (ps_set (i := 4) nd rfl (Or.inl rfl) (pe_methR (pe_fld (pv 0) rfl) T.cl_Line T.me_Line_trained D_Line_trained (hr.mono (by decide)) passL (pa_cons (pv 1) (pa_cons (pe_fld (pv 0) rfl) pa_nil)))) (pss_one (ps_ret (pe_clI (pv 4) T.co_Line D_Lineu_callu hr passL (pa_cons (pv 2) (pa_cons (pv 3) pa_nil)))))), ?_⟩
  have L := O.L
  have hG := O.g
  walk_at "go"
  refine go_methR ?_
  walk_at "go"
  refine go_fld O.ob T.cl_PaceObserver T.no_PaceObserver_line O.f.l ?_
  refine ⟨ln, dx, _, rfl, L.obj, lf_tr _ _ _, ?_⟩
  walk_at "go"
  refine go_fld O.ob T.cl_PaceObserver T.no_PaceObserver_hidden O.f.h ?_
  walk_at "go"
  refine ⟨[.ref ln, .int v], [.str z], rfl, rfl, show 1 ≤ sizeLine by decide, fun p hp => ?_⟩
  have s1 := same_upd (o := .tup [V.str z]) hp
  refine ⟨fun _ => True, N, ln, dx, tp, tn, td, p, rs, ps, hI, v, z, rfl, upd_same, L.keep s1, hG, hv1, hv2, O.hz, fun _ _ => trivial, fun x H2 s2 hx hL => ?_⟩
  obtain ⟨dx2, tp2, tn2, td2, rs2, L2⟩ := hL
  walk_at "go"
  refine go_clI ?_
  walk_at "go"
  exact ⟨⟨_, _, L2.obj⟩, _, x, dx2, tp2, tn2, td2, rs2, _, b, i, y, rfl, L2, hG.setP hI hv1 hv2, hb, by rw [setP_names]; exact hy, fun H3 s3 => h H3 (s1.trans (s2.trans s3))⟩

theorem sc_PaceObserverufirst_pace : FnScope ["self", "bucket", "name", "tick", "low", "high", "middle"] ["self", "bucket", "name", "tick"] (defScope s_PaceObserverufirst_pace) := ⟨rfl, rfl, rfl, by decide +kernel, rfl, by decide +kernel, by decide +kernel⟩
theorem ok_PaceObserverufirst_pace (T : Tx K mg) (D_PaceObserveruheld_from : Fx P w K mg base 8 (He.ma K (He.ga K "PaceObserver") "_held_from") (spHeld K)) : Fx P w K mg base 9 (He.ma K (He.ga K "PaceObserver") "_first_pace") (spFirst K) := by
  obtain ⟨fd, F⟩ := T.F_PaceObserverufirst_pace
  have nd := sc_PaceObserverufirst_pace.nd
  refine fx_of F sc_PaceObserverufirst_pace (fun vs H Q E h => ?_) (fun _ _ _ _ _ _ us hl => match us, hl with | [_, _, _, _], _ => rfl) fun cdv A outer s H vs Q E hr h => ?_
  · obtain ⟨n, o, dx0, ln, sl, fs, z, lo, hi, N, dx, tp, tn, td, rs, ps, hI, b, i, tick, y, rfl, _⟩ := h
    rfl
  obtain ⟨n, o, dx0, ln, sl, fs, z, lo, hi, N, dx, tp, tn, td, rs, ps, hI, b, i, tick, y, rfl, O, hlh, hb, hy, h⟩ := h
  refine ⟨_, (pss_cons (ps_par (i := 4) (j := 5) rfl nd rfl rfl (by decide) rfl rfl (pa_cons (pe_fld (pv 0) rfl) (pa_cons (pe_op op_add (pe_fld (pv 0) rfl) pe_int) pa_nil)) rfl) (pss_cons (ps_while PassesOwn.never (pt_cmpR op_lt (pv 4) (pv 5) (nomark _)) (pss_cons (ps_set (i := 6) nd rfl (Or.inl rfl) (pe_op op_fdivW (pe_op op_add (pv 4) (pv 5)) pe_int)) (pss_one (ps_if (pt_cmpR op_lt (pe_methR (pv 0) T.cl_PaceObserver T.me_PaceObserveruheld_from D_PaceObserveruheld_from (hr.mono (by decide)) passL (pa_cons (pv 6) (pa_cons (pv 1) (pa_cons (pv 2) pa_nil)))) (pv 3) (nomark _)) (pss_one (ps_set (i := 4) nd rfl (Or.inl rfl) (pe_op op_add (pv 6) pe_int))) (pss_one (ps_set (i := 5) nd rfl (Or.inl rfl) (pv 6))))))) (pss_one (ps_ret (pv 4))))), ?_⟩
  have lo1 := O.lo1
  have hi1 := O.hi1
  walk_at "go"
  refine go_fld O.ob T.cl_PaceObserver T.no_PaceObserver_least O.f.lo ?_
  walk_at "go"
  refine go_fld O.ob T.cl_PaceObserver T.no_PaceObserver_greatest O.f.gr ?_
  walk_at "go"
  refine ⟨fun m σ H' => ∃ (a c : Int) (u : Option V), m = (c - a).toNat ∧ Same H H' ∧ lo ≤ a ∧ a ≤ c ∧ c ≤ hi + 1 ∧ (∀ x, lo ≤ x → x < a → fP ps hI b i x < tick) ∧ (∀ x, c ≤ x → x ≤ hi → tick ≤ fP ps hI b i x) ∧ σ = [some (.ref o), some (.int b), some (.str y), some (.int tick), some (.int a), some (.int c), u], ⟨_, lo, hi + 1, _, rfl, Same.refl _, by omega, by omega, by omega, fun x _ _ => by omega, fun x _ _ => by omega, rfl⟩, ?_⟩
  rintro m σ H1 ⟨a, c, u, rfl, s1, ha, hac, hc, hA, hC, rfl⟩
  walk_at "go"
  refine iteD (fun hlt => ?_) fun hlt => ?_
  · refine ⟨fun σ H' => ∃ (a' c' : Int) (u : Option V), (c' - a').toNat < (c - a).toNat ∧ Same H H' ∧ lo ≤ a' ∧ a' ≤ c' ∧ c' ≤ hi + 1 ∧ (∀ x, lo ≤ x → x < a' → fP ps hI b i x < tick) ∧ (∀ x, c' ≤ x → x ≤ hi → tick ≤ fP ps hI b i x) ∧ σ = [some (.ref o), some (.int b), some (.str y), some (.int tick), some (.int a'), some (.int c'), u], fun σ' H' ⟨a', c', u', q1, q2, q3, q4, q5, q6, q7, q8⟩ => ⟨_, q1, a', c', u', rfl, q2, q3, q4, q5, q6, q7, q8⟩, ?_⟩
    walk_at "go"
    refine go_rI (wide_div (b := 10) (by omega) (by omega) (by decide) (by decide)) ?_
    walk_at "go"
    have O1 := O.keep s1
    refine go_methR ?_
    walk_at "go"
    refine ⟨o, dx0, _, rfl, O1.ob, O1.f.m3, ?_⟩
    walk_at "go"
    refine ⟨n, o, dx0, ln, sl, fs, z, lo, hi, N, dx, tp, tn, td, rs, ps, hI, b, i, (a + c) / 2, y, rfl, O1, by omega, by omega, hb, hy, fun H2 s2 => ?_⟩
    walk_at "go"
    refine iteD (fun hf => ?_) fun hf => ?_
    · walk_at "go"
      refine ⟨(a + c) / 2 + 1, c, _, by omega, s1.trans s2, by omega, by omega, hc, fun x h1 h2 => ?_, hC, rfl⟩
      exact Int.lt_of_le_of_lt (Cm_mono (show x ≤ (a + c) / 2 by omega) b i) hf
    · walk_at "go"
      refine ⟨a, (a + c) / 2, _, by omega, s1.trans s2, ha, by omega, by omega, hA, fun x h1 h2 => ?_, rfl⟩
      exact Int.le_trans (Int.not_lt.mp hf) (Cm_mono (show (a + c) / 2 ≤ x by omega) b i)
  · walk_at "go"
    have e : a = c := by omega
    subst e
    exact h a H1 s1 ha hc hA hC

end
end K
namespace K
open PySem PySem.Spec PyProof.Rows L2 Bk
local macro_rules | `(tactic| walk_at "go1") => `(tactic| (first
  | ((with_reducible show tVar _ _ _ _); refine go_var rfl ?_)
  | (with_reducible first | refine go_c ?_ | refine go_op ?_ | refine go_cons ?_ | refine go_nil ?_ | refine go_cb ?_ | refine go_cl ?_ | refine go_seq ?_ | refine go_asg ?_ | refine go_name ?_ | refine go_ifS ?_ | refine go_test ?_ | refine go_bl ?_)
  | (with_reducible first | refine go_rI0 ?_ | refine go_rU ?_ | refine go_ret ?_ | refine go_next ?_ | refine go_B ?_ | refine go_and ?_ | refine go_or ?_ | refine go_not ?_ | refine go_if ?_ | refine go_andV ?_ | refine go_orV ?_ | refine go_notV ?_)
  | ((with_reducible show rEq _ _ _ _); refine go_rEq rfl ?_)
  | ((with_reducible show rNe _ _ _ _); refine go_rNe rfl ?_)
  | (with_reducible first | refine go_un ?_ | refine go_chain ?_ | refine go_drop ?_ | refine go_retN ?_ | refine go_isN ?_ | refine go_notN ?_ | refine go_cont ?_ | refine go_break ?_ | refine go_par ?_ | refine go_two ?_ | refine go_part ?_ | refine go_noPart ?_ | refine go_int ?_ | refine go_sl ?_ | refine go_yes ?_ | refine go_tup ?_ | refine go_lst ?_)
  | (with_reducible first | refine go_gCons ?_ | refine go_gNil ?_ | refine go_for ?_ | refine go_iEnT ?_ | refine go_iEnum ?_ | refine go_iList ?_ | refine go_iTup ?_ | refine go_iStr ?_ | refine go_iRng1 ?_ | refine go_iRng2 ?_ | refine go_iZip ?_ | refine go_lc ?_ | refine go_mkR ?_ | refine go_mkS ?_ | refine go_clO ?_ | refine go_pr ?_ | refine go_sfld ?_ | refine go_bm ?_ | refine go_ref ?_)))
local macro_rules | `(tactic| walk_at "go") => `(tactic| ((repeat (walk_at "go1")); try dsimp only))
local macro_rules | `(tactic| walk_at "so") => `(tactic| first | omega | (simp; done) | (simp; omega) | (simp at *; omega))
section
variable {P : Program} {w : World} {K : PySem.W.Frag} {mg : Str → Option Value} {base : Heap}
/-! people of a line; the line turned round; the good order -/
def enc_is (p : Int × Str) : PyData := .tuple [.int p.1, .str p.2]
def enc_si (p : Str × Int) : PyData := .tuple [.str p.1, .int p.2]
theorem al_is (b b' : Int × Str) : PySem.W.alike (enc_is b) (enc_is b') = true := by simp [enc_is, PySem.W.alike, PySem.W.alikeAll]
theorem al_si (b b' : Str × Int) : PySem.W.alike (enc_si b) (enc_si b') = true := by simp [enc_si, PySem.W.alike, PySem.W.alikeAll]
theorem tu_is (b : Int × Str) : ∃ x r, enc_is b = .tuple (x :: r) := ⟨_, _, rfl⟩
theorem tu_si (b : Str × Int) : ∃ x r, enc_si b = .tuple (x :: r) := ⟨_, _, rfl⟩
theorem dp_is (b : Int × Str) : (enc_is b).depth ≤ 5 := by simp [enc_is, PyData.depth, PyData.depthAll]
theorem dp_si (b : Str × Int) : (enc_si b).depth ≤ 5 := by simp [enc_si, PyData.depth, PyData.depthAll]
/-- people, by pace and name -/
def srt (ps : List Pr) : List Pr := ((ps.map fun p => (p.2, p.1)).mergeSort (PySem.W.dataLe false enc_is)).map fun q => (q.2, q.1)
def goodL {α : Type} (q : List α) : List α := (q.drop (q.length - 1)) ++ ((q.take (q.length - 2)).take 2 ++ ((q.take (q.length - 2)).drop 4 ++ (((q.take (q.length - 2)).take 4).drop 2 ++ (q.drop (q.length - 2)).take 1)))
theorem srt_perm (ps : List Pr) : (srt ps).Perm ps := by
  have h := (List.mergeSort_perm (ps.map fun p => (p.2, p.1)) (PySem.W.dataLe false enc_is)).map fun q => (q.2, q.1)
  unfold srt
  refine h.trans ?_
  rw [List.map_map]
  show (ps.map id).Perm ps
  rw [List.map_id]
theorem goodL_perm {α : Type} {q : List α} (h : 2 ≤ q.length) : (goodL q).Perm q := by
  generalize hb : q.take (q.length - 2) = b
  have e1 : q.drop (q.length - 2) = (q.drop (q.length - 2)).take 1 ++ q.drop (q.length - 1) := by
    have := List.take_append_drop 1 (q.drop (q.length - 2))
    rw [List.drop_drop, show q.length - 2 + 1 = q.length - 1 by omega] at this
    exact this.symm
  have e2 : b = b.take 2 ++ ((b.take 4).drop 2 ++ b.drop 4) := by
    have h1 := List.take_append_drop 2 b
    have h2 := List.take_append_drop 2 (b.drop 2)
    rw [List.drop_drop, List.take_drop] at h2
    rw [h2, h1]
  unfold goodL
  rw [hb]
  have e3 : q = b ++ ((q.drop (q.length - 2)).take 1 ++ q.drop (q.length - 1)) := by
    rw [← e1, ← hb, List.take_append_drop]
  generalize (q.drop (q.length - 2)).take 1 = y at *
  generalize q.drop (q.length - 1) = x at *
  rw [e3]
  refine List.perm_append_comm.trans ?_
  rw [List.append_assoc, List.append_assoc, List.append_assoc]
  conv => rhs; rw [e2]
  rw [List.append_assoc, List.append_assoc]
  refine List.Perm.append_left _ ?_
  have : (b.drop 4 ++ (b.take 4).drop 2 ++ (y ++ x)).Perm ((b.take 4).drop 2 ++ b.drop 4 ++ (y ++ x)) := List.Perm.append_right _ List.perm_append_comm
  rw [List.append_assoc, List.append_assoc] at this
  exact this
theorem Good.perm {ps qs : List Pr} (h : Good ps) (e : qs.Perm ps) : Good qs := ⟨by rw [e.length_eq]; exact h.two, by rw [e.length_eq]; exact h.most, fun p hp => h.nm p (e.mem_iff.mp hp), fun p hp => h.pc p (e.mem_iff.mp hp), (e.map _).nodup_iff.mpr h.nd⟩
theorem cut_takeN (xs : List V) (k : Nat) (h0 : 0 < k) (h : k ≤ xs.length) : cutV xs none (some (-(k : Int))) = xs.take (xs.length - k) := by
  have e : HT.sIx xs.length xs.length (some (-(k : Int))) = xs.length - k := by
    show (if (-(k : Int)) < 0 then (-(k : Int) + (xs.length : Int)).toNat else _) = _
    rw [if_pos (by omega)]
    omega
  unfold cutV
  rw [HT.sIx_none, e]
  simp
theorem cut_dropN (xs : List V) (k : Nat) (h0 : 0 < k) : cutV xs (some (-(k : Int))) none = xs.drop (xs.length - k) := by
  have e : HT.sIx xs.length 0 (some (-(k : Int))) = xs.length - k := by
    show (if (-(k : Int)) < 0 then (-(k : Int) + (xs.length : Int)).toNat else _) = _
    rw [if_pos (by omega)]
    omega
  unfold cutV
  rw [HT.sIx_none, e]
  exact List.take_of_length_le (by simp)
theorem at_neg {α : Type} {xs : List α} {k : Nat} {x : α} (h0 : 0 < k) (hk : k ≤ xs.length) (h : xs[xs.length - k]? = some x) : atI xs (-(k : Int)) = some x := by
  unfold atI ixN
  rw [if_neg (by omega), if_pos (by omega)]
  rw [show (-(k : Int) + (xs.length : Int)).toNat = xs.length - k by omega]
  exact h
theorem srt_len (ps : List Pr) : (srt ps).length = ps.length := (srt_perm ps).length_eq
theorem last1 {α : Type} {l : List α} {x : α} (h : l[l.length - 1]? = some x) : l.drop (l.length - 1) = [x] := by
  obtain ⟨k, e⟩ := List.getElem?_eq_some_iff.mp h
  rw [List.drop_eq_getElem_cons k, e, List.drop_of_length_le (by omega)]
theorem last2 {α : Type} {l : List α} {x : α} (h : l[l.length - 2]? = some x) : (l.drop (l.length - 2)).take 1 = [x] := by
  obtain ⟨k, e⟩ := List.getElem?_eq_some_iff.mp h
  rw [List.drop_eq_getElem_cons k, e]
  rfl
theorem Rows.good {N : Addr → Prop} {H : Hp} {r : List Addr} {p : List Pr} (h : Rows N H r p) : Rows N H (goodL r) (goodL p) := by
  unfold goodL
  rw [h.1]
  exact (h.drop _).app (((h.take _).take 2).app (((h.take _).drop 4).app ((((h.take _).take 4).drop 2).app ((h.drop _).take 1))))
def spPeopleOf (K : PySem.W.Frag) : Sp := fun vs H Q _ => ∃ (N : Addr → Prop) (o dx tp tn td : Addr) (rs : List Addr) (ps : List Pr), vs = [.ref o] ∧ LineF K N H o dx tp tn td rs ps ∧ Q (.ref tp) H
def spNeg (K : PySem.W.Frag) : Sp := fun vs H Q _ => ∃ (N N1 : Addr → Prop) (o dx tp tn td : Addr) (rs : List Addr) (ps : List Pr), vs = [.ref o] ∧ LineF K N1 H o dx tp tn td rs ps ∧ Good ps ∧ (∀ p, H p = Option.none → N p) ∧ ∀ x H', Same H H' → H x = Option.none → LineAt K N H' x ps.reverse → Q (.ref x) H'
def spGood (K : PySem.W.Frag) : Sp := fun vs H Q _ => ∃ (N N1 : Addr → Prop) (o dx tp tn td : Addr) (rs : List Addr) (ps : List Pr), vs = [.ref o] ∧ LineF K N1 H o dx tp tn td rs ps ∧ Good ps ∧ (∀ p, H p = Option.none → N p) ∧ ∀ x H', Same H H' → H x = Option.none → LineAt K N H' x (goodL (srt ps)) → Q (.ref x) H'
theorem Rows.rev {N : Addr → Prop} {H : Hp} {r : List Addr} {p : List Pr} (h : Rows N H r p) : Rows N H r.reverse p.reverse := by
  refine ⟨by simp [h.1], fun i q hq => ?_⟩
  have hi : i < p.length := by
    have := (List.getElem?_eq_some_iff.mp hq).1
    simpa using this
  rw [List.getElem?_reverse hi] at hq
  obtain ⟨t, a, b, c⟩ := h.2 _ q hq
  refine ⟨t, ?_, b, c⟩
  rw [List.getElem?_reverse (by rw [h.1]; exact hi), h.1]
  exact a

/-! the first order -/
def paceOf (ps : List Pr) : Int := Mt.Lm (dd (dsOf ps)) (tN (ps.length - 1))
def okStep (l : List Pr) (v : Int) : Prop := (dsOf (l.drop (l.length - 3))).sum ≤ v
def compl (order rest : List Pr) (v : Int) : Prop := ∀ k, order.length < k → k ≤ (order ++ rest).length → okStep ((order ++ rest).take k) v
theorem compl_nil (order : List Pr) (v : Int) : compl order [] v := fun k h1 h2 => by simp at h2; omega
theorem compl_cons (order : List Pr) (x : Pr) (rest : List Pr) (v : Int) : compl order (x :: rest) v ↔ okStep (order ++ [x]) v ∧ compl (order ++ [x]) rest v := by
  have e : order ++ x :: rest = (order ++ [x]) ++ rest := by simp
  unfold compl
  rw [e]
  constructor
  · intro h
    refine ⟨?_, fun k h1 h2 => h k (by simp at h1; omega) h2⟩
    have := h (order.length + 1) (by omega) (by simp)
    rw [List.take_append_of_le_length (by simp), List.take_of_length_le (by simp)] at this
    exact this
  · rintro ⟨h1, h2⟩ k k1 k2
    by_cases c : k = order.length + 1
    · subst c
      rw [List.take_append_of_le_length (by simp), List.take_of_length_le (by simp)]
      exact h1
    · exact h2 k (by simp; omega) k2
theorem tk_perm {α : Type} {l : List α} {k : Nat} {x : α} (h : l[k]? = some x) : (x :: (l.take k ++ l.drop (k + 1))).Perm l := by
  have := erase_perm h
  rw [List.eraseIdx_eq_take_drop_succ] at this
  exact this
def NoWay (p1 p2 : List Pr) (v : Int) (j : Nat) : Prop := ∀ x, p2[j]? = some x → ∀ p : List Pr, p.Perm (p2.take j ++ p2.drop (j + 1)) → ¬ compl p1 (x :: p) v
def FO : List Pr → List Pr → Int → List Pr → Prop
  | _, _, _, [] => True
  | p1, p2, v, x :: p => ∃ j, p2[j]? = some x ∧ (∀ i, i < j → NoWay p1 p2 v i) ∧ FO (p1 ++ [x]) (p2.take j ++ p2.drop (j + 1)) v p
theorem no_all {p1 p2 : List Pr} {v : Int} (hne : p2 ≠ []) (h : ∀ j, j < p2.length → NoWay p1 p2 v j) (p : List Pr) (hp : p.Perm p2) : ¬ compl p1 p v := by
  match p, hp with
  | [], hp => exact absurd hp.symm.eq_nil hne
  | x :: p, hp =>
    intro hc
    have hx : x ∈ p2 := hp.mem_iff.mp (by simp)
    obtain ⟨j, hj, e⟩ := List.mem_iff_getElem.mp hx
    have ex : p2[j]? = some x := by rw [← e]; simp [hj]
    exact h j hj x ex p (List.Perm.cons_inv (hp.trans (tk_perm ex).symm)) hc
def spDurationsOfL (K : PySem.W.Frag) : Sp := fun vs H Q _ => ∃ (N : Addr → Prop) (a : Addr) (rs : List Addr) (ps : List Pr), vs = [.ref a] ∧ SqL K H a (rs.map V.ref) ∧ Rows N H rs ps ∧ ps.length ≤ 1000 ∧ ∀ p H', Same H H' → H p = Option.none → H' p = some (.tup ((dsOf ps).map V.int)) → Q (.ref p) H'
def spLeast (K : PySem.W.Frag) : Sp := fun vs H Q _ => ∃ (N1 : Addr → Prop) (o dx tp tn td : Addr) (rs : List Addr) (ps : List Pr), vs = [.ref o] ∧ LineF K N1 H o dx tp tn td rs ps ∧ Good ps ∧ ∀ H', Same H H' → Q (.int (paceOf (goodL (srt ps)))) H'
def spFirstO (K : PySem.W.Frag) (n : Nat) : Sp := fun vs H Q _ => ∃ (D1 D2 : Addr) (r1 r2 : List Addr) (p1 p2 : List Pr) (v : Int), vs = [.ref D1, .ref D2, .int v] ∧ p2.length < n ∧ H D1 = some (.lst (r1.map V.ref)) ∧ H D2 = some (.lst (r2.map V.ref)) ∧ Rows (fun _ => True) H r1 p1 ∧ Rows (fun _ => True) H r2 p2 ∧ p1.length + p2.length ≤ 100 ∧
  (∀ H', Same H H' → (∀ p : List Pr, p.Perm p2 → ¬ compl p1 p v) → Q .non H') ∧
  ∀ (x : Addr) (rx : List Addr) (p : List Pr) H', Same H H' → H' x = some (.lst (rx.map V.ref)) → Rows (fun _ => True) H' rx (p1 ++ p) → p.Perm p2 → compl p1 p v → FO p1 p2 v p → Q (.ref x) H'
theorem ok_durations_ofL (T : Tx K mg) : Fx P w K mg base 1 (He.ga K "durations_of") (spDurationsOfL K) := by
  obtain ⟨fd, F⟩ := T.F_durations_of
  have nd := sc_durations_of.nd
  refine fx_of F sc_durations_of (fun vs H Q E h => ?_) (fun _ _ _ _ _ _ us hl => match us, hl with | [_], _ => rfl) fun cdv A outer s H vs Q E hr h => ?_
  · obtain ⟨N, a, rs, ps, rfl, _⟩ := h
    rfl
  obtain ⟨N, a, rs, ps, rfl, hS, hR, hG, h⟩ := h
  refine ⟨_, (pss_cons (ps_setLc (i := 1) (own := [("_", 2), ("pace", 3)]) (g := (gTup K 2 (gCons (gName 2) (gCons (gName 3) gNil)))) rfl nd rfl rfl (sw_true rfl rfl rfl (by decide +kernel)) (pi_list (pv 0)) (blkOk_by (N := ["people", "paces", "_", "pace", "ahead", "behind"]) (sc := defScope s_durations_of) (own := [("_", 2), ("pace", 3)]) (by decide +kernel)) (fun _ _ _ _ _ => (pg_tup (by rfl) (pgs_cons (pg_name (i := 2) nd rfl (Or.inl rfl)) (pgs_cons (pg_name (i := 3) nd rfl (Or.inl rfl)) pgs_nil)))) (fun _ _ _ _ _ => pts_nil) (fun _ _ _ _ _ => (pv 3))) (pss_one (ps_ret (cT call_tuple_of T.m_tuple (pa_cons (pe_lc (own := [("ahead", 4), ("behind", 5)]) (g := (gTup K 2 (gCons (gName 4) (gCons (gName 5) gNil)))) rfl nd (RZ.pi_zipA rfl T.m_zip (pa_cons (pv 1) (pa_cons (pe_slice sl_list (pv 1) (po_some pe_int) po_none) pa_nil))) (blkOk_by (N := ["people", "paces", "_", "pace", "ahead", "behind"]) (sc := defScope s_durations_of) (own := [("ahead", 4), ("behind", 5)]) (by decide +kernel)) (fun _ _ _ _ _ => (pg_tup (by rfl) (pgs_cons (pg_name (i := 4) nd rfl (Or.inl rfl)) (pgs_cons (pg_name (i := 5) nd rfl (Or.inl rfl)) pgs_nil)))) (fun _ _ _ _ _ => pts_nil) (fun _ _ _ _ _ => (cB (call_max2 rfl) T.m_max (pa_cons (pv 4) (pa_cons (pv 5) pa_nil))))) pa_nil))))), ?_⟩
  have hlen := hR.1
  walk_at "go"
  refine ⟨⟨_, hS⟩, ?_⟩
  refine lc_fun (walk_list (xs := rs.map V.ref)) (fun H2 s2 => same_l s2 hS) (fun i => .int ((ps.map (·.2)).getD i 0)) (by simp; omega) ?_ ?_
  · rintro i x H2 H3 k hi s2 ⟨rfl, hx⟩ hk
    obtain ⟨p, t, hp, rfl, _, ht⟩ := (hR.mono (frn_same s2)).at hx
    refine go_gTup (.inl (.inl ht)) rfl ?_
    walk_at "go"
    refine ⟨rfl, ?_⟩
    walk_at "go"
    have q := hk _ (Same.refl _)
    have e1 : (ps.map (·.2)).getD i 0 = p.2 := by simp [List.getD, hp]
    rw [e1] at q
    exact q
  · intro D H2 hD s2 e2
    have e3 : H2 D = some (.lst ((ps.map (·.2)).map V.int)) := by
      rw [e2]
      congr 2
      exact range_map (n := (rs.map V.ref).length) (ps.map (·.2)) V.int 0 (by simp; exact hlen)
    walk_at "go"
    refine go_slL (.inl (.inl e3)) fun q H3 s3 hq e4 => ?_
    walk_at "go"
    rw [show (1 : Int) = ((1 : Nat) : Int) from rfl, cut_drop, ← List.map_drop] at e4
    refine ⟨D, q, _, _, rfl, .inl ⟨.inl (.inl (s3 _ _ e3)), .inl (.inl e4), ?_⟩⟩
    refine lc_fun (walk_zip (n := ps.length - 1) (xs := (ps.map (·.2)).map V.int) (ys := ((ps.map (·.2)).drop 1).map V.int) (by walk_at "so")) (fun H4 s4 => ⟨.inl (.inl (s4 _ _ (s3 _ _ e3))), .inl (.inl (s4 _ _ e4))⟩) (fun i => .int (max ((ps.map (·.2)).getD i 0) ((ps.map (·.2)).getD (i + 1) 0))) (by omega) ?_ ?_
    · rintro i x H4 H5 k hi s4 ⟨T', y1, y2, rfl, hT, rfl, f1, f2⟩ hk
      obtain ⟨z1, g1, rfl⟩ := map_at f1
      obtain ⟨z2, g2, rfl⟩ := map_at f2
      refine go_gTup (.inl (.inl upd_same)) rfl ?_
      walk_at "go"
      refine ⟨rfl, ?_⟩
      walk_at "go"
      refine ⟨z1, z2, rfl, ?_⟩
      have q := hk _ (same_upd (o := .tup [V.int z1, V.int z2]) hT)
      have g3 : (ps.map (·.2)).getD i 0 = z1 := by rw [List.getD, g1]; rfl
      have g4 : (ps.map (·.2)).getD (i + 1) 0 = z2 := by
        rw [List.getElem?_drop, Nat.add_comm] at g2
        rw [List.getD, g2]
        rfl
      rw [g3, g4] at q
      have e5 : (if z2 > z1 then z2 else z1) = max z1 z2 := by omega
      rw [e5]
      exact q
    · intro D2 H4 hD2 s4 e5
      walk_at "go"
      refine ⟨D2, _, rfl, .inl ⟨.inl (.inl e5), fun l hl => ?_⟩⟩
      refine h l _ (s2.trans (s3.trans (s4.trans (same_upd hl)))) ((s2.trans (s3.trans s4)).free hl) ?_
      rw [upd_same, dsOf_eq, List.map_map]
      rfl

end
end K
namespace K
open PySem PySem.Spec PyProof.Rows L2 Bk
local macro_rules | `(tactic| walk_at "go1") => `(tactic| (first
  | ((with_reducible show tVar _ _ _ _); refine go_var rfl ?_)
  | (with_reducible first | refine go_c ?_ | refine go_op ?_ | refine go_cons ?_ | refine go_nil ?_ | refine go_cb ?_ | refine go_cl ?_ | refine go_seq ?_ | refine go_asg ?_ | refine go_name ?_ | refine go_ifS ?_ | refine go_test ?_ | refine go_bl ?_)
  | (with_reducible first | refine go_rI0 ?_ | refine go_rU ?_ | refine go_ret ?_ | refine go_next ?_ | refine go_B ?_ | refine go_and ?_ | refine go_or ?_ | refine go_not ?_ | refine go_if ?_ | refine go_andV ?_ | refine go_orV ?_ | refine go_notV ?_)
  | ((with_reducible show rEq _ _ _ _); refine go_rEq rfl ?_)
  | ((with_reducible show rNe _ _ _ _); refine go_rNe rfl ?_)
  | (with_reducible first | refine go_un ?_ | refine go_chain ?_ | refine go_drop ?_ | refine go_retN ?_ | refine go_isN ?_ | refine go_notN ?_ | refine go_cont ?_ | refine go_break ?_ | refine go_par ?_ | refine go_two ?_ | refine go_part ?_ | refine go_noPart ?_ | refine go_int ?_ | refine go_sl ?_ | refine go_yes ?_ | refine go_tup ?_ | refine go_lst ?_)
  | (with_reducible first | refine go_gCons ?_ | refine go_gNil ?_ | refine go_for ?_ | refine go_iEnT ?_ | refine go_iEnum ?_ | refine go_iList ?_ | refine go_iTup ?_ | refine go_iStr ?_ | refine go_iRng1 ?_ | refine go_iRng2 ?_ | refine go_iZip ?_ | refine go_lc ?_ | refine go_mkR ?_ | refine go_mkS ?_ | refine go_clO ?_ | refine go_pr ?_ | refine go_sfld ?_ | refine go_bm ?_ | refine go_ref ?_)))
local macro_rules | `(tactic| walk_at "go") => `(tactic| ((repeat (walk_at "go1")); try dsimp only))
local macro_rules | `(tactic| walk_at "so") => `(tactic| first | omega | (simp; done) | (simp; omega) | (simp at *; omega))
section
variable {P : Program} {w : World} {K : PySem.W.Frag} {mg : Str → Option Value} {base : Heap}
/-! the mathematics of the good order, over people -/
theorem ord_trans (a b c : PyData) (h1 : PySem.W.dataLt b a = false) (h2 : PySem.W.dataLt c b = false) : PySem.W.dataLt c a = false := by
  cases e : PySem.W.dataLt c a with
  | false => rfl
  | true =>
    rcases PyProof.Rows.lex_negTrans (O := PyProof.Rows.itemOrd) _ (PySem.W.keyToks b) _ e with q | q
    · exact absurd (q.symm.trans h2) (by decide)
    · exact absurd (q.symm.trans h1) (by decide)
theorem ord_total (a b : PyData) : (!PySem.W.dataLt b a || !PySem.W.dataLt a b) = true := by
  cases e : PySem.W.dataLt b a with
  | false => rfl
  | true =>
    cases e2 : PySem.W.dataLt a b with
    | false => rfl
    | true =>
      have := PyProof.Rows.lex_trans (O := PyProof.Rows.itemOrd) _ _ _ e e2
      rw [PyProof.Rows.lex_irrefl] at this
      cases this
theorem sort_pw {β : Type} (enc : β → PyData) (l : List β) : (l.mergeSort (PySem.W.dataLe false enc)).Pairwise fun a b => PySem.W.dataLt (enc b) (enc a) = false := by
  have h := List.pairwise_mergeSort (le := PySem.W.dataLe false enc) (fun a b c h1 h2 => ?_) (fun a b => ?_) l
  · refine h.imp fun {a b} q => ?_
    rw [PySem.W.dataLe_eq] at q
    simpa using q
  · rw [PySem.W.dataLe_eq] at h1 h2 ⊢
    simp at h1 h2 ⊢
    exact ord_trans _ _ _ h1 h2
  · rw [PySem.W.dataLe_eq]
    exact ord_total (enc a) (enc b)
theorem is_le {p q : Int × Str} (h : PySem.W.dataLt (enc_is q) (enc_is p) = false) : p.1 ≤ q.1 := by
  unfold enc_is at h
  rw [PySem.W.dataLt_pair (by simp [PySem.W.alike]) (by simp [PySem.W.alike])] at h
  by_cases e : q.1 = p.1
  · omega
  · have : PyData.eqv (.int q.1) (.int p.1) = false := by
      show (q.1 == p.1) = false
      simpa using e
    rw [this, PySem.W.dataLt_int] at h
    simp at h
    exact h
theorem srt_up (ps : List Pr) : ∀ (i j : Nat) (a b : Pr), i ≤ j → (srt ps)[i]? = some a → (srt ps)[j]? = some b → a.2 ≤ b.2 := by
  intro i j a b hij ha hb
  unfold srt at ha hb
  obtain ⟨x, hx, rfl⟩ := map_at ha
  obtain ⟨y, hy, rfl⟩ := map_at hb
  by_cases e : i = j
  · subst e
    rw [hx] at hy
    cases hy
    exact Int.le_refl _
  · have pw := sort_pw enc_is (ps.map fun p => (p.2, p.1))
    obtain ⟨h1, e1⟩ := List.getElem?_eq_some_iff.mp hx
    obtain ⟨h2, e2⟩ := List.getElem?_eq_some_iff.mp hy
    have := List.pairwise_iff_getElem.mp pw i j h1 h2 (by omega)
    rw [e1, e2] at this
    exact is_le this
def pc (ps : List Pr) (i : Nat) : Int := (ps.map (·.2)).getD i 0
theorem pc_at {ps : List Pr} {i : Nat} {p : Pr} (h : ps[i]? = some p) : pc ps i = p.2 := by simp [pc, List.getD, h]
theorem dd_pc (ps : List Pr) {i : Nat} (h : i + 1 < ps.length) : dd (dsOf ps) i = max (pc ps i) (pc ps (i + 1)) := by
  have a1 : ps[i]? = some ps[i] := by simp [show i < ps.length by omega]
  have a2 : ps[i + 1]? = some ps[i + 1] := by simp [h]
  unfold dd
  rw [List.getD, dsOf_at ps i _ _ a1 a2, pc_at a1, pc_at a2]
  rfl
theorem tn_vl (ps : List Pr) {i : Nat} (h : i + 2 < ps.length) : Mt.tn (dd (dsOf ps)) i = Od.vl (pc ps) i := by
  unfold Mt.tn Od.vl
  rw [dd_pc ps (by omega), dd_pc ps (by omega)]
theorem pm_of {ps qs : List Pr} (h : ps.Perm qs) (up : ∀ (i j : Nat) (a b : Pr), i ≤ j → qs[i]? = some a → qs[j]? = some b → a.2 ≤ b.2) : ∃ f g, Od.Pm ps.length (pc ps) (pc qs) f g := by
  obtain ⟨f, g, h1, h2⟩ := Od.perm_ix h
  have hl := h.length_eq
  refine ⟨f, g, ⟨fun i hi => ?_, h2, fun i j hij hj => ?_⟩⟩
  · obtain ⟨a, b, c⟩ := h1 i hi
    refine ⟨a, b, ?_⟩
    unfold pc
    simp only [List.getD, List.getElem?_map, c]
  · have e1 : qs[i]? = some (qs[i]'(by omega)) := by simp [show i < qs.length by omega]
    have e2 : qs[j]? = some (qs[j]'(by omega)) := by simp [show j < qs.length by omega]
    rw [pc_at e1, pc_at e2]
    exact up i j _ _ hij e1 e2
theorem pc_eq {p q : List Pr} {i j : Nat} (h : p[i]? = q[j]?) : pc p i = pc q j := by
  unfold pc
  simp only [List.getD, List.getElem?_map, h]
theorem gd_of {q : List Pr} (h : 3 ≤ q.length) : Od.Gd q.length (pc q) (pc (goodL q)) where
  b0 := pc_eq (by
    unfold goodL
    simp only [List.getElem?_append, List.getElem?_drop, List.getElem?_take, List.length_drop, List.length_take]
    repeat (first | rw [if_pos (by omega)] | rw [if_neg (by omega)])
    congr 1 <;> omega)
  few h5 i hi := pc_eq (by
    rcases (show i = 0 ∨ i = 1 ∨ i = 2 ∨ i = 3 by omega) with rfl | rfl | rfl | rfl
    all_goals
      unfold goodL
      simp only [List.getElem?_append, List.getElem?_drop, List.getElem?_take, List.length_drop, List.length_take]
      rcases (show q.length = 3 ∨ q.length = 4 ∨ q.length = 5 by omega) with e | e | e
      all_goals
        simp only [e] at hi ⊢
        first
          | omega
          | rfl
          | simp)
  b1 h6 := pc_eq (by
    unfold goodL
    simp only [List.getElem?_append, List.getElem?_drop, List.getElem?_take, List.length_drop, List.length_take]
    repeat (first | rw [if_pos (by omega)] | rw [if_neg (by omega)])
    congr 1 <;> omega)
  b2 h6 := pc_eq (by
    unfold goodL
    simp only [List.getElem?_append, List.getElem?_drop, List.getElem?_take, List.length_drop, List.length_take]
    repeat (first | rw [if_pos (by omega)] | rw [if_neg (by omega)])
    congr 1 <;> omega)
  bm h6 i h3 hi := pc_eq (by
    unfold goodL
    simp only [List.getElem?_append, List.getElem?_drop, List.getElem?_take, List.length_drop, List.length_take]
    repeat (first | rw [if_pos (by omega)] | rw [if_neg (by omega)])
    congr 1 <;> omega)
  b3 h6 := pc_eq (by
    unfold goodL
    simp only [List.getElem?_append, List.getElem?_drop, List.getElem?_take, List.length_drop, List.length_take]
    repeat (first | rw [if_pos (by omega)] | rw [if_neg (by omega)])
    congr 1 <;> omega)
  b4 h6 := pc_eq (by
    unfold goodL
    simp only [List.getElem?_append, List.getElem?_drop, List.getElem?_take, List.length_drop, List.length_take]
    repeat (first | rw [if_pos (by omega)] | rw [if_neg (by omega)])
    congr 1 <;> omega)
  b5 h6 := pc_eq (by
    unfold goodL
    simp only [List.getElem?_append, List.getElem?_drop, List.getElem?_take, List.length_drop, List.length_take]
    repeat (first | rw [if_pos (by omega)] | rw [if_neg (by omega)])
    congr 1 <;> omega)
theorem len_pos {ps : List Pr} {i : Nat} (h : i < ps.length) : ps[i]? = some ps[i] := by simp [h]
theorem pc_bd {ps : List Pr} (hG : Good ps) (i : Nat) : 0 ≤ pc ps i := by
  by_cases h : i < ps.length
  · rw [pc_at (len_pos h)]
    have := hG.pc ps[i] (List.getElem_mem _)
    omega
  · simp [pc, List.getD, h]
/-- the greatest turn is at no smaller place than any -/
theorem pace_ge {ps : List Pr} {i : Nat} (h : i + 2 < ps.length) : Od.vl (pc ps) i ≤ paceOf ps := by
  rw [← tn_vl ps h]
  exact Mt.Lm_le _ (by unfold tN; omega)
theorem pace_at {ps : List Pr} (h : 3 ≤ ps.length) : ∃ i, i + 2 < ps.length ∧ paceOf ps = Od.vl (pc ps) i := by
  obtain ⟨i, hi, e⟩ := Lm_mem (dd (dsOf ps)) (tN (ps.length - 1)) (by unfold tN; omega)
  have hi2 : i + 2 < ps.length := by unfold tN at hi; omega
  exact ⟨i, hi2, by rw [← tn_vl ps hi2]; exact e⟩
theorem pace_two {a b : Pr} : paceOf [a, b] = max a.2 b.2 := by
  show Mt.Lm (dd [max a.2 b.2]) 1 = _
  rw [Mt.Lm_1]
  simp [Mt.tn, dd]
/-- no order has less than the good one -/
theorem least_le {ps qs : List Pr} (h : qs.Perm ps) (h2 : 2 ≤ ps.length) : paceOf (goodL (srt ps)) ≤ paceOf qs := by
  have hs := srt_perm ps
  have hsl := srt_len ps
  have hgl : (goodL (srt ps)).length = ps.length := by rw [(goodL_perm (by omega)).length_eq, hsl]
  have hql := h.length_eq
  by_cases h3 : 3 ≤ ps.length
  · obtain ⟨i, hi, e⟩ := pace_at (ps := goodL (srt ps)) (by omega)
    obtain ⟨f, g, P⟩ := pm_of (h.trans hs.symm) (srt_up ps)
    have G := gd_of (q := srt ps) (by omega)
    rw [hsl] at G
    rw [hql] at P
    obtain ⟨j, hj, lj⟩ := Od.good_least P G h3 (i := i) (by omega)
    rw [e]
    exact Int.le_trans lj (pace_ge (by omega))
  · have e2 : ps.length = 2 := by omega
    have two : ∀ l : List Pr, l.length = 2 → ∃ a b, l = [a, b] := fun l hl => match l, hl with
      | [a, b], _ => ⟨a, b, rfl⟩
    have hp := ((goodL_perm (q := srt ps) (by omega)).trans hs).trans h.symm
    obtain ⟨a, b, ea⟩ := two (goodL (srt ps)) (by omega)
    obtain ⟨c, d, ec⟩ := two qs (by omega)
    rw [ea, ec] at hp ⊢
    rw [pace_two, pace_two]
    have ma : a = c ∨ a = d := by simpa using hp.mem_iff.mp (show a ∈ [a, b] by simp)
    have mb : b = c ∨ b = d := by simpa using hp.mem_iff.mp (show b ∈ [a, b] by simp)
    rcases ma with rfl | rfl <;> rcases mb with rfl | rfl <;> omega
theorem least_eq {ps qs : List Pr} (h : qs.Perm ps) (h2 : 2 ≤ ps.length) : paceOf (goodL (srt qs)) = paceOf (goodL (srt ps)) := by
  have e := h.length_eq
  have p1 := (goodL_perm (q := srt ps) (by rw [srt_len]; exact h2)).trans (srt_perm ps)
  have p2 := (goodL_perm (q := srt qs) (by rw [srt_len]; omega)).trans (srt_perm qs)
  have a := least_le (p2.trans h) h2
  have b := least_le (p1.trans h.symm) (by omega)
  omega
theorem pace_nn {ps : List Pr} (hG : Good ps) : 0 ≤ paceOf ps := (Lm_bd (dd_bd hG.ds) _).1
/-- the steps of a whole order -/
theorem compl_of {l : List Pr} (hG : Good l) {v : Int} (hv : paceOf l ≤ v) : compl [] l v := by
  have h2 := hG.two
  have nn := pace_nn hG
  intro k k1 k2
  simp only [List.nil_append, List.length_nil] at k1 k2 ⊢
  unfold okStep
  have lk : (l.take k).length = k := by simp; omega
  rw [lk]
  by_cases c1 : k = 1
  · subst c1
    obtain ⟨x, r, e⟩ : ∃ x r, l = x :: r := by
      match l, h2 with
      | x :: r, _ => exact ⟨x, r, rfl⟩
    subst e
    show (dsOf [x]).sum ≤ v
    show (0 : Int) ≤ v
    omega
  · by_cases c2 : k = 2
    · subst c2
      obtain ⟨x, y, r, e⟩ : ∃ x y r, l = x :: y :: r := by
        match l, h2 with
        | x :: y :: r, _ => exact ⟨x, y, r, rfl⟩
      have e0 : max x.2 y.2 ≤ paceOf l := by
        by_cases c3 : 3 ≤ l.length
        · have := pace_ge (ps := l) (i := 0) (by omega)
          have nb := pc_bd hG 2
          have p0 : pc l 0 = x.2 := by subst e; rfl
          have p1 : pc l 1 = y.2 := by subst e; rfl
          have nb1 := pc_bd hG 1
          unfold Od.vl at this
          simp only [Nat.zero_add] at this
          omega
        · have : r = [] := by
            subst e
            cases r with
            | nil => rfl
            | cons z r => exact absurd (by simp) c3
          subst e this
          rw [pace_two]
          exact Int.le_refl _
      subst e
      show (max x.2 y.2 + 0 : Int) ≤ v
      omega
    · have h3 : 3 ≤ k := by omega
      have e : (l.take k).drop (k - 3) = [l[k - 3]'(by omega), l[k - 2]'(by omega), l[k - 1]'(by omega)] := by
        apply List.ext_getElem?
        intro i
        rw [List.getElem?_drop, List.getElem?_take]
        match i with
        | 0 => rw [if_pos (by omega)]; simp [show k - 3 < l.length by omega]
        | 1 => rw [if_pos (by omega), show k - 3 + 1 = k - 2 by omega]; simp [show k - 2 < l.length by omega]
        | 2 => rw [if_pos (by omega), show k - 3 + 2 = k - 1 by omega]; simp [show k - 1 < l.length by omega]
        | i + 3 => rw [if_neg (by omega)]; simp
      rw [e]
      have := pace_ge (ps := l) (i := k - 3) (by omega)
      unfold Od.vl at this
      rw [show k - 3 + 1 = k - 2 by omega, show k - 3 + 2 = k - 1 by omega, pc_at (len_pos (show k - 3 < l.length by omega)), pc_at (len_pos (show k - 2 < l.length by omega)), pc_at (len_pos (show k - 1 < l.length by omega))] at this
      show (max (l[k - 3]'_).2 (l[k - 2]'_).2 + (max (l[k - 2]'_).2 (l[k - 1]'_).2 + 0) : Int) ≤ v
      omega
theorem of_compl {l : List Pr} (h2 : 2 ≤ l.length) {v : Int} (hc : compl [] l v) : paceOf l ≤ v := by
  by_cases h3 : 3 ≤ l.length
  · obtain ⟨i, hi, e⟩ := pace_at h3
    have := hc (i + 3) (by simp) (by simp; omega)
    simp only [List.nil_append] at this
    unfold okStep at this
    rw [show (l.take (i + 3)).length = i + 3 by simp; omega] at this
    have e3 : (l.take (i + 3)).drop (i + 3 - 3) = [l[i]'(by omega), l[i + 1]'(by omega), l[i + 2]'(by omega)] := by
      apply List.ext_getElem?
      intro j
      rw [List.getElem?_drop, List.getElem?_take, Nat.add_sub_cancel]
      match j with
      | 0 => rw [if_pos (by omega)]; simp [show i < l.length by omega]
      | 1 => rw [if_pos (by omega)]; simp [show i + 1 < l.length by omega]
      | 2 => rw [if_pos (by omega)]; simp [show i + 2 < l.length by omega]
      | j + 3 => rw [if_neg (by omega)]; simp
    rw [e3] at this
    have t2 : (max (l[i]'(by omega)).2 (l[i + 1]'(by omega)).2 + (max (l[i + 1]'(by omega)).2 (l[i + 2]'(by omega)).2 + 0) : Int) ≤ v := this
    rw [e]
    unfold Od.vl
    rw [pc_at (len_pos (show i < l.length by omega)), pc_at (len_pos (show i + 1 < l.length by omega)), pc_at (len_pos (show i + 2 < l.length by omega))]
    omega
  · obtain ⟨x, y, e⟩ : ∃ x y, l = [x, y] := by
      match l, h2, h3 with
      | [x, y], _, _ => exact ⟨x, y, rfl⟩
      | x :: y :: z :: r, _, h3 => exact absurd (by simp) h3
    subst e
    have := hc 2 (by simp) (by simp)
    rw [pace_two]
    have t : (max x.2 y.2 + 0 : Int) ≤ v := this
    omega

/-! the best order; people mixed -/
theorem Rows.frdL {N : Addr → Prop} {H H' : Hp} {x : Addr} {l : List V} {r : List Addr} {p : List Pr} (h : Rows N H r p) (f : FrD x H H') (e : H x = some (.lst l)) : Rows N H' r p := ⟨h.1, fun i q hq => by
  obtain ⟨t, a, b, c⟩ := h.2 i q hq
  exact ⟨t, a, b, f _ _ (ne_of c e (fun z => by cases z)) c⟩⟩
theorem ins_perm {α : Type} {qs l : List α} {p : α} (k : Nat) (h : qs.Perm l) : (qs.take k ++ [p] ++ qs.drop k).Perm (l ++ [p]) := by
  have e : (qs.take k ++ [p] ++ qs.drop k).Perm (p :: qs) := by
    rw [List.append_assoc]
    have h1 : (qs.take k ++ p :: qs.drop k).Perm (p :: (qs.take k ++ qs.drop k)) := List.perm_middle
    rw [List.take_append_drop] at h1
    exact h1
  exact e.trans ((h.cons p).trans (List.perm_append_comm (l₁ := [p]) (l₂ := l)))
def spBest (K : PySem.W.Frag) : Sp := fun vs H Q _ => ∃ (N N1 : Addr → Prop) (o dx tp tn td : Addr) (rs : List Addr) (ps : List Pr), vs = [.ref o] ∧ LineF K N1 H o dx tp tn td rs ps ∧ Good ps ∧ ps.length ≤ 7 ∧ (∀ p, H p = Option.none → N p) ∧
  ∀ x qs H', Same H H' → H x = Option.none → qs.Perm ps → paceOf qs = paceOf (goodL (srt ps)) → FO [] ps (paceOf (goodL (srt ps))) qs → LineAt K N H' x qs → Q (.ref x) H'
def spMixed (K : PySem.W.Frag) : Sp := fun vs H Q _ => ∃ (z : Prop) (s sc D : Addr) (ns : List Int) (rs : List Addr) (ps : List Pr), vs = [.ref s, .ref D] ∧ StAt z K H s sc ns ∧ H D = some (.lst (rs.map V.ref)) ∧ D ≠ s ∧ Rows (fun b => b ≠ s) H rs ps ∧ ps.length ≤ 100 ∧
  ∀ x rx qs H', FrD s H H' → StAt z K H' s sc ns → H x = Option.none → H' x = some (.lst (rx.map V.ref)) → Rows (fun b => b ≠ s) H' rx qs → qs.Perm ps → Q (.ref x) H'
end
end K
namespace K
open PySem PySem.Spec PyProof.Rows L2 Bk
local macro_rules | `(tactic| walk_at "go1") => `(tactic| (first
  | ((with_reducible show tVar _ _ _ _); refine go_var rfl ?_)
  | (with_reducible first | refine go_c ?_ | refine go_op ?_ | refine go_cons ?_ | refine go_nil ?_ | refine go_cb ?_ | refine go_cl ?_ | refine go_seq ?_ | refine go_asg ?_ | refine go_name ?_ | refine go_ifS ?_ | refine go_test ?_ | refine go_bl ?_)
  | (with_reducible first | refine go_rI0 ?_ | refine go_rU ?_ | refine go_ret ?_ | refine go_next ?_ | refine go_B ?_ | refine go_and ?_ | refine go_or ?_ | refine go_not ?_ | refine go_if ?_ | refine go_andV ?_ | refine go_orV ?_ | refine go_notV ?_)
  | ((with_reducible show rEq _ _ _ _); refine go_rEq rfl ?_)
  | ((with_reducible show rNe _ _ _ _); refine go_rNe rfl ?_)
  | (with_reducible first | refine go_un ?_ | refine go_chain ?_ | refine go_drop ?_ | refine go_retN ?_ | refine go_isN ?_ | refine go_notN ?_ | refine go_cont ?_ | refine go_break ?_ | refine go_par ?_ | refine go_two ?_ | refine go_part ?_ | refine go_noPart ?_ | refine go_int ?_ | refine go_sl ?_ | refine go_yes ?_ | refine go_tup ?_ | refine go_lst ?_)
  | (with_reducible first | refine go_gCons ?_ | refine go_gNil ?_ | refine go_for ?_ | refine go_iEnT ?_ | refine go_iEnum ?_ | refine go_iList ?_ | refine go_iTup ?_ | refine go_iStr ?_ | refine go_iRng1 ?_ | refine go_iRng2 ?_ | refine go_iZip ?_ | refine go_lc ?_ | refine go_mkR ?_ | refine go_mkS ?_ | refine go_clO ?_ | refine go_pr ?_ | refine go_sfld ?_ | refine go_bm ?_ | refine go_ref ?_)))
local macro_rules | `(tactic| walk_at "go") => `(tactic| ((repeat (walk_at "go1")); try dsimp only))
local macro_rules | `(tactic| walk_at "so") => `(tactic| first | omega | (simp; done) | (simp; omega) | (simp at *; omega))
section
variable {P : Program} {w : World} {K : PySem.W.Frag} {mg : Str → Option Value} {base : Heap}
/-! the last hand-over, what it waits for; buckets by a tick; the latest begin -/
theorem pace_pos {ps : List Pr} (hG : Good ps) : 0 < paceOf ps := by
  have h2 := hG.two
  have l0 := Mt.Lm_le (dd (dsOf ps)) (r := tN (ps.length - 1)) (i := 0) (by unfold tN; omega)
  have e := dd_pc ps (i := 0) (by omega)
  have p0 := hG.pc ps[0] (List.getElem_mem _)
  have q0 := pc_at (len_pos (show 0 < ps.length by omega))
  have nn := (dd_bd hG.ds 1).1
  have t0 : Mt.tn (dd (dsOf ps)) 0 = dd (dsOf ps) 0 + dd (dsOf ps) 1 := rfl
  unfold paceOf
  omega
def optP (x : Option (Nat × Nat)) (H : Hp) (v : V) : Prop := match x with
  | some p => ∃ t, v = .ref t ∧ H t = some (.tup [.int p.1, .int p.2])
  | none => v = .non
def lastH (b i : Nat) : Option (Nat × Nat) := if 0 < i then some (b, i - 1) else if 0 < b then some (b - 1, 0) else none
def waitF (ds : List Int) (b p : Nat) : Option (Nat × Nat) := if b = 0 then (if 0 < p then some (0, p - 1) else none) else if p = 0 then some (b - 1, min (p + 1) (ds.length - 1)) else
  if Cm ds (b - 1) (min (p + 1) (ds.length - 1) + 1) ≤ Cm ds b p then some (b, p - 1) else some (b - 1, min (p + 1) (ds.length - 1))
def spLast : Sp := fun vs H Q _ => ∃ b i : Nat, vs = [.int b, .int i] ∧ ∀ v H', Same H H' → optP (lastH b i) H' v → Q v H'
def spWait (K : PySem.W.Frag) : Sp := fun vs H Q _ => ∃ (N : Addr → Prop) (o dx tp tn td a : Addr) (rs : List Addr) (ps : List Pr) (b p : Nat), vs = [.ref o, .ref a] ∧ LineF K N H o dx tp tn td rs ps ∧ Good ps ∧ H a = some (.tup [.int b, .int p]) ∧ b ≤ 1000 ∧ p + 1 < ps.length ∧ ∀ v H', Same H H' → optP (waitF (dsOf ps) b p) H' v → Q v H'
def spBy (K : PySem.W.Frag) : Sp := fun vs H Q _ => ∃ (N : Addr → Prop) (o dx tp tn td : Addr) (rs : List Addr) (ps : List Pr) (t : Int), vs = [.ref o, .int t] ∧ LineF K N H o dx tp tn td rs ps ∧ Good ps ∧ 0 ≤ t ∧ t ≤ 10 ^ 18 ∧ ∀ H', Same H H' → Q (.int (max 0 ((t - (dsOf ps).sum) / paceOf ps + 1))) H'
def spBegin (K : PySem.W.Frag) : Sp := fun vs H Q _ => ∃ (N : Addr → Prop) (o dx tp tn td : Addr) (rs : List Addr) (ps : List Pr) (c : Nat) (t : Int), vs = [.ref o, .int (c + 1 : Nat), .int t] ∧ LineF K N H o dx tp tn td rs ps ∧ Good ps ∧ c + 1 ≤ 10 ^ 18 ∧ 0 ≤ t ∧ t ≤ 10 ^ 24 ∧
  ∀ H', Same H H' → Q (if 0 ≤ t - Cm (dsOf ps) c (ps.length - 1) then .int (t - Cm (dsOf ps) c (ps.length - 1)) else .non) H'
/-! a chain of waits; the slowest part -/
def msr : Option (Nat × Nat) → Nat
  | none => 0
  | some c => c.1 * 20 + c.2 + 1
def chainF (ds : List Int) : Nat → Option (Nat × Nat) → List (Nat × Nat)
  | 0, _ => []
  | _ + 1, none => []
  | n + 1, some c => c :: chainF ds n (waitF ds c.1 c.2)
theorem wait_less {ds : List Int} (hd : ds.length ≤ 11) (h1 : 1 ≤ ds.length) {b p : Nat} (hp : p < ds.length) : msr (waitF ds b p) < msr (some (b, p)) ∧ ∀ c, waitF ds b p = some c → c.1 ≤ b ∧ c.2 < ds.length := by
  unfold waitF
  split
  · split
    · exact ⟨by simp [msr]; omega, fun c e => by cases e; exact ⟨by simp, by simp; omega⟩⟩
    · exact ⟨by simp [msr], fun c e => by cases e⟩
  · split
    · exact ⟨by simp [msr]; omega, fun c e => by cases e; exact ⟨by simp, by simp; omega⟩⟩
    · split
      · exact ⟨by simp [msr]; omega, fun c e => by cases e; exact ⟨by simp, by simp; omega⟩⟩
      · exact ⟨by simp [msr]; omega, fun c e => by cases e; exact ⟨by simp, by simp; omega⟩⟩
theorem chain_fuel {ds : List Int} (hd : ds.length ≤ 11) (h1 : 1 ≤ ds.length) : ∀ (n m : Nat) (x : Option (Nat × Nat)), msr x ≤ n → msr x ≤ m → (∀ c, x = some c → c.2 < ds.length) → chainF ds n x = chainF ds m x
  | 0, m, none, _, _, _ => by cases m <;> rfl
  | 0, _, some c, h, _, _ => by simp [msr] at h
  | n + 1, 0, none, _, _, _ => rfl
  | n + 1, 0, some c, _, h, _ => by simp [msr] at h
  | n + 1, m + 1, none, _, _, _ => rfl
  | n + 1, m + 1, some c, h, h', hc => by
    have w := wait_less hd h1 (b := c.1) (hc c rfl)
    show c :: chainF ds n (waitF ds c.1 c.2) = c :: chainF ds m (waitF ds c.1 c.2)
    have e : msr (some (c.1, c.2)) = msr (some c) := rfl
    rw [chain_fuel hd h1 n m _ (by omega) (by omega) fun d e => (w.2 d e).2]
def chainW (ds : List Int) (x : Option (Nat × Nat)) : List (Nat × Nat) := chainF ds (msr x) x
theorem chainW_some {ds : List Int} (hd : ds.length ≤ 11) (h1 : 1 ≤ ds.length) {c : Nat × Nat} (hc : c.2 < ds.length) : chainW ds (some c) = c :: chainW ds (waitF ds c.1 c.2) := by
  have w := wait_less hd h1 (b := c.1) hc
  have e : msr (some (c.1, c.2)) = msr (some c) := rfl
  show c :: chainF ds (c.1 * 20 + c.2) (waitF ds c.1 c.2) = _
  rw [chain_fuel hd h1 (c.1 * 20 + c.2) (msr (waitF ds c.1 c.2)) _ (by simp only [msr] at w ⊢; omega) (Nat.le_refl _) fun d e => (w.2 d e).2]
  rfl
theorem chainW_none (ds : List Int) : chainW ds none = [] := rfl
/-- rows of a chain: bucket and name -/
def RowsC (H : Hp) (rs : List Addr) (cs : List (Nat × Nat)) (ns : List Str) : Prop := rs.length = cs.length ∧ ∀ (j : Nat) (c : Nat × Nat), cs[j]? = some c → ∃ t z, rs[j]? = some t ∧ ns[c.2]? = some z ∧ H t = some (.tup [.int c.1, .str z])
theorem go_bm0 {K : PySem.W.Frag} {T : String} {r : V → List V → Hp → VK → Prop} {to : TE} {σ : L2.St} {H : Hp} {Q : VK} (h : to σ H fun x H1 => tyV K T x H1 ∧ r x [] H1 Q) : tBM0 K T r to σ H Q := h
theorem RowsC.frdL {H H' : Hp} {x : Addr} {l : List V} {r : List Addr} {c : List (Nat × Nat)} {ns : List Str} (h : RowsC H r c ns) (f : FrD x H H') (e : H x = some (.lst l)) : RowsC H' r c ns := ⟨h.1, fun j d hd => by
  obtain ⟨t, z, a, b, k⟩ := h.2 j d hd
  exact ⟨t, z, a, b, f _ _ (ne_of k e (fun z => by cases z)) k⟩⟩
theorem RowsC.keep {H H' : Hp} {r : List Addr} {c : List (Nat × Nat)} {ns : List Str} (h : RowsC H r c ns) (f : Same H H') : RowsC H' r c ns := ⟨h.1, fun j d hd => by
  obtain ⟨t, z, a, b, k⟩ := h.2 j d hd
  exact ⟨t, z, a, b, f _ _ k⟩⟩
theorem RowsC.rev {H : Hp} {r : List Addr} {c : List (Nat × Nat)} {ns : List Str} (h : RowsC H r c ns) : RowsC H r.reverse c.reverse ns := ⟨by simp [h.1], fun j d hd => by
  have hj : j < c.length := by
    have := (List.getElem?_eq_some_iff.mp hd).1
    simpa using this
  rw [List.getElem?_reverse hj] at hd
  obtain ⟨t, z, a, b, k⟩ := h.2 _ d hd
  exact ⟨t, z, by rw [List.getElem?_reverse (by rw [h.1]; exact hj), h.1]; exact a, b, k⟩⟩
theorem RowsC.snoc {H : Hp} {r : List Addr} {c : List (Nat × Nat)} {ns : List Str} {t : Addr} {d : Nat × Nat} {z : Str} (h : RowsC H r c ns) (hz : ns[d.2]? = some z) (ht : H t = some (.tup [.int d.1, .str z])) : RowsC H (r ++ [t]) (c ++ [d]) ns := ⟨by simp [h.1], fun j e he => by
  by_cases hj : j < c.length
  · rw [List.getElem?_append_left hj] at he
    obtain ⟨t', z', a, b, k⟩ := h.2 j e he
    exact ⟨t', z', by rw [List.getElem?_append_left (by rw [h.1]; exact hj)]; exact a, b, k⟩
  · have hl : j < (c ++ [d]).length := (List.getElem?_eq_some_iff.mp he).1
    have ej : j = c.length := by simp at hl; omega
    subst ej
    rw [List.getElem?_append_right (Nat.le_refl _)] at he
    simp at he
    subst he
    exact ⟨t, z, by rw [List.getElem?_append_right (by rw [h.1]; exact Nat.le_refl _), h.1]; simp, hz, ht⟩⟩
theorem optP.keep {H H' : Hp} {x : Option (Nat × Nat)} {v : V} (h : optP x H v) (f : Same H H') : optP x H' v := by
  cases x with
  | none => exact h
  | some p =>
    obtain ⟨t, e, k⟩ := h
    exact ⟨t, e, f _ _ k⟩
def spChain (K : PySem.W.Frag) : Sp := fun vs H Q _ => ∃ (N : Addr → Prop) (o dx tp tn td : Addr) (rs : List Addr) (ps : List Pr) (b i : Nat) (z : Str), vs = [.ref o, .int b, .str z] ∧ LineF K N H o dx tp tn td rs ps ∧ Good ps ∧ b ≤ 500 ∧ (ps.map (·.1))[i]? = some z ∧
  ∀ x rx H', Same H H' → H x = Option.none → H' x = some (.lst (rx.map V.ref)) → RowsC H' rx (chainW (dsOf ps) (lastH b i)).reverse (ps.map (·.1)) → Q (.ref x) H'
/-! the slowest part -/
def firstMax (ds : List Int) (j : Nat) : Prop := j < tN ds.length ∧ Mt.tn (dd ds) j = Mt.Lm (dd ds) (tN ds.length) ∧ ∀ m, m < j → Mt.tn (dd ds) m ≠ Mt.Lm (dd ds) (tN ds.length)
def spSlow (K : PySem.W.Frag) : Sp := fun vs H Q _ => ∃ (N : Addr → Prop) (o dx tp tn td : Addr) (rs : List Addr) (ps : List Pr), vs = [.ref o] ∧ LineF K N H o dx tp tn td rs ps ∧ Good ps ∧ ∀ x H' j, Same H H' → H x = Option.none → firstMax (dsOf ps) j → H' x = some (.lst ((((ps.map (·.1)).take (j + 3)).drop j).map V.str)) → Q (.ref x) H'
theorem first_ex {ds : List Int} (h1 : 1 ≤ ds.length) : ∃ j, firstMax ds j := by
  obtain ⟨i, hi, e⟩ := Lm_mem (dd ds) (tN ds.length) (by unfold tN; omega)
  have : ∀ n, (∃ i, i < n ∧ i < tN ds.length ∧ Mt.tn (dd ds) i = Mt.Lm (dd ds) (tN ds.length)) → ∃ j, firstMax ds j := by
    intro n
    induction n with
    | zero => rintro ⟨i, h, _⟩; omega
    | succ n ih =>
      rintro ⟨i, h, h2, h3⟩
      by_cases c : ∃ i, i < n ∧ i < tN ds.length ∧ Mt.tn (dd ds) i = Mt.Lm (dd ds) (tN ds.length)
      · exact ih c
      · have ei : i = n := by
          apply Classical.byContradiction
          intro z
          exact c ⟨i, by omega, h2, h3⟩
        subst ei
        exact ⟨i, h2, h3, fun m hm e2 => c ⟨m, hm, by omega, e2⟩⟩
  exact this (i + 1) ⟨i, by omega, hi, e.symm⟩
end
end K
namespace K
open PySem PySem.Spec PyProof.Rows L2 Bk
local macro_rules | `(tactic| walk_at "go1") => `(tactic| (first
  | ((with_reducible show tVar _ _ _ _); refine go_var rfl ?_)
  | (with_reducible first | refine go_c ?_ | refine go_op ?_ | refine go_cons ?_ | refine go_nil ?_ | refine go_cb ?_ | refine go_cl ?_ | refine go_seq ?_ | refine go_asg ?_ | refine go_name ?_ | refine go_ifS ?_ | refine go_test ?_ | refine go_bl ?_)
  | (with_reducible first | refine go_rI0 ?_ | refine go_rU ?_ | refine go_ret ?_ | refine go_next ?_ | refine go_B ?_ | refine go_and ?_ | refine go_or ?_ | refine go_not ?_ | refine go_if ?_ | refine go_andV ?_ | refine go_orV ?_ | refine go_notV ?_)
  | ((with_reducible show rEq _ _ _ _); refine go_rEq rfl ?_)
  | ((with_reducible show rNe _ _ _ _); refine go_rNe rfl ?_)
  | (with_reducible first | refine go_un ?_ | refine go_chain ?_ | refine go_drop ?_ | refine go_retN ?_ | refine go_isN ?_ | refine go_notN ?_ | refine go_cont ?_ | refine go_break ?_ | refine go_par ?_ | refine go_two ?_ | refine go_part ?_ | refine go_noPart ?_ | refine go_int ?_ | refine go_sl ?_ | refine go_yes ?_ | refine go_tup ?_ | refine go_lst ?_)
  | (with_reducible first | refine go_gCons ?_ | refine go_gNil ?_ | refine go_for ?_ | refine go_iEnT ?_ | refine go_iEnum ?_ | refine go_iList ?_ | refine go_iTup ?_ | refine go_iStr ?_ | refine go_iRng1 ?_ | refine go_iRng2 ?_ | refine go_iZip ?_ | refine go_lc ?_ | refine go_mkR ?_ | refine go_mkS ?_ | refine go_clO ?_ | refine go_pr ?_ | refine go_sfld ?_ | refine go_bm ?_ | refine go_ref ?_)))
local macro_rules | `(tactic| walk_at "go") => `(tactic| ((repeat (walk_at "go1")); try dsimp only))
local macro_rules | `(tactic| walk_at "so") => `(tactic| first | omega | (simp; done) | (simp; omega) | (simp at *; omega))
section
variable {P : Program} {w : World} {K : PySem.W.Frag} {mg : Str → Option Value} {base : Heap}
/-! trained, any number of names; all choices of so many names -/
def setN (ps : List Pr) (is : List Nat) (v : Int) : List Pr := (List.range ps.length).map fun i => ((ps.map (·.1)).getD i ("" : Str), if i ∈ is then v else (ps.map (·.2)).getD i 0)
theorem setN_len (ps : List Pr) (is : List Nat) (v : Int) : (setN ps is v).length = ps.length := by simp [setN]
theorem setN_at {ps : List Pr} {is : List Nat} {i : Nat} {v : Int} {p : Pr} (e : ps[i]? = some p) : (setN ps is v)[i]? = some (p.1, if i ∈ is then v else p.2) := by
  have hi := (List.getElem?_eq_some_iff.mp e).1
  unfold setN
  rw [List.getElem?_map, List.getElem?_range hi]
  simp [List.getD, e]
theorem setN_names (ps : List Pr) (is : List Nat) (v : Int) : (setN ps is v).map (·.1) = ps.map (·.1) := by
  unfold setN
  rw [List.map_map]
  exact (range_map (n := ps.length) (ps.map (·.1)) id ("" : Str) (by simp)).trans (List.map_id _)
theorem Good.setN {ps : List Pr} (g : Good ps) (is : List Nat) {v : Int} (h1 : 1 ≤ v) (h2 : v ≤ 1000) : Good (setN ps is v) := by
  have at_ : ∀ q ∈ K.setN ps is v, ∃ p ∈ ps, q.1 = p.1 ∧ (q.2 = v ∨ q.2 = p.2) := fun q hq => by
    obtain ⟨i, hi, e⟩ := List.mem_iff_getElem.mp hq
    rw [setN_len] at hi
    have := setN_at (is := is) (v := v) (show ps[i]? = some ps[i] by simp [hi])
    rw [List.getElem?_eq_getElem (by rw [setN_len]; exact hi)] at this
    have e2 := Option.some.inj this
    rw [e] at e2
    refine ⟨ps[i], List.getElem_mem _, by rw [e2], ?_⟩
    rw [e2]
    by_cases c : i ∈ is
    · exact .inl (if_pos c)
    · exact .inr (if_neg c)
  refine ⟨by rw [setN_len]; exact g.two, by rw [setN_len]; exact g.most, fun q hq => ?_, fun q hq => ?_, by rw [setN_names]; exact g.nd⟩
  · obtain ⟨p, hp, e, _⟩ := at_ q hq
    rw [e]
    exact g.nm p hp
  · obtain ⟨p, hp, _, e | e⟩ := at_ q hq
    · rw [e]
      exact ⟨h1, h2⟩
    · rw [e]
      exact g.pc p hp
theorem go_inN {K : PySem.W.Frag} {H : Hp} {a : Addr} {j : Nat} {is : List Nat} {Q : VK} (h : SqL K H a (is.map fun (i : Nat) => V.int i)) (q : Q (.bl (decide (j ∈ is))) H) : rIn K false (.int j) (.ref a) H Q := by
  have e : (is.map fun (i : Nat) => V.int i) = (is.map fun (i : Nat) => (i : Int)).map V.int := by rw [List.map_map]; rfl
  rw [e] at h
  refine go_inI h ?_
  have d : decide ((j : Int) ∈ is.map fun (i : Nat) => (i : Int)) = decide (j ∈ is) := by
    apply decide_eq_decide.mpr
    simp only [List.mem_map]
    constructor
    · rintro ⟨a, h, e⟩
      have ee : a = j := by omega
      subst ee
      exact h
    · exact fun h => ⟨j, h, rfl⟩
  rw [d]
  exact q
def spTrainedN (K : PySem.W.Frag) : Sp := fun vs H Q _ => ∃ (N N1 : Addr → Prop) (o dx tp tn td a : Addr) (rs : List Addr) (ps : List Pr) (is : List Nat) (v : Int) (zs : List Str), vs = [.ref o, .int v, .ref a] ∧ H a = some (.tup (zs.map V.str)) ∧ LineF K N1 H o dx tp tn td rs ps ∧ Good ps ∧ 1 ≤ v ∧ v ≤ 1000 ∧ zs.length = is.length ∧ zs.length ≤ 100 ∧
  (∀ (k i : Nat), is[k]? = some i → ∃ z, zs[k]? = some z ∧ (ps.map (·.1))[i]? = some z) ∧ (∀ p, H p = Option.none → N p) ∧ ∀ x H', Same H H' → H x = Option.none → LineAt K N H' x (setN ps is v) → Q (.ref x) H'
theorem ok_Line_trainedN (T : Tx K mg) (D_place_of : Fx P w K mg base 1 (He.ga K "place_of") (spPlaceOf K)) (D_Lineu_initu : Fx P w K mg base 5 (He.ma K (He.ga K "Line") "__init__") (StSp 1 (spInit K))) : Fx P w K mg base 7 (He.ma K (He.ga K "Line") "trained") (StSp 2 (spTrainedN K)) := by
  have K_place_of : PySem.W.keepIn K (.ref (He.ga K "place_of")) = true := T.F_place_of.elim fun _ q => q.kp
  obtain ⟨fd, F⟩ := T.F_Line_trained
  have nd := sc_Line_trained.nd
  refine fx_star (ps := ["self", "pace"]) F sc_Line_trained (fun kV doc pm an cdv ct => StX.bind_star2 (B := fun l => bindArgs (PySem.W.fnOf "trained" "Line.trained" (defArgs s_Line_trained) (defBody s_Line_trained) (defScope s_Line_trained) .none kV doc pm an cdv ct) ⟨l, []⟩) (p1 := "self") (p2 := "pace") (pv := "names") (fun a b => rfl) (fun a b r rs => rfl)) fun cdv A outer s H vs Q E hr h => ?_
  obtain ⟨N, N1, o, dx, tp, tn, td, a, rs, ps, is, v, zs, rfl, hS, L, hG, hv1, hv2, hzl, hz100, hzi, hN, h⟩ := h
  refine ⟨_, (pss_cons (ps_set (i := 3) nd rfl (Or.inr rfl) (pe_lc (own := [("name", 5)]) (g := (gName 5)) rfl nd (pi_tup (pv 2)) (blkOk_by (N := ["self", "pace", "names", "places", "people", "name", "place", "own_pace"]) (sc := defScope s_Line_trained) (own := [("name", 5)]) (by decide +kernel)) (fun _ _ _ _ _ => (pg_name (i := 5) nd rfl (Or.inl rfl))) (fun _ _ _ _ _ => pts_nil) (fun _ _ _ _ _ => (pe_cl D_place_of hr K_place_of T.g_place_of passL (pa_cons (Bk.pe_fldK K (pv 0) rfl) (pa_cons (pv 5) pa_nil)))))) (pss_cons (ps_setLc (i := 4) (own := [("place", 6), ("name", 5), ("own_pace", 7)]) (g := (gTup K 2 (gCons (gName 6) (gCons (gTup K 2 (gCons (gName 5) (gCons (gName 7) gNil))) gNil)))) rfl nd rfl rfl (sw_true rfl rfl rfl (by decide +kernel)) (pi_enT T.m_enumerate (pa_cons (pe_fld (pv 0) rfl) pa_nil)) (blkOk_by (N := ["self", "pace", "names", "places", "people", "name", "place", "own_pace"]) (sc := defScope s_Line_trained) (own := [("place", 6), ("name", 5), ("own_pace", 7)]) (by decide +kernel)) (fun _ _ _ _ _ => (pg_tup (by rfl) (pgs_cons (pg_name (i := 6) nd rfl (Or.inl rfl)) (pgs_cons (pg_tup (by rfl) (pgs_cons (pg_name (i := 5) nd rfl (Or.inl rfl)) (pgs_cons (pg_name (i := 7) nd rfl (Or.inl rfl)) pgs_nil))) pgs_nil)))) (fun _ _ _ _ _ => pts_nil) (fun _ _ _ _ _ => (pe_tup (pa_cons (pv 5) (pa_cons (pe_ifExp (pt_cmpR (Bk.inK K) (pv 6) (pv 3) rfl) (pv 1) (pv 7)) pa_nil))))) (pss_one (ps_ret (pe_mkS T.mk_Line D_Lineu_initu hr T.g_Line passL (pv 4)))))), ?_⟩
  have hm := hG.most
  have h2 := hG.two
  have l1 := L.rows.1
  walk_at "go"
  refine ⟨⟨_, .inl (.inl hS)⟩, ?_⟩
  refine lc_fun (walk_tup (xs := zs.map V.str)) (fun H2 s2 => .inl (.inl (s2 _ _ hS))) (fun k => .int ((is.getD k 0 : Nat) : Int)) (by simp; omega) ?_ ?_
  · rintro j x H2 H3 k hj s2 ⟨rfl, hx⟩ hk
    have hj2 : j < is.length := by simp at hj; omega
    obtain ⟨z, hz1, hz⟩ := hzi j is[j] (by simp [hj2])
    rw [List.getElem?_map, hz1] at hx
    have ex : V.str z = x := Option.some.inj hx
    subst ex
    have L2 := L.keep s2
    walk_at "go"
    refine ⟨rfl, ?_⟩
    walk_at "go"
    refine go_fld L2.obj T.cl_Line T.no_Line_names (lf_n _ _ _) ?_
    walk_at "go"
    refine ⟨tn, ps.map (·.1), is[j], z, rfl, .inl (.inl L2.nm), hz, hG.first hz, fun H4 s4 => ?_⟩
    have q := hk _ s4
    rw [show is.getD j 0 = is[j] by simp [List.getD, hj2]] at q
    exact q
  · intro D1 H2 hD1 s2 e2
    have e2 : H2 D1 = some (.lst (is.map fun (i : Nat) => V.int i)) := by
      rw [e2]
      congr 2
      exact range_map (n := (zs.map V.str).length) is (fun (i : Nat) => V.int i) 0 (by simp; exact hzl)
    have L2 := L.keep s2
    walk_at "go"
    refine go_fld L2.obj T.cl_Line T.no_Line_people (lf_p _ _ _) ?_
    walk_at "go"
    refine ⟨_, _, rfl, .inl (.inl L2.pp), ?_⟩
    refine lc_gen (walk_en (xs := rs.map V.ref)) (fun H3 s3 => .inl (.inl (s3 _ _ L2.pp))) (fun D j y H => ∃ p t, (setN ps is v)[j]? = some p ∧ y = V.ref t ∧ t ≠ D ∧ H t = some (.tup [.str p.1, .int p.2])) (fun D j y H3 H4 f ⟨p, t, a1, a2, a3, a4⟩ => ⟨p, t, a1, a2, a3, f _ _ a3 a4⟩) (by simp; omega) ?_ ?_
    · rintro D j x H3 H4 k hD hj s3 ⟨oD, hoD⟩ ⟨T', y1, y2, rfl, hT, rfl, e4, e5⟩ hk
      obtain ⟨p, t, hp, rfl, _, ht⟩ := (L2.rows.mono (frn_same s3)).at e5
      cases e4
      have s4 : Same H3 (upd H3 T' (.tup [V.int (j : Nat), V.ref t])) := same_upd hT
      refine go_gTup (.inl (.inl upd_same)) rfl ?_
      walk_at "go"
      refine go_gTup (.inl (.inl (s4 _ _ ht))) rfl ?_
      walk_at "go"
      refine ⟨rfl, ?_⟩
      walk_at "go"
      refine go_inN (.inl (.inl (s4 _ _ (s3 _ _ e2)))) ?_
      walk_at "go"
      have hsp := setN_at (is := is) (v := v) hp
      refine iteD (fun hc => ?_) fun hc => ?_
      · have hji : j ∈ is := hc
        rw [if_pos hji] at hsp
        walk_at "go"
        exact ⟨show 2 ≤ sizeLine by decide, fun q hq => hk _ _ (s4.trans (same_upd hq)) ⟨_, q, hsp, rfl, fun z => (by rw [z, s4 _ _ hoD] at hq; cases hq), upd_same⟩⟩
      · have hji : ¬ j ∈ is := hc
        rw [if_neg hji] at hsp
        walk_at "go"
        exact ⟨show 2 ≤ sizeLine by decide, fun q hq => hk _ _ (s4.trans (same_upd hq)) ⟨_, q, hsp, rfl, fun z => (by rw [z, s4 _ _ hoD] at hq; cases hq), upd_same⟩⟩
    · intro D ys H3 hD s3 e3 hl hy
      have s03 := s2.trans s3
      obtain ⟨rs2, ey, hR2⟩ := rows_of (by rw [hl, setN_len, List.length_map, l1]) hy
      walk_at "go"
      refine ⟨D, ys, rfl, .inr (.inl (.inl e3)), ?_⟩
      exact mk_ok (fun q hq => hN q (s03.free hq)) ey hR2 (hG.setN is hv1 hv2) fun x H4 s4 hx hL => h x H4 (s03.trans s4) (s03.free hx) hL

end
end K
namespace K
open PySem PySem.Spec PyProof.Rows L2 Bk
local macro_rules | `(tactic| walk_at "go1") => `(tactic| (first
  | ((with_reducible show tVar _ _ _ _); refine go_var rfl ?_)
  | (with_reducible first | refine go_c ?_ | refine go_op ?_ | refine go_cons ?_ | refine go_nil ?_ | refine go_cb ?_ | refine go_cl ?_ | refine go_seq ?_ | refine go_asg ?_ | refine go_name ?_ | refine go_ifS ?_ | refine go_test ?_ | refine go_bl ?_)
  | (with_reducible first | refine go_rI0 ?_ | refine go_rU ?_ | refine go_ret ?_ | refine go_next ?_ | refine go_B ?_ | refine go_and ?_ | refine go_or ?_ | refine go_not ?_ | refine go_if ?_ | refine go_andV ?_ | refine go_orV ?_ | refine go_notV ?_)
  | ((with_reducible show rEq _ _ _ _); refine go_rEq rfl ?_)
  | ((with_reducible show rNe _ _ _ _); refine go_rNe rfl ?_)
  | (with_reducible first | refine go_un ?_ | refine go_chain ?_ | refine go_drop ?_ | refine go_retN ?_ | refine go_isN ?_ | refine go_notN ?_ | refine go_cont ?_ | refine go_break ?_ | refine go_par ?_ | refine go_two ?_ | refine go_part ?_ | refine go_noPart ?_ | refine go_int ?_ | refine go_sl ?_ | refine go_yes ?_ | refine go_tup ?_ | refine go_lst ?_)
  | (with_reducible first | refine go_gCons ?_ | refine go_gNil ?_ | refine go_for ?_ | refine go_iEnT ?_ | refine go_iEnum ?_ | refine go_iList ?_ | refine go_iTup ?_ | refine go_iStr ?_ | refine go_iRng1 ?_ | refine go_iRng2 ?_ | refine go_iZip ?_ | refine go_lc ?_ | refine go_mkR ?_ | refine go_mkS ?_ | refine go_clO ?_ | refine go_pr ?_ | refine go_sfld ?_ | refine go_bm ?_ | refine go_ref ?_)))
local macro_rules | `(tactic| walk_at "go") => `(tactic| ((repeat (walk_at "go1")); try dsimp only))
local macro_rules | `(tactic| walk_at "so") => `(tactic| first | omega | (simp; done) | (simp; omega) | (simp at *; omega))
section
variable {P : Program} {w : World} {K : PySem.W.Frag} {mg : Str → Option Value} {base : Heap}
/-! all choices of so many names; the fewest who are trained -/
def chs : Nat → List Str → List (List Str)
  | 0, _ => [[]]
  | k + 1, ns => (List.range ns.length).flatMap fun i => (chs k (ns.drop (i + 1))).map fun r => ns.getD i ("" : Str) :: r
def pre (k : Nat) (ns : List Str) (i : Nat) : List (List Str) := (List.range i).flatMap fun i => (chs k (ns.drop (i + 1))).map fun r => ns.getD i ("" : Str) :: r
theorem pre_succ (k : Nat) (ns : List Str) (i : Nat) : pre k ns (i + 1) = pre k ns i ++ (chs k (ns.drop (i + 1))).map fun r => ns.getD i ("" : Str) :: r := by
  unfold pre
  rw [List.range_succ, List.flatMap_append]
  simp
theorem pre_len {k : Nat} {ns : List Str} (h : ∀ l : List Str, (chs k l).length ≤ 2 ^ l.length) : ∀ i, i ≤ ns.length → (pre k ns i).length + 2 ^ (ns.length - i) ≤ 2 ^ ns.length
  | 0, _ => by simp [pre]
  | i + 1, hi => by
    have ih := pre_len h (k := k) (ns := ns) i (by omega)
    have a := h (ns.drop (i + 1))
    rw [List.length_drop] at a
    rw [pre_succ, List.length_append, List.length_map]
    have e : 2 ^ (ns.length - i) = 2 ^ (ns.length - (i + 1)) + 2 ^ (ns.length - (i + 1)) := by
      rw [show ns.length - i = (ns.length - (i + 1)) + 1 by omega, Nat.pow_succ]
      omega
    omega
theorem chs_len : ∀ (k : Nat) (l : List Str), (chs k l).length ≤ 2 ^ l.length
  | 0, l => by
    show 1 ≤ _
    exact Nat.one_le_two_pow
  | k + 1, l => by
    have := pre_len (k := k) (ns := l) (chs_len k) l.length (Nat.le_refl _)
    exact Nat.le_trans (Nat.le_add_right _ _) this
theorem chs_at : ∀ (k : Nat) (ns : List Str) (zs : List Str), zs ∈ chs k ns → zs.length = k ∧ ∀ z ∈ zs, z ∈ ns
  | 0, ns, zs, h => by
    have : zs = [] := by simpa [chs] using h
    subst this
    simp
  | k + 1, ns, zs, h => by
    unfold chs at h
    obtain ⟨i, hi, h⟩ := List.mem_flatMap.mp h
    obtain ⟨r, hr, rfl⟩ := List.mem_map.mp h
    obtain ⟨h1, h2⟩ := chs_at k _ r hr
    have hi2 := List.mem_range.mp hi
    refine ⟨by simp [h1], fun z hz => ?_⟩
    rcases List.mem_cons.mp hz with rfl | hz
    · simp [List.getD, hi2]
    · exact List.mem_of_mem_drop (h2 z hz)
def LLs (N : Addr → Prop) (H : Hp) (rx : List Addr) (zss : List (List Str)) : Prop := rx.length = zss.length ∧ ∀ (i : Nat) (zs : List Str), zss[i]? = some zs → ∃ t, rx[i]? = some t ∧ N t ∧ H t = some (.lst (zs.map V.str))
theorem LLs.mono {N : Addr → Prop} {H H' : Hp} {rx : List Addr} {zss : List (List Str)} (e : FrN N H H') (h : LLs N H rx zss) : LLs N H' rx zss := ⟨h.1, fun i p q => by
  obtain ⟨t, h1, h2, h3⟩ := h.2 i p q
  exact ⟨t, h1, h2, e _ _ h2 h3⟩⟩
theorem LLs.weak {N M : Addr → Prop} {H : Hp} {rx : List Addr} {zss : List (List Str)} (e : ∀ a, N a → M a) (h : LLs N H rx zss) : LLs M H rx zss := ⟨h.1, fun i p q => by
  obtain ⟨t, h1, h2, h3⟩ := h.2 i p q
  exact ⟨t, h1, e _ h2, h3⟩⟩
theorem LLs.snoc {N : Addr → Prop} {H : Hp} {rx : List Addr} {zss : List (List Str)} (h : LLs N H rx zss) {t : Addr} {zs : List Str} (n : N t) (e : H t = some (.lst (zs.map V.str))) : LLs N H (rx ++ [t]) (zss ++ [zs]) := ⟨by simp [h.1], fun j z he => by
  by_cases hj : j < zss.length
  · rw [List.getElem?_append_left hj] at he
    obtain ⟨t', a, b, c⟩ := h.2 j z he
    exact ⟨t', by rw [List.getElem?_append_left (by rw [h.1]; exact hj)]; exact a, b, c⟩
  · have hl : j < (zss ++ [zs]).length := (List.getElem?_eq_some_iff.mp he).1
    have ej : j = zss.length := by simp at hl; omega
    subst ej
    rw [List.getElem?_append_right (Nat.le_refl _)] at he
    simp at he
    subst he
    exact ⟨t, by rw [List.getElem?_append_right (by rw [h.1]; exact Nat.le_refl _), h.1]; simp, n, e⟩⟩
theorem LLs.at {N : Addr → Prop} {H : Hp} {rx : List Addr} {zss : List (List Str)} (h : LLs N H rx zss) {i : Nat} {y : V} (e : (rx.map V.ref)[i]? = some y) : ∃ zs t, zss[i]? = some zs ∧ y = .ref t ∧ N t ∧ H t = some (.lst (zs.map V.str)) := by
  obtain ⟨t, ht, rfl⟩ := map_at e
  have hi : i < zss.length := by
    have := (List.getElem?_eq_some_iff.mp ht).1
    rw [h.1] at this
    exact this
  obtain ⟨t', h1, h2, h3⟩ := h.2 i zss[i] (by simp [hi])
  rw [ht] at h1
  cases h1
  exact ⟨zss[i], t, by simp [hi], rfl, h2, h3⟩
def spLen (K : PySem.W.Frag) : Sp := fun vs H Q _ => ∃ (N : Addr → Prop) (o dx tp tn td : Addr) (rs : List Addr) (ps : List Pr), vs = [.ref o] ∧ LineF K N H o dx tp tn td rs ps ∧ Q (.int ps.length) H
def spChoices (K : PySem.W.Frag) (n : Nat) : Sp := fun vs H Q _ => ∃ (a : Addr) (ns : List Str) (k : Nat), vs = [.ref a, .int k] ∧ k < n ∧ SqT K H a (ns.map V.str) ∧ ns.length ≤ 12 ∧ k ≤ 100 ∧ ∀ x rx H', Same H H' → H x = Option.none → H' x = some (.lst (rx.map V.ref)) → LLs (fun t => H t = Option.none) H' rx (chs k ns) → Q (.ref x) H'
def okT (ps : List Pr) (v g : Int) (zs : List Str) : Prop := paceOf (setN ps (zs.map fun z => (ps.map (·.1)).idxOf z) v) ≤ g
def spFew (K : PySem.W.Frag) : Sp := fun vs H Q _ => ∃ (N : Addr → Prop) (o dx tp tn td : Addr) (rs : List Addr) (ps : List Pr) (v g : Int), vs = [.ref o, .int v, .int g] ∧ LineF K N H o dx tp tn td rs ps ∧ Good ps ∧ 1 ≤ v ∧ v ≤ 1000 ∧ 1 ≤ g ∧ g ≤ 2000 ∧
  (∀ H', Same H H' → (∀ j, j ≤ ps.length → ∀ z ∈ chs j (ps.map (·.1)), ¬ okT ps v g z) → Q .non H') ∧
  ∀ (a : Addr) (zs : List Str) (k m : Nat) (H' : Hp), Same H H' → H a = Option.none → k ≤ ps.length → (chs k (ps.map (·.1)))[m]? = some zs → (∀ j : Nat, j < k → ∀ z ∈ chs j (ps.map (·.1)), ¬ okT ps v g z) → (∀ m' : Nat, m' < m → ∀ z, (chs k (ps.map (·.1)))[m']? = some z → ¬ okT ps v g z) → okT ps v g zs → H' a = some (.lst (zs.map V.str)) → Q (.ref a) H'
end
end K
namespace K
open PySem PySem.Spec PyProof.Rows L2 Bk
local macro_rules | `(tactic| walk_at "go1") => `(tactic| (first
  | ((with_reducible show tVar _ _ _ _); refine go_var rfl ?_)
  | (with_reducible first | refine go_c ?_ | refine go_op ?_ | refine go_cons ?_ | refine go_nil ?_ | refine go_cb ?_ | refine go_cl ?_ | refine go_seq ?_ | refine go_asg ?_ | refine go_name ?_ | refine go_ifS ?_ | refine go_test ?_ | refine go_bl ?_)
  | (with_reducible first | refine go_rI0 ?_ | refine go_rU ?_ | refine go_ret ?_ | refine go_next ?_ | refine go_B ?_ | refine go_and ?_ | refine go_or ?_ | refine go_not ?_ | refine go_if ?_ | refine go_andV ?_ | refine go_orV ?_ | refine go_notV ?_)
  | ((with_reducible show rEq _ _ _ _); refine go_rEq rfl ?_)
  | ((with_reducible show rNe _ _ _ _); refine go_rNe rfl ?_)
  | (with_reducible first | refine go_un ?_ | refine go_chain ?_ | refine go_drop ?_ | refine go_retN ?_ | refine go_isN ?_ | refine go_notN ?_ | refine go_cont ?_ | refine go_break ?_ | refine go_par ?_ | refine go_two ?_ | refine go_part ?_ | refine go_noPart ?_ | refine go_int ?_ | refine go_sl ?_ | refine go_yes ?_ | refine go_tup ?_ | refine go_lst ?_)
  | (with_reducible first | refine go_gCons ?_ | refine go_gNil ?_ | refine go_for ?_ | refine go_iEnT ?_ | refine go_iEnum ?_ | refine go_iList ?_ | refine go_iTup ?_ | refine go_iStr ?_ | refine go_iRng1 ?_ | refine go_iRng2 ?_ | refine go_iZip ?_ | refine go_lc ?_ | refine go_mkR ?_ | refine go_mkS ?_ | refine go_clO ?_ | refine go_pr ?_ | refine go_sfld ?_ | refine go_bm ?_ | refine go_ref ?_)))
local macro_rules | `(tactic| walk_at "go") => `(tactic| ((repeat (walk_at "go1")); try dsimp only))
local macro_rules | `(tactic| walk_at "so") => `(tactic| first | omega | (simp; done) | (simp; omega) | (simp at *; omega))
section
variable {P : Program} {w : World} {K : PySem.W.Frag} {mg : Str → Option Value} {base : Heap}
/-! lines of one pace; comparisons of texts and pairs -/
theorem _root_.Bk.eqD (K0 : PySem.W.Frag) {X : Cx} (hu : X.A.units + 64 < cLine) (h : X.K = K0 := by rfl) : OpR X (compareOp .Eq) (rEqD K0) := h ▸ op_eqD hu
theorem _root_.Bk.neD (K0 : PySem.W.Frag) {X : Cx} (hu : X.A.units + 64 < cLine) (h : X.K = K0 := by rfl) : OpR X (compareOp .NotEq) (rNeD K0) := h ▸ op_neD hu
theorem _root_.Bk.pi_listI (K0 : PySem.W.Frag) {X : Cx} {tg e : Expr} {tl : TE} (he : PE X e tl) (h : X.K = K0 := by rfl) : PI X tg e (iList K0 tl) := h ▸ pi_list he
theorem dpI {K : PySem.W.Frag} {H : Hp} : ∀ xs : List Int, DpAll K H (xs.map V.int) (xs.map PyData.int)
  | [] => .nil
  | x :: xs => .cons (.int x) (dpI xs)
theorem eqvI (ns ms : List Int) : PyData.eqvAll (ns.map PyData.int) (ms.map PyData.int) = decide (ns = ms) := PySem.W.ked_eqvAll ns ms
theorem shI (xs : List Int) : SeqAt.shaped (.list (xs.map PyData.int)) = true := PySem.W.ke_shaped_ints xs
theorem go_eqI {K : PySem.W.Frag} {H : Hp} {a b : Addr} {xs ys : List Int} {Q : VK} (h : SqL K H a (xs.map V.int)) (h' : SqL K H b (ys.map V.int)) (q : Q (.bl (decide (xs = ys))) H) : rEqD K (.ref a) (.ref b) H Q :=
  ⟨_, _, .lst h (dpI xs), .lst h' (dpI ys), shI xs, shI ys, by show Q (.bl (PyData.eqvAll _ _)) H; rw [eqvI]; exact q⟩
theorem go_neI {K : PySem.W.Frag} {H : Hp} {a b : Addr} {xs ys : List Int} {Q : VK} (h : SqL K H a (xs.map V.int)) (h' : SqL K H b (ys.map V.int)) (q : Q (.bl (!decide (xs = ys))) H) : rNeD K (.ref a) (.ref b) H Q :=
  ⟨_, _, .lst h (dpI xs), .lst h' (dpI ys), shI xs, shI ys, by show Q (.bl (!PyData.eqvAll _ _)) H; rw [eqvI]; exact q⟩
section
variable {P : Program} {w : World} {K : PySem.W.Frag} {mg : Str → Option Value} {base : Heap} {x qual : Str} {params : Arguments} {body : List Stmt} {scope : Scope} {kws : List (Str × V)} {f : Addr} {fd : FuncData} {N ps : List Str} {k : Nat} {sp : Sp}
theorem fo_of (F : FunD K x qual params body scope [] kws f fd) (S : FnScope N ps scope) (len : ∀ vs H Q E, sp vs H Q E → vs.length = ps.length)
    (h : ∀ (cdv : Value) (A : Around) (outer : List Env) (s : Shared) (H : Hp) (vs : List V) (Q : VK) (E : XK), Room k (A.deeper (envOfC qual scope s.heap.objs.size f cdv)) → sp vs H Q E →
      ∃ t, PSs (Cb P w K mg base N qual scope f cdv A outer s H E).nox body t ∧ t { nx := fun _ H' => Q .non H', rt := Q } (start N vs) H) : FnOk P w K mg base (L2.CX P w) (k + 1) f fd ps sp :=
  F.ok S len fun cdv A outer s H vs Q E hr hs => by
    obtain ⟨t, h1, h2⟩ := h cdv A outer s H vs Q E hr hs
    exact ⟨t, h1.nox, h2⟩
end
theorem letters_small : ∀ c ∈ letters, c < 0x110000 := by decide +kernel
theorem nm_ok {z : Str} (h : nmB z = true) : PyData.strOk z = true := by
  unfold nmB at h
  rw [Bool.and_eq_true] at h
  unfold PyData.strOk
  rw [← Array.all_toList, List.all_eq_true]
  intro c hc
  have := List.all_eq_true.mp h.2 c hc
  exact decide_eq_true (letters_small c (of_decide_eq_true this))

theorem eqvS : ∀ l : List Str, PyData.eqvAll (l.map PyData.str) (l.map PyData.str) = true
  | [] => rfl
  | x :: l => by
    have := eqvS l
    simp only [List.map_cons, PyData.eqvAll, this, Bool.and_true]
    simp [PyData.eqv]
theorem layS : ∀ l : List Str, (∀ z ∈ l, PyData.strOk z = true) → PyData.canLayAll0 (l.map PyData.str) = true ∧ PyData.depthAll (l.map PyData.str) ≤ 0
  | [], _ => ⟨rfl, by simp [PyData.depthAll]⟩
  | x :: l, h => by
    obtain ⟨a, b⟩ := layS l fun q hq => h q (by simp [hq])
    refine ⟨by simp [PyData.canLayAll0, PyData.canLay0, a, h x (by simp)], ?_⟩
    simp only [List.map_cons, PyData.depthAll, PyData.depth]
    omega
theorem shS {l : List Str} (h : ∀ z ∈ l, PyData.strOk z = true) : SeqAt.shaped (.list (l.map PyData.str)) = true ∧ SeqAt.shaped (.tuple (l.map PyData.str)) = true := by
  obtain ⟨a, b⟩ := layS l h
  unfold SeqAt.shaped
  rw [Bool.and_eq_true, decide_eq_true_iff, Bool.and_eq_true, decide_eq_true_iff]
  refine ⟨⟨by simpa [PyData.canLay0] using a, ?_⟩, ⟨by simpa [PyData.canLay0] using a, ?_⟩⟩ <;>
  · simp only [PyData.depth]
    omega
theorem dpS {K : PySem.W.Frag} {H : Hp} : ∀ xs : List Str, DpAll K H (xs.map V.str) (xs.map PyData.str)
  | [] => .nil
  | x :: xs => .cons (.str x) (dpS xs)
theorem go_neS {K : PySem.W.Frag} {H : Hp} {a b : Addr} {xs : List Str} {Q : VK} (hx : ∀ z ∈ xs, PyData.strOk z = true) (h : SqL K H a (xs.map V.str)) (h' : SqL K H b (xs.map V.str)) (q : Q (.bl false) H) : rNeD K (.ref a) (.ref b) H Q :=
  ⟨_, _, .lst h (dpS xs), .lst h' (dpS xs), (shS hx).1, (shS hx).1, by show Q (.bl (!PyData.eqvAll _ _)) H; rw [eqvS]; exact q⟩
theorem go_neT {K : PySem.W.Frag} {H : Hp} {a b : Addr} {xs : List Str} {Q : VK} (hx : ∀ z ∈ xs, PyData.strOk z = true) (h : SqT K H a (xs.map V.str)) (h' : SqT K H b (xs.map V.str)) (q : Q (.bl false) H) : rNeD K (.ref a) (.ref b) H Q :=
  ⟨_, _, .tup h (dpS xs), .tup h' (dpS xs), (shS hx).2, (shS hx).2, by show Q (.bl (!PyData.eqvAll _ _)) H; rw [eqvS]; exact q⟩
/-! rows of pairs (int, text) -/
def RowsI (H : Hp) (rx : List Addr) (l : List (Int × Str)) : Prop := rx.length = l.length ∧ ∀ (i : Nat) (p : Int × Str), l[i]? = some p → ∃ t, rx[i]? = some t ∧ H t = some (.tup [.int p.1, .str p.2])
theorem RowsI.keep {H H' : Hp} {rx : List Addr} {l : List (Int × Str)} (h : RowsI H rx l) (e : Same H H') : RowsI H' rx l := ⟨h.1, fun i p q => by
  obtain ⟨t, h1, h2⟩ := h.2 i p q
  exact ⟨t, h1, e _ _ h2⟩⟩
theorem RowsI.app {H : Hp} {r1 r2 : List Addr} {l1 l2 : List (Int × Str)} (h : RowsI H r1 l1) (h' : RowsI H r2 l2) : RowsI H (r1 ++ r2) (l1 ++ l2) := ⟨by simp [h.1, h'.1], fun i p e => by
  by_cases hi : i < l1.length
  · rw [List.getElem?_append_left hi] at e
    obtain ⟨t, a, b⟩ := h.2 i p e
    exact ⟨t, by rw [List.getElem?_append_left (by rw [h.1]; exact hi)]; exact a, b⟩
  · rw [List.getElem?_append_right (by omega)] at e
    obtain ⟨t, a, b⟩ := h'.2 _ p e
    exact ⟨t, by rw [List.getElem?_append_right (by rw [h.1]; omega), h.1]; exact a, b⟩⟩
theorem RowsI.nil {H : Hp} : RowsI H [] [] := ⟨rfl, fun i p e => by simp at e⟩
theorem RowsI.one {H : Hp} {t : Addr} {p : Int × Str} (e : H t = some (.tup [.int p.1, .str p.2])) : RowsI H [t] [p] := ⟨rfl, fun i q h => by
  match i, h with
  | 0, h => cases h; exact ⟨t, rfl, e⟩
  | i + 1, h => simp at h⟩
theorem eqv_is : ∀ S : List (Int × Str), PyData.eqvAll (S.map enc_is) (S.map enc_is) = true
  | [] => rfl
  | p :: S => by
    have := eqv_is S
    simp only [List.map_cons, PyData.eqvAll, this, Bool.and_true]
    simp [enc_is, PyData.eqv, PyData.eqvAll]
theorem lay_is : ∀ S : List (Int × Str), (∀ p ∈ S, PyData.strOk p.2 = true) → PyData.canLayAll0 (S.map enc_is) = true ∧ PyData.depthAll (S.map enc_is) ≤ 1
  | [], _ => ⟨rfl, by simp [PyData.depthAll]⟩
  | p :: S, h => by
    obtain ⟨a, b⟩ := lay_is S fun q hq => h q (by simp [hq])
    have c := h p (by simp)
    refine ⟨by simp [PyData.canLayAll0, PyData.canLay0, enc_is, a, c], ?_⟩
    simp only [List.map_cons, PyData.depthAll, enc_is, PyData.depth]
    omega
theorem sh_is (S : List (Int × Str)) (h : ∀ p ∈ S, PyData.strOk p.2 = true) : SeqAt.shaped (.list (S.map enc_is)) = true := by
  obtain ⟨a, b⟩ := lay_is S h
  unfold SeqAt.shaped
  rw [Bool.and_eq_true, decide_eq_true_iff]
  refine ⟨by simpa [PyData.canLay0] using a, ?_⟩
  simp only [PyData.depth]
  omega
theorem dp_isR {K : PySem.W.Frag} {H : Hp} : ∀ (rx : List Addr) (S : List (Int × Str)), RowsI H rx S → DpAll K H (rx.map V.ref) (S.map enc_is)
  | [], [], _ => .nil
  | [], _ :: _, h => by have := h.1; simp at this
  | _ :: _, [], h => by have := h.1; simp at this
  | t :: rx, p :: S, h => by
    obtain ⟨t', e, b⟩ := h.2 0 p rfl
    cases e
    exact .cons (.tup (.inl (.inl b)) (.cons (.int _) (.cons (.str _) .nil))) (dp_isR rx S ⟨by have := h.1; simpa using this, fun i q hq => h.2 (i + 1) q (by simpa using hq)⟩)
theorem go_eqIS {K : PySem.W.Frag} {H : Hp} {a b : Addr} {r1 r2 : List Addr} {S : List (Int × Str)} {Q : VK} (hx : ∀ p ∈ S, PyData.strOk p.2 = true) (h : H a = some (.lst (r1.map V.ref))) (h1 : RowsI H r1 S) (h' : H b = some (.lst (r2.map V.ref))) (h2 : RowsI H r2 S) (q : Q (.bl true) H) : rEqD K (.ref a) (.ref b) H Q :=
  ⟨_, _, .lst (.inl (.inl h)) (dp_isR r1 S h1), .lst (.inl (.inl h')) (dp_isR r2 S h2), sh_is S hx, sh_is S hx, by show Q (.bl (PyData.eqvAll _ _)) H; rw [eqv_is]; exact q⟩
theorem go_neIS {K : PySem.W.Frag} {H : Hp} {a b : Addr} {r1 r2 : List Addr} {S : List (Int × Str)} {Q : VK} (hx : ∀ p ∈ S, PyData.strOk p.2 = true) (h : H a = some (.lst (r1.map V.ref))) (h1 : RowsI H r1 S) (h' : H b = some (.lst (r2.map V.ref))) (h2 : RowsI H r2 S) (q : Q (.bl false) H) : rNeD K (.ref a) (.ref b) H Q :=
  ⟨_, _, .lst (.inl (.inl h)) (dp_isR r1 S h1), .lst (.inl (.inl h')) (dp_isR r2 S h2), sh_is S hx, sh_is S hx, by show Q (.bl (!PyData.eqvAll _ _)) H; rw [eqv_is]; exact q⟩
theorem RowsC.toI {H : Hp} {rx : List Addr} {done : List (Nat × Nat)} {nms : List Str} (h : RowsC H rx done nms) {S : List (Int × Str)} (e : done.map (fun c => ((c.1 : Int), nms.getD c.2 ("" : Str))) = S) : RowsI H rx S := by
  subst e
  refine ⟨by simp [h.1], fun i p hp => ?_⟩
  obtain ⟨c, hc, rfl⟩ := map_at hp
  obtain ⟨t, z, a, hz, ht⟩ := h.2 i c hc
  refine ⟨t, a, ?_⟩
  rw [ht]
  simp [List.getD, hz]
/-! one pace -/
theorem mulS (c : Int) (n : Nat) : c * ((n + 1 : Nat) : Int) = c * (n : Int) + c := by rw [Int.natCast_add, Int.mul_add]; simp
theorem cst_en {d : Nat → Int} {M : Nat} {c : Int} (h0 : 0 ≤ c) (hM : 1 ≤ M) (hd : ∀ i, i ≤ M → d i = c) : ∀ b p, p ≤ M → Mt.En d M b p = c * ((p + 1 + 2 * b : Nat) : Int) := by
  intro b
  induction b with
  | zero =>
    intro p
    induction p with
    | zero =>
      intro _
      rw [Mt.En_00, hd 0 (by omega)]
      simp
    | succ p ih =>
      intro hp
      rw [Mt.En_0s, ih (by omega), hd _ hp, ← mulS]
  | succ b ih =>
    intro p
    induction p with
    | zero =>
      intro _
      rw [Mt.En_s0, Nat.min_eq_left hM, ih 1 hM, hd 0 (by omega), ← mulS]
      congr 2
      omega
    | succ p ihp =>
      intro hp
      rw [Mt.En_ss, ihp (by omega), ih _ (Nat.min_le_right _ _), hd _ hp, Int.max_eq_left (Int.mul_le_mul_of_nonneg_left (by omega) h0), ← mulS]
      congr 2
      omega
def PP (zs : List Str) (c : Int) : List Pr := zs.map fun z => (z, c)
theorem PP_len (zs : List Str) (c : Int) : (PP zs c).length = zs.length := by simp [PP]
theorem PP_names (zs : List Str) (c : Int) : (PP zs c).map (·.1) = zs := by
  unfold PP
  rw [List.map_map]
  exact List.map_id _
theorem PP_app (a b : List Str) (c : Int) : PP (a ++ b) c = PP a c ++ PP b c := by simp [PP]
/-- all durations are c -/
structure Cst (ps : List Pr) (c : Int) : Prop where
  h0 : 0 ≤ c
  h3 : 3 ≤ ps.length
  d : ∀ i, i + 1 < ps.length → dd (dsOf ps) i = c
theorem PP_cst {zs : List Str} {c : Int} (h0 : 0 ≤ c) (h3 : 3 ≤ zs.length) : Cst (PP zs c) c := by
  refine ⟨h0, by rw [PP_len]; exact h3, fun i hi => ?_⟩
  rw [PP_len] at hi
  have at_ : ∀ j, j < zs.length → pc (PP zs c) j = c := fun j hj => pc_at (show (PP zs c)[j]? = some (zs[j], c) by simp [PP, hj])
  rw [dd_pc _ (by rw [PP_len]; exact hi), at_ i (by omega), at_ (i + 1) hi]
  omega
theorem Cst.pace {ps : List Pr} {c : Int} (h : Cst ps c) : paceOf ps = 2 * c := by
  obtain ⟨i, hi, e⟩ := pace_at h.h3
  have h1 := h.d i (by omega)
  have h2 := h.d (i + 1) hi
  rw [e, ← tn_vl ps hi]
  unfold Mt.tn
  omega
theorem Cst.at {ps : List Pr} {c : Int} (h : Cst ps c) {i : Nat} (h1 : 1 ≤ i) (h2 : i < ps.length) (b : Nat) : Cm (dsOf ps) b i = c * ((i + 2 * b : Nat) : Int) := by
  have hl := dsOf_len ps
  have h3 := h.h3
  unfold Cm
  rw [if_neg (by omega), cst_en h.h0 (by omega) (fun i hi => h.d i (by omega)) b (i - 1) (by omega)]
  congr 2
  omega
theorem Cst.steady {ps : List Pr} {c B : Int} (h : Cst ps c) (hB : SteadyAll (dsOf ps) B) : B = 0 := by
  have hl := dsOf_len ps
  have h3 := h.h3
  have e1 : Mt.Lm (dd (dsOf ps)) (tN (dsOf ps).length) = 2 * c := by rw [hl]; exact h.pace
  have := (hB.2.2 0).mpr fun p hp => by
    rw [e1, cst_en h.h0 (by omega) (fun i hi => h.d i (by omega)) _ p (by omega), cst_en h.h0 (by omega) (fun i hi => h.d i (by omega)) _ p (by omega), show p + 1 + 2 * (0 + 1) = (p + 1 + 2 * 0) + 1 + 1 by omega, mulS, mulS]
    exact (fun x : Int => (by omega : x + c + c = x + 2 * c)) _
  have := hB.1
  omega
theorem PP_perm {zs : List Str} {c : Int} {qs : List Pr} (h : qs.Perm (PP zs c)) : ∃ ys, qs = PP ys c ∧ ys.length = zs.length := by
  refine ⟨qs.map (·.1), ?_, by rw [List.length_map, h.length_eq, PP_len]⟩
  unfold PP
  rw [List.map_map]
  have : ∀ q ∈ qs, (((fun z => (z, c)) ∘ fun x : Pr => x.fst) q) = id q := fun q hq => by
    obtain ⟨z, _, rfl⟩ := List.mem_map.mp (h.mem_iff.mp hq)
    rfl
  rw [List.map_congr_left this, List.map_id]
/-- where the order as it stands will do, it is the first -/
theorem FO_id {v : Int} : ∀ (p2 p1 p : List Pr), FO p1 p2 v p → p.Perm p2 → compl p1 p2 v → p = p2
  | [], p1, p, _, hp, _ => hp.eq_nil
  | x :: r, p1, [], _, hp, _ => absurd hp.symm.eq_nil (by simp)
  | x :: r, p1, y :: p, h, hp, hc => by
    obtain ⟨j, hj, hn, hf⟩ := h
    by_cases c : j = 0
    · subst c
      have : x = y := by simpa using hj
      subst this
      have := FO_id r (p1 ++ [x]) p (by simpa using hf) (List.Perm.cons_inv hp) ((compl_cons _ _ _ _).mp hc).2
      rw [this]
    · exact absurd hc (hn 0 (by omega) x rfl r (by simp))
def L12 : List Str := ["a", "b", "c", "d", "e", "f", "g", "h", "i", "j", "k", "l"]
theorem good_LZ {c : Int} (h1 : 1 ≤ c) (h2 : c ≤ 1000) : Good (PP (L12.take 11 ++ [("z" : Str)]) c) := by
  refine ⟨by rw [PP_len]; decide, by rw [PP_len]; decide, fun p hp => ?_, fun p hp => ?_, by rw [PP_names]; decide +kernel⟩
  · obtain ⟨z, hz, rfl⟩ := List.mem_map.mp hp
    exact (by decide +kernel : ∀ z ∈ L12.take 11 ++ [("z" : Str)], nmB z = true) z hz
  · obtain ⟨z, hz, rfl⟩ := List.mem_map.mp hp
    exact ⟨h1, h2⟩
theorem good_L {c : Int} (h1 : 1 ≤ c) (h2 : c ≤ 1000) {k : Nat} (k2 : 2 ≤ k) (k1 : k ≤ 11) : Good (PP (L12.take k) c) :=
  (good_LZ h1 h2).sub (List.Sublist.map _ ((by
    have : L12.take k = (L12.take 11).take k := by rw [List.take_take, Nat.min_eq_left k1]
    rw [this]
    exact (List.take_sublist _ _).trans (List.sublist_append_left _ _)))) (by rw [PP_len, List.length_take]; show 2 ≤ min k 12; omega)
theorem good_Lz {c : Int} (h1 : 1 ≤ c) (h2 : c ≤ 1000) {k : Nat} (k2 : 1 ≤ k) (k1 : k ≤ 11) : Good (PP (L12.take k ++ [("z" : Str)]) c) :=
  (good_LZ h1 h2).sub (List.Sublist.map _ (by
    have : L12.take k = (L12.take 11).take k := by rw [List.take_take, Nat.min_eq_left k1]
    rw [this]
    exact (List.take_sublist _ _).append (List.Sublist.refl _))) (by rw [PP_len, List.length_append, List.length_take]; show 2 ≤ min k 12 + 1; omega)

end
end K
namespace K
open PySem PySem.Spec PyProof.Rows L2 Bk
local macro_rules | `(tactic| walk_at "go1") => `(tactic| (first
  | ((with_reducible show tVar _ _ _ _); refine go_var rfl ?_)
  | (with_reducible first | refine go_c ?_ | refine go_op ?_ | refine go_cons ?_ | refine go_nil ?_ | refine go_cb ?_ | refine go_cl ?_ | refine go_seq ?_ | refine go_asg ?_ | refine go_name ?_ | refine go_ifS ?_ | refine go_test ?_ | refine go_bl ?_)
  | (with_reducible first | refine go_rI0 ?_ | refine go_rU ?_ | refine go_ret ?_ | refine go_next ?_ | refine go_B ?_ | refine go_and ?_ | refine go_or ?_ | refine go_not ?_ | refine go_if ?_ | refine go_andV ?_ | refine go_orV ?_ | refine go_notV ?_)
  | ((with_reducible show rEq _ _ _ _); refine go_rEq rfl ?_)
  | ((with_reducible show rNe _ _ _ _); refine go_rNe rfl ?_)
  | (with_reducible first | refine go_un ?_ | refine go_chain ?_ | refine go_drop ?_ | refine go_retN ?_ | refine go_isN ?_ | refine go_notN ?_ | refine go_cont ?_ | refine go_break ?_ | refine go_par ?_ | refine go_two ?_ | refine go_part ?_ | refine go_noPart ?_ | refine go_int ?_ | refine go_sl ?_ | refine go_yes ?_ | refine go_tup ?_ | refine go_lst ?_)
  | (with_reducible first | refine go_gCons ?_ | refine go_gNil ?_ | refine go_for ?_ | refine go_iEnT ?_ | refine go_iEnum ?_ | refine go_iList ?_ | refine go_iTup ?_ | refine go_iStr ?_ | refine go_iRng1 ?_ | refine go_iRng2 ?_ | refine go_iZip ?_ | refine go_lc ?_ | refine go_mkR ?_ | refine go_mkS ?_ | refine go_clO ?_ | refine go_pr ?_ | refine go_sfld ?_ | refine go_bm ?_ | refine go_ref ?_)))
local macro_rules | `(tactic| walk_at "go") => `(tactic| ((repeat (walk_at "go1")); try dsimp only))
local macro_rules | `(tactic| walk_at "so") => `(tactic| first | omega | (simp; done) | (simp; omega) | (simp at *; omega))
section
variable {P : Program} {w : World} {K : PySem.W.Frag} {mg : Str → Option Value} {base : Heap}
/-! texts of lines -/
open TL
def pw (n : Int) : Str := Str.ofString (toString n)
def rowT (p : Pr) : Str := p.1 ++ (" " : Str) ++ pw p.2
def textOf (ps : List Pr) : Str := Txt.join ("\n" : Str) (ps.map rowT)
theorem pw_nat (n : Nat) : tl (pw (n : Int)) = (Nat.toDigits 10 n).map Char.toNat := PySem.W.KIN.signs_num n
theorem pw_dig {n : Int} (h0 : 0 ≤ n) : ∀ c ∈ tl (pw n), 48 ≤ c ∧ c ≤ 57 := by
  obtain ⟨m, rfl⟩ := Int.eq_ofNat_of_zero_le h0
  intro c hc
  rw [pw_nat] at hc
  obtain ⟨ch, hch, rfl⟩ := List.mem_map.mp hc
  have h := Nat.isDigit_of_mem_toDigits (by decide) (by decide) hch
  unfold Char.isDigit at h
  simp only [ge_iff_le, Bool.and_eq_true, decide_eq_true_eq] at h
  exact ⟨h.1, h.2⟩
theorem dg_len : ∀ n : Nat, n ≤ 1000 → (Nat.toDigits 10 n).length ≤ 4 ∧ 1 ≤ (Nat.toDigits 10 n).length := by decide +kernel
theorem pw_len {n : Int} (h0 : 0 ≤ n) (h1 : n ≤ 1000) : (pw n).length ≤ 4 ∧ 1 ≤ (pw n).length := by
  obtain ⟨m, rfl⟩ := Int.eq_ofNat_of_zero_le h0
  have := dg_len m (by omega)
  rw [len_tl, pw_nat, List.length_map]
  exact this
theorem pw_reads {n : Int} (h0 : 0 ≤ n) (h1 : n ≤ 1000) : PySem.intText? (pw n) = some n := PySem.W.KIN.num_reads h0 (by omega)
theorem lt_bd : ∀ c ∈ letters, 97 ≤ c ∧ c ≤ 122 := by decide +kernel
theorem nm_bd {z : Str} (h : nmB z = true) : ∀ c ∈ tl z, 97 ≤ c ∧ c ≤ 122 := fun c hc => by
  unfold nmB at h
  rw [Bool.and_eq_true] at h
  exact lt_bd c (of_decide_eq_true (List.all_eq_true.mp h.2 c hc))
theorem nm_len {z : Str} (h : nmB z = true) : 1 ≤ z.length ∧ z.length ≤ 8 := by
  unfold nmB at h
  rw [Bool.and_eq_true] at h
  exact of_decide_eq_true h.1
theorem tl_sp : tl (" " : Str) = [32] := by decide +kernel
theorem tl_nl : tl ("\n" : Str) = [10] := by decide +kernel
theorem rowT_tl (p : Pr) : tl (rowT p) = tl p.1 ++ [32] ++ tl (pw p.2) := by
  unfold rowT
  rw [tl_append, tl_append, tl_sp]
theorem rowT_join (p : Pr) : rowT p = Txt.join (" " : Str) [p.1, pw p.2] := by
  rw [join_eq]
  rfl
theorem split_row {p : Pr} (hn : nmB p.1 = true) (h0 : 0 ≤ p.2) : Txt.split (rowT p) (" " : Str) = [p.1, pw p.2] := by
  rw [rowT_join]
  refine split_join (s := 32) (S := []) tl_sp (by decide +kernel) (by simp) fun q hq => ?_
  have : q = p.1 ∨ q = pw p.2 := by simpa using hq
  rcases this with rfl | rfl
  · intro hc
    have := nm_bd hn 32 hc
    omega
  · intro hc
    have := pw_dig h0 32 hc
    omega
theorem split_text {ps : List Pr} (hne : ps ≠ []) (hn : ∀ p ∈ ps, nmB p.1 = true ∧ 0 ≤ p.2) : Txt.split (textOf ps) ("\n" : Str) = ps.map rowT := by
  refine split_join (s := 10) (S := []) tl_nl (by decide +kernel) (by simpa using hne) fun q hq => ?_
  obtain ⟨p, hp, rfl⟩ := List.mem_map.mp hq
  obtain ⟨h1, h2⟩ := hn p hp
  rw [rowT_tl]
  intro hc
  rcases List.mem_append.mp hc with hc | hc
  · rcases List.mem_append.mp hc with hc | hc
    · have := nm_bd h1 10 hc
      omega
    · simp at hc
  · have := pw_dig h2 10 hc
    omega
theorem rowT_len {p : Pr} (hn : nmB p.1 = true) (h0 : 0 ≤ p.2) (h1 : p.2 ≤ 1000) : (rowT p).length ≤ 13 := by
  have a := nm_len hn
  have b := pw_len h0 h1
  rw [len_tl] at a b ⊢
  rw [rowT_tl, List.length_append, List.length_append]
  simp only [List.length_cons, List.length_nil]
  omega
theorem text_len {ps : List Pr} (hn : ∀ p ∈ ps, nmB p.1 = true ∧ 0 ≤ p.2 ∧ p.2 ≤ 1000) : (textOf ps).length ≤ 14 * ps.length ∧ ((ps.map rowT).map (·.length)).sum ≤ 13 * ps.length := by
  have h1 : ((ps.map rowT).map (·.length)).sum ≤ 13 * ps.length := by
    have := PySem.StrLaws.sumLen_le (B := 13) (ps.map rowT) fun y hy => by
      obtain ⟨p, hp, rfl⟩ := List.mem_map.mp hy
      obtain ⟨a, b, c⟩ := hn p hp
      exact rowT_len a b c
    rw [List.length_map] at this
    omega
  refine ⟨?_, h1⟩
  have := PySem.StrLaws.join_length_le ("\n" : Str) (ps.map rowT)
  unfold textOf
  rw [join_eq]
  have e : ("\n" : Str).length = 1 := by decide +kernel
  rw [e, List.length_map] at this
  omega
theorem go_m1 {r : V → List V → Hp → VK → Prop} {to te : TE} {σ : L2.St} {H : Hp} {Q : VK} (h : to σ H fun x H1 => (∃ a, x = .str a) ∧ te σ H1 fun y H2 => r x [y] H2 Q) : tM1 r to te σ H Q := h
def spDigits : Sp := fun vs H Q _ => ∃ n : Int, vs = [.str (pw n)] ∧ 0 ≤ n ∧ n ≤ 1000 ∧ ∀ H', Same H H' → Q (.bl true) H'
def spWrong (K : PySem.W.Frag) : Sp := fun vs H Q _ => ∃ (a : Addr) (z : Str) (n : Int), vs = [.ref a] ∧ H a = some (.lst [.str z, .str (pw n)]) ∧ nmB z = true ∧ 0 ≤ n ∧ n ≤ 1000 ∧ ∀ H', Same H H' → Q .non H'
def spParse (K : PySem.W.Frag) : Sp := fun vs H Q _ => ∃ (N : Addr → Prop) (ps : List Pr), vs = [.str (textOf ps)] ∧ Good ps ∧ (∀ p, H p = Option.none → N p) ∧ ∀ x H', Same H H' → H x = Option.none → LineAt K N H' x ps → Q (.ref x) H'

theorem sc_has_digits_only : FnScope ["word", "sign"] ["word"] (defScope s_has_digits_only) := ⟨rfl, rfl, rfl, by decide +kernel, rfl, by decide +kernel, by decide +kernel⟩
theorem ok_has_digits_only (T : Tx K mg) : Fx P w K mg base 1 (He.ga K "has_digits_only") spDigits := by
  obtain ⟨fd, F⟩ := T.F_has_digits_only
  have nd := sc_has_digits_only.nd
  refine fx_of F sc_has_digits_only (fun vs H Q E h => ?_) (fun _ _ _ _ _ _ us hl => match us, hl with | [_], _ => rfl) fun cdv A outer s H vs Q E hr h => ?_
  · obtain ⟨n, rfl, _⟩ := h
    rfl
  obtain ⟨n, rfl, h0, h1, h⟩ := h
  refine ⟨_, (pss_one (ps_ret (pe_and (pe_cmpR op_gt (cB call_len_str T.m_len (pa_cons (pv 0) pa_nil)) pe_int (nomark _)) (pe_one (cB (cr_all rfl) T.m_all (pa_cons (pe_lc (own := [("sign", 1)]) (g := (gName 1)) rfl nd (pi_str (pv 0)) (blkOk_by (N := ["word", "sign"]) (sc := defScope s_has_digits_only) (own := [("sign", 1)]) (by decide +kernel)) (fun _ _ _ _ _ => (pg_name (i := 1) nd rfl (Or.inl rfl))) (fun _ _ _ _ _ => pts_nil) (fun _ _ _ _ _ => (pe_cmpR op_in_sign (pv 1) (gS T.c_DIGITS) rfl))) pa_nil)))))), ?_⟩
  have hl := pw_len h0 h1
  have hd := pw_dig h0
  walk_at "go"
  refine ⟨_, rfl, Nat.le_trans hl.1 (by decide), ?_⟩
  walk_at "go"
  rw [decide_eq_true (show (0 : Int) < ((pw n).length : Int) by omega)]
  refine iteT ?_
  walk_at "go"
  refine ⟨_, rfl, ?_⟩
  refine lc_fun (walk_str (z := pw n)) (fun _ _ => trivial) (fun i => .bl true) (by have e8 := str_len (pw n); rw [Array.length_toList] at e8; omega) ?_ ?_
  · rintro i x H2 H3 k hi s2 ⟨rfl, c, hc, rfl⟩ hk
    walk_at "go"
    refine ⟨rfl, ?_⟩
    walk_at "go"
    refine ⟨c, _, rfl, rfl, ?_⟩
    have hm : c ∈ tl (pw n) := by
      obtain ⟨a, b⟩ := Array.getElem?_eq_some_iff.mp hc
      rw [← b]
      exact Array.getElem_mem_toList _
    have hcd := hd c hm
    have q := hk _ (Same.refl _)
    rw [decide_eq_true ((by decide +kernel : ∀ c : Nat, c ≤ 57 → 48 ≤ c → c ∈ ("0123456789" : Str).cps.toList) c hcd.2 hcd.1)]
    exact q
  · intro D H2 hD s2 e2
    walk_at "go"
    refine ⟨D, (List.range (pw n).cps.size).map fun i => true, rfl, .inl (.inl (by rw [e2, List.map_map]; rfl)), ?_⟩
    rw [show ((List.range (pw n).cps.size).map fun i => true).all id = true by simp]
    exact h _ s2

theorem sc_is_number : FnScope ["word"] ["word"] (defScope s_is_number) := ⟨rfl, rfl, rfl, by decide +kernel, rfl, by decide +kernel, by decide +kernel⟩
theorem ok_is_number (T : Tx K mg) (D_has_digits_only : Fx P w K mg base 1 (He.ga K "has_digits_only") spDigits) : Fx P w K mg base 2 (He.ga K "is_number") spDigits := by
  have K_has_digits_only : PySem.W.keepIn K (.ref (He.ga K "has_digits_only")) = true := T.F_has_digits_only.elim fun _ q => q.kp
  obtain ⟨fd, F⟩ := T.F_is_number
  have nd := sc_is_number.nd
  refine fx_of F sc_is_number (fun vs H Q E h => ?_) (fun _ _ _ _ _ _ us hl => match us, hl with | [_], _ => rfl) fun cdv A outer s H vs Q E hr h => ?_
  · obtain ⟨n, rfl, _⟩ := h
    rfl
  obtain ⟨n, rfl, h0, h1, h⟩ := h
  refine ⟨_, (pss_one (ps_ret (pe_and (pe_cl D_has_digits_only hr K_has_digits_only T.g_has_digits_only passL (pa_cons (pv 0) pa_nil)) (pe_and (pe_cmpR op_le (cB call_len_str T.m_len (pa_cons (pv 0) pa_nil)) (gI T.c_MAX_DIGITS) (nomark _)) (pe_one (pe_cmpR op_eq (pv 0) (cT call_str_int T.m_str (pa_cons (cT call_int_str T.m_int (pa_cons (pv 0) pa_nil)) pa_nil)) (nomark _))))))), ?_⟩
  have hl := pw_len h0 h1
  walk_at "go"
  refine ⟨n, rfl, h0, h1, fun H1 s1 => ?_⟩
  walk_at "go"
  refine iteT ?_
  walk_at "go"
  refine ⟨_, rfl, Nat.le_trans hl.1 (by decide), ?_⟩
  walk_at "go"
  rw [decide_eq_true (show ((pw n).length : Int) ≤ 4 by omega)]
  refine iteT ?_
  walk_at "go"
  refine ⟨_, n, rfl, pw_reads h0 h1, by omega, ?_⟩
  walk_at "go"
  refine ⟨n, rfl, Nat.lt_of_le_of_lt (Nat.log2_le_self _) (by omega), ?_⟩
  walk_at "go"
  rw [decide_eq_true (show V.str (pw n) = V.str (Str.ofString (toString n)) from rfl)]
  exact h _ s1

theorem sc_wrong_word : FnScope ["words"] ["words"] (defScope s_wrong_word) := ⟨rfl, rfl, rfl, by decide +kernel, rfl, by decide +kernel, by decide +kernel⟩
theorem ok_wrong_word (T : Tx K mg) (D_is_name : Fx P w K mg base 1 (He.ga K "is_name") spIsName) (D_is_number : Fx P w K mg base 2 (He.ga K "is_number") spDigits) : Fx P w K mg base 3 (He.ga K "wrong_word") (spWrong K) := by
  have K_is_name : PySem.W.keepIn K (.ref (He.ga K "is_name")) = true := T.F_is_name.elim fun _ q => q.kp
  have K_is_number : PySem.W.keepIn K (.ref (He.ga K "is_number")) = true := T.F_is_number.elim fun _ q => q.kp
  obtain ⟨fd, F⟩ := T.F_wrong_word
  have nd := sc_wrong_word.nd
  refine fx_of F sc_wrong_word (fun vs H Q E h => ?_) (fun _ _ _ _ _ _ us hl => match us, hl with | [_], _ => rfl) fun cdv A outer s H vs Q E hr h => ?_
  · obtain ⟨a, z, n, rfl, _⟩ := h
    rfl
  obtain ⟨a, z, n, rfl, ea, hz, h0, h1, h⟩ := h
  refine ⟨_, (pss_cons (ps_if (pt_not (pt_val (pe_cl D_is_name hr K_is_name T.g_is_name passL (pa_cons (pe_ix (ixL K) (pv 0) pe_int (fun _ _ => rfl)) pa_nil)))) (pss_one (ps_ret pe_int)) pss_nil) (pss_cons (ps_if (PW.pt (pw_or (pt_cmpR op_lt (cB call_len_seq T.m_len (pa_cons (pv 0) pa_nil)) pe_int (nomark _)) (pw_or1 (pt_not (pt_val (pe_cl D_is_number hr K_is_number T.g_is_number passL (pa_cons (pe_ix (ixL K) (pv 0) pe_int (fun _ _ => rfl)) pa_nil))))))) (pss_one (ps_ret pe_int)) pss_nil) (pss_one (ps_ret (pe_ifExp (pt_cmpR op_gt (cB call_len_seq T.m_len (pa_cons (pv 0) pa_nil)) pe_int (nomark _)) pe_int pe_non))))), ?_⟩
  have hl := nm_len hz
  have ea2 : SqL K H a ([z, pw n].map V.str) := .inl (.inl ea)
  walk_at "go"
  refine go_ixL ea2 (at_nat (i := 0) rfl) ?_
  walk_at "go"
  refine ⟨z, rfl, by omega, fun H1 s1 => ?_⟩
  walk_at "go"
  rw [hz]
  refine iteF ?_
  walk_at "go"
  have ea3 := same_l s1 ea2
  refine ⟨_, _, rfl, .inl ea3, ?_⟩
  walk_at "go"
  refine iteF ?_
  walk_at "go"
  refine go_ixL ea3 (at_nat (i := 1) rfl) ?_
  walk_at "go"
  refine ⟨n, rfl, h0, h1, fun H2 s2 => ?_⟩
  walk_at "go"
  refine iteF ?_
  walk_at "go"
  refine ⟨_, _, rfl, .inl (same_l s2 ea3), ?_⟩
  walk_at "go"
  refine iteF ?_
  walk_at "go"
  exact h _ (s1.trans s2)

theorem sc_parse_line : FnScope ["text", "people", "row", "signs", "words", "wrong"] ["text"] (defScope s_parse_line) := ⟨rfl, rfl, rfl, by decide +kernel, rfl, by decide +kernel, by decide +kernel⟩
theorem ok_parse_line (T : Tx K mg) (D_wrong_word : Fx P w K mg base 3 (He.ga K "wrong_word") (spWrong K)) (D_Lineu_initu : Fx P w K mg base 5 (He.ma K (He.ga K "Line") "__init__") (StSp 1 (spInit K))) : Fx P w K mg base 8 (He.ga K "parse_line") (spParse K) := by
  have K_wrong_word : PySem.W.keepIn K (.ref (He.ga K "wrong_word")) = true := T.F_wrong_word.elim fun _ q => q.kp
  obtain ⟨fd, F⟩ := T.F_parse_line
  have nd := sc_parse_line.nd
  refine fx_of F sc_parse_line (fun vs H Q E h => ?_) (fun _ _ _ _ _ _ us hl => match us, hl with | [_], _ => rfl) fun cdv A outer s H vs Q E hr h => ?_
  · obtain ⟨N, ps, rfl, _⟩ := h
    rfl
  obtain ⟨N, ps, rfl, hG, hN, h⟩ := h
  refine ⟨_, (pss_cons (ps_set (i := 1) nd rfl (Or.inl rfl) (pe_lst pa_nil)) (pss_cons (ps_for PassesOwn.never rfl (pi_enum rfl T.m_enumerate (pa_cons (pe_split (pv 0) pe_str) pa_nil)) (pg_tup (by rfl) (pgs_cons (pg_name (i := 2) nd rfl (Or.inl rfl)) (pgs_cons (pg_name (i := 3) nd rfl (Or.inl rfl)) pgs_nil))) (pss_cons (ps_set (i := 4) nd rfl (Or.inl rfl) (pe_split (pv 3) pe_str)) (pss_cons (ps_set (i := 5) nd rfl (Or.inl rfl) (pe_cl D_wrong_word hr K_wrong_word T.g_wrong_word passL (pa_cons (pv 4) pa_nil))) (pss_cons (ps_if (pt_cmpR op_notN (pv 5) pe_non (nomark _)) (pss_one ps_never) pss_nil) (pss_one (ps_expr (pe_bm PySem.F.plainAttrs_list PySem.F.slot_list_append PySem.F.type_list_append mt_append (pv 1) (pa_cons (pe_tup (pa_cons (pe_ix (ixL K) (pv 4) pe_int (fun _ _ => rfl)) (pa_cons (cT call_int_str T.m_int (pa_cons (pe_ix (ixL K) (pv 4) pe_int (fun _ _ => rfl)) pa_nil)) pa_nil))) pa_nil)))))))) (pss_one (ps_ret (pe_mkS T.mk_Line D_Lineu_initu hr T.g_Line passL (pv 1)))))), ?_⟩
  have h2 := hG.two
  have hm := hG.most
  have hb : ∀ p ∈ ps, nmB p.1 = true ∧ 0 ≤ p.2 ∧ p.2 ≤ 1000 := fun p hp => ⟨hG.nm p hp, by have := hG.pc p hp; omega, (hG.pc p hp).2⟩
  have htl := (text_len hb).1
  walk_at "go"
  refine ⟨Nat.zero_le _, fun x hx => ?_⟩
  have sx := same_upd (o := .lst []) hx
  have ex0 : (upd H x (.lst [])) x = some (.lst (([] : List Addr).map V.ref)) := upd_same
  generalize upd H x (.lst []) = H1 at sx ex0 ⊢
  walk_at "go"
  refine go_m1 ?_
  walk_at "go"
  refine ⟨⟨_, rfl⟩, ?_⟩
  walk_at "go"
  refine ⟨_, _, rfl, rfl, by decide +kernel, Nat.le_trans (show (textOf ps).length + 2 ≤ 1000 by omega) (by decide), fun q hq => ?_⟩
  rw [split_text (fun z => by rw [z] at h2; simp at h2) fun p hp => ⟨(hb p hp).1, (hb p hp).2.1⟩]
  have sq := same_upd (o := .lst ((ps.map rowT).map V.str)) hq
  have eq : (upd H1 q (.lst ((ps.map rowT).map V.str))) q = some (.lst ((ps.map rowT).map V.str)) := upd_same
  have hqx : q ≠ x := fun z => by rw [z, ex0] at hq; cases hq
  generalize upd H1 q (.lst ((ps.map rowT).map V.str)) = H2 at sq eq ⊢
  walk_at "go"
  refine ⟨q, _, rfl, .inl (.inl eq), ?_⟩
  refine for_w (walk_enum (xs := (ps.map rowT).map V.str)) (fun i σ H' => FrD x H2 H' ∧ (∃ rx, H' x = some (.lst (rx.map V.ref)) ∧ Rows (fun b => b ≠ x) H' rx (ps.take i)) ∧ ∃ u2 u3 u4 u5, σ = [some (.str (textOf ps)), some (.ref x), u2, u3, u4, u5]) ⟨FrD.refl, ⟨[], sq _ _ ex0, ⟨rfl, fun i p hp => by simp at hp⟩⟩, _, _, _, _, rfl⟩ (fun i σ H' _ p => .inl (.inl (p.1 _ _ hqx eq))) ?_ ?_
  · rintro i y σ Ha Hb hi ⟨fa, ⟨rx, ex, Rx⟩, u2, u3, u4, u5, rfl⟩ ⟨T', y1, y2, rfl, hT, rfl, e4, e5⟩
    cases e4
    obtain ⟨r, hr, rfl⟩ := map_at e5
    obtain ⟨p, hp, rfl⟩ := map_at hr
    have hip : i < ps.length := (List.getElem?_eq_some_iff.mp hp).1
    have hpm := List.mem_of_getElem? hp
    obtain ⟨b1, b2, b3⟩ := hb p hpm
    have hrl := Rx.1
    rw [List.length_take] at hrl
    have sb : Same Ha (upd Ha T' (.tup [V.int (i : Nat), V.str (rowT p)])) := same_upd hT
    refine go_gTup (.inl (.inl upd_same)) rfl ?_
    generalize upd Ha T' (.tup [V.int (i : Nat), V.str (rowT p)]) = Hb at sb ⊢
    walk_at "go"
    refine go_m1 ?_
    walk_at "go"
    refine ⟨⟨_, rfl⟩, ?_⟩
    walk_at "go"
    have hrow := rowT_len b1 b2 b3
    refine ⟨_, _, rfl, rfl, by decide +kernel, Nat.le_trans (show (rowT p).length + 2 ≤ 1000 by omega) (by decide), fun w hw => ?_⟩
    rw [split_row b1 b2]
    have sw := same_upd (o := .lst ([p.1, pw p.2].map V.str)) hw
    have ew : (upd Hb w (.lst ([p.1, pw p.2].map V.str))) w = some (.lst [.str p.1, .str (pw p.2)]) := upd_same
    generalize upd Hb w (.lst ([p.1, pw p.2].map V.str)) = Hc at sw ew ⊢
    walk_at "go"
    refine ⟨w, p.1, p.2, rfl, ew, b1, b2, b3, fun Hd sd => ?_⟩
    walk_at "go"
    refine ⟨rfl, ?_⟩
    walk_at "go"
    refine iteF ?_
    walk_at "go"
    have sad := sb.trans (sw.trans sd)
    have ewd : SqL K Hd w ([p.1, pw p.2].map V.str) := .inl (.inl (sd _ _ ew))
    refine ⟨ty_lst (sad _ _ ex), ?_⟩
    walk_at "go"
    refine go_ixL ewd (at_nat (i := 0) rfl) ?_
    walk_at "go"
    refine go_ixL ewd (at_nat (i := 1) rfl) ?_
    walk_at "go"
    refine ⟨_, p.2, rfl, pw_reads b2 b3, by have := pw_len b2 b3; omega, ?_⟩
    walk_at "go"
    refine ⟨show 2 ≤ sizeLine by decide, fun t ht => ?_⟩
    have st := same_upd (o := .tup [V.str p.1, V.int p.2]) ht
    have et : (upd Hd t (.tup [V.str p.1, V.int p.2])) t = some (.tup [V.str p.1, V.int p.2]) := upd_same
    have htx : t ≠ x := fun z => by rw [z, sad _ _ ex] at ht; cases ht
    generalize upd Hd t (.tup [V.str p.1, V.int p.2]) = He at st et ⊢
    walk_at "go"
    have exe := (sad.trans st) _ _ ex
    refine ⟨x, _, _, rfl, rfl, exe, by rw [List.length_map]; exact Nat.lt_of_lt_of_le (show rx.length < 1000 by omega) (by decide), ?_⟩
    rw [show rx.map V.ref ++ [V.ref t] = (rx ++ [t]).map V.ref by simp]
    generalize hW : upd He x (.lst ((rx ++ [t]).map V.ref)) = W
    have fW : FrD x He W := hW ▸ frd_upd
    have eW : W x = some (.lst ((rx ++ [t]).map V.ref)) := hW ▸ upd_same
    walk_at "go"
    refine ⟨fun b u n e => fW _ _ n ((sad.trans st) _ _ (fa b u n e)), ⟨rx ++ [t], eW, ?_⟩, _, _, _, _, rfl⟩
    rw [List.take_succ_eq_append_getElem hip, (List.getElem?_eq_some_iff.mp hp).2]
    refine Rows.mono (frn_frd fW fun a ha => ha) ((Rx.mono (frn_same (sad.trans st))).app ⟨rfl, fun k q hq => ?_⟩)
    match k, hq with
    | 0, hq => cases hq; exact ⟨t, rfl, htx, et⟩
    | k + 1, hq => simp at hq
  · rintro σ Ha ⟨fa, ⟨rx, ex, Rx⟩, u2, u3, u4, u5, rfl⟩
    rw [List.length_map, List.length_map, List.take_length] at Rx
    walk_at "go"
    have sHa : Same H Ha := fun b u e => fa _ _ (ne_of_none e hx) (sq _ _ (sx _ _ e))
    refine ⟨x, _, rfl, .inr (.inl (.inl ex)), ?_⟩
    refine mk_ok (fun q hq => hN q (sHa.free hq)) rfl (Rx.weak (M := fun _ => True) fun _ _ => trivial) hG fun y H5 s5 hy hL => h y H5 (sHa.trans s5) (sHa.free hy) hL

end
end K
namespace K
open PySem PySem.Spec PyProof.Rows L2 Bk
local macro_rules | `(tactic| walk_at "go1") => `(tactic| (first
  | ((with_reducible show tVar _ _ _ _); refine go_var rfl ?_)
  | (with_reducible first | refine go_c ?_ | refine go_op ?_ | refine go_cons ?_ | refine go_nil ?_ | refine go_cb ?_ | refine go_cl ?_ | refine go_seq ?_ | refine go_asg ?_ | refine go_name ?_ | refine go_ifS ?_ | refine go_test ?_ | refine go_bl ?_)
  | (with_reducible first | refine go_rI0 ?_ | refine go_rU ?_ | refine go_ret ?_ | refine go_next ?_ | refine go_B ?_ | refine go_and ?_ | refine go_or ?_ | refine go_not ?_ | refine go_if ?_ | refine go_andV ?_ | refine go_orV ?_ | refine go_notV ?_)
  | ((with_reducible show rEq _ _ _ _); refine go_rEq rfl ?_)
  | ((with_reducible show rNe _ _ _ _); refine go_rNe rfl ?_)
  | (with_reducible first | refine go_un ?_ | refine go_chain ?_ | refine go_drop ?_ | refine go_retN ?_ | refine go_isN ?_ | refine go_notN ?_ | refine go_cont ?_ | refine go_break ?_ | refine go_par ?_ | refine go_two ?_ | refine go_part ?_ | refine go_noPart ?_ | refine go_int ?_ | refine go_sl ?_ | refine go_yes ?_ | refine go_tup ?_ | refine go_lst ?_)
  | (with_reducible first | refine go_gCons ?_ | refine go_gNil ?_ | refine go_for ?_ | refine go_iEnT ?_ | refine go_iEnum ?_ | refine go_iList ?_ | refine go_iTup ?_ | refine go_iStr ?_ | refine go_iRng1 ?_ | refine go_iRng2 ?_ | refine go_iZip ?_ | refine go_lc ?_ | refine go_mkR ?_ | refine go_mkS ?_ | refine go_clO ?_ | refine go_pr ?_ | refine go_sfld ?_ | refine go_bm ?_ | refine go_ref ?_)))
local macro_rules | `(tactic| walk_at "go") => `(tactic| ((repeat (walk_at "go1")); try dsimp only))
local macro_rules | `(tactic| walk_at "so") => `(tactic| first | omega | (simp; done) | (simp; omega) | (simp at *; omega))
section
variable {P : Program} {w : World} {K : PySem.W.Frag} {mg : Str → Option Value} {base : Heap}
/-! numbers and people, drawn from a list of one's own -/
abbrev NN (s L : Addr) : Addr → Prop := fun b => b ≠ s ∧ b ≠ L
def HSt (H : Hp) (s L : Addr) : Prop := ∃ (c0 c2 : Int) (cs : List Int), H s = some (.lst [.int c0, .ref L, .int c2]) ∧ H L = some (.lst (cs.map V.int)) ∧ L ≠ s ∧ 0 ≤ c2 ∧ cs.length ≤ 63
theorem HSt.keep {H H' : Hp} {s L : Addr} (h : HSt H s L) (e : Same H H') : HSt H' s L := by
  obtain ⟨c0, c2, cs, a, b, c⟩ := h
  exact ⟨c0, c2, cs, e _ _ a, e _ _ b, c⟩
theorem HSt.ne {H : Hp} {s L D : Addr} (h : HSt H s L) (hD : H D = Option.none) : NN s L D := by
  obtain ⟨c0, c2, cs, a, b, c⟩ := h
  refine ⟨fun z => ?_, fun z => ?_⟩
  · rw [z, a] at hD
    cases hD
  · rw [z, b] at hD
    cases hD
theorem HSt.frd {H H' : Hp} {s L D : Addr} (h : HSt H s L) (f : FrD D H H') (n : NN s L D) : HSt H' s L := by
  obtain ⟨c0, c2, cs, a, b, c⟩ := h
  exact ⟨c0, c2, cs, f _ _ n.1.symm a, f _ _ n.2.symm b, c⟩
theorem ixN_int {n : Nat} {k : Int} (h0 : 0 ≤ k) (h1 : k < (n : Int)) : ixN n k = some k.toNat := by
  unfold ixN
  rw [if_pos (by omega), if_pos (by omega)]
def spMix (K : PySem.W.Frag) : Sp := fun vs H Q _ => ∃ (z : Prop) (sc : Addr) (ns : List Int) (seed : Int), vs = [.ref sc, .int seed] ∧ ScAt z K H sc ns ∧ ns.length ≤ 63 ∧ ∀ s L H', Same H H' → H s = Option.none → H L = Option.none → HSt H' s L → Q (.ref s) H'
def spNext (K : PySem.W.Frag) : Sp := fun vs H Q _ => ∃ (s L : Addr) (n : Int), vs = [.ref s, .int n] ∧ 0 < n ∧ n < 2 ^ 100 ∧ HSt H s L ∧ ∀ (y : Int) H', FrN (NN s L) H H' → HSt H' s L → 0 ≤ y → y < n → Q (.int y) H'
def nm9 : List Str := ["ann", "bo", "cy", "dot", "eve", "fay", "gus", "hal", "ida"]
theorem nm9_ok : ∀ z ∈ nm9, nmB z = true := by decide +kernel
theorem nm9_nd : nm9.Nodup := by decide +kernel
theorem people9 {ps : List Pr} {ls : List Str} (h : (ps.map (·.1) ++ ls).Perm nm9) (h2 : 2 ≤ ps.length) (h3 : ps.length ≤ 12) (hp : ∀ p ∈ ps, 1 ≤ p.2 ∧ p.2 ≤ 1000) : Good ps := by
  have mem : ∀ p ∈ ps, p.1 ∈ nm9 := fun p q => h.mem_iff.mp (List.mem_append_left _ (List.mem_map.mpr ⟨p, q, rfl⟩))
  refine ⟨h2, h3, fun p q => nm9_ok _ (mem p q), hp, ?_⟩
  exact (List.nodup_append.mp (h.nodup_iff.mpr nm9_nd)).1
def spPeople9 (K : PySem.W.Frag) : Sp := fun vs H Q _ => ∃ (s L : Addr) (most high : Int), vs = [.ref s, .int most, .int high] ∧ 2 ≤ most ∧ most ≤ 9 ∧ 1 ≤ high ∧ high ≤ 1000 ∧ HSt H s L ∧
  ∀ D H' rs ps, FrN (NN s L) H H' → HSt H' s L → H D = Option.none → H' D = some (.lst (rs.map V.ref)) → Rows (NN s L) H' rs ps → Good ps → (ps.length : Int) ≤ most → (∀ p ∈ ps, p.2 ≤ high) → Q (.ref D) H'
theorem nth_app {cs : List Int} {k : Nat} (h : k < max 1 cs.length) : ∃ v : Int, (cs.map V.int ++ [V.int 0])[k]? = some (.int v) ∧ (cs = [] → v = 0) := by
  by_cases hk : k < cs.length
  · exact ⟨cs[k], by rw [List.getElem?_append_left (by simpa using hk)]; simp [hk], fun z => by subst z; simp at hk⟩
  · have e : cs = [] := List.eq_nil_of_length_eq_zero (by omega)
    subst e
    have : k = 0 := by simp at h; omega
    subst this
    exact ⟨0, rfl, fun _ => rfl⟩

theorem sc__law_mix : FnScope ["_law_script", "_law_seed", "_law_state", "_law_cell"] ["_law_script", "_law_seed"] (defScope s__law_mix) := ⟨rfl, rfl, rfl, by decide +kernel, rfl, by decide +kernel, by decide +kernel⟩
theorem ok__law_mix (T : Tx K mg) : Fx P w K mg base 1 (He.ga K "_law_mix") (spMix K) := by
  obtain ⟨fd, F⟩ := T.F__law_mix
  have nd := sc__law_mix.nd
  refine fx_of F sc__law_mix (fun vs H Q E h => ?_) (fun _ _ _ _ _ _ us hl => match us, hl with | [_, _], _ => rfl) fun cdv A outer s H vs Q E hr h => ?_
  · obtain ⟨zz, sc, ns, seed, rfl, _⟩ := h
    rfl
  obtain ⟨zz, sc, ns, seed, rfl, hS, hn, h⟩ := h
  refine ⟨_, (pss_cons (ps_set (i := 2) nd rfl (Or.inl rfl) (pv 1)) (pss_cons (ps_for PassesOwn.never rfl (pi_list (pv 0)) (pg_name (i := 3) nd rfl (Or.inl rfl)) (pss_one (ps_set (i := 2) nd rfl (Or.inl rfl) (pe_op op_mod (cT call_int1 T.m_int (pa_cons (pe_op op_add (pe_op op_add (pe_op op_mul (pv 2) pe_int) (pe_op op_mod (cT call_int1 T.m_int (pa_cons (pv 3) pa_nil)) pe_int)) pe_int) pa_nil)) pe_int)))) (pss_one (ps_ret (pe_lst (pa_cons (pv 2) (pa_cons (cT call_list_of T.m_list (pa_cons (pv 0) pa_nil)) (pa_cons pe_int pa_nil)))))))), ?_⟩
  walk_at "go"
  refine ⟨⟨_, hS.sq⟩, ?_⟩
  refine for_w (walk_list (xs := ns.map V.int)) (fun i σ H' => Same H H' ∧ ∃ (m : Int) (u : Option V), σ = [some (.ref sc), some (.int seed), some (.int m), u]) ⟨Same.refl _, _, _, rfl⟩ (fun i σ H' _ p => same_l p.1 hS.sq) ?_ ?_
  · rintro i x σ H1 H2 hi ⟨s1, m, u, rfl⟩ ⟨rfl, hx⟩
    obtain ⟨z, hz, rfl⟩ := map_at hx
    walk_at "go"
    refine go_rI (.inr ⟨by omega, by omega⟩) ?_
    walk_at "go"
    refine .inl ⟨_, rfl, ?_⟩
    walk_at "go"
    refine go_rI (show (0 : Int) < 2147483629 by omega) ?_
    walk_at "go"
    refine .inl ⟨_, rfl, ?_⟩
    walk_at "go"
    refine go_rI (show (0 : Int) < 2147483647 by omega) ?_
    walk_at "go"
    exact ⟨s1, _, _, rfl⟩
  · rintro σ H1 ⟨s1, m, u, rfl⟩
    walk_at "go"
    refine ⟨_, _, rfl, .inl (same_l s1 hS.sq), fun L hL => ?_⟩
    have s2 := same_upd (o := .lst (ns.map V.int)) hL
    walk_at "go"
    refine ⟨show 3 ≤ sizeLine by decide, fun p hp => ?_⟩
    have s3 := same_upd (o := .lst [.int m, .ref L, .int 0]) hp
    exact h p L _ (s1.trans (s2.trans s3)) (s1.free (s2.free hp)) (s1.free hL) ⟨m, 0, ns, upd_same, s3 _ _ upd_same, fun z => (by rw [← z, upd_same] at hp; cases hp), by omega, hn⟩

theorem sc__law_next : FnScope ["_law_h", "_law_limit", "_law_cell"] ["_law_h", "_law_limit"] (defScope s__law_next) := ⟨rfl, rfl, rfl, by decide +kernel, rfl, by decide +kernel, by decide +kernel⟩
theorem ok__law_next (T : Tx K mg) : Fx P w K mg base 1 (He.ga K "_law_next") (spNext K) := by
  obtain ⟨fd, F⟩ := T.F__law_next
  have nd := sc__law_next.nd
  refine fx_of F sc__law_next (fun vs H Q E h => ?_) (fun _ _ _ _ _ _ us hl => match us, hl with | [_, _], _ => rfl) fun cdv A outer s H vs Q E hr h => ?_
  · obtain ⟨s, L, n, rfl, _⟩ := h
    rfl
  obtain ⟨s, L, n, rfl, h0, h1, ⟨c0, c2, cs, e0, eL, hLs, hc2, hcl⟩, h⟩ := h
  refine ⟨_, (pss_cons (ps_set (i := 2) nd rfl (Or.inl rfl) (pe_ix (ixL K) (pe_op op_cat (pe_ix (ixL K) (pv 0) pe_int (fun _ _ => rfl)) (pe_lst (pa_cons pe_int pa_nil))) (pe_op op_mod (cT call_int1 T.m_int (pa_cons (pe_ix (ixL K) (pv 0) pe_int (fun _ _ => rfl)) pa_nil)) (cB (call_max2 rfl) T.m_max (pa_cons pe_int (pa_cons (cB call_len_seq T.m_len (pa_cons (pe_ix (ixL K) (pv 0) pe_int (fun _ _ => rfl)) pa_nil)) pa_nil)))) (fun _ _ => rfl))) (pss_cons (ps_if (pt_cmpR op_ge (pv 2) (pe_op op_pow pe_int pe_int) (nomark _)) (pss_cons (ps_asg (pe_op op_fdivW (pv 2) (pv 1)) (pg_sub (pe_ix (ixL K) (pv 0) pe_int (fun _ _ => rfl)) (pe_op op_mod (cT call_int1 T.m_int (pa_cons (pe_ix (ixL K) (pv 0) pe_int (fun _ _ => rfl)) pa_nil)) (cB call_len_seq T.m_len (pa_cons (pe_ix (ixL K) (pv 0) pe_int (fun _ _ => rfl)) pa_nil))) set_list)) (pss_one (ps_ret (pe_op op_mod (cT call_int1 T.m_int (pa_cons (pv 2) pa_nil)) (pv 1))))) pss_nil) (pss_cons (ps_asg (pe_op op_mod (cT call_int1 T.m_int (pa_cons (pe_op op_add (pe_op op_add (pe_op op_mul (pe_ix (ixL K) (pv 0) pe_int (fun _ _ => rfl)) pe_int) (pe_op op_mul (pv 2) pe_int)) pe_int) pa_nil)) pe_int) (pg_sub (pv 0) pe_int set_list)) (pss_cons (ps_asg (pe_op op_add (pe_ix (ixL K) (pv 0) pe_int (fun _ _ => rfl)) pe_int) (pg_sub (pv 0) pe_int set_list)) (pss_one (ps_ret (pe_op op_mod (cT call_int1 T.m_int (pa_cons (pe_op op_fdivW (pe_ix (ixL K) (pv 0) pe_int (fun _ _ => rfl)) pe_int) pa_nil)) (pv 1)))))))), ?_⟩
  walk_at "go"
  have big : ∀ x : Int, CDivW x n := fun x => wide_div (b := 100) h0 (by omega) (by decide) (by decide)
  refine go_ixL (v := .ref L) (.inl (.inl e0)) rfl ?_
  walk_at "go"
  refine ⟨show 1 ≤ sizeLine by decide, fun p1 hp1 => ?_⟩
  have s1 := same_upd (o := .lst [V.int 0]) hp1
  have e1 : (upd H p1 (.lst [V.int 0])) p1 = some (.lst [V.int 0]) := upd_same
  generalize upd H p1 (.lst [V.int 0]) = H1 at s1 e1 ⊢
  refine go_catL (s1 _ _ eL) e1 (by simp; omega) fun p2 H2 s2 hp2 e2 => ?_
  walk_at "go"
  have s12 := s1.trans s2
  have e02 := s12 _ _ e0
  have eL2 := s12 _ _ eL
  refine go_ixL (v := .int c2) (.inl (.inl e02)) rfl ?_
  walk_at "go"
  refine .inl ⟨_, rfl, ?_⟩
  walk_at "go"
  refine go_ixL (v := .ref L) (.inl (.inl e02)) rfl ?_
  walk_at "go"
  refine ⟨_, _, rfl, .inl (.inl (.inl eL2)), ?_⟩
  walk_at "go"
  refine ⟨_, _, rfl, ?_⟩
  rw [List.length_map]
  have hM : (if ((cs.length : Int) > 1) then (cs.length : Int) else 1) = ((max 1 cs.length : Nat) : Int) := by split <;> omega
  rw [hM]
  refine go_rI (show (0 : Int) < ((max 1 cs.length : Nat) : Int) by omega) ?_
  have k0 := Int.emod_nonneg c2 (show ((max 1 cs.length : Nat) : Int) ≠ 0 by omega)
  have k1 := Int.emod_lt_of_pos c2 (show (0 : Int) < ((max 1 cs.length : Nat) : Int) by omega)
  generalize c2 % ((max 1 cs.length : Nat) : Int) = k at k0 k1 ⊢
  obtain ⟨v, hv, hv0⟩ := nth_app (cs := cs) (k := k.toNat) (by omega)
  refine go_ixL (.inl (.inl e2)) (at_int k0 hv) ?_
  walk_at "go"
  refine go_rI (show CPow 10 18 from ⟨by omega, by omega, by decide⟩) ?_
  walk_at "go"
  refine iteD (fun hb => ?_) fun hb => ?_
  · have hne : 0 < cs.length := by
      cases cs with
      | nil => rw [hv0 rfl] at hb; exact absurd hb (by decide)
      | cons a r => simp
    walk_at "go"
    refine go_rI (big _) ?_
    walk_at "go"
    refine go_gsub ?_
    walk_at "go"
    refine go_ixL (v := .ref L) (.inl (.inl e02)) rfl ?_
    walk_at "go"
    refine go_ixL (v := .int c2) (.inl (.inl e02)) rfl ?_
    walk_at "go"
    refine .inl ⟨_, rfl, ?_⟩
    walk_at "go"
    refine go_ixL (v := .ref L) (.inl (.inl e02)) rfl ?_
    walk_at "go"
    refine ⟨_, _, rfl, .inl (.inl (.inl eL2)), ?_⟩
    walk_at "go"
    rw [List.length_map]
    refine go_rI (show (0 : Int) < (cs.length : Int) by omega) ?_
    have j0 := Int.emod_nonneg c2 (show (cs.length : Int) ≠ 0 by omega)
    have j1 := Int.emod_lt_of_pos c2 (show (0 : Int) < (cs.length : Int) by omega)
    generalize c2 % (cs.length : Int) = j at j0 j1 ⊢
    refine go_setL eL2 (by rw [List.length_map]; exact ixN_int j0 j1) ?_
    rw [show (cs.map V.int).set j.toNat (V.int (v / n)) = (cs.set j.toNat (v / n)).map V.int by rw [List.map_set]]
    generalize hU : upd H2 L (.lst ((cs.set j.toNat (v / n)).map V.int)) = U
    have fU : FrD L H2 U := hU ▸ frd_upd
    have eU : U L = some (.lst ((cs.set j.toNat (v / n)).map V.int)) := hU ▸ upd_same
    walk_at "go"
    refine .inl ⟨_, rfl, ?_⟩
    walk_at "go"
    refine go_rI h0 ?_
    walk_at "go"
    exact h _ U (fun b o nb e => fU _ _ nb.2 (s12 _ _ e)) ⟨c0, c2, cs.set j.toNat (v / n), fU _ _ hLs.symm e02, eU, hLs, hc2, by simpa using hcl⟩ (Int.emod_nonneg _ (by omega)) (Int.emod_lt_of_pos _ h0)
  · walk_at "go"
    refine go_ixL (v := .int c0) (.inl (.inl e02)) rfl ?_
    walk_at "go"
    refine go_rI (.inr ⟨by omega, by omega⟩) ?_
    walk_at "go"
    refine go_rI (.inr ⟨by omega, by omega⟩) ?_
    walk_at "go"
    refine .inl ⟨_, rfl, ?_⟩
    walk_at "go"
    refine go_rI (show (0 : Int) < 2147483647 by omega) ?_
    walk_at "go"
    have d0 := Int.emod_nonneg (c0 * 48271 + v * 69621 + 11) (show (2147483647 : Int) ≠ 0 by omega)
    generalize (c0 * 48271 + v * 69621 + 11) % 2147483647 = d at d0 ⊢
    refine go_gsub ?_
    walk_at "go"
    refine go_setL (j := 0) e02 rfl ?_
    generalize hU : upd H2 s (.lst ([V.int c0, V.ref L, V.int c2].set 0 (V.int d))) = U
    have fU : FrD s H2 U := hU ▸ frd_upd
    have eU : U s = some (.lst [V.int d, V.ref L, V.int c2]) := hU ▸ upd_same
    walk_at "go"
    refine go_ixL (v := .int c2) (.inl (.inl eU)) rfl ?_
    walk_at "go"
    refine go_gsub ?_
    walk_at "go"
    refine go_setL (j := 2) eU rfl ?_
    generalize hU2 : upd U s (.lst ([V.int d, V.ref L, V.int c2].set 2 (V.int (c2 + 1)))) = U2
    have fU2 : FrD s U U2 := hU2 ▸ frd_upd
    have eU2 : U2 s = some (.lst [V.int d, V.ref L, V.int (c2 + 1)]) := hU2 ▸ upd_same
    walk_at "go"
    refine go_ixL (v := .int d) (.inl (.inl eU2)) rfl ?_
    walk_at "go"
    refine go_rI (wide_div (b := 10) (by omega) (by omega) (by decide) (by decide)) ?_
    walk_at "go"
    refine .inl ⟨_, rfl, ?_⟩
    walk_at "go"
    refine go_rI h0 ?_
    walk_at "go"
    exact h _ U2 (fun b o nb e => fU2 _ _ nb.1 (fU _ _ nb.1 (s12 _ _ e))) ⟨d, c2 + 1, cs, eU2, fU2 _ _ hLs (fU _ _ hLs eL2), hLs, by omega, hcl⟩ (Int.emod_nonneg _ (by omega)) (Int.emod_lt_of_pos _ h0)

theorem sc__law_people : FnScope ["_law_h", "_law_most", "_law_high", "_law_left", "_law_found", "_law_k"] ["_law_h", "_law_most", "_law_high"] (defScope s__law_people) := ⟨rfl, rfl, rfl, by decide +kernel, rfl, by decide +kernel, by decide +kernel⟩
theorem ok__law_people (T : Tx K mg) (D__law_next : Fx P w K mg base 1 (He.ga K "_law_next") (spNext K)) : Fx P w K mg base 2 (He.ga K "_law_people") (spPeople9 K) := by
  have K__law_next : PySem.W.keepIn K (.ref (He.ga K "_law_next")) = true := T.F__law_next.elim fun _ q => q.kp
  obtain ⟨fd, F⟩ := T.F__law_people
  have nd := sc__law_people.nd
  refine fx_of F sc__law_people (fun vs H Q E h => ?_) (fun _ _ _ _ _ _ us hl => match us, hl with | [_, _, _], _ => rfl) fun cdv A outer s H vs Q E hr h => ?_
  · obtain ⟨s0, L, most, high, rfl, _⟩ := h
    rfl
  obtain ⟨s0, L, most, high, rfl, hm1, hm2, hh1, hh2, hst, h⟩ := h
  refine ⟨_, (pss_cons (ps_par (i := 3) (j := 4) rfl nd rfl rfl (by decide) rfl rfl (pa_cons (pe_lst (pa_cons pe_str (pa_cons pe_str (pa_cons pe_str (pa_cons pe_str (pa_cons pe_str (pa_cons pe_str (pa_cons pe_str (pa_cons pe_str (pa_cons pe_str pa_nil)))))))))) (pa_cons (pe_lst pa_nil) pa_nil)) rfl) (pss_cons (ps_for PassesOwn.never rfl (pi_range1 rfl T.m_range (pa_cons (pe_op op_add pe_int (pe_cl D__law_next hr K__law_next T.g__law_next passL (pa_cons (pv 0) (pa_cons (pe_op op_sub (pv 1) pe_int) pa_nil)))) pa_nil)) (pg_name (i := 5) nd rfl (Or.inl rfl)) (pss_one (ps_expr (pe_bm PySem.F.plainAttrs_list PySem.F.slot_list_append PySem.F.type_list_append mt_append (pv 4) (pa_cons (pe_tup (pa_cons (pe_bm PySem.F.plainAttrs_list PySem.F.slot_list_pop PySem.F.type_list_pop mt_popAt (pv 3) (pa_cons (pe_cl D__law_next hr K__law_next T.g__law_next passL (pa_cons (pv 0) (pa_cons (cB call_len_seq T.m_len (pa_cons (pv 3) pa_nil)) pa_nil))) pa_nil)) (pa_cons (pe_op op_add pe_int (pe_cl D__law_next hr K__law_next T.g__law_next passL (pa_cons (pv 0) (pa_cons (pv 2) pa_nil)))) pa_nil))) pa_nil))))) (pss_one (ps_ret (pv 4))))), ?_⟩
  walk_at "go"
  refine ⟨show 9 ≤ sizeLine by decide, fun Dl hDl => ?_⟩
  generalize hX1 : upd H Dl _ = X1
  have sl : Same H X1 := hX1 ▸ same_upd hDl
  have eDl : X1 Dl = some (.lst (nm9.map V.str)) := hX1 ▸ upd_same
  walk_at "go"
  refine ⟨Nat.zero_le _, fun D hD => ?_⟩
  walk_at "go"
  have hsl := hst.ne hDl
  have hDlD : Dl ≠ D := fun z => by rw [← z, eDl] at hD; cases hD
  have sd := same_upd (o := .lst []) hD
  have hsd := hst.ne (sl.free hD)
  refine ⟨s0, L, most - 1, rfl, by omega, by omega, (hst.keep sl).keep sd, fun y H1 f1 st1 hy0 hy1 => ?_⟩
  walk_at "go"
  refine ⟨_, rfl, by omega, by omega, ?_⟩
  have F0 : FrN (NN s0 L) H H1 := (frn_same (sl.trans sd)).trans f1
  refine for_w (walk_range (lo := 0) (n := (2 + y).toNat)) (fun i σ H' => FrN (NN s0 L) H H' ∧ HSt H' s0 L ∧ (∃ (ls : List Str) (rs : List Addr) (ps : List Pr), H' Dl = some (.lst (ls.map V.str)) ∧ H' D = some (.lst (rs.map V.ref)) ∧ Rows (NN s0 L) H' rs ps ∧ ps.length = i ∧ (ps.map (·.1) ++ ls).Perm nm9 ∧ ∀ p ∈ ps, 1 ≤ p.2 ∧ p.2 ≤ high) ∧ ∃ u, σ = [some (.ref s0), some (.int most), some (.int high), some (.ref Dl), some (.ref D), u]) ⟨F0, st1, ⟨nm9, [], [], f1 _ _ hsl (sd _ _ eDl), f1 _ _ hsd upd_same, ⟨rfl, fun i p e => by simp at e⟩, rfl, .refl _, fun p q => by cases q⟩, _, rfl⟩ (fun _ _ _ _ _ => trivial) ?_ ?_
  · rintro i x σ H2' H2 hi ⟨F2, st2, ⟨ls, rs, ps, el, ed, hR, hl, hP, hB⟩, u, rfl⟩ ⟨rfl, rfl⟩
    have hll : ps.length + ls.length = 9 := by
      have := hP.length_eq
      rw [show nm9.length = 9 from rfl] at this
      simpa using this
    walk_at "go"
    refine ⟨ty_lst ed, ?_⟩
    walk_at "go"
    refine ⟨ty_lst el, ?_⟩
    walk_at "go"
    refine ⟨_, _, rfl, .inl (.inl (.inl el)), ?_⟩
    walk_at "go"
    refine ⟨s0, L, _, rfl, by simp; omega, by simp; omega, st2, fun y2 H3 f3 st3 hy2 hy3 => ?_⟩
    rw [List.length_map] at hy3
    walk_at "go"
    have hk : y2.toNat < ls.length := by omega
    have ek : ls[y2.toNat]? = some ls[y2.toNat] := by simp [hk]
    refine ⟨Dl, _, y2, y2.toNat, .str ls[y2.toNat], rfl, rfl, f3 _ _ hsl el, by omega, by omega, seq_int hy2 (by simp; omega), at_map ek, ?_⟩
    rw [erase_map]
    generalize hU : upd H3 Dl (.lst ((ls.eraseIdx y2.toNat).map V.str)) = U
    have fU : FrD Dl H3 U := hU ▸ frd_upd
    have eU : U Dl = some (.lst ((ls.eraseIdx y2.toNat).map V.str)) := hU ▸ upd_same
    walk_at "go"
    refine ⟨s0, L, high, rfl, by omega, by omega, st3.frd fU hsl, fun y4 H4 f4 st4 hy4 hy5 => ?_⟩
    walk_at "go"
    refine ⟨show 2 ≤ sizeLine by decide, fun t ht => ?_⟩
    have s5 := same_upd (o := .tup [V.str ls[y2.toNat], V.int (1 + y4)]) ht
    walk_at "go"
    have ed4 : H4 D = some (.lst (rs.map V.ref)) := f4 _ _ hsd (fU _ _ hDlD.symm (f3 _ _ hsd ed))
    refine ⟨D, _, _, rfl, rfl, s5 _ _ ed4, ?_, ?_⟩
    · rw [List.length_map, hR.1]
      exact Nat.lt_of_lt_of_le (show ps.length < 2000 by omega) (by decide)
    walk_at "go"
    generalize hW : upd (upd H4 t (.tup [V.str ls[y2.toNat], V.int (1 + y4)])) D (.lst (rs.map V.ref ++ [V.ref t])) = W
    have fW : FrD D (upd H4 t (.tup [V.str ls[y2.toNat], V.int (1 + y4)])) W := hW ▸ frd_upd
    have eW : W D = some (.lst ((rs ++ [t]).map V.ref)) := by rw [← hW, upd_same, List.map_append]; rfl
    have hts : NN s0 L t := st4.ne ht
    have htD : t ≠ D := fun z => by rw [z, ed4] at ht; cases ht
    have etW : W t = some (.tup [V.str ls[y2.toNat], V.int (1 + y4)]) := fW _ _ htD upd_same
    refine ⟨?_, (st4.keep s5).frd fW hsd, ⟨ls.eraseIdx y2.toNat, rs ++ [t], ps ++ [(ls[y2.toNat], 1 + y4)], ?_, eW, ⟨by simp [hR.1], fun j p ej => ?_⟩, by simp [hl], ?_, fun p hp => ?_⟩, _, rfl⟩
    · intro b o n eb
      have nb1 : b ≠ D := ne_of_none eb (sl.free hD)
      have nb2 : b ≠ Dl := ne_of_none eb hDl
      exact fW _ _ nb1 (s5 _ _ (f4 _ _ n (fU _ _ nb2 (f3 _ _ n (F2 _ _ n eb)))))
    · exact fW _ _ hDlD (s5 _ _ (f4 _ _ hsl eU))
    · by_cases hj : j < ps.length
      · rw [List.getElem?_append_left hj] at ej
        obtain ⟨t2, a1, a2, a3⟩ := hR.2 j p ej
        have n1 : t2 ≠ D := ne_of a3 ed (fun z => by cases z)
        have n2 : t2 ≠ Dl := ne_of a3 el (fun z => by cases z)
        exact ⟨t2, by rw [List.getElem?_append_left (by rw [hR.1]; exact hj)]; exact a1, a2, fW _ _ n1 (s5 _ _ (f4 _ _ a2 (fU _ _ n2 (f3 _ _ a2 a3))))⟩
      · have hlj : j < (ps ++ [(ls[y2.toNat], 1 + y4)]).length := (List.getElem?_eq_some_iff.mp ej).1
        have e10 : j = ps.length := by simp at hlj; omega
        subst e10
        rw [List.getElem?_append_right (Nat.le_refl _)] at ej
        simp at ej
        subst ej
        exact ⟨t, by rw [List.getElem?_append_right (by rw [hR.1]; exact Nat.le_refl _), hR.1]; simp, hts, etW⟩
    · rw [List.map_append]
      exact perm_draw hP ek
    · rcases List.mem_append.mp hp with hp | hp
      · exact hB p hp
      · rw [List.mem_singleton.mp hp]
        exact ⟨by simp; omega, by simp; omega⟩
  · rintro σ H2 ⟨F2, st2, ⟨ls, rs, ps, el, ed, hR, hl, hP, hB⟩, u, rfl⟩
    walk_at "go"
    have hpo := people9 hP (by omega) (by omega) fun p hp => ⟨(hB p hp).1, by have := (hB p hp).2; omega⟩
    exact h D H2 rs ps F2 st2 (sl.free hD) ed hR hpo (by omega) fun p hp => (hB p hp).2

end
end K
namespace K
open PySem PySem.Spec PyProof.Rows L2 Bk
local macro_rules | `(tactic| walk_at "go1") => `(tactic| (first
  | ((with_reducible show tVar _ _ _ _); refine go_var rfl ?_)
  | (with_reducible first | refine go_c ?_ | refine go_op ?_ | refine go_cons ?_ | refine go_nil ?_ | refine go_cb ?_ | refine go_cl ?_ | refine go_seq ?_ | refine go_asg ?_ | refine go_name ?_ | refine go_ifS ?_ | refine go_test ?_ | refine go_bl ?_)
  | (with_reducible first | refine go_rI0 ?_ | refine go_rU ?_ | refine go_ret ?_ | refine go_next ?_ | refine go_B ?_ | refine go_and ?_ | refine go_or ?_ | refine go_not ?_ | refine go_if ?_ | refine go_andV ?_ | refine go_orV ?_ | refine go_notV ?_)
  | ((with_reducible show rEq _ _ _ _); refine go_rEq rfl ?_)
  | ((with_reducible show rNe _ _ _ _); refine go_rNe rfl ?_)
  | (with_reducible first | refine go_un ?_ | refine go_chain ?_ | refine go_drop ?_ | refine go_retN ?_ | refine go_isN ?_ | refine go_notN ?_ | refine go_cont ?_ | refine go_break ?_ | refine go_par ?_ | refine go_two ?_ | refine go_part ?_ | refine go_noPart ?_ | refine go_int ?_ | refine go_sl ?_ | refine go_yes ?_ | refine go_tup ?_ | refine go_lst ?_)
  | (with_reducible first | refine go_gCons ?_ | refine go_gNil ?_ | refine go_for ?_ | refine go_iEnT ?_ | refine go_iEnum ?_ | refine go_iList ?_ | refine go_iTup ?_ | refine go_iStr ?_ | refine go_iRng1 ?_ | refine go_iRng2 ?_ | refine go_iZip ?_ | refine go_lc ?_ | refine go_mkR ?_ | refine go_mkS ?_ | refine go_clO ?_ | refine go_pr ?_ | refine go_sfld ?_ | refine go_bm ?_ | refine go_ref ?_)))
local macro_rules | `(tactic| walk_at "go") => `(tactic| ((repeat (walk_at "go1")); try dsimp only))
local macro_rules | `(tactic| walk_at "so") => `(tactic| first | omega | (simp; done) | (simp; omega) | (simp at *; omega))
section
variable {P : Program} {w : World} {K : PySem.W.Frag} {mg : Str → Option Value} {base : Heap}
/-! the text of people, the pace of people, all choices, two things alike -/
open TL
theorem fil_none (l : List Nat) : (l.filterMap fun _ => (none : Option Int)) = [] := by
  induction l with
  | nil => rfl
  | cons x l ih => simpa using ih

def Bdd (ps : List Pr) : Prop := ∀ p ∈ ps, nmB p.1 = true ∧ 0 ≤ p.2 ∧ p.2 ≤ 1000
theorem Good.bdd {ps : List Pr} (h : Good ps) : Bdd ps := fun p hp => ⟨h.nm p hp, by have := h.pc p hp; omega, (h.pc p hp).2⟩
def spText (K : PySem.W.Frag) : Sp := fun vs H Q _ => ∃ (N : Addr → Prop) (D : Addr) (rs : List Addr) (ps : List Pr), vs = [.ref D] ∧ H D = some (.lst (rs.map V.ref)) ∧ Rows N H rs ps ∧ Bdd ps ∧ ps.length ≤ 12 ∧ ∀ H', Same H H' → Q (.str (textOf ps)) H'
def spLPace (K : PySem.W.Frag) : Sp := fun vs H Q _ => ∃ (N : Addr → Prop) (D : Addr) (rs : List Addr) (ps : List Pr), vs = [.ref D] ∧ H D = some (.lst (rs.map V.ref)) ∧ Rows N H rs ps ∧ (∀ p ∈ ps, 1 ≤ p.2 ∧ p.2 ≤ 1000) ∧ 2 ≤ ps.length ∧ ps.length ≤ 12 ∧ ∀ H', Same H H' → Q (.int (paceOf ps)) H'
def spLChoices (K : PySem.W.Frag) (n : Nat) : Sp := fun vs H Q _ => ∃ (a : Addr) (ns : List Str) (k : Nat), vs = [.ref a, .int k] ∧ k < n ∧ SqL K H a (ns.map V.str) ∧ ns.length ≤ 12 ∧ k ≤ 100 ∧ ∀ x rx H', Same H H' → H x = Option.none → H' x = some (.lst (rx.map V.ref)) → LLs (fun t => H t = Option.none) H' rx (chs k ns) → Q (.ref x) H'
def Alk (n : Nat) (H : Hp) (x y : V) : Prop := (1 ≤ n ∧ x = .non ∧ y = .non) ∨ (1 ≤ n ∧ ∃ z : Str, PyData.strOk z = true ∧ x = .str z ∧ y = .str z) ∨ (2 ≤ n ∧ ∃ (a b : Addr) (zs : List Str), x = .ref a ∧ y = .ref b ∧ (∀ z ∈ zs, PyData.strOk z = true) ∧ zs.length ≤ 1000 ∧ H a = some (.lst (zs.map V.str)) ∧ H b = some (.lst (zs.map V.str)))
def spAlk (K : PySem.W.Frag) (n : Nat) : Sp := fun vs H Q _ => ∃ x y : V, vs = [x, y] ∧ Alk n H x y ∧ ∀ H', Same H H' → Q (.bl true) H'
theorem sh_str {z : Str} (h : PyData.strOk z = true) : SeqAt.shaped (.str z) = true := by
  unfold SeqAt.shaped
  rw [Bool.and_eq_true, decide_eq_true_iff]
  refine ⟨by simpa [PyData.canLay0] using h, ?_⟩
  simp only [PyData.depth]
  omega
theorem LLs.ofgen {N : Addr → Prop} {H : Hp} {ys : List V} {zss : List (List Str)} (hl : ys.length = zss.length) (h : ∀ (i : Nat) (y : V), ys[i]? = some y → ∃ (zs : List Str) (t : Addr), zss[i]? = some zs ∧ y = V.ref t ∧ N t ∧ H t = some (.lst (zs.map V.str))) : ∃ rx : List Addr, ys = rx.map V.ref ∧ LLs N H rx zss := by
  refine ⟨ys.map fun y => match y with | .ref t => t | _ => 0, ?_, by simp [hl], fun i zs hz => ?_⟩
  · rw [List.map_map]
    symm
    apply List.ext_getElem?
    intro i
    rw [List.getElem?_map]
    cases ei : ys[i]? with
    | none => rfl
    | some y =>
      obtain ⟨zs, t, _, rfl, _⟩ := h i y ei
      rfl
  · have hi : i < ys.length := by
      have := (List.getElem?_eq_some_iff.mp hz).1
      omega
    obtain ⟨zs', t, e1, e2, e3, e4⟩ := h i ys[i] (by simp [hi])
    rw [hz] at e1
    cases e1
    refine ⟨t, ?_, e3, e4⟩
    rw [List.getElem?_map, List.getElem?_eq_getElem hi, e2]
    rfl
theorem LLs.app {N : Addr → Prop} {H : Hp} {r1 r2 : List Addr} {z1 z2 : List (List Str)} (h : LLs N H r1 z1) (h' : LLs N H r2 z2) : LLs N H (r1 ++ r2) (z1 ++ z2) := ⟨by simp [h.1, h'.1], fun i p e => by
  by_cases hi : i < z1.length
  · rw [List.getElem?_append_left hi] at e
    obtain ⟨t, a, b⟩ := h.2 i p e
    exact ⟨t, by rw [List.getElem?_append_left (by rw [h.1]; exact hi)]; exact a, b⟩
  · rw [List.getElem?_append_right (by omega)] at e
    obtain ⟨t, a, b⟩ := h'.2 _ p e
    exact ⟨t, by rw [List.getElem?_append_right (by rw [h.1]; omega), h.1]; exact a, b⟩⟩

theorem sc__law_text : FnScope ["_law_people_here", "_law_name", "_law_pace"] ["_law_people_here"] (defScope s__law_text) := ⟨rfl, rfl, rfl, by decide +kernel, rfl, by decide +kernel, by decide +kernel⟩
theorem ok__law_text (T : Tx K mg) : Fx P w K mg base 1 (He.ga K "_law_text") (spText K) := by
  obtain ⟨fd, F⟩ := T.F__law_text
  have nd := sc__law_text.nd
  refine fx_of F sc__law_text (fun vs H Q E h => ?_) (fun _ _ _ _ _ _ us hl => match us, hl with | [_], _ => rfl) fun cdv A outer s H vs Q E hr h => ?_
  · obtain ⟨N, D, rs, ps, rfl, _⟩ := h
    rfl
  obtain ⟨N, D, rs, ps, rfl, eD, hR, hb, h12, h⟩ := h
  refine ⟨_, (pss_one (ps_ret (pe_join pe_str (pe_lc (own := [("_law_name", 1), ("_law_pace", 2)]) (g := (gTup K 2 (gCons (gName 1) (gCons (gName 2) gNil)))) rfl nd (pi_list (pv 0)) (blkOk_by (N := ["_law_people_here", "_law_name", "_law_pace"]) (sc := defScope s__law_text) (own := [("_law_name", 1), ("_law_pace", 2)]) (by decide +kernel)) (fun _ _ _ _ _ => (pg_tup (by rfl) (pgs_cons (pg_name (i := 1) nd rfl (Or.inl rfl)) (pgs_cons (pg_name (i := 2) nd rfl (Or.inl rfl)) pgs_nil)))) (fun _ _ _ _ _ => pts_nil) (fun _ _ _ _ _ => (pe_op op_add_str (pe_op op_add_str (pv 1) pe_str) (cT call_str_int T.m_str (pa_cons (pv 2) pa_nil)))))))), ?_⟩
  have hl := hR.1
  have htl := text_len hb
  walk_at "go"
  refine go_m1 ?_
  walk_at "go"
  refine ⟨⟨_, rfl⟩, ?_⟩
  walk_at "go"
  refine ⟨⟨_, .inl (.inl eD)⟩, ?_⟩
  refine lc_fun (walk_list (xs := rs.map V.ref)) (fun H2 s2 => .inl (.inl (s2 _ _ eD))) (fun i => .str ((ps.map rowT).getD i ("" : Str))) (by simp; omega) ?_ ?_
  · rintro j x H2 H3 k hj s2 ⟨rfl, hx⟩ hk
    obtain ⟨p, t, hp, rfl, _, ht⟩ := (hR.mono (frn_same s2)).at hx
    obtain ⟨b1, b2, b3⟩ := hb p (List.mem_of_getElem? hp)
    have n1 := nm_len b1
    have n2 := pw_len b2 b3
    have hs1 : (" " : Str).length = 1 := by decide +kernel
    refine go_gTup (.inl (.inl ht)) rfl ?_
    walk_at "go"
    refine ⟨rfl, ?_⟩
    walk_at "go"
    refine ⟨_, _, rfl, rfl, Nat.le_trans (show p.1.length + (" " : Str).length ≤ 1000 by omega) (by decide), ?_⟩
    walk_at "go"
    refine ⟨p.2, rfl, Nat.lt_of_le_of_lt (Nat.log2_le_self _) (by omega), ?_⟩
    have e1 : (p.1 ++ (" " : Str)).length = p.1.length + 1 := by
      rw [len_tl, tl_append, List.length_append, tl_sp, len_tl p.1]
      rfl
    refine ⟨_, _, rfl, rfl, Nat.le_trans (show (p.1 ++ (" " : Str)).length + (pw p.2).length ≤ 1000 by omega) (by decide), ?_⟩
    have q := hk _ (Same.refl _)
    have g : (ps.map rowT).getD j ("" : Str) = p.1 ++ (" " : Str) ++ Str.ofString (toString p.2) := by
      simp only [List.getD, List.getElem?_map, hp]
      rfl
    rw [g] at q
    exact q
  · intro D2 H2 hD2 s2 e2
    walk_at "go"
    have e3 : H2 D2 = some (.lst ((ps.map rowT).map V.str)) := by
      rw [e2]
      congr 2
      exact range_map (n := (rs.map V.ref).length) (ps.map rowT) V.str ("" : Str) (by simp [hl])
    refine ⟨_, D2, ps.map rowT, rfl, rfl, .inl (.inl (.inl e3)), ?_, h _ s2⟩
    have e : ("\n" : Str).length = 1 := by decide +kernel
    rw [e, List.length_map]
    omega

end
end K
namespace K
open PySem PySem.Spec PyProof.Rows L2 Bk
local macro_rules | `(tactic| walk_at "go1") => `(tactic| (first
  | ((with_reducible show tVar _ _ _ _); refine go_var rfl ?_)
  | (with_reducible first | refine go_c ?_ | refine go_op ?_ | refine go_cons ?_ | refine go_nil ?_ | refine go_cb ?_ | refine go_cl ?_ | refine go_seq ?_ | refine go_asg ?_ | refine go_name ?_ | refine go_ifS ?_ | refine go_test ?_ | refine go_bl ?_)
  | (with_reducible first | refine go_rI0 ?_ | refine go_rU ?_ | refine go_ret ?_ | refine go_next ?_ | refine go_B ?_ | refine go_and ?_ | refine go_or ?_ | refine go_not ?_ | refine go_if ?_ | refine go_andV ?_ | refine go_orV ?_ | refine go_notV ?_)
  | ((with_reducible show rEq _ _ _ _); refine go_rEq rfl ?_)
  | ((with_reducible show rNe _ _ _ _); refine go_rNe rfl ?_)
  | (with_reducible first | refine go_un ?_ | refine go_chain ?_ | refine go_drop ?_ | refine go_retN ?_ | refine go_isN ?_ | refine go_notN ?_ | refine go_cont ?_ | refine go_break ?_ | refine go_par ?_ | refine go_two ?_ | refine go_part ?_ | refine go_noPart ?_ | refine go_int ?_ | refine go_sl ?_ | refine go_yes ?_ | refine go_tup ?_ | refine go_lst ?_)
  | (with_reducible first | refine go_gCons ?_ | refine go_gNil ?_ | refine go_for ?_ | refine go_iEnT ?_ | refine go_iEnum ?_ | refine go_iList ?_ | refine go_iTup ?_ | refine go_iStr ?_ | refine go_iRng1 ?_ | refine go_iRng2 ?_ | refine go_iZip ?_ | refine go_lc ?_ | refine go_mkR ?_ | refine go_mkS ?_ | refine go_clO ?_ | refine go_pr ?_ | refine go_sfld ?_ | refine go_bm ?_ | refine go_ref ?_)))
local macro_rules | `(tactic| walk_at "go") => `(tactic| ((repeat (walk_at "go1")); try dsimp only))
local macro_rules | `(tactic| walk_at "so") => `(tactic| first | omega | (simp; done) | (simp; omega) | (simp at *; omega))
section
variable {P : Program} {w : World} {K : PySem.W.Frag} {mg : Str → Option Value} {base : Heap}
/-! the table of all that stands in the hands -/

def rowC (ds : List Int) (b : Nat) : List Int := (List.range (ds.length + 1)).map (Cm ds b)
def TabR (N : Addr → Prop) (H : Hp) (x : Addr) (ds : List Int) (n : Nat) : Prop := ∃ ts : List Addr, H x = some (.lst (ts.map V.ref)) ∧ ts.length = n ∧ N x ∧ ∀ (i : Nat) (t : Addr), ts[i]? = some t → t ≠ x ∧ N t ∧ H t = some (.lst ((rowC ds i).map V.int))
theorem TabR.mono {N : Addr → Prop} {H H' : Hp} {x : Addr} {ds : List Int} {n : Nat} (f : FrN N H H') (h : TabR N H x ds n) : TabR N H' x ds n := by
  obtain ⟨ts, a, b, c, d⟩ := h
  exact ⟨ts, f _ _ c a, b, c, fun i t e => by
    obtain ⟨p, q, r⟩ := d i t e
    exact ⟨p, q, f _ _ q r⟩⟩
theorem eqv_nilL (l : List PyData) : PyData.eqv (.list l) (.list []) = decide (l.length = 0) := by
  cases l with
  | nil => rfl
  | cons x l => rfl
theorem layI : ∀ xs : List Int, PyData.canLayAll0 (xs.map PyData.int) = true ∧ PyData.depthAll (xs.map PyData.int) = 0
  | [] => ⟨rfl, rfl⟩
  | x :: xs => by
    obtain ⟨a, b⟩ := layI xs
    refine ⟨by simp [PyData.canLayAll0, PyData.canLay0, a], by simp [PyData.depthAll, PyData.depth, b]⟩
theorem layII : ∀ xs : List (List Int), PyData.canLayAll0 (xs.map fun x => PyData.list (x.map PyData.int)) = true ∧ PyData.depthAll (xs.map fun x => PyData.list (x.map PyData.int)) ≤ 1
  | [] => ⟨rfl, by simp [PyData.depthAll]⟩
  | x :: xs => by
    obtain ⟨a, b⟩ := layII xs
    obtain ⟨c, d⟩ := layI x
    refine ⟨by simp [PyData.canLayAll0, PyData.canLay0, a, c], ?_⟩
    simp only [List.map_cons, PyData.depthAll, PyData.depth, d]
    omega
theorem shII (xs : List (List Int)) : SeqAt.shaped (.list (xs.map fun x => PyData.list (x.map PyData.int))) = true := by
  obtain ⟨a, b⟩ := layII xs
  unfold SeqAt.shaped
  rw [Bool.and_eq_true, decide_eq_true_iff]
  refine ⟨by simpa [PyData.canLay0] using a, ?_⟩
  simp only [PyData.depth]
  omega
theorem dpII {K : PySem.W.Frag} {H : Hp} : ∀ (ts : List Addr) (xs : List (List Int)), ts.length = xs.length → (∀ (i : Nat) (t : Addr), ts[i]? = some t → H t = some (.lst ((xs.getD i []).map V.int))) → DpAll K H (ts.map V.ref) (xs.map fun x => PyData.list (x.map PyData.int))
  | [], [], _, _ => .nil
  | [], _ :: _, h, _ => by simp at h
  | _ :: _, [], h, _ => by simp at h
  | t :: ts, x :: xs, h, f => .cons (.lst (.inl (.inl (f 0 t rfl))) (dpI x)) (dpII ts xs (by simpa using h) fun i u e => by
    have := f (i + 1) u (by simpa using e)
    simpa using this)
theorem TabR.dp {K : PySem.W.Frag} {N : Addr → Prop} {H : Hp} {x : Addr} {ds : List Int} {n : Nat} (h : TabR N H x ds n) : Dp K H (.ref x) (.list (((List.range n).map (rowC ds)).map fun x => PyData.list (x.map PyData.int))) := by
  obtain ⟨ts, a, b, c, d⟩ := h
  refine .lst (.inl (.inl a)) (dpII ts _ (by simp [b]) fun i t e => ?_)
  have hi : i < n := by rw [← b]; exact (List.getElem?_eq_some_iff.mp e).1
  rw [(d i t e).2.2]
  simp [List.getD, hi]
theorem go_eqTab {K : PySem.W.Frag} {N : Addr → Prop} {H : Hp} {x e : Addr} {ds : List Int} {n : Nat} {Q : VK} (h : TabR N H x ds n) (h' : SqL K H e []) (q : Q (.bl (decide (n = 0))) H) : rEqD K (.ref x) (.ref e) H Q :=
  ⟨_, _, h.dp, .lst h' .nil, shII _, shI [], by show Q (.bl (PyData.eqv _ (.list []))) H; rw [eqv_nilL]; simpa using q⟩
theorem go_neTab {K : PySem.W.Frag} {N : Addr → Prop} {H : Hp} {x e : Addr} {ds : List Int} {n : Nat} {Q : VK} (h : TabR N H x ds n) (h' : SqL K H e []) (q : Q (.bl (!decide (n = 0))) H) : rNeD K (.ref x) (.ref e) H Q :=
  ⟨_, _, h.dp, .lst h' .nil, shII _, shI [], by show Q (.bl (!PyData.eqv _ (.list []))) H; rw [eqv_nilL]; simpa using q⟩
theorem Cm_0 (ds : List Int) (b : Nat) : Cm ds (b + 1) 0 = Cm ds b 1 := by simp [Cm]
theorem Cm_00 (ds : List Int) : Cm ds 0 0 = 0 := by simp [Cm]
theorem held_0 (ds : List Int) (k : Nat) : Cm ds 0 k + dd ds k = Cm ds 0 (k + 1) := by
  cases k with
  | zero => simp [Cm, Mt.En_00]
  | succ k => simp [Cm, Mt.En_0s]
theorem held_s {ds : List Int} (hd : ∀ i, 0 ≤ dd ds i ∧ dd ds i ≤ 1000) (b k : Nat) (hk : k + 1 < ds.length) : max (Cm ds (b + 1) k) (Cm ds b (k + 2)) + dd ds k = Cm ds (b + 1) (k + 1) := by
  cases k with
  | zero =>
    have h1 := Mt.En_ge_left (dd ds) (ds.length - 1) b 0
    have h2 := hd 1
    simp only [Nat.zero_add] at h1
    have e1 : Cm ds (b + 1) 0 = Mt.En (dd ds) (ds.length - 1) b 0 := by simp [Cm]
    have e2 : Cm ds b (0 + 2) = Mt.En (dd ds) (ds.length - 1) b 1 := by simp [Cm]
    have e3 : Cm ds (b + 1) (0 + 1) = Mt.En (dd ds) (ds.length - 1) (b + 1) 0 := by simp [Cm]
    rw [e1, e2, e3, Mt.En_s0, show min 1 (ds.length - 1) = 1 by omega]
    omega
  | succ k =>
    have e1 : Cm ds (b + 1) (k + 1) = Mt.En (dd ds) (ds.length - 1) (b + 1) k := by simp [Cm]
    have e2 : Cm ds b (k + 1 + 2) = Mt.En (dd ds) (ds.length - 1) b (k + 2) := by simp [Cm]
    have e3 : Cm ds (b + 1) (k + 1 + 1) = Mt.En (dd ds) (ds.length - 1) (b + 1) (k + 1) := by simp [Cm]
    rw [e1, e2, e3, Mt.En_ss, show min (k + 2) (ds.length - 1) = k + 2 by omega]
theorem held_l {ds : List Int} (hd : ∀ i, 0 ≤ dd ds i ∧ dd ds i ≤ 1000) (b k : Nat) (hk : k + 1 = ds.length) : Cm ds (b + 1) k + dd ds k = Cm ds (b + 1) (k + 1) := by
  cases k with
  | zero =>
    have e1 : Cm ds (b + 1) 0 = Mt.En (dd ds) (ds.length - 1) b 0 := by simp [Cm]
    have e3 : Cm ds (b + 1) (0 + 1) = Mt.En (dd ds) (ds.length - 1) (b + 1) 0 := by simp [Cm]
    rw [e1, e3, Mt.En_s0, show min 1 (ds.length - 1) = 0 by omega]
  | succ k =>
    have e1 : Cm ds (b + 1) (k + 1) = Mt.En (dd ds) (ds.length - 1) (b + 1) k := by simp [Cm]
    have e3 : Cm ds (b + 1) (k + 1 + 1) = Mt.En (dd ds) (ds.length - 1) (b + 1) (k + 1) := by simp [Cm]
    have h1 := Mt.En_ge_next (dd ds) (ds.length - 1) b k
    have h2 := hd k
    rw [show min (k + 1) (ds.length - 1) = k + 1 by omega] at h1
    rw [e1, e3, Mt.En_ss, show min (k + 2) (ds.length - 1) = k + 1 by omega]
    omega
theorem map_rng {β : Type} (l : List Int) (g : Int → β) : (List.range l.length).map (fun i => g (l.getD i 0)) = l.map g := by
  apply List.ext_getElem?
  intro i
  by_cases h : i < l.length
  · simp [List.getD, h]
  · simp [h]
theorem rowC_at (ds : List Int) (b : Nat) {k : Nat} (h : k ≤ ds.length) : (rowC ds b)[k]? = some (Cm ds b k) := by
  unfold rowC
  rw [List.getElem?_map, List.getElem?_range (by omega)]
  rfl
theorem rowC_len (ds : List Int) (b : Nat) : (rowC ds b).length = ds.length + 1 := by simp [rowC]
theorem pick_v {c : Prop} [Decidable c] {A B : TE} {σ : L2.St} {H : Hp} {K : VK} (v : V) (hA : c → ∀ K' : VK, K' v H → A σ H K') (hB : ¬ c → ∀ K' : VK, K' v H → B σ H K') (k : K v H) : if decide c = true then A σ H K else B σ H K := by
  by_cases h : c
  · rw [decide_eq_true h]
    exact iteT (hA h K k)
  · rw [decide_eq_false h]
    exact iteF (hB h K k)
def spHeldT (K : PySem.W.Frag) : Sp := fun vs H Q _ => ∃ (N : Addr → Prop) (D : Addr) (rs : List Addr) (ps : List Pr) (n : Nat), vs = [.ref D, .int n] ∧ H D = some (.lst (rs.map V.ref)) ∧ Rows N H rs ps ∧ (∀ p ∈ ps, 1 ≤ p.2 ∧ p.2 ≤ 1000) ∧ 2 ≤ ps.length ∧ ps.length ≤ 12 ∧ n ≤ 1000 ∧ ∀ x H', Same H H' → H x = Option.none → TabR (fun b => H b = Option.none) H' x (dsOf ps) n → Q (.ref x) H'
def spNextRow (K : PySem.W.Frag) : Sp := fun vs H Q _ => ∃ (N : Addr → Prop) (x : Addr) (ds : List Int) (n b : Nat) (pc : Int), vs = [.ref x, .int b, .int pc] ∧ TabR N H x ds n ∧ b < n ∧ ds.length ≤ 100 ∧ ∀ D H', Same H H' → H D = Option.none → H' D = some (.lst (((rowC ds b).tail.map (· + pc)).map V.int)) → Q (.ref D) H'

theorem sc__law_held : FnScope ["_law_people_here", "_law_count", "_law_ticks", "_law_rows", "_law_bucket", "_law_row", "_law_k", "_law_begin"] ["_law_people_here", "_law_count"] (defScope s__law_held) := ⟨rfl, rfl, rfl, by decide +kernel, rfl, by decide +kernel, by decide +kernel⟩
theorem ok__law_held (T : Tx K mg) (D__law_durations : Fx P w K mg base 1 (He.ga K "_law_durations") (spLDurs K)) : Fx P w K mg base 2 (He.ga K "_law_held") (spHeldT K) := by
  have K__law_durations : PySem.W.keepIn K (.ref (He.ga K "_law_durations")) = true := T.F__law_durations.elim fun _ q => q.kp
  obtain ⟨fd, F⟩ := T.F__law_held
  have nd := sc__law_held.nd
  refine fx_of F sc__law_held (fun vs H Q E h => ?_) (fun _ _ _ _ _ _ us hl => match us, hl with | [_, _], _ => rfl) fun cdv A outer s H vs Q E hr h => ?_
  · obtain ⟨N, D, rs, ps, n, rfl, _⟩ := h
    rfl
  obtain ⟨N, D, rs, ps, n, rfl, eD, hR, hb, h2, h12, hn, h⟩ := h
  refine ⟨_, (pss_cons (ps_par (i := 2) (j := 3) rfl nd rfl rfl (by decide) rfl rfl (pa_cons (pe_cl D__law_durations hr K__law_durations T.g__law_durations passL (pa_cons (pv 0) pa_nil)) (pa_cons (pe_lst pa_nil) pa_nil)) rfl) (pss_cons (ps_for PassesOwn.never rfl (pi_range1 rfl T.m_range (pa_cons (pv 1) pa_nil)) (pg_name (i := 4) nd rfl (Or.inl rfl)) (pss_cons (ps_set (i := 5) nd rfl (Or.inl rfl) (pe_lst (pa_cons (pe_ifExp (pt_cmpR (Bk.eqD K hr.units) (pv 3) (pe_lst pa_nil) (nomark _)) pe_int (pe_ix (ixL K) (pe_ix (ixL K) (pv 3) (pe_un un_neg pe_int) (fun _ _ => rfl)) pe_int (fun _ _ => rfl))) pa_nil))) (pss_cons (ps_for PassesOwn.never rfl (pi_range1 rfl T.m_range (pa_cons (cB call_len_seq T.m_len (pa_cons (pv 2) pa_nil)) pa_nil)) (pg_name (i := 6) nd rfl (Or.inl rfl)) (pss_cons (ps_set (i := 7) nd rfl (Or.inl rfl) (pe_ix (ixL K) (pv 5) (pv 6) (fun _ _ => rfl))) (pss_cons (ps_if (PW.pt (pw_and (pt_cmpR (Bk.neD K hr.units) (pv 3) (pe_lst pa_nil) (nomark _)) (pw_and1 (pt_cmpR op_lt (pe_op op_add (pv 6) pe_int) (cB call_len_seq T.m_len (pa_cons (pv 0) pa_nil)) (nomark _))))) (pss_one (ps_set (i := 7) nd rfl (Or.inl rfl) (cB (call_max2 rfl) T.m_max (pa_cons (pv 7) (pa_cons (pe_ix (ixL K) (pe_ix (ixL K) (pv 3) (pe_un un_neg pe_int) (fun _ _ => rfl)) (pe_op op_add (pv 6) pe_int) (fun _ _ => rfl)) pa_nil))))) pss_nil) (pss_one (ps_expr (pe_bm PySem.F.plainAttrs_list PySem.F.slot_list_append PySem.F.type_list_append mt_append (pv 5) (pa_cons (pe_op op_add (pv 7) (pe_ix (ixL K) (pv 2) (pv 6) (fun _ _ => rfl))) pa_nil))))))) (pss_one (ps_expr (pe_bm PySem.F.plainAttrs_list PySem.F.slot_list_append PySem.F.type_list_append mt_append (pv 3) (pa_cons (pv 5) pa_nil))))))) (pss_one (ps_ret (pv 3))))), ?_⟩
  have hrl := hR.1
  have hdl := dsOf_len ps
  have hd := dd_bd (ds := dsOf ps) fun x hx => by have := dsOf_bd hb x hx; omega
  walk_at "go"
  refine ⟨N, D, rs, ps, rfl, eD, hR, by omega, by omega, fun tk H1 s1 htk etk1 => ?_⟩
  walk_at "go"
  refine ⟨Nat.zero_le _, fun x hx => ?_⟩
  have sx := same_upd (o := .lst []) hx
  have hxH := s1.free hx
  have htx : tk ≠ x := ne_of_none etk1 hx
  walk_at "go"
  refine ⟨_, rfl, by omega, by omega, ?_⟩
  rw [show ((n : Int)).toNat = n by omega]
  refine for_w (walk_range (lo := 0) (n := n)) (fun i σ H' => Same H H' ∧ H' tk = some (.lst ((dsOf ps).map V.int)) ∧ TabR (fun b => H b = Option.none) H' x (dsOf ps) i ∧ ∃ u4 u5 u6 u7, σ = [some (.ref D), some (.int n), some (.ref tk), some (.ref x), u4, u5, u6, u7]) ⟨s1.trans sx, sx _ _ etk1, ⟨[], upd_same, rfl, hxH, fun i t e => by simp at e⟩, _, _, _, _, rfl⟩ (fun _ _ _ _ _ => trivial) ?_ ?_
  · rintro i y σ Ha Hb hi ⟨sa, etk, hT, u4, u5, u6, u7, rfl⟩ ⟨rfl, rfl⟩
    dsimp only
    rw [Int.zero_add]
    obtain ⟨ts, ets, hlt, _, hts⟩ := id hT
    walk_at "go"
    refine ⟨Nat.zero_le _, fun e0 he0 => ?_⟩
    have se := same_upd (o := .lst []) he0
    have hT1 := hT.mono (frn_same se)
    have ee : (upd Hb e0 (.lst [])) e0 = some (.lst []) := upd_same
    generalize upd Hb e0 (.lst []) = Hc at se hT1 ee ⊢
    refine go_eqTab hT1 (.inl (.inl ee)) ?_
    walk_at "go"
    have lastrow : ∀ {i' : Nat}, i = i' + 1 → ∃ t : Addr, (ts.map V.ref)[(ts.map V.ref).length - 1]? = some (.ref t) ∧ t ≠ x ∧ H t = Option.none ∧ Hb t = some (.lst ((rowC (dsOf ps) i').map V.int)) := fun {i'} ei => by
      have hlt2 : i' < ts.length := by omega
      have q := hts i' ts[i'] (by simp [hlt2])
      refine ⟨ts[i'], ?_, q⟩
      rw [List.length_map, show ts.length - 1 = i' by omega]
      simp [hlt2]
    refine pick_v (.int (Cm (dsOf ps) i 0)) (fun h0 K' k' => ?_) (fun h0 K' k' => ?_) ?_
    · subst h0
      walk_at "go"
      rw [Cm_00] at k'
      exact k'
    · obtain ⟨i', ei⟩ : ∃ i', i = i' + 1 := ⟨i - 1, by omega⟩
      obtain ⟨t, et, _, _, hrow⟩ := lastrow ei
      subst ei
      walk_at "go"
      refine go_ixL (n := -((1 : Nat) : Int)) (.inl (.inl (se _ _ ets))) (at_neg (by omega) (by simp; omega) et) ?_
      walk_at "go"
      refine go_ixL (n := ((1 : Nat) : Int)) (.inl (.inl (se _ _ hrow))) (at_nat (at_map (rowC_at _ _ (by omega)))) ?_
      rw [Cm_0] at k'
      exact k'
    walk_at "go"
    refine ⟨show 1 ≤ sizeLine by decide, fun r hr0 => ?_⟩
    have sr := same_upd (o := .lst [V.int (Cm (dsOf ps) i 0)]) hr0
    have er : (upd Hc r (.lst [V.int (Cm (dsOf ps) i 0)])) r = some (.lst [V.int (Cm (dsOf ps) i 0)]) := upd_same
    have sbr := se.trans sr
    have hrH := (sa.trans se).free hr0
    have hrx : r ≠ x := fun z => by rw [z, se _ _ ets] at hr0; cases hr0
    generalize upd Hc r (.lst [V.int (Cm (dsOf ps) i 0)]) = Hr at sr sbr er ⊢
    walk_at "go"
    refine ⟨_, _, rfl, .inl (.inl (.inl (sbr _ _ etk))), ?_⟩
    refine ⟨_, rfl, by omega, by simp; omega, ?_⟩
    rw [List.length_map, show (((dsOf ps).length : Int)).toNat = (dsOf ps).length by omega]
    refine for_w (walk_range (lo := 0) (n := (dsOf ps).length)) (fun k σ H' => Same Hb H' ∧ H' r = some (.lst (((List.range (k + 1)).map (Cm (dsOf ps) i)).map V.int)) ∧ ∃ u6 u7, σ = [some (.ref D), some (.int n), some (.ref tk), some (.ref x), some (.int i), some (.ref r), u6, u7]) ⟨sbr, er, _, _, rfl⟩ (fun _ _ _ _ _ => trivial) ?_ ?_
    · rintro k y σ Hd He hk ⟨sd, er, v6, v7, rfl⟩ ⟨rfl, rfl⟩
      dsimp only
      rw [Int.zero_add]
      have hkk : k < (dsOf ps).length := hk
      have edp : dd (dsOf ps) k = (dsOf ps)[k] := by simp [dd, List.getD, hk]
      have fin : ∀ B : Int, B + dd (dsOf ps) k = Cm (dsOf ps) i (k + 1) → ∀ Hf, Same He Hf → rAppend (.ref r) [.int (B + (dsOf ps)[k])] Hf fun _ H6 => (Same Hb H6 ∧ H6 r = some (.lst (((List.range (k + 1 + 1)).map (Cm (dsOf ps) i)).map V.int)) ∧ ∃ u6 u7, [some (V.ref D), some (V.int n), some (V.ref tk), some (V.ref x), some (V.int i), some (V.ref r), some (V.int k), some (V.int B)] = [some (.ref D), some (.int n), some (.ref tk), some (.ref x), some (.int i), some (.ref r), u6, u7]) := by
        intro B eB Hf sf
        refine ⟨r, _, _, rfl, rfl, sf _ _ er, ?_, fun b o eb => ?_, ?_, _, _, rfl⟩
        · simp only [List.length_map, List.length_range]
          exact Nat.lt_of_lt_of_le (show k + 1 < 2000 by omega) (by decide)
        · rw [upd_ne (fun z => by rw [z] at eb; exact absurd ((se _ _ eb).symm.trans hr0) (by simp))]
          exact sf _ _ (sd _ _ eb)
        · rw [upd_same, show List.range (k + 1 + 1) = List.range (k + 1) ++ [k + 1] from List.range_succ, List.map_append, List.map_append, ← edp, eB]
          rfl
      walk_at "go"
      refine go_ixL (.inl (.inl er)) (at_nat (at_map (at_map (List.getElem?_range (show k < k + 1 by omega))))) ?_
      walk_at "go"
      refine ⟨Nat.zero_le _, fun e1 he1 => ?_⟩
      have s1e := same_upd (o := .lst []) he1
      have ee1 : (upd He e1 (.lst [])) e1 = some (.lst []) := upd_same
      generalize upd He e1 (.lst []) = Hf at s1e ee1 ⊢
      have sdf := sd.trans s1e
      refine go_neTab (hT.mono (frn_same sdf)) (.inl (.inl ee1)) ?_
      walk_at "go"
      have eDf := sdf _ _ (sa _ _ eD)
      have erf := s1e _ _ er
      have etkf := sdf _ _ etk
      have tail : ∀ B : Int, B + dd (dsOf ps) k = Cm (dsOf ps) i (k + 1) → True := fun _ _ => trivial
      by_cases h0 : i = 0
      · rw [decide_eq_true h0]
        refine iteF (iteF ?_)
        walk_at "go"
        refine ⟨ty_lst erf, ?_⟩
        walk_at "go"
        refine go_ixL (.inl (.inl etkf)) (at_nat (at_map (show (dsOf ps)[k]? = some (dsOf ps)[k] by simp [hk]))) ?_
        walk_at "go"
        refine fin _ ?_ _ s1e
        subst h0
        exact held_0 _ _
      · rw [decide_eq_false h0]
        refine iteT ?_
        obtain ⟨i', ei⟩ : ∃ i', i = i' + 1 := ⟨i - 1, by omega⟩
        obtain ⟨t, et, _, _, hrow⟩ := lastrow ei
        walk_at "go"
        refine ⟨_, _, rfl, .inl (.inl (.inl eDf)), ?_⟩
        rw [List.length_map, hrl]
        walk_at "go"
        refine iteD (fun hc => ?_) fun hc => ?_
        · walk_at "go"
          refine go_ixL (n := -((1 : Nat) : Int)) (.inl (.inl (sdf _ _ ets))) (at_neg (by omega) (by simp; omega) et) ?_
          walk_at "go"
          refine go_ixL (n := ((k + 2 : Nat) : Int)) (.inl (.inl (sdf _ _ hrow))) (at_nat (at_map (rowC_at _ _ (by omega)))) ?_
          walk_at "go"
          refine ⟨_, _, rfl, ?_⟩
          walk_at "go"
          refine ⟨ty_lst erf, ?_⟩
          walk_at "go"
          refine go_ixL (.inl (.inl etkf)) (at_nat (at_map (show (dsOf ps)[k]? = some (dsOf ps)[k] by simp [hk]))) ?_
          walk_at "go"
          refine fin _ ?_ _ s1e
          subst ei
          rw [← held_s hd i' k (by omega)]
          split <;> omega
        · walk_at "go"
          refine ⟨ty_lst erf, ?_⟩
          walk_at "go"
          refine go_ixL (.inl (.inl etkf)) (at_nat (at_map (show (dsOf ps)[k]? = some (dsOf ps)[k] by simp [hk]))) ?_
          walk_at "go"
          refine fin _ ?_ _ s1e
          subst ei
          exact held_l hd i' k (by omega)
    · rintro σ Hd ⟨sd, er, v6, v7, rfl⟩
      walk_at "go"
      refine ⟨ty_lst (sd _ _ ets), ?_⟩
      walk_at "go"
      refine ⟨x, _, _, rfl, rfl, sd _ _ ets, ?_, ?_⟩
      · rw [List.length_map, hlt]
        exact Nat.lt_of_lt_of_le (show i < 2000 by omega) (by decide)
      · walk_at "go"
        refine ⟨fun b o eb => ?_, ?_, ⟨ts ++ [r], by rw [upd_same, List.map_append]; rfl, by simp [hlt], hxH, fun j t ej => ?_⟩, _, _, _, _, rfl⟩
        · rw [upd_ne (ne_of_none eb hxH)]
          exact sd _ _ (sa _ _ eb)
        · rw [upd_ne htx]
          exact sd _ _ etk
        · by_cases hj : j < ts.length
          · rw [List.getElem?_append_left hj] at ej
            have q := hts j t ej
            refine ⟨q.1, q.2.1, ?_⟩
            rw [upd_ne q.1]
            exact sd _ _ q.2.2
          · have hlj : j < (ts ++ [r]).length := (List.getElem?_eq_some_iff.mp ej).1
            have e10 : j = ts.length := by simp at hlj; omega
            subst e10
            rw [List.getElem?_append_right (Nat.le_refl _)] at ej
            simp at ej
            subst ej
            refine ⟨hrx, hrH, ?_⟩
            rw [upd_ne hrx, er, hlt]
            rfl
  · rintro σ Ha ⟨sa, etk, hT, u4, u5, u6, u7, rfl⟩
    walk_at "go"
    exact h x Ha sa hxH hT

end
end K
namespace K
open PySem PySem.Spec PyProof.Rows L2 Bk
local macro_rules | `(tactic| walk_at "go1") => `(tactic| (first
  | ((with_reducible show tVar _ _ _ _); refine go_var rfl ?_)
  | (with_reducible first | refine go_c ?_ | refine go_op ?_ | refine go_cons ?_ | refine go_nil ?_ | refine go_cb ?_ | refine go_cl ?_ | refine go_seq ?_ | refine go_asg ?_ | refine go_name ?_ | refine go_ifS ?_ | refine go_test ?_ | refine go_bl ?_)
  | (with_reducible first | refine go_rI0 ?_ | refine go_rU ?_ | refine go_ret ?_ | refine go_next ?_ | refine go_B ?_ | refine go_and ?_ | refine go_or ?_ | refine go_not ?_ | refine go_if ?_ | refine go_andV ?_ | refine go_orV ?_ | refine go_notV ?_)
  | ((with_reducible show rEq _ _ _ _); refine go_rEq rfl ?_)
  | ((with_reducible show rNe _ _ _ _); refine go_rNe rfl ?_)
  | (with_reducible first | refine go_un ?_ | refine go_chain ?_ | refine go_drop ?_ | refine go_retN ?_ | refine go_isN ?_ | refine go_notN ?_ | refine go_cont ?_ | refine go_break ?_ | refine go_par ?_ | refine go_two ?_ | refine go_part ?_ | refine go_noPart ?_ | refine go_int ?_ | refine go_sl ?_ | refine go_yes ?_ | refine go_tup ?_ | refine go_lst ?_)
  | (with_reducible first | refine go_gCons ?_ | refine go_gNil ?_ | refine go_for ?_ | refine go_iEnT ?_ | refine go_iEnum ?_ | refine go_iList ?_ | refine go_iTup ?_ | refine go_iStr ?_ | refine go_iRng1 ?_ | refine go_iRng2 ?_ | refine go_iZip ?_ | refine go_lc ?_ | refine go_mkR ?_ | refine go_mkS ?_ | refine go_clO ?_ | refine go_pr ?_ | refine go_sfld ?_ | refine go_bm ?_ | refine go_ref ?_)))
local macro_rules | `(tactic| walk_at "go") => `(tactic| ((repeat (walk_at "go1")); try dsimp only))
local macro_rules | `(tactic| walk_at "so") => `(tactic| first | omega | (simp; done) | (simp; omega) | (simp at *; omega))
section
variable {P : Program} {w : World} {K : PySem.W.Frag} {mg : Str → Option Value} {base : Heap}
/-! what the law reckons -/
theorem lin {ds : List Int} (hb : ∀ x ∈ ds, 0 ≤ x ∧ x ≤ 1000) (h1 : 1 ≤ ds.length) (b c : Nat) : Cm ds (b + c) ds.length = Cm ds b ds.length + (c : Int) * Mt.Lm (dd ds) (tN ds.length) := by
  have hd := dd_bd hb
  unfold Cm
  rw [if_neg (by omega), if_neg (by omega)]
  by_cases e : ds.length = 1
  · have e1 : dd ds 1 = 0 := by simp [dd, List.getD, e]
    have eT : tN ds.length = 1 := by unfold tN; omega
    rw [eT, Mt.Lm_1, e, Mt.En_one, Mt.En_one, Int.natCast_add, Int.mul_add]
    have : Mt.tn (dd ds) 0 = dd ds 0 := by simp [Mt.tn, e1]
    rw [this, Int.mul_comm (c : Int)]
    omega
  · have eT : tN ds.length = ds.length - 1 := by unfold tN; omega
    rw [eT, Mt.En_last _ _ (fun i _ => (hd i).1) (by omega), Mt.En_last _ _ (fun i _ => (hd i).1) (by omega), Int.natCast_add, Int.mul_add, Int.mul_comm (c : Int)]
    omega
theorem row_iff {ds : List Int} {B : Int} (h : SteadyAll ds B) (k : Nat) : (rowL ds (k + 1) = (List.range ds.length).map fun p => Mt.En (dd ds) (ds.length - 1) k p + Mt.Lm (dd ds) (tN ds.length)) ↔ B ≤ (k : Int) := by
  rw [h.2.2 k]
  unfold rowL
  constructor
  · intro e p hp
    have := congrArg (·[p]?) e
    simpa [hp] using this
  · intro e
    apply List.map_congr_left
    intro p hp
    exact e p (List.mem_range.mp hp)
/-- what stands through the turns of the law -/
theorem cm0_last {ps : List Pr} (h2 : 2 ≤ ps.length) : Cm (dsOf ps) 0 (ps.length - 1) = (dsOf ps).sum := by
  have hl := dsOf_len ps
  unfold Cm
  rw [if_neg (by omega), Mt.En_0]
  have := sum_take (dsOf ps) (ps.length - 1 - 1) (by omega)
  rw [← this, List.take_of_length_le (by omega)]



def Shift (ds : List Int) (k : Nat) : Prop := ∀ p, p < ds.length → Mt.En (dd ds) (ds.length - 1) (k + 1) p = Mt.En (dd ds) (ds.length - 1) k p + Mt.Lm (dd ds) (tN ds.length)
theorem rowC_tail (ds : List Int) (b : Nat) : (rowC ds b).tail = (List.range ds.length).map fun p => Mt.En (dd ds) (ds.length - 1) b p := by
  unfold rowC
  rw [List.range_succ_eq_map, List.map_cons, List.tail_cons, List.map_map]
  apply List.map_congr_left
  intro p _
  simp [Cm]
theorem rows_shift (ds : List Int) (b : Nat) {pc : Int} (hp : pc = Mt.Lm (dd ds) (tN ds.length)) : ((rowC ds b).tail.map (· + pc) = (rowC ds (b + 1)).drop 1) ↔ Shift ds b := by
  rw [List.drop_one, rowC_tail, rowC_tail, List.map_map, List.map_inj_left, hp]
  constructor
  · intro h p q
    exact (h p (List.mem_range.mpr q)).symm
  · intro h p q
    exact (h p (List.mem_range.mp q)).symm
theorem lin_st {ds : List Int} {k : Nat} (h : ∀ j, k ≤ j → Shift ds j) : ∀ (m p : Nat), p < ds.length → Mt.En (dd ds) (ds.length - 1) (k + m) p = Mt.En (dd ds) (ds.length - 1) k p + (m : Int) * Mt.Lm (dd ds) (tN ds.length)
  | 0, p, _ => by simp
  | m + 1, p, hp => by
    rw [show k + (m + 1) = k + m + 1 by omega, h (k + m) (by omega) p hp, lin_st h m p hp, Int.natCast_add, Int.add_mul]
    simp
    omega
theorem sum_bd : ∀ l : List Int, (∀ x ∈ l, 1 ≤ x ∧ x ≤ 1000) → (l.length : Int) ≤ l.sum ∧ l.sum ≤ 1000 * (l.length : Int)
  | [], _ => by simp
  | x :: l, h => by
    have := sum_bd l fun y hy => h y (List.mem_cons_of_mem _ hy)
    have := h x List.mem_cons_self
    simp only [List.sum_cons, List.length_cons]
    omega
theorem by_ok {S P t : Int} (hP : 0 < P) : ∃ c : Nat, max 0 ((t - S) / P + 1) = (c : Int) ∧ (0 < c → S + ((c - 1 : Nat) : Int) * P ≤ t) ∧ t < S + (c : Int) * P ∧ (c : Int) ≤ max 0 (t - S + 1) := by
  have h1 := Int.mul_ediv_self_le (x := t - S) (k := P) (by omega)
  have h2 := Int.lt_mul_ediv_self_add (x := t - S) hP
  generalize hq : (t - S) / P = q at h1 h2
  by_cases c0 : 0 < q + 1
  · refine ⟨(q + 1).toNat, by omega, fun _ => ?_, ?_, ?_⟩
    · rw [show (((q + 1).toNat - 1 : Nat) : Int) = q by omega, Int.mul_comm]
      omega
    · rw [show (((q + 1).toNat : Nat) : Int) = q + 1 by omega, Int.add_mul, Int.mul_comm q P]
      omega
    · have h3 : q ≤ P * q := by
        have := Int.mul_le_mul_of_nonneg_right (show (1 : Int) ≤ P by omega) (show 0 ≤ q by omega)
        omega
      omega
  · refine ⟨0, by omega, fun z => absurd z (by omega), ?_, by omega⟩
    have h3 : P * (q + 1) ≤ 0 := Int.mul_nonpos_of_nonneg_of_nonpos (by omega) (by omega)
    rw [Int.mul_add] at h3
    simp
    omega
theorem cm_lin {ps : List Pr} (hG : Good ps) (c : Nat) : Cm (dsOf ps) c (ps.length - 1) = (dsOf ps).sum + (c : Int) * paceOf ps := by
  have hl := dsOf_len ps
  have h2 := hG.two
  have := lin hG.ds (by omega) 0 c
  rw [Nat.zero_add, hl, cm0_last h2] at this
  exact this
theorem TabR.imp {N M : Addr → Prop} {H : Hp} {x : Addr} {ds : List Int} {n : Nat} (f : ∀ b, N b → M b) (h : TabR N H x ds n) : TabR M H x ds n := by
  obtain ⟨ts, a, b, c, d⟩ := h
  exact ⟨ts, a, b, f _ c, fun i t e => by
    obtain ⟨p, q, r⟩ := d i t e
    exact ⟨p, f _ q, r⟩⟩
structure Bx (K : PySem.W.Frag) (H : Hp) (s0 L o dx tp tn td x An : Addr) (rs0 : List Addr) (ps : List Pr) : Prop where
  st : HSt H s0 L
  lf : LineF K (NN s0 L) H o dx tp tn td rs0 ps
  eAn : H An = some (.lst ((ps.map (·.1)).map V.str))
  nAn : NN s0 L An
  tab : TabR (NN s0 L) H x (dsOf ps) 120
theorem Bx.mv {K : PySem.W.Frag} {H H' : Hp} {s0 L o dx tp tn td x An : Addr} {rs0 : List Addr} {ps : List Pr} (h : Bx K H s0 L o dx tp tn td x An rs0 ps) (f : FrN (NN s0 L) H H') (st : HSt H' s0 L) : Bx K H' s0 L o dx tp tn td x An rs0 ps :=
  ⟨st, ⟨h.lf.no, h.lf.np, h.lf.nn, h.lf.nd, f _ _ h.lf.no h.lf.obj, f _ _ h.lf.np h.lf.pp, h.lf.rows.mono f, f _ _ h.lf.nn h.lf.nm, f _ _ h.lf.nd h.lf.ds⟩, f _ _ h.nAn h.eAn, h.nAn, h.tab.mono f⟩
theorem Bx.keep {K : PySem.W.Frag} {H H' : Hp} {s0 L o dx tp tn td x An : Addr} {rs0 : List Addr} {ps : List Pr} (h : Bx K H s0 L o dx tp tn td x An rs0 ps) (e : Same H H') : Bx K H' s0 L o dx tp tn td x An rs0 ps := h.mv (frn_same e) (h.st.keep e)
theorem Bx.far {K : PySem.W.Frag} {H : Hp} {s0 L o dx tp tn td x An : Addr} {rs0 : List Addr} {ps : List Pr} (h : Bx K H s0 L o dx tp tn td x An rs0 ps) {i : Nat} (hi : i < 120) : ∃ ts : List Addr, ∃ t : Addr, H x = some (.lst (ts.map V.ref)) ∧ ts[i]? = some t ∧ H t = some (.lst ((rowC (dsOf ps) i).map V.int)) := by
  obtain ⟨ts, a, b, c, d⟩ := h.tab
  have e : ts[i]? = some (ts[i]'(by omega)) := by simp [show i < ts.length by omega]
  exact ⟨ts, _, a, e, (d i _ e).2.2⟩

end
end K
namespace K
open PySem PySem.Spec PyProof.Rows L2 Bk
local macro_rules | `(tactic| walk_at "go1") => `(tactic| (first
  | ((with_reducible show tVar _ _ _ _); refine go_var rfl ?_)
  | (with_reducible first | refine go_c ?_ | refine go_op ?_ | refine go_cons ?_ | refine go_nil ?_ | refine go_cb ?_ | refine go_cl ?_ | refine go_seq ?_ | refine go_asg ?_ | refine go_name ?_ | refine go_ifS ?_ | refine go_test ?_ | refine go_bl ?_)
  | (with_reducible first | refine go_rI0 ?_ | refine go_rU ?_ | refine go_ret ?_ | refine go_next ?_ | refine go_B ?_ | refine go_and ?_ | refine go_or ?_ | refine go_not ?_ | refine go_if ?_ | refine go_andV ?_ | refine go_orV ?_ | refine go_notV ?_)
  | ((with_reducible show rEq _ _ _ _); refine go_rEq rfl ?_)
  | ((with_reducible show rNe _ _ _ _); refine go_rNe rfl ?_)
  | (with_reducible first | refine go_un ?_ | refine go_chain ?_ | refine go_drop ?_ | refine go_retN ?_ | refine go_isN ?_ | refine go_notN ?_ | refine go_cont ?_ | refine go_break ?_ | refine go_par ?_ | refine go_two ?_ | refine go_part ?_ | refine go_noPart ?_ | refine go_int ?_ | refine go_sl ?_ | refine go_yes ?_ | refine go_tup ?_ | refine go_lst ?_)
  | (with_reducible first | refine go_gCons ?_ | refine go_gNil ?_ | refine go_for ?_ | refine go_iEnT ?_ | refine go_iEnum ?_ | refine go_iList ?_ | refine go_iTup ?_ | refine go_iStr ?_ | refine go_iRng1 ?_ | refine go_iRng2 ?_ | refine go_iZip ?_ | refine go_lc ?_ | refine go_mkR ?_ | refine go_mkS ?_ | refine go_clO ?_ | refine go_pr ?_ | refine go_sfld ?_ | refine go_bm ?_ | refine go_ref ?_)))
local macro_rules | `(tactic| walk_at "go") => `(tactic| ((repeat (walk_at "go1")); try dsimp only))
local macro_rules | `(tactic| walk_at "so") => `(tactic| first | omega | (simp; done) | (simp; omega) | (simp at *; omega))
section
variable {P : Program} {w : World} {K : PySem.W.Frag} {mg : Str → Option Value} {base : Heap}
/-! a hidden pace: when a first bucket tells all paces apart -/
/-- the ints from lo to hi -/
def rng (lo hi : Int) : List Int := (List.range (hi - lo + 1).toNat).map fun k : Nat => lo + (k : Int)
theorem rng_len (lo hi : Int) : (rng lo hi).length = (hi - lo + 1).toNat := by simp [rng]
theorem rng_at {lo hi : Int} {k : Nat} (h : k < (hi - lo + 1).toNat) : (rng lo hi)[k]? = some (lo + (k : Int)) := by
  unfold rng
  rw [List.getElem?_map, List.getElem?_range h] <;> rfl
theorem rng_mem {lo hi x : Int} : x ∈ rng lo hi ↔ lo ≤ x ∧ x ≤ hi := by
  unfold rng
  rw [List.mem_map]
  constructor
  · rintro ⟨k, hk, rfl⟩
    have := List.mem_range.mp hk
    omega
  · rintro ⟨h1, h2⟩
    exact ⟨(x - lo).toNat, List.mem_range.mpr (by omega), by omega⟩
theorem rng_pw (lo hi : Int) : (rng lo hi).Pairwise (· < ·) := by
  unfold rng
  rw [List.pairwise_map]
  exact List.pairwise_lt_range.imp fun h => by omega
theorem pw_ext : ∀ {a b : List Int}, a.Pairwise (· < ·) → b.Pairwise (· < ·) → (∀ x, x ∈ a ↔ x ∈ b) → a = b
  | [], [], _, _, _ => rfl
  | [], y :: b, _, _, h => absurd ((h y).mpr List.mem_cons_self) List.not_mem_nil
  | x :: a, [], _, _, h => absurd ((h x).mp List.mem_cons_self) List.not_mem_nil
  | x :: a, y :: b, ha, hb, h => by
    have ha1 := List.pairwise_cons.mp ha
    have hb1 := List.pairwise_cons.mp hb
    have e : x = y := by
      rcases List.mem_cons.mp ((h x).mp List.mem_cons_self) with e | e
      · exact e
      · have p1 := hb1.1 x e
        rcases List.mem_cons.mp ((h y).mpr List.mem_cons_self) with e2 | e2
        · exact e2.symm
        · have p2 := ha1.1 y e2
          omega
    subst e
    rw [pw_ext ha1.2 hb1.2 fun z => ?_]
    constructor
    · intro hz
      rcases List.mem_cons.mp ((h z).mp (List.mem_cons_of_mem _ hz)) with e | e
      · have := ha1.1 z hz
        omega
      · exact e
    · intro hz
      rcases List.mem_cons.mp ((h z).mpr (List.mem_cons_of_mem _ hz)) with e | e
      · have := hb1.1 z hz
        omega
      · exact e
/-- those of a range that show a tick are a range -/
theorem flt_rng {lo hi l g : Int} {p : Int → Bool} (h1 : lo ≤ l) (h2 : g ≤ hi) (h : ∀ x, lo ≤ x → x ≤ hi → (p x = true ↔ l ≤ x ∧ x ≤ g)) : (rng lo hi).filter p = rng l g := by
  refine pw_ext ((rng_pw lo hi).filter _) (rng_pw l g) fun x => ?_
  rw [List.mem_filter, rng_mem, rng_mem]
  constructor
  · rintro ⟨⟨a, b⟩, c⟩
    exact (h x a b).mp c
  · rintro ⟨a, b⟩
    exact ⟨⟨by omega, by omega⟩, (h x (by omega) (by omega)).mpr ⟨a, b⟩⟩
theorem flt_non {lo hi : Int} {p : Int → Bool} (h : ∀ x, lo ≤ x → x ≤ hi → p x = false) : (rng lo hi).filter p = [] := by
  rw [List.filter_eq_nil_iff]
  intro x hx
  obtain ⟨a, b⟩ := rng_mem.mp hx
  rw [h x a b]
  exact Bool.false_ne_true
/-- sums of lists of which none is greater -/
theorem sum_le2 : ∀ {a b : List Int}, a.length = b.length → (∀ i, a.getD i 0 ≤ b.getD i 0) → a.sum ≤ b.sum ∧ (a.sum = b.sum → a = b) ∧ ((∃ i, a.getD i 0 < b.getD i 0) → a.sum < b.sum)
  | [], [], _, _ => ⟨Int.le_refl _, fun _ => rfl, fun ⟨i, h⟩ => absurd h (by simp)⟩
  | [], _ :: _, h, _ => absurd h (by simp)
  | _ :: _, [], h, _ => absurd h (by simp)
  | x :: a, y :: b, hl, h => by
    have hxy : x ≤ y := h 0
    obtain ⟨i1, i2, i3⟩ := sum_le2 (a := a) (b := b) (by simpa using hl) fun i => h (i + 1)
    simp only [List.sum_cons]
    refine ⟨by omega, fun e => ?_, ?_⟩
    · have e1 : x = y := by omega
      rw [e1, i2 (by omega)]
    · rintro ⟨i, hi⟩
      cases i with
      | zero =>
        have hi : x < y := hi
        omega
      | succ i =>
        have := i3 ⟨i, hi⟩
        omega
section
variable {ps : List Pr} {h : Nat}
theorem dd_set_at {v : Int} {i : Nat} (hi : i + 1 < ps.length) : dd (dsOf (setP ps h v)) i = max (if i = h then v else ps[i].2) (if i + 1 = h then v else ps[i + 1].2) := by
  have a1 := setP_at (h := h) (v := v) (show ps[i]? = some ps[i] by simp [show i < ps.length by omega])
  have a2 := setP_at (h := h) (v := v) (show ps[i + 1]? = some ps[i + 1] by simp [hi])
  unfold dd
  rw [List.getD, dsOf_at _ i _ _ a1 a2, Option.getD_some]
theorem dd_out {v : Int} {i : Nat} (hi : ¬ i + 1 < ps.length) : dd (dsOf (setP ps h v)) i = 0 := by
  unfold dd
  rw [List.getD, List.getElem?_eq_none (by rw [dsOf_len, setP_len]; omega)] <;> rfl
/-- where it grows once it grows from then on -/
theorem dd_grow {u v : Int} (huv : u ≤ v) {i : Nat} (g : dd (dsOf (setP ps h u)) i < dd (dsOf (setP ps h (u + 1))) i) : dd (dsOf (setP ps h v)) i < dd (dsOf (setP ps h (v + 1))) i := by
  by_cases hi : i + 1 < ps.length
  · rw [dd_set_at hi, dd_set_at hi] at g ⊢
    split at g <;> split at g <;> simp_all <;> omega
  · rw [dd_out hi, dd_out hi] at g
    omega
theorem sum_dd {u v : Int} (huv : u ≤ v) : (dsOf (setP ps h u)).sum ≤ (dsOf (setP ps h v)).sum ∧ ((dsOf (setP ps h u)).sum = (dsOf (setP ps h v)).sum → dsOf (setP ps h u) = dsOf (setP ps h v)) ∧ ((∃ i, dd (dsOf (setP ps h u)) i < dd (dsOf (setP ps h v)) i) → (dsOf (setP ps h u)).sum < (dsOf (setP ps h v)).sum) :=
  sum_le2 (by rw [dsOf_len, dsOf_len, setP_len, setP_len]) fun i => dd_set huv i
/-- the first bucket comes to the last person after all hand-overs -/
theorem f0_last (h2 : 2 ≤ ps.length) (v : Int) : fP ps h 0 (ps.length - 1) v = (dsOf (setP ps h v)).sum := by
  have := cm0_last (ps := setP ps h v) (by rw [setP_len]; exact h2)
  rw [setP_len] at this
  exact this
theorem f0_grow (h2 : 2 ≤ ps.length) {u v : Int} (huv : u ≤ v) (g : fP ps h 0 (ps.length - 1) u < fP ps h 0 (ps.length - 1) (u + 1)) : fP ps h 0 (ps.length - 1) v < fP ps h 0 (ps.length - 1) (v + 1) := by
  rw [f0_last h2, f0_last h2] at g ⊢
  refine (sum_dd (show v ≤ v + 1 by omega)).2.2 ?_
  have : ∃ i, dd (dsOf (setP ps h u)) i < dd (dsOf (setP ps h (u + 1))) i := Classical.byContradiction fun no => by
    have le : ∀ i, dd (dsOf (setP ps h (u + 1))) i ≤ dd (dsOf (setP ps h u)) i := fun i => Int.not_lt.mp fun z => no ⟨i, z⟩
    have := (sum_le2 (a := dsOf (setP ps h (u + 1))) (b := dsOf (setP ps h u)) (by rw [dsOf_len, dsOf_len, setP_len, setP_len]) le).1
    omega
  obtain ⟨i, hi⟩ := this
  exact ⟨i, dd_grow huv hi⟩
/-- if the two least ones differ all do -/
theorem f0_inj (h2 : 2 ≤ ps.length) {lo hi : Int} (g : lo = hi ∨ fP ps h 0 (ps.length - 1) lo < fP ps h 0 (ps.length - 1) (lo + 1)) : ((rng lo hi).map (fP ps h 0 (ps.length - 1))).Nodup := by
  rcases g with rfl | g
  · unfold rng
    rw [show (lo - lo + 1).toNat = 1 by omega]
    simp
  · have mono : ∀ (k : Nat) (x : Int), lo ≤ x → fP ps h 0 (ps.length - 1) x < fP ps h 0 (ps.length - 1) (x + (k : Int) + 1) := by
      intro k
      induction k with
      | zero =>
        intro x hx
        rw [Int.natCast_zero, Int.add_zero]
        exact f0_grow h2 hx g
      | succ k ih =>
        intro x hx
        have h1 := ih x hx
        have h3 := f0_grow h2 (show lo ≤ x + (k : Int) + 1 by omega) g
        rw [show x + ((k + 1 : Nat) : Int) + 1 = x + (k : Int) + 1 + 1 by omega]
        omega
    refine List.pairwise_map.mpr ((rng_pw lo hi).imp_of_mem fun {a b} ha _ hab => ?_)
    have := mono (b - a - 1).toNat a (rng_mem.mp ha).1
    rw [show a + ((b - a - 1).toNat : Int) + 1 = b by omega] at this
    omega
/-- if not, no bucket tells them apart -/
theorem f_same (h2 : 2 ≤ ps.length) {lo hi : Int} (hlt : lo < hi) (g : ¬ fP ps h 0 (ps.length - 1) lo < fP ps h 0 (ps.length - 1) (lo + 1)) (b i : Nat) : Bk.difs ((rng lo hi).map (fP ps h b i)) < ((rng lo hi).map (fP ps h b i)).length := by
  have e : dsOf (setP ps h lo) = dsOf (setP ps h (lo + 1)) := by
    rw [f0_last h2, f0_last h2] at g
    have := sum_dd (ps := ps) (h := h) (show lo ≤ lo + 1 by omega)
    exact this.2.1 (by omega)
  have e2 : fP ps h b i lo = fP ps h b i (lo + 1) := by
    unfold fP
    rw [e]
  refine Bk.difs_lt (i := 0) (j := 1) (x := fP ps h b i lo) (by omega) ?_ ?_
  · rw [List.getElem?_map, rng_at (by omega)]
    simp
  · rw [List.getElem?_map, rng_at (by omega), e2]
    rfl
end

end
end K
namespace K
open PySem PySem.Spec PyProof.Rows L2 Bk
local macro_rules | `(tactic| walk_at "go1") => `(tactic| (first
  | ((with_reducible show tVar _ _ _ _); refine go_var rfl ?_)
  | (with_reducible first | refine go_c ?_ | refine go_op ?_ | refine go_cons ?_ | refine go_nil ?_ | refine go_cb ?_ | refine go_cl ?_ | refine go_seq ?_ | refine go_asg ?_ | refine go_name ?_ | refine go_ifS ?_ | refine go_test ?_ | refine go_bl ?_)
  | (with_reducible first | refine go_rI0 ?_ | refine go_rU ?_ | refine go_ret ?_ | refine go_next ?_ | refine go_B ?_ | refine go_and ?_ | refine go_or ?_ | refine go_not ?_ | refine go_if ?_ | refine go_andV ?_ | refine go_orV ?_ | refine go_notV ?_)
  | ((with_reducible show rEq _ _ _ _); refine go_rEq rfl ?_)
  | ((with_reducible show rNe _ _ _ _); refine go_rNe rfl ?_)
  | (with_reducible first | refine go_un ?_ | refine go_chain ?_ | refine go_drop ?_ | refine go_retN ?_ | refine go_isN ?_ | refine go_notN ?_ | refine go_cont ?_ | refine go_break ?_ | refine go_par ?_ | refine go_two ?_ | refine go_part ?_ | refine go_noPart ?_ | refine go_int ?_ | refine go_sl ?_ | refine go_yes ?_ | refine go_tup ?_ | refine go_lst ?_)
  | (with_reducible first | refine go_gCons ?_ | refine go_gNil ?_ | refine go_for ?_ | refine go_iEnT ?_ | refine go_iEnum ?_ | refine go_iList ?_ | refine go_iTup ?_ | refine go_iStr ?_ | refine go_iRng1 ?_ | refine go_iRng2 ?_ | refine go_iZip ?_ | refine go_lc ?_ | refine go_mkR ?_ | refine go_mkS ?_ | refine go_clO ?_ | refine go_pr ?_ | refine go_sfld ?_ | refine go_bm ?_ | refine go_ref ?_)))
local macro_rules | `(tactic| walk_at "go") => `(tactic| ((repeat (walk_at "go1")); try dsimp only))
local macro_rules | `(tactic| walk_at "so") => `(tactic| first | omega | (simp; done) | (simp; omega) | (simp at *; omega))
section
variable {P : Program} {w : World} {K : PySem.W.Frag} {mg : Str → Option Value} {base : Heap}
/-! what is equal by kinds, lists and tuples within -/
def Sc (x : V) : Prop := x = .non ∨ (∃ b : Bool, x = .bl b) ∨ (∃ i : Int, x = .int i) ∨ ∃ z : Str, PyData.strOk z = true ∧ x = .str z
def EqD (H : Hp) : Nat → V → V → Prop
  | 0, _, _ => False
  | n + 1, x, y => (x = y ∧ Sc x) ∨ (∃ (a b : Addr) (xs ys : List V), x = .ref a ∧ y = .ref b ∧ H a = some (.lst xs) ∧ H b = some (.lst ys) ∧ xs.length = ys.length ∧ xs.length ≤ 100000 ∧ ∀ (i : Nat) (u w : V), xs[i]? = some u → ys[i]? = some w → EqD H n u w) ∨
    (∃ (a b : Addr) (xs ys : List V), x = .ref a ∧ y = .ref b ∧ H a = some (.tup xs) ∧ H b = some (.tup ys) ∧ xs.length = ys.length ∧ xs.length ≤ 100000 ∧ ∀ (i : Nat) (u w : V), xs[i]? = some u → ys[i]? = some w → EqD H n u w)
theorem EqD.keep {H H' : Hp} (e : Same H H') : ∀ {n : Nat} {x y : V}, EqD H n x y → EqD H' n x y
  | 0, _, _, h => h.elim
  | n + 1, x, y, h => by
    rcases h with h | ⟨a, b, xs, ys, h1, h2, h3, h4, h5, h6, h7⟩ | ⟨a, b, xs, ys, h1, h2, h3, h4, h5, h6, h7⟩
    · exact .inl h
    · exact .inr (.inl ⟨a, b, xs, ys, h1, h2, e _ _ h3, e _ _ h4, h5, h6, fun i u w e1 e2 => (h7 i u w e1 e2).keep e⟩)
    · exact .inr (.inr ⟨a, b, xs, ys, h1, h2, e _ _ h3, e _ _ h4, h5, h6, fun i u w e1 e2 => (h7 i u w e1 e2).keep e⟩)
theorem EqD.up {H : Hp} : ∀ {n : Nat} {x y : V}, EqD H n x y → EqD H (n + 1) x y
  | 0, _, _, h => h.elim
  | n + 1, x, y, h => by
    rcases h with h | ⟨a, b, xs, ys, h1, h2, h3, h4, h5, h6, h7⟩ | ⟨a, b, xs, ys, h1, h2, h3, h4, h5, h6, h7⟩
    · exact .inl h
    · exact .inr (.inl ⟨a, b, xs, ys, h1, h2, h3, h4, h5, h6, fun i u w e1 e2 => (h7 i u w e1 e2).up⟩)
    · exact .inr (.inr ⟨a, b, xs, ys, h1, h2, h3, h4, h5, h6, fun i u w e1 e2 => (h7 i u w e1 e2).up⟩)
theorem sh_i (i : Int) : SeqAt.shaped (.int i) = true := by
  unfold SeqAt.shaped
  rw [Bool.and_eq_true, decide_eq_true_iff]
  refine ⟨by simp [PyData.canLay0], ?_⟩
  simp only [PyData.depth]
  omega
theorem sh_b (i : Bool) : SeqAt.shaped (.bool i) = true := by
  unfold SeqAt.shaped
  rw [Bool.and_eq_true, decide_eq_true_iff]
  refine ⟨by simp [PyData.canLay0], ?_⟩
  simp only [PyData.depth]
  omega
theorem go_eqi {K : PySem.W.Frag} {H : Hp} {i : Int} {Q : VK} (q : Q (.bl true) H) : rEqD K (.int i) (.int i) H Q :=
  ⟨_, _, .int i, .int i, sh_i i, sh_i i, by rw [show PyData.eqv (PyData.int i) (PyData.int i) = true by show (i == i) = true; simp]; exact q⟩
theorem go_eqb {K : PySem.W.Frag} {H : Hp} {i : Bool} {Q : VK} (q : Q (.bl true) H) : rEqD K (.bl i) (.bl i) H Q :=
  ⟨_, _, .bl i, .bl i, sh_b i, sh_b i, by rw [show PyData.eqv (PyData.bool i) (PyData.bool i) = true by cases i <;> rfl]; exact q⟩
theorem sh_s {z : Str} (hz : PyData.strOk z = true) : SeqAt.shaped (.str z) = true := by
  unfold SeqAt.shaped
  rw [Bool.and_eq_true, decide_eq_true_iff]
  refine ⟨by simpa [PyData.canLay0] using hz, ?_⟩
  simp only [PyData.depth]
  omega
theorem go_eqs {K : PySem.W.Frag} {H : Hp} {z : Str} {Q : VK} (hz : PyData.strOk z = true) (q : Q (.bl true) H) : rEqD K (.str z) (.str z) H Q :=
  ⟨_, _, .str z, .str z, sh_s hz, sh_s hz, by rw [show PyData.eqv (PyData.str z) (PyData.str z) = true by show (z == z) = true; simp]; exact q⟩
theorem sh_non : SeqAt.shaped .none = true := by
  unfold SeqAt.shaped
  rw [Bool.and_eq_true, decide_eq_true_iff]
  refine ⟨by decide +kernel, ?_⟩
  simp only [PyData.depth]
  omega
theorem go_eqn {K : PySem.W.Frag} {H : Hp} {Q : VK} (q : Q (.bl true) H) : rEqD K .non .non H Q :=
  ⟨_, _, .non, .non, sh_non, sh_non, by rw [show PyData.eqv PyData.none PyData.none = true by rfl]; exact q⟩
theorem go_ixAL {K : PySem.W.Frag} {H : Hp} {a : Addr} {xs : List V} {n : Int} {v : V} {Q : VK} (h : H a = some (.lst xs)) (e : atI xs n = some v) (q : Q v H) : rIxA K (.ref a) (.int n) H Q := .inl ⟨a, xs, n, v, rfl, rfl, .inl (.inl h), e, q⟩
theorem go_ixAT {K : PySem.W.Frag} {H : Hp} {a : Addr} {xs : List V} {n : Int} {v : V} {Q : VK} (h : H a = some (.tup xs)) (e : atI xs n = some v) (q : Q v H) : rIxA K (.ref a) (.int n) H Q := .inr ⟨a, xs, n, v, rfl, rfl, .inl (.inl h), e, q⟩
theorem fil_non1 (n : Nat) : (List.range n).filterMap (fun _ => (none : Option Int)) = [] := by
  induction n with
  | zero => rfl
  | succ n ih => rw [List.range_succ, List.filterMap_append, ih]; rfl
def spAlD (K : PySem.W.Frag) (n : Nat) : Sp := fun vs H Q _ => ∃ x y : V, vs = [x, y] ∧ EqD H n x y ∧ ∀ H', Same H H' → Q (.bl true) H'

theorem sc__law_alike : FnScope ["_law_found", "_law_due", "_law_k"] ["_law_found", "_law_due"] (defScope s__law_alike) := ⟨rfl, rfl, rfl, by decide +kernel, rfl, by decide +kernel, by decide +kernel⟩
theorem ok__law_alike (T : Tx K mg) : ∀ n : Nat, Fx P w K mg base (n + 1) (He.ga K "_law_alike") (spAlD K n)
  | 0 => fun A outer s H us vs Q E hr e0 r h => by
    obtain ⟨x, y, rfl, hA, _⟩ := h
    exact hA.elim
  | n + 1 => by
    have D__law_alike := ok__law_alike T n
    have K__law_alike : PySem.W.keepIn K (.ref (He.ga K "_law_alike")) = true := T.F__law_alike.elim fun _ q => q.kp
    obtain ⟨fd, F⟩ := T.F__law_alike
    have nd := sc__law_alike.nd
    refine fx_of F sc__law_alike (fun vs H Q E h => ?_) (fun _ _ _ _ _ _ us hl => match us, hl with | [_, _], _ => rfl) fun cdv A outer s H vs Q E hr h => ?_
    · obtain ⟨x, y, rfl, _⟩ := h
      rfl
    obtain ⟨x, y, rfl, hA, h⟩ := h
    refine ⟨_, (pss_cons (ps_if (pt_val (cB call_isi T.m_isinstance (pa_cons (pv 1) (pa_cons (pe_bty "dict" T.m_dict) pa_nil)))) (pss_one ps_never) pss_nil) (pss_cons (ps_if (pt_val (cB call_isiT T.m_isinstance (pa_cons (pv 1) (pa_cons (pe_tup (pa_cons (pe_bty "tuple" T.m_tuple) (pa_cons (pe_bty "list" T.m_list) pa_nil))) pa_nil)))) (pss_cons (ps_if (PW.pt (pw_or (pt_not (pt_val (cB call_isiT T.m_isinstance (pa_cons (pv 0) (pa_cons (pe_tup (pa_cons (pe_bty "tuple" T.m_tuple) (pa_cons (pe_bty "list" T.m_list) pa_nil))) pa_nil))))) (pw_or1 (pt_cmpR op_ne (cB call_isi T.m_isinstance (pa_cons (pv 0) (pa_cons (pe_bty "list" T.m_list) pa_nil))) (cB call_isi T.m_isinstance (pa_cons (pv 1) (pa_cons (pe_bty "list" T.m_list) pa_nil))) (nomark _))))) (pss_one (ps_ret pe_bl)) pss_nil) (pss_cons (ps_if (pt_cmpR op_ne (cB (Bk.lenK K) T.m_len (pa_cons (pv 0) pa_nil)) (cB (Bk.lenK K) T.m_len (pa_cons (pv 1) pa_nil)) (nomark _)) (pss_one (ps_ret pe_bl)) pss_nil) (pss_one (ps_ret (pe_cmpR (Bk.eqD K hr.units) (pe_lc (own := [("_law_k", 2)]) (g := (gName 2)) rfl nd (pi_range1 rfl T.m_range (pa_cons (cB (Bk.lenK K) T.m_len (pa_cons (pv 1) pa_nil)) pa_nil)) (blkOk_by (N := ["_law_found", "_law_due", "_law_k"]) (sc := defScope s__law_alike) (own := [("_law_k", 2)]) (by decide +kernel)) (fun _ _ _ _ _ => (pg_name (i := 2) nd rfl (Or.inl rfl))) (fun _ _ _ _ _ => pts_one (pt_not (pt_val (pe_cl D__law_alike hr K__law_alike T.g__law_alike passL (pa_cons (pe_ix (Bk.ixA K) (pv 0) (pv 2) (fun _ _ => rfl)) (pa_cons (pe_ix (Bk.ixA K) (pv 1) (pv 2) (fun _ _ => rfl)) pa_nil)) (by omega))))) (fun _ _ _ _ _ => (pv 2))) (pe_lst pa_nil) (nomark _)))))) pss_nil) (pss_cons (ps_if (PW.pt (pw_or (pt_cmpR op_isN (pv 1) pe_non (nomark _)) (pw_or1 (pt_val (cB call_isi T.m_isinstance (pa_cons (pv 1) (pa_cons (pe_bty "str" T.m_str) pa_nil))))))) (pss_one (ps_ret (pe_and (pe_cmpR (Bk.eqD K hr.units) (pv 0) (pv 1) (nomark _)) (pe_one (pe_cmpR op_eq (cB call_isi T.m_isinstance (pa_cons (pv 0) (pa_cons (pe_bty "str" T.m_str) pa_nil))) (cB call_isi T.m_isinstance (pa_cons (pv 1) (pa_cons (pe_bty "str" T.m_str) pa_nil))) (nomark _)))))) pss_nil) (pss_one (ps_ret (pe_and (cB call_isi T.m_isinstance (pa_cons (pv 0) (pa_cons (pe_bty "int" T.m_int) pa_nil))) (pe_and (pe_cmpR op_eq (cB call_isi T.m_isinstance (pa_cons (pv 0) (pa_cons (pe_bty "bool" T.m_bool) pa_nil))) (cB call_isi T.m_isinstance (pa_cons (pv 1) (pa_cons (pe_bty "bool" T.m_bool) pa_nil))) (nomark _)) (pe_one (pe_cmpR (Bk.eqD K hr.units) (pv 0) (pv 1) (nomark _)))))))))), ?_⟩
    rcases hA with ⟨rfl, rfl | ⟨b, rfl⟩ | ⟨i, rfl⟩ | ⟨z, hz, rfl⟩⟩ | ⟨a, b, xs, ys, rfl, rfl, ea, eb, hlen, hle, hall⟩ | ⟨a, b, xs, ys, rfl, rfl, ea, eb, hlen, hle, hall⟩
    · walk_at "go"
      refine isi_b (.non) (kit_ty (b := "dict") (r := false) (by decide +kernel)) ?_
      walk_at "go"
      refine iteF ?_
      walk_at "go"
      refine ⟨show 2 ≤ sizeLine by decide, fun tp htp => ?_⟩
      walk_at "go"
      refine ⟨_, _, _, _, _, false, rfl, upd_same, .cons (ClsV.ty "tuple") (.cons (ClsV.ty "list") .nil), .base (.non), kitAny_cons (b := false) (kit_ty (b := "tuple") (by decide +kernel)) (fun _ => kitAny_cons (b := false) (kit_ty (b := "list") (by decide +kernel)) (fun _ => kitAny_nil) (fun z => nomatch z)) (fun z => nomatch z), ?_⟩
      have st := same_upd (o := .tup [V.ty "tuple", V.ty "list"]) htp
      generalize upd H tp (.tup [V.ty "tuple", V.ty "list"]) = H1 at st ⊢
      walk_at "go"
      refine iteF ?_
      walk_at "go"
      refine ⟨rfl, ?_⟩
      walk_at "go"
      rw [decide_eq_true (rfl : V.non = V.non)]
      refine iteT ?_
      refine iteT ?_
      walk_at "go"
      refine go_eqn ?_
      refine ⟨_, rfl, iteT ?_⟩
      walk_at "go"
      refine isi_b (.non) (kit_ty (b := "str") (r := false) (by decide +kernel)) ?_
      walk_at "go"
      refine isi_b (.non) (kit_ty (b := "str") (r := false) (by decide +kernel)) ?_
      walk_at "go"
      rw [decide_eq_true (rfl : V.bl false = V.bl false)]
      exact h _ st
    · walk_at "go"
      refine isi_b (.bl b) (kit_ty (b := "dict") (r := false) (by decide +kernel)) ?_
      walk_at "go"
      refine iteF ?_
      walk_at "go"
      refine ⟨show 2 ≤ sizeLine by decide, fun tp htp => ?_⟩
      walk_at "go"
      refine ⟨_, _, _, _, _, false, rfl, upd_same, .cons (ClsV.ty "tuple") (.cons (ClsV.ty "list") .nil), .base (.bl b), kitAny_cons (b := false) (kit_ty (b := "tuple") (by decide +kernel)) (fun _ => kitAny_cons (b := false) (kit_ty (b := "list") (by decide +kernel)) (fun _ => kitAny_nil) (fun z => nomatch z)) (fun z => nomatch z), ?_⟩
      have st := same_upd (o := .tup [V.ty "tuple", V.ty "list"]) htp
      generalize upd H tp (.tup [V.ty "tuple", V.ty "list"]) = H1 at st ⊢
      walk_at "go"
      refine iteF ?_
      walk_at "go"
      refine ⟨rfl, ?_⟩
      walk_at "go"
      refine iteF ?_
      walk_at "go"
      refine isi_b (.bl b) (kit_ty (b := "str") (r := false) (by decide +kernel)) ?_
      walk_at "go"
      refine iteF ?_
      walk_at "go"
      refine isi_b (.bl b) (kit_ty (b := "int") (r := true) (by decide +kernel)) ?_
      walk_at "go"
      refine iteT ?_
      walk_at "go"
      refine isi_b (.bl b) (kit_ty (b := "bool") (r := true) (by decide +kernel)) ?_
      walk_at "go"
      refine isi_b (.bl b) (kit_ty (b := "bool") (r := true) (by decide +kernel)) ?_
      walk_at "go"
      rw [decide_eq_true (rfl : V.bl true = V.bl true)]
      refine iteT ?_
      walk_at "go"
      exact go_eqb (h _ st)
    · walk_at "go"
      refine isi_b (.int i) (kit_ty (b := "dict") (r := false) (by decide +kernel)) ?_
      walk_at "go"
      refine iteF ?_
      walk_at "go"
      refine ⟨show 2 ≤ sizeLine by decide, fun tp htp => ?_⟩
      walk_at "go"
      refine ⟨_, _, _, _, _, false, rfl, upd_same, .cons (ClsV.ty "tuple") (.cons (ClsV.ty "list") .nil), .base (.int i), kitAny_cons (b := false) (kit_ty (b := "tuple") (by decide +kernel)) (fun _ => kitAny_cons (b := false) (kit_ty (b := "list") (by decide +kernel)) (fun _ => kitAny_nil) (fun z => nomatch z)) (fun z => nomatch z), ?_⟩
      have st := same_upd (o := .tup [V.ty "tuple", V.ty "list"]) htp
      generalize upd H tp (.tup [V.ty "tuple", V.ty "list"]) = H1 at st ⊢
      walk_at "go"
      refine iteF ?_
      walk_at "go"
      refine ⟨rfl, ?_⟩
      walk_at "go"
      refine iteF ?_
      walk_at "go"
      refine isi_b (.int i) (kit_ty (b := "str") (r := false) (by decide +kernel)) ?_
      walk_at "go"
      refine iteF ?_
      walk_at "go"
      refine isi_b (.int i) (kit_ty (b := "int") (r := true) (by decide +kernel)) ?_
      walk_at "go"
      refine iteT ?_
      walk_at "go"
      refine isi_b (.int i) (kit_ty (b := "bool") (r := false) (by decide +kernel)) ?_
      walk_at "go"
      refine isi_b (.int i) (kit_ty (b := "bool") (r := false) (by decide +kernel)) ?_
      walk_at "go"
      rw [decide_eq_true (rfl : V.bl false = V.bl false)]
      refine iteT ?_
      walk_at "go"
      exact go_eqi (h _ st)
    · walk_at "go"
      refine isi_b (.str z) (kit_ty (b := "dict") (r := false) (by decide +kernel)) ?_
      walk_at "go"
      refine iteF ?_
      walk_at "go"
      refine ⟨show 2 ≤ sizeLine by decide, fun tp htp => ?_⟩
      walk_at "go"
      refine ⟨_, _, _, _, _, false, rfl, upd_same, .cons (ClsV.ty "tuple") (.cons (ClsV.ty "list") .nil), .base (.str z), kitAny_cons (b := false) (kit_ty (b := "tuple") (by decide +kernel)) (fun _ => kitAny_cons (b := false) (kit_ty (b := "list") (by decide +kernel)) (fun _ => kitAny_nil) (fun z => nomatch z)) (fun z => nomatch z), ?_⟩
      have st := same_upd (o := .tup [V.ty "tuple", V.ty "list"]) htp
      generalize upd H tp (.tup [V.ty "tuple", V.ty "list"]) = H1 at st ⊢
      walk_at "go"
      refine iteF ?_
      walk_at "go"
      refine ⟨rfl, ?_⟩
      walk_at "go"
      refine iteF ?_
      walk_at "go"
      refine isi_b (.str z) (kit_ty (b := "str") (r := true) (by decide +kernel)) ?_
      walk_at "go"
      refine iteT ?_
      walk_at "go"
      refine go_eqs hz ?_
      refine ⟨_, rfl, iteT ?_⟩
      walk_at "go"
      refine isi_b (.str z) (kit_ty (b := "str") (r := true) (by decide +kernel)) ?_
      walk_at "go"
      refine isi_b (.str z) (kit_ty (b := "str") (r := true) (by decide +kernel)) ?_
      walk_at "go"
      rw [decide_eq_true (rfl : V.bl true = V.bl true)]
      exact h _ st
    · walk_at "go"
      refine isi_b (.lst eb) (kit_ty (b := "dict") (r := false) (by decide +kernel)) ?_
      walk_at "go"
      refine iteF ?_
      walk_at "go"
      refine ⟨show 2 ≤ sizeLine by decide, fun tp htp => ?_⟩
      have st := same_upd (o := .tup [V.ty "tuple", V.ty "list"]) htp
      have et : (upd H tp (.tup [V.ty "tuple", V.ty "list"])) tp = some (.tup [V.ty "tuple", V.ty "list"]) := upd_same
      generalize upd H tp (.tup [V.ty "tuple", V.ty "list"]) = H1 at st et ⊢
      walk_at "go"
      refine ⟨_, _, _, _, _, true, rfl, et, .cons (ClsV.ty "tuple") (.cons (ClsV.ty "list") .nil), .base (.lst (st _ _ eb)), kitAny_cons (b := false) (kit_ty (b := "tuple") (by decide +kernel)) (fun _ => kitAny_cons (b := true) (kit_ty (b := "list") (by decide +kernel)) (fun z => nomatch z) (fun _ => rfl)) (fun z => nomatch z), ?_⟩
      walk_at "go"
      refine iteT ?_
      walk_at "go"
      refine ⟨show 2 ≤ sizeLine by decide, fun tp2 htp2 => ?_⟩
      have st2 := same_upd (o := .tup [V.ty "tuple", V.ty "list"]) htp2
      have et2 : (upd H1 tp2 (.tup [V.ty "tuple", V.ty "list"])) tp2 = some (.tup [V.ty "tuple", V.ty "list"]) := upd_same
      generalize upd H1 tp2 (.tup [V.ty "tuple", V.ty "list"]) = H2 at st2 et2 ⊢
      walk_at "go"
      have s2 := st.trans st2
      have ea2 := s2 _ _ ea
      have eb2 := s2 _ _ eb
      refine ⟨_, _, _, _, _, true, rfl, et2, .cons (ClsV.ty "tuple") (.cons (ClsV.ty "list") .nil), .base (.lst ea2), kitAny_cons (b := false) (kit_ty (b := "tuple") (by decide +kernel)) (fun _ => kitAny_cons (b := true) (kit_ty (b := "list") (by decide +kernel)) (fun z => nomatch z) (fun _ => rfl)) (fun z => nomatch z), ?_⟩
      walk_at "go"
      refine iteF ?_
      walk_at "go"
      refine isi_b (.lst ea2) (kit_ty (b := "list") (r := true) (by decide +kernel)) ?_
      walk_at "go"
      refine isi_b (.lst eb2) (kit_ty (b := "list") (r := true) (by decide +kernel)) ?_
      walk_at "go"
      refine iteF ?_
      walk_at "go"
      refine ⟨_, _, rfl, .inl (.inl (.inl ea2)), ?_⟩
      walk_at "go"
      refine ⟨_, _, rfl, .inl (.inl (.inl eb2)), ?_⟩
      walk_at "go"
      refine iteNe (by rw [hlen]) ?_
      walk_at "go"
      refine ⟨_, _, rfl, .inl (.inl (.inl eb2)), ?_⟩
      walk_at "go"
      refine ⟨_, rfl, by omega, by omega, ?_⟩
      rw [show ((ys.length : Int)).toNat = ys.length by omega]
      refine lc_fil (walk_range (lo := 0) (n := ys.length)) (fun _ _ => trivial) (fun _ => none) (by omega) ?_ ?_
      · rintro j x Ha Hb kk k0 hj sa ⟨rfl, rfl⟩ hkk hk0
        dsimp only
        rw [Int.zero_add]
        have hj : j < ys.length := hj
        have hx : xs[j]? = some (xs[j]'(by omega)) := by simp [show j < xs.length by omega]
        have hy : ys[j]? = some (ys[j]'(by omega)) := by simp [show j < ys.length by omega]
        walk_at "go"
        refine ⟨rfl, ?_⟩
        walk_at "go"
        refine go_ixAL (sa _ _ ea2) (at_nat hx) ?_
        walk_at "go"
        refine go_ixAL (sa _ _ eb2) (at_nat hy) ?_
        walk_at "go"
        refine ⟨_, _, rfl, (hall j _ _ hx hy).keep (s2.trans sa), fun Hc s3 => ?_⟩
        walk_at "go"
        refine iteF ?_
        exact hk0 rfl _ s3
      · intro D H3 hD s3 e3
        rw [fil_non1] at e3
        walk_at "go"
        refine ⟨Nat.zero_le _, fun e1 he1 => ?_⟩
        have se1 := same_upd (o := .lst []) he1
        refine go_eqI (xs := []) (ys := []) (.inl (.inl (se1 _ _ e3))) (.inl (.inl upd_same)) ?_
        rw [decide_eq_true (rfl : ([] : List Int) = [])]
        exact h _ (s2.trans (s3.trans se1))
    · walk_at "go"
      refine isi_b (.tup eb) (kit_ty (b := "dict") (r := false) (by decide +kernel)) ?_
      walk_at "go"
      refine iteF ?_
      walk_at "go"
      refine ⟨show 2 ≤ sizeLine by decide, fun tp htp => ?_⟩
      have st := same_upd (o := .tup [V.ty "tuple", V.ty "list"]) htp
      have et : (upd H tp (.tup [V.ty "tuple", V.ty "list"])) tp = some (.tup [V.ty "tuple", V.ty "list"]) := upd_same
      generalize upd H tp (.tup [V.ty "tuple", V.ty "list"]) = H1 at st et ⊢
      walk_at "go"
      refine ⟨_, _, _, _, _, true, rfl, et, .cons (ClsV.ty "tuple") (.cons (ClsV.ty "list") .nil), .base (.tup (st _ _ eb)), kitAny_cons (b := true) (kit_ty (b := "tuple") (by decide +kernel)) (fun z => nomatch z) (fun _ => rfl), ?_⟩
      walk_at "go"
      refine iteT ?_
      walk_at "go"
      refine ⟨show 2 ≤ sizeLine by decide, fun tp2 htp2 => ?_⟩
      have st2 := same_upd (o := .tup [V.ty "tuple", V.ty "list"]) htp2
      have et2 : (upd H1 tp2 (.tup [V.ty "tuple", V.ty "list"])) tp2 = some (.tup [V.ty "tuple", V.ty "list"]) := upd_same
      generalize upd H1 tp2 (.tup [V.ty "tuple", V.ty "list"]) = H2 at st2 et2 ⊢
      walk_at "go"
      have s2 := st.trans st2
      have ea2 := s2 _ _ ea
      have eb2 := s2 _ _ eb
      refine ⟨_, _, _, _, _, true, rfl, et2, .cons (ClsV.ty "tuple") (.cons (ClsV.ty "list") .nil), .base (.tup ea2), kitAny_cons (b := true) (kit_ty (b := "tuple") (by decide +kernel)) (fun z => nomatch z) (fun _ => rfl), ?_⟩
      walk_at "go"
      refine iteF ?_
      walk_at "go"
      refine isi_b (.tup ea2) (kit_ty (b := "list") (r := false) (by decide +kernel)) ?_
      walk_at "go"
      refine isi_b (.tup eb2) (kit_ty (b := "list") (r := false) (by decide +kernel)) ?_
      walk_at "go"
      refine iteF ?_
      walk_at "go"
      refine ⟨_, _, rfl, .inr (.inl (.inl ea2)), ?_⟩
      walk_at "go"
      refine ⟨_, _, rfl, .inr (.inl (.inl eb2)), ?_⟩
      walk_at "go"
      refine iteNe (by rw [hlen]) ?_
      walk_at "go"
      refine ⟨_, _, rfl, .inr (.inl (.inl eb2)), ?_⟩
      walk_at "go"
      refine ⟨_, rfl, by omega, by omega, ?_⟩
      rw [show ((ys.length : Int)).toNat = ys.length by omega]
      refine lc_fil (walk_range (lo := 0) (n := ys.length)) (fun _ _ => trivial) (fun _ => none) (by omega) ?_ ?_
      · rintro j x Ha Hb kk k0 hj sa ⟨rfl, rfl⟩ hkk hk0
        dsimp only
        rw [Int.zero_add]
        have hj : j < ys.length := hj
        have hx : xs[j]? = some (xs[j]'(by omega)) := by simp [show j < xs.length by omega]
        have hy : ys[j]? = some (ys[j]'(by omega)) := by simp [show j < ys.length by omega]
        walk_at "go"
        refine ⟨rfl, ?_⟩
        walk_at "go"
        refine go_ixAT (sa _ _ ea2) (at_nat hx) ?_
        walk_at "go"
        refine go_ixAT (sa _ _ eb2) (at_nat hy) ?_
        walk_at "go"
        refine ⟨_, _, rfl, (hall j _ _ hx hy).keep (s2.trans sa), fun Hc s3 => ?_⟩
        walk_at "go"
        refine iteF ?_
        exact hk0 rfl _ s3
      · intro D H3 hD s3 e3
        rw [fil_non1] at e3
        walk_at "go"
        refine ⟨Nat.zero_le _, fun e1 he1 => ?_⟩
        have se1 := same_upd (o := .lst []) he1
        refine go_eqI (xs := []) (ys := []) (.inl (.inl (se1 _ _ e3))) (.inl (.inl upd_same)) ?_
        rw [decide_eq_true (rfl : ([] : List Int) = [])]
        exact h _ (s2.trans (s3.trans se1))

end
end K
namespace K
open PySem PySem.Spec PyProof.Rows L2 Bk
local macro_rules | `(tactic| walk_at "go1") => `(tactic| (first
  | ((with_reducible show tVar _ _ _ _); refine go_var rfl ?_)
  | (with_reducible first | refine go_c ?_ | refine go_op ?_ | refine go_cons ?_ | refine go_nil ?_ | refine go_cb ?_ | refine go_cl ?_ | refine go_seq ?_ | refine go_asg ?_ | refine go_name ?_ | refine go_ifS ?_ | refine go_test ?_ | refine go_bl ?_)
  | (with_reducible first | refine go_rI0 ?_ | refine go_rU ?_ | refine go_ret ?_ | refine go_next ?_ | refine go_B ?_ | refine go_and ?_ | refine go_or ?_ | refine go_not ?_ | refine go_if ?_ | refine go_andV ?_ | refine go_orV ?_ | refine go_notV ?_)
  | ((with_reducible show rEq _ _ _ _); refine go_rEq rfl ?_)
  | ((with_reducible show rNe _ _ _ _); refine go_rNe rfl ?_)
  | (with_reducible first | refine go_un ?_ | refine go_chain ?_ | refine go_drop ?_ | refine go_retN ?_ | refine go_isN ?_ | refine go_notN ?_ | refine go_cont ?_ | refine go_break ?_ | refine go_par ?_ | refine go_two ?_ | refine go_part ?_ | refine go_noPart ?_ | refine go_int ?_ | refine go_sl ?_ | refine go_yes ?_ | refine go_tup ?_ | refine go_lst ?_)
  | (with_reducible first | refine go_gCons ?_ | refine go_gNil ?_ | refine go_for ?_ | refine go_iEnT ?_ | refine go_iEnum ?_ | refine go_iList ?_ | refine go_iTup ?_ | refine go_iStr ?_ | refine go_iRng1 ?_ | refine go_iRng2 ?_ | refine go_iZip ?_ | refine go_lc ?_ | refine go_mkR ?_ | refine go_mkS ?_ | refine go_clO ?_ | refine go_pr ?_ | refine go_sfld ?_ | refine go_bm ?_ | refine go_ref ?_)))
local macro_rules | `(tactic| walk_at "go") => `(tactic| ((repeat (walk_at "go1")); try dsimp only))
local macro_rules | `(tactic| walk_at "so") => `(tactic| first | omega | (simp; done) | (simp; omega) | (simp at *; omega))
section
variable {P : Program} {w : World} {K : PySem.W.Frag} {mg : Str → Option Value} {base : Heap}
/-! what an observer does with any tick; the errors -/
def spPersX (K : PySem.W.Frag) : Sp := fun vs H Q E => ∃ (a : Addr) (ns : List Str) (z : Str), vs = [.ref a, .str z] ∧ SqT K H a (ns.map V.str) ∧ z ∉ ns ∧ (reprText z).length ≤ 1000 ∧ ∀ (d : Addr) H', Same H H' → H' d = Option.none → E (.ref (He.ga K "UnknownPerson")) (some d) (upd H' d (.xd [("name", .str z)]))
def spRecs (K : PySem.W.Frag) : Sp := fun vs H Q _ => ∃ (n : Nat) (o dx0 ln sl : Addr) (fs : List (Str × V)) (z : Str) (lo hi : Int) (xs : List V), vs = [.ref o] ∧ H o = some (.ins (He.ga K "PaceObserver") dx0 fs) ∧ ObF n fs ln z lo hi sl ∧ H sl = some (.lst xs) ∧ xs.length ≤ 100 ∧ ∀ p H', Same H H' → H p = Option.none → H' p = some (.lst xs) → Q (.ref p) H'
def spSeeG (K : PySem.W.Frag) : Sp := fun vs H Q E => ∃ (n : Nat) (o dx0 ln sl : Addr) (fs : List (Str × V)) (z : Str) (lo hi : Int) (N : Addr → Prop) (dx tp tn td : Addr) (rs : List Addr) (ps : List Pr) (hI b i : Nat) (tick : Int) (y : Str) (xs : List V), vs = [.ref o, .int b, .str y, .int tick] ∧ ObAt K H n o dx0 ln sl fs z lo hi N dx tp tn td rs ps hI ∧
  n ≤ 100 ∧ H sl = some (.lst xs) ∧ sl ≠ o ∧ xs.length ≤ 100 ∧ lo ≤ hi ∧ b ≤ 10 ^ 18 ∧ (ps.map (·.1))[i]? = some y ∧
  ((∀ x, lo ≤ x → x ≤ hi → fP ps hI b i x ≠ tick) → ∀ H', Same H H' → E (.ref (He.ga K "Contradiction")) none H') ∧
  ∀ l g fs' t H', (∀ a u, a ≠ o → a ≠ sl → H a = some u → H' a = some u) → H' o = some (.ins (He.ga K "PaceObserver") dx0 fs') → ObF (n + 2) fs' ln z l g sl → H t = Option.none → H' t = some (.tup [.int b, .str y, .int tick]) → H' sl = some (.lst (xs ++ [.ref t])) →
  lo ≤ l → l ≤ g → g ≤ hi → (∀ x, l ≤ x → x ≤ g → fP ps hI b i x = tick) → (∀ x, lo ≤ x → x < l → fP ps hI b i x < tick) → (∀ x, g < x → x ≤ hi → tick < fP ps hI b i x) → Q (.int (g - l + 1)) H'
def spSeeX (K : PySem.W.Frag) : Sp := fun vs H Q E => ∃ (o : Addr) (v : Int) (y t : V), vs = [.ref o, .int v, y, t] ∧ ¬ (0 ≤ v ∧ v ≤ 10 ^ 18) ∧ ∀ H', Same H H' → E (.ref (He.ga K "InvalidNumber")) none H'
def spSeeY (K : PySem.W.Frag) : Sp := fun vs H Q E => ∃ (n : Nat) (o dx0 ln sl : Addr) (fs : List (Str × V)) (z : Str) (lo hi : Int) (N : Addr → Prop) (dx tp tn td : Addr) (rs : List Addr) (ps : List Pr) (v : Int) (y : Str) (t : V), vs = [.ref o, .int v, .str y, t] ∧ H o = some (.ins (He.ga K "PaceObserver") dx0 fs) ∧ ObF n fs ln z lo hi sl ∧ LineF K N H ln dx tp tn td rs ps ∧ 0 ≤ v ∧ v ≤ 10 ^ 18 ∧ y ∉ ps.map (·.1) ∧ (reprText y).length ≤ 1000 ∧
  ∀ (d : Addr) H', Same H H' → H' d = Option.none → E (.ref (He.ga K "UnknownPerson")) (some d) (upd H' d (.xd [("name", .str y)]))
def spInitX (K : PySem.W.Frag) : Sp := fun vs H Q E => ∃ (N : Addr → Prop) (o ln dx tp tn td : Addr) (rs : List Addr) (ps : List Pr) (y : Str), vs = [.ref o, .ref ln, .str y] ∧ LineF K N H ln dx tp tn td rs ps ∧ y ∉ ps.map (·.1) ∧ (reprText y).length ≤ 1000 ∧
  ∀ (d : Addr) H', Same H H' → H' d = Option.none → E (.ref (He.ga K "UnknownPerson")) (some d) (upd H' d (.xd [("name", .str y)]))
def spTell (K : PySem.W.Frag) : Sp := fun vs H Q _ => ∃ (n : Nat) (o dx0 ln sl : Addr) (fs : List (Str × V)) (z : Str) (lo hi : Int) (N : Addr → Prop) (dx tp tn td : Addr) (rs : List Addr) (ps : List Pr) (hI : Nat) (v : Int), vs = [.ref o, .int v] ∧ ObAt K H n o dx0 ln sl fs z lo hi N dx tp tn td rs ps hI ∧ lo ≤ hi ∧ 0 ≤ v ∧ v ≤ 200 ∧
  ∀ H', Same H H' → Q (if lo = hi ∨ fP ps hI 0 (ps.length - 1) lo < fP ps hI 0 (ps.length - 1) (lo + 1) then .int 0 else .non) H'
def spTellX (K : PySem.W.Frag) : Sp := fun vs H Q E => ∃ (o : Addr) (v : Int), vs = [.ref o, .int v] ∧ ¬ (0 ≤ v ∧ v ≤ 200) ∧ ∀ H', Same H H' → E (.ref (He.ga K "InvalidNumber")) none H'
theorem fx_or {P : Program} {w : World} {K : PySem.W.Frag} {mg : Str → Option Value} {base : Heap} {k : Nat} {f : Addr} {s1 s2 : Sp} (F1 : Fx P w K mg base k f s1) (F2 : Fx P w K mg base k f s2) : Fx P w K mg base k f (fun vs H Q E => s1 vs H Q E ∨ s2 vs H Q E) := fun A stk s H us vs Q E r e0 v h => h.elim (F1 A stk s H us vs Q E r e0 v) (F2 A stk s H us vs Q E r e0 v)

theorem sc_PaceObserver_records : FnScope ["self"] ["self"] (defScope s_PaceObserver_records) := ⟨rfl, rfl, rfl, by decide +kernel, rfl, by decide +kernel, by decide +kernel⟩
theorem ok_PaceObserver_records (T : Tx K mg) : Fx P w K mg base 1 (gt K "PaceObserver" "records") (spRecs K) := by
  obtain ⟨fd, F⟩ := T.F_PaceObserver_records
  have nd := sc_PaceObserver_records.nd
  refine fx_of F sc_PaceObserver_records (fun vs H Q E h => ?_) (fun _ _ _ _ _ _ us hl => match us, hl with | [_], _ => rfl) fun cdv A outer s H vs Q E hr h => ?_
  · obtain ⟨n, o, dx0, ln, sl, fs, z, lo, hi, xs, rfl, _⟩ := h
    rfl
  obtain ⟨n, o, dx0, ln, sl, fs, z, lo, hi, xs, rfl, hO, F0, hx, hxl, h⟩ := h
  refine ⟨_, (pss_one (ps_ret (cT call_list_of T.m_list (pa_cons (pe_fld (pv 0) rfl) pa_nil)))), ?_⟩
  walk_at "go"
  refine go_fld hO T.cl_PaceObserver T.no_PaceObserver_seen F0.se ?_
  walk_at "go"
  exact ⟨sl, xs, rfl, .inl (.inl (.inl hx)), fun p hp => h p _ (same_upd hp) hp upd_same⟩

theorem sc_PaceObserver_see : FnScope ["self", "bucket", "name", "tick", "least", "greatest"] ["self", "bucket", "name", "tick"] (defScope s_PaceObserver_see) := ⟨rfl, rfl, rfl, by decide +kernel, rfl, by decide +kernel, by decide +kernel⟩
theorem ok_PaceObserver_see (T : Tx K mg) (D_check_number : Fx P w K mg base 3 (He.ga K "check_number") spCheckNumber) (D_check_person : Fx P w K mg base 1 (He.ga K "check_person") (spCheckPerson K)) (D_Line_names : Fx P w K mg base 1 (gt K "Line" "names") (spNames K)) (D_PaceObserverufirst_pace : Fx P w K mg base 9 (He.ma K (He.ga K "PaceObserver") "_first_pace") (spFirst K)) (D_is_whole : Fx P w K mg base 1 (He.ga K "is_whole") spWhole) : Fx P w K mg base 10 (He.ma K (He.ga K "PaceObserver") "see") (spSeeG K) := by
  have K_check_number : PySem.W.keepIn K (.ref (He.ga K "check_number")) = true := T.F_check_number.elim fun _ q => q.kp
  have K_check_person : PySem.W.keepIn K (.ref (He.ga K "check_person")) = true := T.F_check_person.elim fun _ q => q.kp
  have K_is_whole : PySem.W.keepIn K (.ref (He.ga K "is_whole")) = true := T.F_is_whole.elim fun _ q => q.kp
  obtain ⟨fd, F⟩ := T.F_PaceObserver_see
  have nd := sc_PaceObserver_see.nd
  refine fxr_of F sc_PaceObserver_see (fun vs H Q E h => ?_) (fun _ _ _ _ _ _ us hl => match us, hl with | [_, _, _, _], _ => rfl) fun cdv A outer s H vs Q E hr h => ?_
  · obtain ⟨n, o, dx0, ln, sl, fs, z, lo, hi, N, dx, tp, tn, td, rs, ps, hI, b, i, tick, y, xs, rfl, _⟩ := h
    rfl
  obtain ⟨n, o, dx0, ln, sl, fs, z, lo, hi, N, dx, tp, tn, td, rs, ps, hI, b, i, tick, y, xs, rfl, O, hn, hsl, hso, hxs, hlh, hb, hy, hE, h⟩ := h
  refine ⟨_, (pss_cons (ps_expr (pe_cl D_check_number hr K_check_number T.g_check_number passL (pa_cons (pv 1) (pa_cons pe_int (pa_cons (gI T.c_MAX_BUCKET) pa_nil))))) (pss_cons (ps_expr (pe_cl D_check_person hr K_check_person T.g_check_person passL (pa_cons (pe_pr (pe_fld (pv 0) rfl) T.cl_Line T.p_names D_Line_names hr passL) (pa_cons (pv 2) pa_nil)))) (pss_cons (ps_set (i := 4) nd rfl (Or.inl rfl) (pe_methR (pv 0) T.cl_PaceObserver T.me_PaceObserverufirst_pace D_PaceObserverufirst_pace (hr.mono (by decide)) passL (pa_cons (pv 1) (pa_cons (pv 2) (pa_cons (pv 3) pa_nil))))) (pss_cons (ps_set (i := 5) nd rfl (Or.inl rfl) (pe_op op_sub (pe_methR (pv 0) T.cl_PaceObserver T.me_PaceObserverufirst_pace D_PaceObserverufirst_pace (hr.mono (by decide)) passL (pa_cons (pv 1) (pa_cons (pv 2) (pa_cons (pe_op op_add (pv 3) pe_int) pa_nil)))) pe_int)) (pss_cons (ps_if (PW.pt (pw_or (pt_cmpR op_gt (pv 4) (pv 5) (nomark _)) (pw_or1 (pt_not (pt_val (pe_cl D_is_whole hr K_is_whole T.g_is_whole passL (pa_cons (pv 3) pa_nil))))))) (pss_one (ps_raise rfl takesE (pmk_oxc T.ox_Contradiction T.g_Contradiction pe_str))) pss_nil) (pss_cons (ps_fld (pv 0) (pv 4) rfl) (pss_cons (ps_fld (pv 0) (pv 5) rfl) (pss_cons (ps_expr (pe_bm PySem.F.plainAttrs_list PySem.F.slot_list_append PySem.F.type_list_append mt_append (pe_fld (pv 0) rfl) (pa_cons (pe_tup (pa_cons (pv 1) (pa_cons (pv 2) (pa_cons (pv 3) pa_nil)))) pa_nil))) (pss_one (ps_ret (pe_op op_add (pe_op op_sub (pv 5) (pv 4)) pe_int))))))))))), ?_⟩
  have L := O.L
  walk_at "go"
  refine ⟨b, 0, 1000000000000000000, rfl, by omega, by omega, ?_⟩
  walk_at "go"
  refine go_fld O.ob T.cl_PaceObserver T.no_PaceObserver_line O.f.l ?_
  refine ⟨ln, dx, _, rfl, L.obj, N, ln, dx, tp, tn, td, rs, ps, rfl, L, ?_⟩
  walk_at "go"
  refine ⟨tn, _, y, rfl, .inl (.inl L.nm), List.mem_of_getElem? hy, ?_⟩
  walk_at "go"
  refine go_methR ?_
  walk_at "go"
  refine ⟨o, dx0, _, rfl, O.ob, O.f.m2, ?_⟩
  walk_at "go"
  refine ⟨n, o, dx0, ln, sl, fs, z, lo, hi, N, dx, tp, tn, td, rs, ps, hI, b, i, tick, y, rfl, O, by omega, hb, hy, fun r1 H1 s1 a1 a2 a3 a4 => ?_⟩
  have O1 := O.keep s1
  walk_at "go"
  refine go_methR ?_
  walk_at "go"
  refine ⟨o, dx0, _, rfl, O1.ob, O1.f.m2, ?_⟩
  walk_at "go"
  refine ⟨n, o, dx0, ln, sl, fs, z, lo, hi, N, dx, tp, tn, td, rs, ps, hI, b, i, tick + 1, y, rfl, O1, by omega, hb, hy, fun r2 H2 s2 b1 b2 b3 b4 => ?_⟩
  have O2 := O1.keep s2
  walk_at "go"
  by_cases hc : r2 - 1 < r1
  · rw [decide_eq_true hc]
    refine iteT ?_
    walk_at "go"
    refine hE (fun x h1 h2 e => ?_) _ (s1.trans s2)
    by_cases q : x < r1
    · have := a3 x h1 q
      omega
    · have := b4 x (by omega) h2
      omega
  rw [decide_eq_false hc]
  refine iteF ?_
  walk_at "go"
  refine ⟨tick, rfl, ?_⟩
  walk_at "go"
  refine iteF ?_
  walk_at "go"
  have k5 := O2.f.len
  refine ⟨o, _, dx0, _, rfl, O2.ob, T.cl_PaceObserver, T.no_PaceObserver_least, by omega, ?_⟩
  generalize hU1 : upd H2 o (.ins (He.ga K "PaceObserver") dx0 (putF "_least" (.int r1) fs)) = U1
  have f1 : FrD o H2 U1 := hU1 ▸ frd_upd
  have o1 : U1 o = some (.ins (He.ga K "PaceObserver") dx0 (putF "_least" (.int r1) fs)) := hU1 ▸ upd_same
  have F1 := O2.f.least r1
  have k6 := F1.len
  walk_at "go"
  refine ⟨o, _, dx0, _, rfl, o1, T.cl_PaceObserver, T.no_PaceObserver_greatest, by omega, ?_⟩
  generalize hU2 : upd U1 o (.ins (He.ga K "PaceObserver") dx0 (putF "_greatest" (.int (r2 - 1)) (putF "_least" (.int r1) fs))) = U2
  have f2 : FrD o U1 U2 := hU2 ▸ frd_upd
  have o2 : U2 o = some (.ins (He.ga K "PaceObserver") dx0 (putF "_greatest" (.int (r2 - 1)) (putF "_least" (.int r1) fs))) := hU2 ▸ upd_same
  have F2 := F1.greatest (r2 - 1)
  walk_at "go"
  have esl : U2 sl = some (.lst xs) := f2 _ _ hso (f1 _ _ hso (s2 _ _ (s1 _ _ hsl)))
  refine go_fld o2 T.cl_PaceObserver T.no_PaceObserver_seen F2.se ?_
  refine ⟨ty_lst esl, ?_⟩
  walk_at "go"
  refine ⟨show 3 ≤ sizeLine by decide, fun t ht => ?_⟩
  have s7 := same_upd (o := .tup [V.int b, V.str y, V.int tick]) ht
  have hto : t ≠ o := fun z => by rw [z, o2] at ht; cases ht
  have hts : t ≠ sl := fun z => by rw [z, esl] at ht; cases ht
  have ht0 : H t = Option.none := by
    cases e : H t with
    | none => rfl
    | some u => rw [f2 _ _ hto (f1 _ _ hto (s2 _ _ (s1 _ _ e)))] at ht; cases ht
  walk_at "go"
  refine ⟨sl, xs, _, rfl, rfl, s7 _ _ esl, Nat.lt_of_lt_of_le (show xs.length < 2000 by omega) (by decide), ?_⟩
  walk_at "go"
  refine h r1 (r2 - 1) _ t _ (fun a u n1 n2 e => ?_) (by rw [upd_ne hso.symm]; exact s7 _ _ o2) F2 ht0 (by rw [upd_ne hts]; exact upd_same) upd_same a1 (by omega) (by omega) (fun x h1 h2 => ?_) a3 (fun x h1 h2 => ?_)
  · rw [upd_ne n2]
    exact s7 _ _ (f2 _ _ n1 (f1 _ _ n1 (s2 _ _ (s1 _ _ e))))
  · have p1 := a4 x h1 (by omega)
    have p2 := b3 x (by omega) (by omega)
    omega
  · have := b4 x (by omega) h2
    omega

theorem sc_PaceObserver_telling_bucket : FnScope ["self", "limit", "last", "least"] ["self", "limit"] (defScope s_PaceObserver_telling_bucket) := ⟨rfl, rfl, rfl, by decide +kernel, rfl, by decide +kernel, by decide +kernel⟩
theorem ok_PaceObserver_telling_bucket (T : Tx K mg) (D_check_number : Fx P w K mg base 3 (He.ga K "check_number") spCheckNumber) (D_Line_names : Fx P w K mg base 1 (gt K "Line" "names") (spNames K)) (D_PaceObserveruheld_from : Fx P w K mg base 8 (He.ma K (He.ga K "PaceObserver") "_held_from") (spHeld K)) : Fx P w K mg base 10 (He.ma K (He.ga K "PaceObserver") "telling_bucket") (spTell K) := by
  have K_check_number : PySem.W.keepIn K (.ref (He.ga K "check_number")) = true := T.F_check_number.elim fun _ q => q.kp
  obtain ⟨fd, F⟩ := T.F_PaceObserver_telling_bucket
  have nd := sc_PaceObserver_telling_bucket.nd
  refine fx_of F sc_PaceObserver_telling_bucket (fun vs H Q E h => ?_) (fun _ _ _ _ _ _ us hl => match us, hl with | [_, _], _ => rfl) fun cdv A outer s H vs Q E hr h => ?_
  · obtain ⟨n, o, dx0, ln, sl, fs, z, lo, hi, N, dx, tp, tn, td, rs, ps, hI, v, rfl, _⟩ := h
    rfl
  obtain ⟨n, o, dx0, ln, sl, fs, z, lo, hi, N, dx, tp, tn, td, rs, ps, hI, v, rfl, O, hlh, hv1, hv2, h⟩ := h
  refine ⟨_, (pss_cons (ps_expr (pe_cl D_check_number hr K_check_number T.g_check_number passL (pa_cons (pv 1) (pa_cons pe_int (pa_cons (gI T.c_MAX_LIMIT) pa_nil))))) (pss_cons (ps_if (pt_cmpR op_eq (pe_fld (pv 0) rfl) (pe_fld (pv 0) rfl) (nomark _)) (pss_one (ps_ret pe_int)) pss_nil) (pss_cons (ps_set (i := 2) nd rfl (Or.inl rfl) (pe_ix (ixT K) (pe_pr (pe_fld (pv 0) rfl) T.cl_Line T.p_names D_Line_names hr passL) (pe_un un_neg pe_int) (fun _ _ => rfl))) (pss_cons (ps_set (i := 3) nd rfl (Or.inl rfl) (pe_methR (pv 0) T.cl_PaceObserver T.me_PaceObserveruheld_from D_PaceObserveruheld_from (hr.mono (by decide)) passL (pa_cons (pe_fld (pv 0) rfl) (pa_cons pe_int (pa_cons (pv 2) pa_nil))))) (pss_one (ps_ret (pe_ifExp (pt_cmpR op_lt (pv 3) (pe_methR (pv 0) T.cl_PaceObserver T.me_PaceObserveruheld_from D_PaceObserveruheld_from (hr.mono (by decide)) passL (pa_cons (pe_op op_add (pe_fld (pv 0) rfl) pe_int) (pa_cons pe_int (pa_cons (pv 2) pa_nil)))) (nomark _)) pe_int pe_non))))))), ?_⟩
  have L := O.L
  have lo1 := O.lo1
  have hi1 := O.hi1
  have h2 := O.g.two
  walk_at "go"
  refine ⟨v, 0, 200, rfl, hv1, hv2, ?_⟩
  walk_at "go"
  refine go_fld O.ob T.cl_PaceObserver T.no_PaceObserver_least O.f.lo ?_
  walk_at "go"
  refine go_fld O.ob T.cl_PaceObserver T.no_PaceObserver_greatest O.f.gr ?_
  walk_at "go"
  refine iteD (fun hc => ?_) fun hc => ?_
  · walk_at "go"
    have q := h _ (Same.refl _)
    rw [if_pos (Or.inl (V.int.inj hc))] at q
    exact q
  have hne : lo ≠ hi := fun z => hc (by rw [z])
  walk_at "go"
  refine go_fld O.ob T.cl_PaceObserver T.no_PaceObserver_line O.f.l ?_
  refine ⟨ln, dx, _, rfl, L.obj, N, ln, dx, tp, tn, td, rs, ps, rfl, L, ?_⟩
  walk_at "go"
  obtain ⟨pl, epl⟩ : ∃ p, ps[ps.length - 1]? = some p := ⟨ps[ps.length - 1]'(by omega), by simp [show ps.length - 1 < ps.length by omega]⟩
  have hzl : (ps.map (·.1))[ps.length - 1]? = some pl.1 := by rw [List.getElem?_map, epl]; rfl
  refine go_ixT (.inl (.inl L.nm)) (at_neg (k := 1) (by omega) (by simp; omega) (by rw [List.length_map, List.length_map]; exact at_map hzl)) ?_
  walk_at "go"
  refine go_methR ?_
  walk_at "go"
  refine ⟨o, dx0, _, rfl, O.ob, O.f.m3, ?_⟩
  walk_at "go"
  refine go_fld O.ob T.cl_PaceObserver T.no_PaceObserver_least O.f.lo ?_
  walk_at "go"
  refine ⟨n, o, dx0, ln, sl, fs, z, lo, hi, N, dx, tp, tn, td, rs, ps, hI, 0, ps.length - 1, lo, _, rfl, O, by omega, by omega, by omega, hzl, fun H1 s1 => ?_⟩
  have O1 := O.keep s1
  walk_at "go"
  refine go_methR ?_
  walk_at "go"
  refine ⟨o, dx0, _, rfl, O1.ob, O1.f.m3, ?_⟩
  walk_at "go"
  refine go_fld O1.ob T.cl_PaceObserver T.no_PaceObserver_least O1.f.lo ?_
  walk_at "go"
  refine ⟨n, o, dx0, ln, sl, fs, z, lo, hi, N, dx, tp, tn, td, rs, ps, hI, 0, ps.length - 1, lo + 1, _, rfl, O1, by omega, by omega, by omega, hzl, fun H2 s2 => ?_⟩
  have q := h _ (s1.trans s2)
  walk_at "go"
  refine iteD (fun hg => ?_) fun hg => ?_
  · rw [if_pos (Or.inr hg)] at q
    walk_at "go"
    exact q
  · rw [if_neg (fun z => z.elim hne hg)] at q
    walk_at "go"
    exact q

end
end K
namespace K
open PySem PySem.Spec PyProof.Rows L2 Bk
local macro_rules | `(tactic| walk_at "go1") => `(tactic| (first
  | ((with_reducible show tVar _ _ _ _); refine go_var rfl ?_)
  | (with_reducible first | refine go_c ?_ | refine go_op ?_ | refine go_cons ?_ | refine go_nil ?_ | refine go_cb ?_ | refine go_cl ?_ | refine go_seq ?_ | refine go_asg ?_ | refine go_name ?_ | refine go_ifS ?_ | refine go_test ?_ | refine go_bl ?_)
  | (with_reducible first | refine go_rI0 ?_ | refine go_rU ?_ | refine go_ret ?_ | refine go_next ?_ | refine go_B ?_ | refine go_and ?_ | refine go_or ?_ | refine go_not ?_ | refine go_if ?_ | refine go_andV ?_ | refine go_orV ?_ | refine go_notV ?_)
  | ((with_reducible show rEq _ _ _ _); refine go_rEq rfl ?_)
  | ((with_reducible show rNe _ _ _ _); refine go_rNe rfl ?_)
  | (with_reducible first | refine go_un ?_ | refine go_chain ?_ | refine go_drop ?_ | refine go_retN ?_ | refine go_isN ?_ | refine go_notN ?_ | refine go_cont ?_ | refine go_break ?_ | refine go_par ?_ | refine go_two ?_ | refine go_part ?_ | refine go_noPart ?_ | refine go_int ?_ | refine go_sl ?_ | refine go_yes ?_ | refine go_tup ?_ | refine go_lst ?_)
  | (with_reducible first | refine go_gCons ?_ | refine go_gNil ?_ | refine go_for ?_ | refine go_iEnT ?_ | refine go_iEnum ?_ | refine go_iList ?_ | refine go_iTup ?_ | refine go_iStr ?_ | refine go_iRng1 ?_ | refine go_iRng2 ?_ | refine go_iZip ?_ | refine go_lc ?_ | refine go_mkR ?_ | refine go_mkS ?_ | refine go_clO ?_ | refine go_pr ?_ | refine go_sfld ?_ | refine go_bm ?_ | refine go_ref ?_)))
local macro_rules | `(tactic| walk_at "go") => `(tactic| ((repeat (walk_at "go1")); try dsimp only))
local macro_rules | `(tactic| walk_at "so") => `(tactic| first | omega | (simp; done) | (simp; omega) | (simp at *; omega))
section
variable {P : Program} {w : World} {K : PySem.W.Frag} {mg : Str → Option Value} {base : Heap}
/-! a hidden pace among small ones: from 16 on all ticks are the same or all differ -/
def goN : List Nat → List Nat → Nat → List Nat
  | d :: ds, q :: qs, a => (max a q + d) :: goN ds qs (max a q + d)
  | _, _, _ => []
def rowN (ds : List Nat) : Nat → List Nat
  | 0 => goN ds (ds.map fun _ => 0) 0
  | b + 1 => goN ds ((rowN ds b).drop 1 ++ (rowN ds b).drop (ds.length - 1)) 0
def subN (x : Nat) (l : List Nat) : List Nat := l.map fun d => if d = 0 then x else d
def okC : List Nat → List Nat → List Nat → List Nat → List Nat → List Nat → List Nat → Bool
  | a :: as, b :: bs, c :: cs, d :: ds, e :: es, f :: fs, g :: gs => (a == g || (Nat.blt a b && Nat.blt b c && Nat.blt c d && Nat.blt d e && Nat.blt (d + 1) f)) && okC as bs cs ds es fs gs
  | _, _, _, _, _, _, _ => true
def okB (l : List Nat) (b : Nat) : Bool := okC (rowN (subN 16 l) b) (rowN (subN 17 l) b) (rowN (subN 18 l) b) (rowN (subN 19 l) b) (rowN (subN 20 l) b) (rowN (subN 41 l) b) (rowN (subN 1000 l) b)
def cand : Nat → Nat → Nat → List (List Nat)
  | 0, _, _ => [[]]
  | n + 1, h, i => (if i = h ∨ i + 1 = h then [0] else [1, 2, 3, 4, 5, 6]).flatMap fun d => (cand n h (i + 1)).map (d :: ·)
def okN (n h : Nat) : Bool := (cand n h 0).all fun l => (List.range 6).all (okB l)
theorem ok1 : ((List.range 2).all fun h => okN 1 h) = true := by decide +kernel
theorem ok2 : ((List.range 3).all fun h => okN 2 h) = true := by decide +kernel
theorem ok3 : ((List.range 4).all fun h => okN 3 h) = true := by decide +kernel
theorem ok4 : ((List.range 5).all fun h => okN 4 h) = true := by decide +kernel

end
end K
namespace K
open PySem PySem.Spec PyProof.Rows L2 Bk
local macro_rules | `(tactic| walk_at "go1") => `(tactic| (first
  | ((with_reducible show tVar _ _ _ _); refine go_var rfl ?_)
  | (with_reducible first | refine go_c ?_ | refine go_op ?_ | refine go_cons ?_ | refine go_nil ?_ | refine go_cb ?_ | refine go_cl ?_ | refine go_seq ?_ | refine go_asg ?_ | refine go_name ?_ | refine go_ifS ?_ | refine go_test ?_ | refine go_bl ?_)
  | (with_reducible first | refine go_rI0 ?_ | refine go_rU ?_ | refine go_ret ?_ | refine go_next ?_ | refine go_B ?_ | refine go_and ?_ | refine go_or ?_ | refine go_not ?_ | refine go_if ?_ | refine go_andV ?_ | refine go_orV ?_ | refine go_notV ?_)
  | ((with_reducible show rEq _ _ _ _); refine go_rEq rfl ?_)
  | ((with_reducible show rNe _ _ _ _); refine go_rNe rfl ?_)
  | (with_reducible first | refine go_un ?_ | refine go_chain ?_ | refine go_drop ?_ | refine go_retN ?_ | refine go_isN ?_ | refine go_notN ?_ | refine go_cont ?_ | refine go_break ?_ | refine go_par ?_ | refine go_two ?_ | refine go_part ?_ | refine go_noPart ?_ | refine go_int ?_ | refine go_sl ?_ | refine go_yes ?_ | refine go_tup ?_ | refine go_lst ?_)
  | (with_reducible first | refine go_gCons ?_ | refine go_gNil ?_ | refine go_for ?_ | refine go_iEnT ?_ | refine go_iEnum ?_ | refine go_iList ?_ | refine go_iTup ?_ | refine go_iStr ?_ | refine go_iRng1 ?_ | refine go_iRng2 ?_ | refine go_iZip ?_ | refine go_lc ?_ | refine go_mkR ?_ | refine go_mkS ?_ | refine go_clO ?_ | refine go_pr ?_ | refine go_sfld ?_ | refine go_bm ?_ | refine go_ref ?_)))
local macro_rules | `(tactic| walk_at "go") => `(tactic| ((repeat (walk_at "go1")); try dsimp only))
local macro_rules | `(tactic| walk_at "so") => `(tactic| first | omega | (simp; done) | (simp; omega) | (simp at *; omega))
section
variable {P : Program} {w : World} {K : PySem.W.Frag} {mg : Str → Option Value} {base : Heap}
theorem goN_len : ∀ (ds qs : List Nat) (a : Nat), (goN ds qs a).length = min ds.length qs.length
  | d :: ds, q :: qs, a => by
    simp only [goN, List.length_cons, goN_len ds qs]
    omega
  | [], _, _ => by simp [goN]
  | _ :: _, [], _ => by simp [goN]
theorem goN_s : ∀ {p : Nat} {ds qs : List Nat} {a v d q : Nat}, (goN ds qs a)[p]? = some v → ds[p + 1]? = some d → qs[p + 1]? = some q → (goN ds qs a)[p + 1]? = some (max v q + d)
  | 0, d0 :: d1 :: ds, q0 :: q1 :: qs, a, v, d, q, h1, h2, h3 => by
    simp only [goN, List.getElem?_cons_zero, List.getElem?_cons_succ, Nat.zero_add] at h1 h2 h3 ⊢
    cases h1
    cases h2
    cases h3
    rfl
  | p + 1, d0 :: ds, q0 :: qs, a, v, d, q, h1, h2, h3 => by
    simp only [goN, List.getElem?_cons_succ] at h1 h2 h3 ⊢
    exact goN_s h1 h2 h3
  | 0, [], _, _, _, _, _, h1, _, _ => by simp [goN] at h1
  | 0, [_], _, _, _, _, _, _, h2, _ => by simp at h2
  | 0, _ :: _ :: _, [], _, _, _, _, h1, _, _ => by simp [goN] at h1
  | 0, _ :: _ :: _, [_], _, _, _, _, _, _, h3 => by simp at h3
  | _ + 1, [], _, _, _, _, _, h1, _, _ => by simp [goN] at h1
  | _ + 1, _ :: _, [], _, _, _, _, h1, _, _ => by simp [goN] at h1
theorem rowN_len {ds : List Nat} (h : 1 ≤ ds.length) : ∀ b, (rowN ds b).length = ds.length
  | 0 => by
    simp only [rowN, goN_len, List.length_map]
    omega
  | b + 1 => by
    have ih := rowN_len h b
    simp only [rowN, goN_len, List.length_append, List.length_drop, ih]
    omega
theorem sh_at {xs : List Nat} {n p : Nat} (h : xs.length = n) (hp : p < n) : (xs.drop 1 ++ xs.drop (n - 1))[p]? = xs[min (p + 1) (n - 1)]? := by
  by_cases c : p < n - 1
  · rw [List.getElem?_append_left (by rw [List.length_drop]; omega), List.getElem?_drop, Nat.min_eq_left (by omega), Nat.add_comm]
  · rw [List.getElem?_append_right (by rw [List.length_drop]; omega), List.getElem?_drop, List.length_drop, Nat.min_eq_right (by omega)]
    congr 1
    omega
def toI (l : List Nat) : List Int := l.map fun d : Nat => (d : Int)
theorem goN_0 : ∀ {ds qs : List Nat} {d q : Nat}, ds[0]? = some d → qs[0]? = some q → (goN ds qs 0)[0]? = some (q + d)
  | d :: _, q :: _, _, _, h1, h2 => by
    cases h1
    cases h2
    simp [goN]
  | [], _, _, _, h1, _ => by simp at h1
  | _ :: _, [], _, _, _, h2 => by simp at h2
theorem dd_toI {ds : List Nat} {p d : Nat} (h : ds[p]? = some d) : dd (toI ds) p = (d : Int) := by
  unfold dd toI
  rw [List.getD_eq_getElem?_getD, List.getElem?_map, h] <;> rfl
theorem row_en {ds : List Nat} (h : 1 ≤ ds.length) : ∀ b p, p < ds.length → ∃ v : Nat, (rowN ds b)[p]? = some v ∧ (v : Int) = Mt.En (dd (toI ds)) (ds.length - 1) b p
  | 0, 0, hp => by
    match ds, h with
    | d :: ds, _ =>
      refine ⟨d, ?_, ?_⟩
      · simp [rowN, goN]
      · rw [Mt.En_00, dd_toI (d := d) rfl]
  | 0, p + 1, hp => by
    obtain ⟨v, e1, e2⟩ := row_en h 0 p (by omega)
    have ed : ds[p + 1]? = some ds[p + 1] := by simp [hp]
    refine ⟨v + ds[p + 1], ?_, ?_⟩
    · have := goN_s (q := 0) (show (goN ds (ds.map fun _ => 0) 0)[p]? = some v from e1) ed (by rw [List.getElem?_map, ed]; rfl)
      rw [Nat.max_eq_left (Nat.zero_le _)] at this
      exact this
    · rw [Mt.En_0s, dd_toI ed, ← e2]
      omega
  | b + 1, 0, hp => by
    obtain ⟨v, e1, e2⟩ := row_en h b (min 1 (ds.length - 1)) (by omega)
    have sa := sh_at (rowN_len h b) hp
    rw [Nat.zero_add, e1] at sa
    have ed : ds[0]? = some ds[0] := by simp [hp]
    refine ⟨v + ds[0], ?_, ?_⟩
    · exact goN_0 ed sa
    · rw [Mt.En_s0, dd_toI ed, ← e2]
      omega
  | b + 1, p + 1, hp => by
    obtain ⟨v, e1, e2⟩ := row_en h (b + 1) p (by omega)
    obtain ⟨u, f1, f2⟩ := row_en h b (min (p + 2) (ds.length - 1)) (by omega)
    have sa := sh_at (rowN_len h b) hp
    rw [show p + 1 + 1 = p + 2 from rfl, f1] at sa
    have ed : ds[p + 1]? = some ds[p + 1] := by simp [hp]
    refine ⟨max v u + ds[p + 1], goN_s e1 ed sa, ?_⟩
    rw [Mt.En_ss, dd_toI ed, ← e2, ← f2]
    omega
theorem cand_mem {h : Nat} (f : Nat → Nat) : ∀ (n i : Nat), (∀ j, (j = h ∨ j + 1 = h) → f j = 0) → (∀ j, i ≤ j → j < i + n → ¬ (j = h ∨ j + 1 = h) → 1 ≤ f j ∧ f j ≤ 6) → (List.range' i n).map f ∈ cand n h i
  | 0, i, _, _ => by simp [cand]
  | n + 1, i, h0, h1 => by
    have ih := cand_mem f n (i + 1) h0 fun j a b c => h1 j (by omega) (by omega) c
    rw [List.range'_succ, List.map_cons]
    unfold cand
    refine List.mem_flatMap.mpr ⟨f i, ?_, List.mem_map.mpr ⟨_, ih, rfl⟩⟩
    by_cases c : i = h ∨ i + 1 = h
    · rw [if_pos c, h0 i c]
      exact List.mem_singleton.mpr rfl
    · rw [if_neg c]
      have := h1 i (Nat.le_refl _) (by omega) c
      simp only [List.mem_cons, List.not_mem_nil, or_false]
      omega
theorem okC_at : ∀ {p : Nat} {as bs cs ds es fs gs : List Nat} {a b c d e f g : Nat}, okC as bs cs ds es fs gs = true → as[p]? = some a → bs[p]? = some b → cs[p]? = some c → ds[p]? = some d → es[p]? = some e → fs[p]? = some f → gs[p]? = some g → a = g ∨ (a < b ∧ b < c ∧ c < d ∧ d < e ∧ d + 1 < f)
  | 0, a :: as, b :: bs, c :: cs, d :: ds, e :: es, f :: fs, g :: gs, _, _, _, _, _, _, _, h, h1, h2, h3, h4, h5, h6, h7 => by
    cases h1; cases h2; cases h3; cases h4; cases h5; cases h6; cases h7
    simp only [okC, Bool.and_eq_true, Bool.or_eq_true, beq_iff_eq, Nat.blt_eq] at h
    rcases h.1 with q | ⟨⟨⟨⟨q1, q2⟩, q3⟩, q4⟩, q5⟩
    · exact .inl q
    · exact .inr ⟨q1, q2, q3, q4, q5⟩
  | p + 1, a :: as, b :: bs, c :: cs, d :: ds, e :: es, f :: fs, g :: gs, _, _, _, _, _, _, _, h, h1, h2, h3, h4, h5, h6, h7 => by
    simp only [okC, Bool.and_eq_true] at h
    simp only [List.getElem?_cons_succ] at h1 h2 h3 h4 h5 h6 h7
    exact okC_at h.2 h1 h2 h3 h4 h5 h6 h7
  | _, [], _, _, _, _, _, _, _, _, _, _, _, _, _, _, h1, _, _, _, _, _, _ => by simp at h1
  | _, _ :: _, [], _, _, _, _, _, _, _, _, _, _, _, _, _, _, h2, _, _, _, _, _ => by simp at h2
  | _, _ :: _, _ :: _, [], _, _, _, _, _, _, _, _, _, _, _, _, _, _, h3, _, _, _, _ => by simp at h3
  | _, _ :: _, _ :: _, _ :: _, [], _, _, _, _, _, _, _, _, _, _, _, _, _, _, h4, _, _, _ => by simp at h4
  | _, _ :: _, _ :: _, _ :: _, _ :: _, [], _, _, _, _, _, _, _, _, _, _, _, _, _, _, h5, _, _ => by simp at h5
  | _, _ :: _, _ :: _, _ :: _, _ :: _, _ :: _, [], _, _, _, _, _, _, _, _, _, _, _, _, _, _, h6, _ => by simp at h6
  | _, _ :: _, _ :: _, _ :: _, _ :: _, _ :: _, _ :: _, [], _, _, _, _, _, _, _, _, _, _, _, _, _, _, h7 => by simp at h7
/-- the durations, 0 where the hidden one hands on -/
def pat (ps : List Pr) (h : Nat) : List Nat := (List.range (ps.length - 1)).map fun i => if i = h ∨ i + 1 = h then 0 else (dd (dsOf ps) i).toNat
theorem pat_len (ps : List Pr) (h : Nat) : (pat ps h).length = ps.length - 1 := by simp [pat]
theorem sub_len (x : Nat) (l : List Nat) : (subN x l).length = l.length := by simp [subN]
theorem dd_plain {ps : List Pr} {i : Nat} (hi : i + 1 < ps.length) : dd (dsOf ps) i = max ps[i].2 ps[i + 1].2 := by
  unfold dd
  rw [List.getD, dsOf_at _ i _ _ (show ps[i]? = some ps[i] by simp [show i < ps.length by omega]) (show ps[i + 1]? = some ps[i + 1] by simp [hi]), Option.getD_some]
section
variable {ps : List Pr} {h : Nat}
theorem ds_pat (h6 : ∀ p ∈ ps, 1 ≤ p.2 ∧ p.2 ≤ 6) {x : Nat} (hx : 6 ≤ x) : dsOf (setP ps h x) = toI (subN x (pat ps h)) := by
  apply List.ext_getElem?
  intro i
  by_cases hi : i + 1 < ps.length
  · have e1 : (dsOf (setP ps h x))[i]? = some (dd (dsOf (setP ps h x)) i) := by
      have hl : i < (dsOf (setP ps h x)).length := by rw [dsOf_len, setP_len]; omega
      unfold dd
      rw [List.getD, List.getElem?_eq_getElem hl] <;> rfl
    have a1 := h6 ps[i] (List.getElem_mem _)
    have a2 := h6 ps[i + 1] (List.getElem_mem _)
    rw [e1, dd_set_at hi]
    unfold toI subN pat
    rw [List.getElem?_map, List.getElem?_map, List.getElem?_map, List.getElem?_range (by omega)]
    simp only [Option.map_some]
    rw [dd_plain hi]
    congr 1
    by_cases c1 : i = h
    · have c2 : ¬ i + 1 = h := by omega
      rw [if_pos c1, if_neg c2, if_pos (Or.inl c1), if_pos rfl]
      omega
    · by_cases c2 : i + 1 = h
      · rw [if_neg c1, if_pos c2, if_pos (Or.inr c2), if_pos rfl]
        omega
      · have hn : ¬ (i = h ∨ i + 1 = h) := fun z => z.elim c1 c2
        simp only [if_neg hn]
        rw [if_neg c1, if_neg c2, if_neg (by omega)]
        omega
  · rw [List.getElem?_eq_none (by rw [dsOf_len, setP_len]; omega), List.getElem?_eq_none (by simp [toI, subN, pat]; omega)]
/-- what is true of a growing count from 16 on -/
def Far (f : Int → Int) : Prop := f 16 = f 1000 ∨ (f 16 < f 17 ∧ f 17 < f 18 ∧ f 18 < f 19 ∧ f 19 < f 20 ∧ f 19 + 1 < f 41)
theorem f_row (h2 : 2 ≤ ps.length) (h6 : ∀ p ∈ ps, 1 ≤ p.2 ∧ p.2 ≤ 6) {x : Nat} (hx : 6 ≤ x) {b p : Nat} (hp : p + 1 < ps.length) : ∃ v : Nat, (rowN (subN x (pat ps h)) b)[p]? = some v ∧ fP ps h b (p + 1) x = (v : Int) := by
  have hl : (subN x (pat ps h)).length = ps.length - 1 := by rw [sub_len, pat_len]
  obtain ⟨v, e1, e2⟩ := row_en (ds := subN x (pat ps h)) (by omega) b p (by omega)
  refine ⟨v, e1, ?_⟩
  unfold fP Cm
  rw [if_neg (by omega), ds_pat h6 hx, Nat.add_sub_cancel, e2]
  congr 1
  simp [toI]
theorem f_row0 (h2 : 2 ≤ ps.length) (h6 : ∀ p ∈ ps, 1 ≤ p.2 ∧ p.2 ≤ 6) {x : Nat} (hx : 6 ≤ x) {b : Nat} : ∃ v : Nat, (rowN (subN x (pat ps h)) b)[0]? = some v ∧ fP ps h (b + 1) 0 x = (v : Int) := by
  have hl : (subN x (pat ps h)).length = ps.length - 1 := by rw [sub_len, pat_len]
  obtain ⟨v, e1, e2⟩ := row_en (ds := subN x (pat ps h)) (by omega) b 0 (by omega)
  refine ⟨v, e1, ?_⟩
  unfold fP Cm
  rw [if_pos rfl, if_neg (by omega), ds_pat h6 hx, Nat.add_sub_cancel, e2]
  congr 1
  simp [toI]
theorem ok_all {n h : Nat} (h1 : 1 ≤ n) (h4 : n ≤ 4) (hh : h ≤ n) : okN n h = true := by
  rcases (show n = 1 ∨ n = 2 ∨ n = 3 ∨ n = 4 by omega) with rfl | rfl | rfl | rfl
  · exact List.all_eq_true.mp ok1 h (List.mem_range.mpr (by omega))
  · exact List.all_eq_true.mp ok2 h (List.mem_range.mpr (by omega))
  · exact List.all_eq_true.mp ok3 h (List.mem_range.mpr (by omega))
  · exact List.all_eq_true.mp ok4 h (List.mem_range.mpr (by omega))
theorem okB_pat (h2 : 2 ≤ ps.length) (h5 : ps.length ≤ 5) (hh : h < ps.length) (h6 : ∀ p ∈ ps, 1 ≤ p.2 ∧ p.2 ≤ 6) {b : Nat} (hb : b ≤ 5) : okB (pat ps h) b = true := by
  have ok := ok_all (n := ps.length - 1) (h := h) (by omega) (by omega) (by omega)
  have hm : pat ps h ∈ cand (ps.length - 1) h 0 := by
    unfold pat
    rw [List.range_eq_range']
    refine cand_mem _ _ _ (fun j c => if_pos c) fun j _ hj c => ?_
    rw [if_neg c, dd_plain (by omega)]
    have a1 := h6 (ps[j]'(by omega)) (List.getElem_mem _)
    have a2 := h6 (ps[j + 1]'(by omega)) (List.getElem_mem _)
    omega
  exact List.all_eq_true.mp (List.all_eq_true.mp ok _ hm) b (List.mem_range.mpr (by omega))
theorem far_at (h2 : 2 ≤ ps.length) (h5 : ps.length ≤ 5) (hh : h < ps.length) (h6 : ∀ p ∈ ps, 1 ≤ p.2 ∧ p.2 ≤ 6) {b i : Nat} (hb : b ≤ 5) (hi : i < ps.length) : Far (fP ps h b i) := by
  have go : ∀ (c p : Nat), c ≤ 5 → (∀ x : Nat, 6 ≤ x → ∃ v : Nat, (rowN (subN x (pat ps h)) c)[p]? = some v ∧ fP ps h b i x = (v : Int)) → Far (fP ps h b i) := fun c p hc q => by
    obtain ⟨v1, a1, b1⟩ := q 16 (by omega)
    obtain ⟨v2, a2, b2⟩ := q 17 (by omega)
    obtain ⟨v3, a3, b3⟩ := q 18 (by omega)
    obtain ⟨v4, a4, b4⟩ := q 19 (by omega)
    obtain ⟨v5, a5, b5⟩ := q 20 (by omega)
    obtain ⟨v6, a6, b6⟩ := q 41 (by omega)
    obtain ⟨v7, a7, b7⟩ := q 1000 (by omega)
    have k := okC_at (show okC _ _ _ _ _ _ _ = true from okB_pat h2 h5 hh h6 hc) a1 a2 a3 a4 a5 a6 a7
    have b1 : fP ps h b i 16 = (v1 : Int) := b1
    have b2 : fP ps h b i 17 = (v2 : Int) := b2
    have b3 : fP ps h b i 18 = (v3 : Int) := b3
    have b4 : fP ps h b i 19 = (v4 : Int) := b4
    have b5 : fP ps h b i 20 = (v5 : Int) := b5
    have b6 : fP ps h b i 41 = (v6 : Int) := b6
    have b7 : fP ps h b i 1000 = (v7 : Int) := b7
    unfold Far
    omega
  cases i with
  | zero =>
    cases b with
    | zero => exact .inl rfl
    | succ b => exact go b 0 (by omega) fun x hx => f_row0 h2 h6 hx
  | succ p => exact go b p hb fun x hx => f_row h2 h6 hx hi
end
section
variable {f : Int → Int}
theorem far_flat (m : ∀ u v : Int, u ≤ v → f u ≤ f v) (F : Far f) {hid w x : Int} (h1 : hid ≤ 19) (hw : w ≤ 1) (hx : 41 ≤ x) (e : f x = f hid + w) : f 16 = f 1000 := by
  rcases F with F | F
  · exact F
  · have := m 41 x hx
    have := m hid 19 h1
    omega
theorem flat_at (m : ∀ u v : Int, u ≤ v → f u ≤ f v) (e : f 16 = f 1000) {y : Int} (h1 : 16 ≤ y) (h2 : y ≤ 1000) : f y = f 16 := by
  have := m 16 y h1
  have := m y 1000 h2
  omega
theorem low_next (m : ∀ u v : Int, u ≤ v → f u ≤ f v) (F : Far f) {lo hid l j : Int} (h0 : lo ≤ hid) (hj : hid ≤ 16 + j) (hj0 : 0 ≤ j) (hj3 : j ≤ 3) (hl : l ≤ 1000) (e : f l = f hid + 1) (bl : ∀ x, lo ≤ x → x < l → f x < f hid + 1) : l ≤ 17 + j := Int.not_lt.mp fun c => by
  have hy := bl (max hid 16 + 1) (by omega) (by omega)
  rcases F with F | ⟨F1, F2, F3, F4, F5⟩
  · have e1 := flat_at m F (y := max hid 16 + 1) (by omega) (by omega)
    have e2 := flat_at m F (y := l) (by omega) hl
    omega
  · have hm := m hid (max hid 16) (by omega)
    have : f (max hid 16) < f (max hid 16 + 1) := by
      rcases (show max hid 16 = 16 ∨ max hid 16 = 17 ∨ max hid 16 = 18 ∨ max hid 16 = 19 by omega) with q | q | q | q <;> rw [q] <;> assumption
    omega
/-- the least one that shows a tick is not far -/
theorem low_near (m : ∀ u v : Int, u ≤ v → f u ≤ f v) (F : Far f) {lo hid l w : Int} (h0 : lo ≤ hid) (h1 : hid ≤ 19) (hw : w ≤ 1) (hl : l ≤ 1000) (e : f l = f hid + w) (bl : ∀ x, lo ≤ x → x < l → f x < f hid + w) : l ≤ 40 := Int.not_lt.mp fun c => by
  have fl := far_flat m F h1 hw (by omega) e
  have e1 := flat_at m fl (y := max hid 16) (by omega) (by omega)
  have e2 := flat_at m fl (y := l) (by omega) hl
  have := bl (max hid 16) (by omega) (by omega)
  omega
theorem high_next (m : ∀ u v : Int, u ≤ v → f u ≤ f v) (F : Far f) {hid g hi w : Int} (h1 : hid ≤ 19) (hw : w ≤ 1) (hg : g ≤ hi) (hhi : hi ≤ 1000) (e : f g = f hid + w) (ab : ∀ x, g < x → x ≤ hi → f hid + w < f x) : (if 40 < hi ∧ f 1000 = f hid + w then hi else min g 40) = g := by
  by_cases c : 40 < hi ∧ f 1000 = f hid + w
  · rw [if_pos c]
    rcases Int.lt_or_le g hi with q | q
    · have := ab hi q (Int.le_refl _)
      have := m hi 1000 hhi
      omega
    · omega
  · rw [if_neg c]
    rcases Int.lt_or_le 40 hi with q | q
    · have : g ≤ 40 := Int.not_lt.mp fun c2 => by
        have fl := far_flat m F h1 hw (by omega) e
        have e1 := flat_at m fl (y := g) (by omega) (by omega)
        exact c ⟨q, by omega⟩
      omega
    · omega
theorem no_beyond (m : ∀ u v : Int, u ≤ v → f u ≤ f v) (F : Far f) {hid lo hi w : Int} (h1 : hid ≤ 19) (hw : w ≤ 1) (hl : lo ≤ hi) (hhi : hi ≤ 1000) (no : ∀ x, lo ≤ x → x ≤ hi → f x ≠ f hid + w) : ¬ (40 < hi ∧ f 1000 = f hid + w) := fun c => by
  have fl := far_flat m F h1 hw (by omega) c.2
  have e1 := flat_at m fl (y := hi) (by omega) hhi
  exact no hi hl (Int.le_refl _) (by omega)
end

end
end K
namespace K
open PySem PySem.Spec PyProof.Rows L2 Bk
local macro_rules | `(tactic| walk_at "go1") => `(tactic| (first
  | ((with_reducible show tVar _ _ _ _); refine go_var rfl ?_)
  | (with_reducible first | refine go_c ?_ | refine go_op ?_ | refine go_cons ?_ | refine go_nil ?_ | refine go_cb ?_ | refine go_cl ?_ | refine go_seq ?_ | refine go_asg ?_ | refine go_name ?_ | refine go_ifS ?_ | refine go_test ?_ | refine go_bl ?_)
  | (with_reducible first | refine go_rI0 ?_ | refine go_rU ?_ | refine go_ret ?_ | refine go_next ?_ | refine go_B ?_ | refine go_and ?_ | refine go_or ?_ | refine go_not ?_ | refine go_if ?_ | refine go_andV ?_ | refine go_orV ?_ | refine go_notV ?_)
  | ((with_reducible show rEq _ _ _ _); refine go_rEq rfl ?_)
  | ((with_reducible show rNe _ _ _ _); refine go_rNe rfl ?_)
  | (with_reducible first | refine go_un ?_ | refine go_chain ?_ | refine go_drop ?_ | refine go_retN ?_ | refine go_isN ?_ | refine go_notN ?_ | refine go_cont ?_ | refine go_break ?_ | refine go_par ?_ | refine go_two ?_ | refine go_part ?_ | refine go_noPart ?_ | refine go_int ?_ | refine go_sl ?_ | refine go_yes ?_ | refine go_tup ?_ | refine go_lst ?_)
  | (with_reducible first | refine go_gCons ?_ | refine go_gNil ?_ | refine go_for ?_ | refine go_iEnT ?_ | refine go_iEnum ?_ | refine go_iList ?_ | refine go_iTup ?_ | refine go_iStr ?_ | refine go_iRng1 ?_ | refine go_iRng2 ?_ | refine go_iZip ?_ | refine go_lc ?_ | refine go_mkR ?_ | refine go_mkS ?_ | refine go_clO ?_ | refine go_pr ?_ | refine go_sfld ?_ | refine go_bm ?_ | refine go_ref ?_)))
local macro_rules | `(tactic| walk_at "go") => `(tactic| ((repeat (walk_at "go1")); try dsimp only))
local macro_rules | `(tactic| walk_at "so") => `(tactic| first | omega | (simp; done) | (simp; omega) | (simp at *; omega))
section
variable {P : Program} {w : World} {K : PySem.W.Frag} {mg : Str → Option Value} {base : Heap}
/-! the tick, as the law reckons it -/
theorem setP_cut {ps : List Pr} {h : Nat} {v : Int} {p : Pr} (e : ps[h]? = some p) : setP ps h v = ps.take h ++ [(p.1, v)] ++ ps.drop (h + 1) := by
  have hh := (List.getElem?_eq_some_iff.mp e).1
  apply List.ext_getElem?
  intro i
  by_cases hi : i < ps.length
  · rw [setP_at (show ps[i]? = some ps[i] by simp [hi])]
    rcases Nat.lt_trichotomy i h with c | c | c
    · rw [if_neg (by omega), List.append_assoc, List.getElem?_append_left (by simp; omega), List.getElem?_take, if_pos c]
      simp [hi]
    · subst c
      rw [if_pos rfl, List.append_assoc, List.getElem?_append_right (by rw [List.length_take]; omega), List.length_take, Nat.min_eq_left (by omega), Nat.sub_self]
      have e2 : ps[i] = p := (List.getElem?_eq_some_iff.mp e).2
      rw [e2]
      rfl
    · rw [if_neg (by omega), List.getElem?_append_right (by simp; omega), List.getElem?_drop]
      simp only [List.length_append, List.length_take, List.length_singleton]
      rw [show h + 1 + (i - (min h ps.length + 1)) = i by omega]
      simp [hi]
  · rw [List.getElem?_eq_none (by rw [setP_len]; omega), List.getElem?_eq_none (by simp; omega)]
def spTick (K : PySem.W.Frag) : Sp := fun vs H Q _ => ∃ (N : Addr → Prop) (D : Addr) (rs : List Addr) (ps : List Pr) (hI b i : Nat) (v : Int), vs = [.ref D, .int hI, .int v, .int b, .int i] ∧ H D = some (.lst (rs.map V.ref)) ∧ Rows N H rs ps ∧ Good ps ∧ hI < ps.length ∧ i < ps.length ∧ b ≤ 900 ∧ 1 ≤ v ∧ v ≤ 1000 ∧
  ∀ H', Same H H' → Q (.int (fP ps hI b i v)) H'

theorem sc__law_seen : FnScope ["_law_people_here", "_law_k", "_law_pace", "_law_bucket", "_law_place", "_law_other"] ["_law_people_here", "_law_k", "_law_pace", "_law_bucket", "_law_place"] (defScope s__law_seen) := ⟨rfl, rfl, rfl, by decide +kernel, rfl, by decide +kernel, by decide +kernel⟩
theorem ok__law_seen (T : Tx K mg) (D__law_held : Fx P w K mg base 2 (He.ga K "_law_held") (spHeldT K)) : Fx P w K mg base 3 (He.ga K "_law_seen") (spTick K) := by
  have K__law_held : PySem.W.keepIn K (.ref (He.ga K "_law_held")) = true := T.F__law_held.elim fun _ q => q.kp
  obtain ⟨fd, F⟩ := T.F__law_seen
  have nd := sc__law_seen.nd
  refine fx_of F sc__law_seen (fun vs H Q E h => ?_) (fun _ _ _ _ _ _ us hl => match us, hl with | [_, _, _, _, _], _ => rfl) fun cdv A outer s H vs Q E hr h => ?_
  · obtain ⟨N, D, rs, ps, hI, b, i, v, rfl, _⟩ := h
    rfl
  obtain ⟨N, D, rs, ps, hI, b, i, v, rfl, e0, hR, hG, hhI, hi, hb, hv1, hv2, h⟩ := h
  refine ⟨_, (pss_cons (ps_set (i := 5) nd rfl (Or.inl rfl) (pe_op op_cat (pe_op op_cat (pe_slice sl_list (pv 0) po_none (po_some (pv 1))) (pe_lst (pa_cons (pe_tup (pa_cons (pe_ix (ixT K) (pe_ix (ixL K) (pv 0) (pv 1) (fun _ _ => rfl)) pe_int (fun _ _ => rfl)) (pa_cons (pv 2) pa_nil))) pa_nil))) (pe_slice sl_list (pv 0) (po_some (pe_op op_add (pv 1) pe_int)) po_none))) (pss_one (ps_ret (pe_ix (ixL K) (pe_ix (ixL K) (pe_cl D__law_held hr K__law_held T.g__law_held passL (pa_cons (pv 5) (pa_cons (pe_op op_add (pv 3) pe_int) pa_nil))) (pv 3) (fun _ _ => rfl)) (pv 4) (fun _ _ => rfl))))), ?_⟩
  have h2 := hG.two
  have hm := hG.most
  have hrl := hR.1
  walk_at "go"
  refine go_slL (.inl (.inl e0)) fun q1 H1 s1 hq1 e1 => ?_
  rw [cut_take, ← List.map_take] at e1
  walk_at "go"
  obtain ⟨tp, a0, _, b0⟩ := hR.2 hI ps[hI] (by simp [hhI])
  refine go_ixL (.inl (.inl (s1 _ _ e0))) (at_nat (at_map a0)) ?_
  walk_at "go"
  refine go_ixT (.inl (.inl (s1 _ _ b0))) rfl ?_
  walk_at "go"
  refine ⟨show 2 ≤ sizeLine by decide, fun t ht => ?_⟩
  have st := same_upd (o := .tup [V.str (ps[hI]).1, V.int v]) ht
  have et : (upd H1 t (.tup [V.str (ps[hI]).1, V.int v])) t = some (.tup [V.str (ps[hI]).1, V.int v]) := upd_same
  generalize upd H1 t (.tup [V.str (ps[hI]).1, V.int v]) = H2 at st et ⊢
  walk_at "go"
  refine ⟨show 1 ≤ sizeLine by decide, fun l1 hl1 => ?_⟩
  have sl1 := same_upd (o := .lst [V.ref t]) hl1
  have el1 : (upd H2 l1 (.lst [V.ref t])) l1 = some (.lst [V.ref t]) := upd_same
  generalize upd H2 l1 (.lst [V.ref t]) = H3 at sl1 el1 ⊢
  walk_at "go"
  have s03 := (s1.trans st).trans sl1
  refine go_catL (sl1 _ _ (st _ _ e1)) el1 (by simp; omega) fun c1 H4 s4 hc1 ec1 => ?_
  walk_at "go"
  have s04 := s03.trans s4
  refine go_slL (.inl (.inl (s04 _ _ e0))) fun q2 H5 s5 hq2 e2 => ?_
  rw [show ((hI : Int) + 1) = ((hI + 1 : Nat) : Int) from rfl, cut_drop, ← List.map_drop] at e2
  walk_at "go"
  refine go_catL (s5 _ _ ec1) e2 (by simp; omega) fun c2 H6 s6 hc2 ec2 => ?_
  have s06 := (s04.trans s5).trans s6
  have ec2 : H6 c2 = some (.lst ((rs.take hI ++ [t] ++ rs.drop (hI + 1)).map V.ref)) := by
    rw [ec2, List.map_append, List.map_append]
    rfl
  have R6 : Rows (fun _ => True) H6 (rs.take hI ++ [t] ++ rs.drop (hI + 1)) (setP ps hI v) := by
    have hRw := (hR.mono (frn_same s06)).weak (M := fun _ => True) fun _ _ => trivial
    rw [setP_cut (show ps[hI]? = some ps[hI] by simp [hhI])]
    refine Rows.app (Rows.app (hRw.take hI) ⟨rfl, fun j p q => ?_⟩) (hRw.drop (hI + 1))
    match j, q with
    | 0, q =>
      cases q
      exact ⟨t, rfl, trivial, (sl1.trans (s4.trans (s5.trans s6))) _ _ et⟩
    | j + 1, q => simp at q
  clear e1 e2 ec1 et el1 a0 b0
  have hGs := hG.setP hI hv1 hv2
  have hsl := setP_len ps hI v
  walk_at "go"
  refine ⟨fun _ => True, c2, _, setP ps hI v, b + 1, rfl, ec2, R6, hGs.pc, by omega, by omega, by omega, fun x H7 s7 hx hT => ?_⟩
  obtain ⟨ts, ex, htl, _, ht⟩ := hT
  walk_at "go"
  have htt : ts[b]? = some (ts[b]'(by omega)) := by simp [show b < ts.length by omega]
  refine go_ixL (.inl (.inl ex)) (at_nat (at_map htt)) ?_
  walk_at "go"
  have hdl := dsOf_len (setP ps hI v)
  refine go_ixL (.inl (.inl (ht _ _ htt).2.2)) (at_nat (at_map (rowC_at (dsOf (setP ps hI v)) b (show i ≤ (dsOf (setP ps hI v)).length by omega)))) ?_
  exact h _ (s06.trans s7)

end
end K
namespace K
open PySem PySem.Spec PyProof.Rows L2 Bk
local macro_rules | `(tactic| walk_at "go1") => `(tactic| (first
  | ((with_reducible show tVar _ _ _ _); refine go_var rfl ?_)
  | (with_reducible first | refine go_c ?_ | refine go_op ?_ | refine go_cons ?_ | refine go_nil ?_ | refine go_cb ?_ | refine go_cl ?_ | refine go_seq ?_ | refine go_asg ?_ | refine go_name ?_ | refine go_ifS ?_ | refine go_test ?_ | refine go_bl ?_)
  | (with_reducible first | refine go_rI0 ?_ | refine go_rU ?_ | refine go_ret ?_ | refine go_next ?_ | refine go_B ?_ | refine go_and ?_ | refine go_or ?_ | refine go_not ?_ | refine go_if ?_ | refine go_andV ?_ | refine go_orV ?_ | refine go_notV ?_)
  | ((with_reducible show rEq _ _ _ _); refine go_rEq rfl ?_)
  | ((with_reducible show rNe _ _ _ _); refine go_rNe rfl ?_)
  | (with_reducible first | refine go_un ?_ | refine go_chain ?_ | refine go_drop ?_ | refine go_retN ?_ | refine go_isN ?_ | refine go_notN ?_ | refine go_cont ?_ | refine go_break ?_ | refine go_par ?_ | refine go_two ?_ | refine go_part ?_ | refine go_noPart ?_ | refine go_int ?_ | refine go_sl ?_ | refine go_yes ?_ | refine go_tup ?_ | refine go_lst ?_)
  | (with_reducible first | refine go_gCons ?_ | refine go_gNil ?_ | refine go_for ?_ | refine go_iEnT ?_ | refine go_iEnum ?_ | refine go_iList ?_ | refine go_iTup ?_ | refine go_iStr ?_ | refine go_iRng1 ?_ | refine go_iRng2 ?_ | refine go_iZip ?_ | refine go_lc ?_ | refine go_mkR ?_ | refine go_mkS ?_ | refine go_clO ?_ | refine go_pr ?_ | refine go_sfld ?_ | refine go_bm ?_ | refine go_ref ?_)))
local macro_rules | `(tactic| walk_at "go") => `(tactic| ((repeat (walk_at "go1")); try dsimp only))
local macro_rules | `(tactic| walk_at "so") => `(tactic| first | omega | (simp; done) | (simp; omega) | (simp at *; omega))
section
variable {P : Program} {w : World} {K : PySem.W.Frag} {mg : Str → Option Value} {base : Heap}
/-! the law -/
theorem seq_mid {t u : TS} {D : Ends} {σ : L2.St} {H : Hp} (M : L2.St → Hp → Prop) (h1 : ∀ NX : L2.St → Hp → Prop, (∀ σ' H', M σ' H' → NX σ' H') → t { D with nx := NX } σ H) (h2 : ∀ σ' H', M σ' H' → u D σ' H') : tSeq t u D σ H := h1 (u D) h2
def Apt (s0 Lc o sl R b : Addr) : Prop := NN s0 Lc b ∧ b ≠ o ∧ b ≠ sl ∧ b ≠ R
theorem LineF.imp {K : PySem.W.Frag} {N M : Addr → Prop} {H : Hp} {o dx tp tn td : Addr} {rs : List Addr} {ps : List Pr} (h : LineF K N H o dx tp tn td rs ps) (f : ∀ b u, H b = some u → N b → M b) : LineF K M H o dx tp tn td rs ps :=
  ⟨f _ _ h.obj h.no, f _ _ h.pp h.np, f _ _ h.nm h.nn, f _ _ h.ds h.nd, h.obj, h.pp, ⟨h.rows.1, fun i p q => by
    obtain ⟨t, a, b, c⟩ := h.rows.2 i p q
    exact ⟨t, a, f _ _ c b, c⟩⟩, h.nm, h.ds⟩
theorem Rows.imp {N M : Addr → Prop} {H : Hp} {rs : List Addr} {ps : List Pr} (h : Rows N H rs ps) (f : ∀ b u, H b = some u → N b → M b) : Rows M H rs ps := ⟨h.1, fun i p q => by
  obtain ⟨t, a, b, c⟩ := h.2 i p q
  exact ⟨t, a, f _ _ c b, c⟩⟩

/-- two lists of records, alike -/
def Recs (s0 Lc o sl R : Addr) (H : Hp) (xs rx : List Addr) : Prop := xs.length = rx.length ∧ ∀ (j : Nat) (u v : Addr), xs[j]? = some u → rx[j]? = some v → Apt s0 Lc o sl R u ∧ Apt s0 Lc o sl R v ∧ ∃ (b : Nat) (y : Str) (tk : Int), PyData.strOk y = true ∧ H u = some (.tup [.int b, .str y, .int tk]) ∧ H v = some (.tup [.int b, .str y, .int tk])
theorem Recs.mv {s0 Lc o sl R : Addr} {H H' : Hp} {xs rx : List Addr} (h : Recs s0 Lc o sl R H xs rx) (e : ∀ c ws, Apt s0 Lc o sl R c → H c = some (.tup ws) → H' c = some (.tup ws)) : Recs s0 Lc o sl R H' xs rx := ⟨h.1, fun j u v a b => by
  obtain ⟨p, q, b', y, tk, ho, e1, e2⟩ := h.2 j u v a b
  exact ⟨p, q, b', y, tk, ho, e _ _ p e1, e _ _ q e2⟩⟩
theorem Recs.snoc {s0 Lc o sl R : Addr} {H : Hp} {xs rx : List Addr} {u v : Addr} {b : Nat} {y : Str} {tk : Int} (h : Recs s0 Lc o sl R H xs rx) (hu : Apt s0 Lc o sl R u) (hv : Apt s0 Lc o sl R v) (hy : PyData.strOk y = true) (e1 : H u = some (.tup [.int b, .str y, .int tk])) (e2 : H v = some (.tup [.int b, .str y, .int tk])) : Recs s0 Lc o sl R H (xs ++ [u]) (rx ++ [v]) := by
  refine ⟨by rw [List.length_append, List.length_append, h.1]; rfl, fun j a c ha hc => ?_⟩
  by_cases hj : j < xs.length
  · rw [List.getElem?_append_left hj] at ha
    rw [List.getElem?_append_left (by rw [← h.1]; exact hj)] at hc
    exact h.2 j a c ha hc
  · rw [List.getElem?_append_right (by omega)] at ha
    rw [List.getElem?_append_right (by have := h.1; omega), ← h.1] at hc
    have hz : j - xs.length = 0 := by
      have := (List.getElem?_eq_some_iff.mp ha).1
      simp at this
      omega
    rw [hz] at ha hc
    cases ha
    cases hc
    exact ⟨hu, hv, b, y, tk, hy, e1, e2⟩

theorem Recs.eqd {s0 Lc o sl R : Addr} {H : Hp} {xs rx : List Addr} {p q : Addr} (h : Recs s0 Lc o sl R H xs rx) (hl : xs.length ≤ 100) (e1 : H p = some (.lst (xs.map V.ref))) (e2 : H q = some (.lst (rx.map V.ref))) : EqD H 3 (.ref p) (.ref q) := by
  refine .inr (.inl ⟨p, q, xs.map V.ref, rx.map V.ref, rfl, rfl, e1, e2, by rw [List.length_map, List.length_map, h.1], by rw [List.length_map]; omega, fun j u v hu hv => ?_⟩)
  obtain ⟨a, ha, rfl⟩ := map_at hu
  obtain ⟨c, hc, rfl⟩ := map_at hv
  obtain ⟨_, _, b, y, tk, hy, f1, f2⟩ := h.2 j a c ha hc
  refine .inr (.inr ⟨a, c, _, _, rfl, rfl, f1, f2, rfl, by simp, fun i x w hx hw => ?_⟩)
  rw [hx] at hw
  cases hw
  refine .inl ⟨rfl, ?_⟩
  match i, hx with
  | 0, hx => cases hx; exact .inr (.inr (.inl ⟨_, rfl⟩))
  | 1, hx => cases hx; exact .inr (.inr (.inr ⟨_, hy, rfl⟩))
  | 2, hx => cases hx; exact .inr (.inr (.inl ⟨_, rfl⟩))
  | k + 3, hx => simp at hx
/-- what stands all the while -/
structure Lz (K : PySem.W.Frag) (H : Hp) (s0 Lc o dx0 ln sl R : Addr) (n : Nat) (fs : List (Str × V)) (z : Str) (lo hi : Int) (dx tp tn td : Addr) (rs0 rs : List Addr) (ps : List Pr) (hI : Nat) (D : Addr) (xs rx : List Addr) : Prop where
  st : HSt H s0 Lc
  ob : H o = some (.ins (He.ga K "PaceObserver") dx0 fs)
  f : ObF n fs ln z lo hi sl
  L : LineF K (Apt s0 Lc o sl R) H ln dx tp tn td rs0 ps
  esl : H sl = some (.lst (xs.map V.ref))
  eD : H D = some (.lst (rs.map V.ref))
  hD : Apt s0 Lc o sl R D
  Rw : Rows (Apt s0 Lc o sl R) H rs ps
  eR : H R = some (.lst (rx.map V.ref))
  rc : Recs s0 Lc o sl R H xs rx
theorem Lz.mv {K : PySem.W.Frag} {H H' : Hp} {s0 Lc o dx0 ln sl R : Addr} {n n' : Nat} {fs fs' : List (Str × V)} {z : Str} {lo hi lo' hi' : Int} {dx tp tn td : Addr} {rs0 rs : List Addr} {ps : List Pr} {hI : Nat} {D : Addr} {xs rx xs' rx' : List Addr} (h : Lz K H s0 Lc o dx0 ln sl R n fs z lo hi dx tp tn td rs0 rs ps hI D xs rx) (e : ∀ b u, Apt s0 Lc o sl R b → H b = some u → H' b = some u) (st : HSt H' s0 Lc) (eo : H' o = some (.ins (He.ga K "PaceObserver") dx0 fs')) (f : ObF n' fs' ln z lo' hi' sl) (es : H' sl = some (.lst (xs'.map V.ref))) (eR : H' R = some (.lst (rx'.map V.ref))) (rc : Recs s0 Lc o sl R H' xs' rx') : Lz K H' s0 Lc o dx0 ln sl R n' fs' z lo' hi' dx tp tn td rs0 rs ps hI D xs' rx' := by
  have fn : FrN (Apt s0 Lc o sl R) H H' := fun b u n e' => e b u n e'
  exact ⟨st, eo, f, ⟨h.L.no, h.L.np, h.L.nn, h.L.nd, fn _ _ h.L.no h.L.obj, fn _ _ h.L.np h.L.pp, h.L.rows.mono fn, fn _ _ h.L.nn h.L.nm, fn _ _ h.L.nd h.L.ds⟩, es, fn _ _ h.hD h.eD, h.hD, h.Rw.mono fn, eR, rc⟩
theorem Lz.same {K : PySem.W.Frag} {H H' : Hp} {s0 Lc o dx0 ln sl R : Addr} {n : Nat} {fs : List (Str × V)} {z : Str} {lo hi : Int} {dx tp tn td : Addr} {rs0 rs : List Addr} {ps : List Pr} {hI : Nat} {D : Addr} {xs rx : List Addr} (h : Lz K H s0 Lc o dx0 ln sl R n fs z lo hi dx tp tn td rs0 rs ps hI D xs rx) (s : Same H H') : Lz K H' s0 Lc o dx0 ln sl R n fs z lo hi dx tp tn td rs0 rs ps hI D xs rx := h.mv (fun b u _ e => s b u e) (h.st.keep s) (s _ _ h.ob) h.f (s _ _ h.esl) (s _ _ h.eR) (h.rc.mv fun c ws _ e => s _ _ e)
theorem Lz.drw {K : PySem.W.Frag} {H H' : Hp} {s0 Lc o dx0 ln sl R : Addr} {n : Nat} {fs : List (Str × V)} {z : Str} {lo hi : Int} {dx tp tn td : Addr} {rs0 rs : List Addr} {ps : List Pr} {hI : Nat} {D : Addr} {xs rx : List Addr} (h : Lz K H s0 Lc o dx0 ln sl R n fs z lo hi dx tp tn td rs0 rs ps hI D xs rx) (f : FrN (NN s0 Lc) H H') (st : HSt H' s0 Lc) (hos : NN s0 Lc o ∧ NN s0 Lc sl ∧ NN s0 Lc R) : Lz K H' s0 Lc o dx0 ln sl R n fs z lo hi dx tp tn td rs0 rs ps hI D xs rx := h.mv (fun b u a e => f b u a.1 e) st (f _ _ hos.1 h.ob) h.f (f _ _ hos.2.1 h.esl) (f _ _ hos.2.2 h.eR) (h.rc.mv fun c ws a e => f _ _ a.1 e)
theorem Lz.obat {K : PySem.W.Frag} {H : Hp} {s0 Lc o dx0 ln sl R : Addr} {n : Nat} {fs : List (Str × V)} {z : Str} {lo hi : Int} {dx tp tn td : Addr} {rs0 rs : List Addr} {ps : List Pr} {hI : Nat} {D : Addr} {xs rx : List Addr} (h : Lz K H s0 Lc o dx0 ln sl R n fs z lo hi dx tp tn td rs0 rs ps hI D xs rx) (g : Good ps) (hz : (ps.map (·.1))[hI]? = some z) (h1 : 1 ≤ lo) (h2 : hi ≤ 1000) : ObAt K H n o dx0 ln sl fs z lo hi (Apt s0 Lc o sl R) dx tp tn td rs0 ps hI := ⟨h.ob, h.f, h.L, g, hz, h1, h2⟩
theorem HSt.apart {H H' : Hp} {s L o sl : Addr} (h : HSt H s L) (fr : ∀ a u, a ≠ o → a ≠ sl → H a = some u → H' a = some u) (h1 : NN s L o) (h2 : NN s L sl) : HSt H' s L := by
  obtain ⟨c0, c2, cs, a, b, r⟩ := h
  exact ⟨c0, c2, cs, fr _ _ h1.1.symm h2.1.symm a, fr _ _ h1.2.symm h2.2.symm b, r⟩
theorem fmap_flt (p : Int → Bool) (g : Nat → Int) : ∀ l : List Nat, l.filterMap (fun k => if p (g k) = true then some (g k) else none) = (l.map g).filter p
  | [] => rfl
  | k :: l => by
    have ih := fmap_flt p g l
    by_cases c : p (g k) = true
    · rw [List.filterMap_cons, if_pos c, List.map_cons, List.filter_cons, if_pos c, ih]
    · rw [List.filterMap_cons, if_neg c, List.map_cons, List.filter_cons, if_neg c, ih]
theorem int_eqd {H : Hp} {a b : Addr} {x y : Int} (e1 : H a = some (.tup [.int x, .int y])) (e2 : H b = some (.tup [.int x, .int y])) : EqD H 2 (.ref a) (.ref b) := by
  refine .inr (.inr ⟨a, b, _, _, rfl, rfl, e1, e2, rfl, by simp, fun i u w hu hw => ?_⟩)
  rw [hu] at hw
  cases hw
  refine .inl ⟨rfl, ?_⟩
  match i, hu with
  | 0, hu => cases hu; exact .inr (.inr (.inl ⟨_, rfl⟩))
  | 1, hu => cases hu; exact .inr (.inr (.inl ⟨_, rfl⟩))
  | k + 2, hu => simp at hu
theorem two_eqd {H : Hp} {a b : Addr} {x y u v : V} (e1 : H a = some (.lst [x, y])) (e2 : H b = some (.lst [u, v])) (h1 : EqD H 2 x u) (h2 : EqD H 3 y v) : EqD H 6 (.ref a) (.ref b) := by
  refine .inr (.inl ⟨a, b, _, _, rfl, rfl, e1, e2, rfl, by simp, fun i c d hc hd => ?_⟩)
  match i, hc, hd with
  | 0, hc, hd => cases hc; cases hd; exact h1.up.up.up
  | 1, hc, hd => cases hc; cases hd; exact h2.up.up
  | k + 2, hc, hd => simp at hc
def spLaw (K : PySem.W.Frag) : Sp := fun vs H Q _ => ∃ (z : Prop) (sc : Addr) (ns : List Int), vs = [.ref sc] ∧ ScAt z K H sc ns ∧ ns.length ≤ 63 ∧ ∀ H', Q (.bl true) H'

theorem sc_law : FnScope ["_law_script", "_law_h", "_law_people_here", "_law_k", "_law_hidden", "_law_observer", "_law_records", "_law_low", "_law_high", "_law_step", "_law_bucket", "_law_place", "_law_wrong", "_law_tick", "_law_fits", "_law_beyond", "_law_count", "_law_last", "_law_due", "_law_ticks", "_law_pace"] ["_law_script"] (defScope s_law) := ⟨rfl, rfl, rfl, by decide +kernel, rfl, by decide +kernel, by decide +kernel⟩
theorem ok_law (T : Tx K mg) (D__law_mix : Fx P w K mg base 1 (He.ga K "_law_mix") (spMix K)) (D__law_people : Fx P w K mg base 2 (He.ga K "_law_people") (spPeople9 K)) (D__law_next : Fx P w K mg base 1 (He.ga K "_law_next") (spNext K)) (D_PaceObserveru_initu : Fx P w K mg base 3 (He.ma K (He.ga K "PaceObserver") "__init__") (spObInit K)) (D_parse_line : Fx P w K mg base 8 (He.ga K "parse_line") (spParse K)) (D__law_text : Fx P w K mg base 1 (He.ga K "_law_text") (spText K)) (D__law_seen : Fx P w K mg base 3 (He.ga K "_law_seen") (spTick K)) (D_PaceObserver_see : Fx P w K mg base 10 (He.ma K (He.ga K "PaceObserver") "see") (spSeeG K)) (D__law_alike : Fx P w K mg base 7 (He.ga K "_law_alike") (spAlD K 6)) (D_PaceObserver_possible_paces : Fx P w K mg base 1 (gt K "PaceObserver" "possible_paces") (spPoss K)) (D_PaceObserver_records : Fx P w K mg base 1 (gt K "PaceObserver" "records") (spRecs K)) (D_PaceObserver_telling_bucket : Fx P w K mg base 10 (He.ma K (He.ga K "PaceObserver") "telling_bucket") (spTell K)) {fd : FuncData} (F : FunD K "law" "law" (defArgs s_law) (defBody s_law) (defScope s_law) [] [] (He.ga K "law") fd) : FnOk P w K mg base (L2.CX P w) 12 (He.ga K "law") fd ["_law_script"] (spLaw K) := by
  have K__law_mix : PySem.W.keepIn K (.ref (He.ga K "_law_mix")) = true := T.F__law_mix.elim fun _ q => q.kp
  have K__law_people : PySem.W.keepIn K (.ref (He.ga K "_law_people")) = true := T.F__law_people.elim fun _ q => q.kp
  have K__law_next : PySem.W.keepIn K (.ref (He.ga K "_law_next")) = true := T.F__law_next.elim fun _ q => q.kp
  have K_parse_line : PySem.W.keepIn K (.ref (He.ga K "parse_line")) = true := T.F_parse_line.elim fun _ q => q.kp
  have K__law_text : PySem.W.keepIn K (.ref (He.ga K "_law_text")) = true := T.F__law_text.elim fun _ q => q.kp
  have K__law_seen : PySem.W.keepIn K (.ref (He.ga K "_law_seen")) = true := T.F__law_seen.elim fun _ q => q.kp
  have K__law_alike : PySem.W.keepIn K (.ref (He.ga K "_law_alike")) = true := T.F__law_alike.elim fun _ q => q.kp
  have nd := sc_law.nd
  refine fo_of F sc_law (fun vs H Q E h => ?_) fun cdv A outer s H vs Q E hr h => ?_
  · obtain ⟨zz, sc, ns, rfl, _⟩ := h
    rfl
  obtain ⟨zz, sc, ns, rfl, hS, hn, h⟩ := h
  refine ⟨_, (pss_cons (ps_set (i := 1) nd rfl (Or.inl rfl) (pe_cl D__law_mix hr K__law_mix T.g__law_mix passL (pa_cons (pv 0) (pa_cons pe_int pa_nil)))) (pss_cons (ps_set (i := 2) nd rfl (Or.inr rfl) (pe_cl D__law_people hr K__law_people T.g__law_people passL (pa_cons (pv 1) (pa_cons pe_int (pa_cons pe_int pa_nil))))) (pss_cons (ps_asg (pe_tup (pa_cons (pe_cl D__law_next hr K__law_next T.g__law_next passL (pa_cons (pv 1) (pa_cons (cB call_len_seq T.m_len (pa_cons (pv 2) pa_nil)) pa_nil))) (pa_cons (pe_op op_add pe_int (pe_cl D__law_next hr K__law_next T.g__law_next passL (pa_cons (pv 1) (pa_cons pe_int pa_nil)))) pa_nil))) (pg_tup (by rfl) (pgs_cons (pg_name (i := 3) nd rfl (Or.inr rfl)) (pgs_cons (pg_name (i := 4) nd rfl (Or.inl rfl)) pgs_nil)))) (pss_cons (ps_par (i := 5) (j := 6) rfl nd rfl rfl (by decide) rfl rfl (pa_cons (StX.pe_makeR T.mk_PaceObserver D_PaceObserveru_initu (hr.mono (by decide)) rfl T.g_PaceObserver passL (pa_cons (pe_cl D_parse_line hr K_parse_line T.g_parse_line passL (pa_cons (pe_cl D__law_text hr K__law_text T.g__law_text passL (pa_cons (pv 2) pa_nil)) pa_nil)) (pa_cons (pe_ix (ixT K) (pe_ix (ixL K) (pv 2) (pv 3) (fun _ _ => rfl)) pe_int (fun _ _ => rfl)) pa_nil))) (pa_cons (pe_lst pa_nil) pa_nil)) rfl) (pss_cons (ps_asg (pe_tup (pa_cons pe_int (pa_cons pe_int pa_nil))) (pg_tup (by rfl) (pgs_cons (pg_name (i := 7) nd rfl (Or.inl rfl)) (pgs_cons (pg_name (i := 8) nd rfl (Or.inl rfl)) pgs_nil)))) (pss_cons (ps_for PassesOwn.never rfl (pi_range1 rfl T.m_range (pa_cons pe_int pa_nil)) (pg_name (i := 9) nd rfl (Or.inl rfl)) (pss_cons (ps_asg (pe_tup (pa_cons (pe_cl D__law_next hr K__law_next T.g__law_next passL (pa_cons (pv 1) (pa_cons pe_int pa_nil))) (pa_cons (pe_cl D__law_next hr K__law_next T.g__law_next passL (pa_cons (pv 1) (pa_cons (cB call_len_seq T.m_len (pa_cons (pv 2) pa_nil)) pa_nil))) (pa_cons (pe_ix (ixL K) (pe_lst (pa_cons pe_int (pa_cons pe_int (pa_cons pe_int (pa_cons pe_int pa_nil))))) (pe_cl D__law_next hr K__law_next T.g__law_next passL (pa_cons (pv 1) (pa_cons pe_int pa_nil))) (fun _ _ => rfl)) pa_nil)))) (pg_tup (by rfl) (pgs_cons (pg_name (i := 10) nd rfl (Or.inr rfl)) (pgs_cons (pg_name (i := 11) nd rfl (Or.inr rfl)) (pgs_cons (pg_name (i := 12) nd rfl (Or.inl rfl)) pgs_nil))))) (pss_cons (ps_set (i := 13) nd rfl (Or.inr rfl) (pe_op op_add (pe_cl D__law_seen hr K__law_seen T.g__law_seen passL (pa_cons (pv 2) (pa_cons (pv 3) (pa_cons (pv 4) (pa_cons (pv 10) (pa_cons (pv 11) pa_nil)))))) (pv 12))) (pss_cons (ps_setLc (i := 14) (own := [("_law_pace", 20)]) (g := (gName 20)) rfl nd rfl rfl (sw_true rfl rfl rfl (by decide +kernel)) (pi_range2 rfl T.m_range (pa_cons (pv 7) (pa_cons (pe_op op_add (cB (call_min2 rfl) T.m_min (pa_cons (pv 8) (pa_cons pe_int pa_nil))) pe_int) pa_nil))) (blkOk_by (N := ["_law_script", "_law_h", "_law_people_here", "_law_k", "_law_hidden", "_law_observer", "_law_records", "_law_low", "_law_high", "_law_step", "_law_bucket", "_law_place", "_law_wrong", "_law_tick", "_law_fits", "_law_beyond", "_law_count", "_law_last", "_law_due", "_law_ticks", "_law_pace"]) (sc := defScope s_law) (own := [("_law_pace", 20)]) (by decide +kernel)) (fun _ _ _ _ _ => (pg_name (i := 20) nd rfl (Or.inl rfl))) (fun _ _ _ _ _ => pts_one (pt_cmpR op_eq (pe_cl D__law_seen hr K__law_seen T.g__law_seen passL (pa_cons (pv 2) (pa_cons (pv 3) (pa_cons (pv 20) (pa_cons (pv 10) (pa_cons (pv 11) pa_nil)))))) (pv 13) (nomark _))) (fun _ _ _ _ _ => (pv 20))) (pss_cons (ps_set (i := 15) nd rfl (Or.inl rfl) (pe_and (pe_cmpR op_gt (pv 8) pe_int (nomark _)) (pe_one (pe_cmpR op_eq (pe_cl D__law_seen hr K__law_seen T.g__law_seen passL (pa_cons (pv 2) (pa_cons (pv 3) (pa_cons pe_int (pa_cons (pv 10) (pa_cons (pv 11) pa_nil)))))) (pv 13) (nomark _))))) (pss_cons (ps_try_only rfl rfl ⟨rfl, by decide, .inl T.g_Contradiction⟩ takes0 (fun W pn xe tkW pw => (pss_cons (ps_set (i := 16) nd rfl (Or.inl rfl) (pe_methW (pv 5) T.cl_PaceObserver T.me_PaceObserver_see D_PaceObserver_see hr tkW (pa_cons (pv 10) (pa_cons (pe_ix (ixT K) (pe_ix (ixL K) (pv 2) (pv 11) (fun _ _ => rfl)) pe_int (fun _ _ => rfl)) (pa_cons (pv 13) pa_nil))))) (pss_cons (ps_if (pt_cmpR (Bk.eqD K hr.units) (pv 14) (pe_lst pa_nil) (nomark _)) (pss_one (ps_ret pe_bl)) pss_nil) (pss_cons (ps_par (i := 7) (j := 8) rfl nd rfl rfl (by decide) rfl rfl (pa_cons (pe_ix (ixL K) (pv 14) pe_int (fun _ _ => rfl)) (pa_cons (pe_ifExp (pt_val (pv 15)) (pv 8) (pe_ix (ixL K) (pv 14) (pe_un un_neg pe_int) (fun _ _ => rfl))) pa_nil)) rfl) (pss_cons (ps_expr (Bk.bmK K (pe_bm PySem.F.plainAttrs_list PySem.F.slot_list_append PySem.F.type_list_append mt_append (pv 6) (pa_cons (pe_tup (pa_cons (pv 10) (pa_cons (pe_ix (ixT K) (pe_ix (ixL K) (pv 2) (pv 11) (fun _ _ => rfl)) pe_int (fun _ _ => rfl)) (pa_cons (pv 13) pa_nil)))) pa_nil)))) (pss_cons (ps_if (pt_cmpR op_ne (pv 16) (pe_op op_add (pe_op op_sub (pv 8) (pv 7)) pe_int) (nomark _)) (pss_one (ps_ret pe_bl)) pss_nil) (pss_one (ps_set (i := 4) nd rfl (Or.inl rfl) (pe_ifExp (pt_cmpR op_eq (pv 12) pe_int (nomark _)) (pv 4) (pv 7)))))))))) (fun a oe cls d pn hz hf => (pss_one (ps_if (PW.pt (pw_or (pt_cmpR (Bk.neD K hr.units) (pv 14) (pe_lst pa_nil) (nomark _)) (pw_or1 (pt_val (pv 15))))) (pss_one (ps_ret pe_bl)) pss_nil)))) (pss_cons (ps_if (pt_not (pt_val (pe_cl D__law_alike hr K__law_alike T.g__law_alike passL (pa_cons (pe_lst (pa_cons (pe_pr (pv 5) T.cl_PaceObserver T.p_possible_paces D_PaceObserver_possible_paces hr passL) (pa_cons (pe_pr (pv 5) T.cl_PaceObserver T.p_records D_PaceObserver_records hr passL) pa_nil))) (pa_cons (pe_lst (pa_cons (pe_tup (pa_cons (pv 7) (pa_cons (pv 8) pa_nil))) (pa_cons (pv 6) pa_nil))) pa_nil))))) (pss_one (ps_ret pe_bl)) pss_nil) (pss_one (ps_if (pt_not (pt_chain op_le op_le (pv 7) (pv 4) (pv 8))) (pss_one (ps_ret pe_bl)) pss_nil))))))))) (pss_cons (ps_if (pt_cmpR op_lt (pv 8) pe_int (nomark _)) (pss_cons (ps_asg (pe_tup (pa_cons (pe_op op_sub (cB call_len_seq T.m_len (pa_cons (pv 2) pa_nil)) pe_int) (pa_cons pe_non pa_nil))) (pg_tup (by rfl) (pgs_cons (pg_name (i := 17) nd rfl (Or.inr rfl)) (pgs_cons (pg_name (i := 18) nd rfl (Or.inl rfl)) pgs_nil)))) (pss_cons (ps_for PassesOwn.never rfl (pi_range1 rfl T.m_range (pa_cons pe_int pa_nil)) (pg_name (i := 10) nd rfl (Or.inr rfl)) (pss_cons (ps_setLc (i := 19) (own := [("_law_pace", 20)]) (g := (gName 20)) rfl nd rfl rfl (sw_true rfl rfl rfl (by decide +kernel)) (pi_range2 rfl T.m_range (pa_cons (pv 7) (pa_cons (pe_op op_add (pv 8) pe_int) pa_nil))) (blkOk_by (N := ["_law_script", "_law_h", "_law_people_here", "_law_k", "_law_hidden", "_law_observer", "_law_records", "_law_low", "_law_high", "_law_step", "_law_bucket", "_law_place", "_law_wrong", "_law_tick", "_law_fits", "_law_beyond", "_law_count", "_law_last", "_law_due", "_law_ticks", "_law_pace"]) (sc := defScope s_law) (own := [("_law_pace", 20)]) (by decide +kernel)) (fun _ _ _ _ _ => (pg_name (i := 20) nd rfl (Or.inl rfl))) (fun _ _ _ _ _ => pts_nil) (fun _ _ _ _ _ => (pe_cl D__law_seen hr K__law_seen T.g__law_seen passL (pa_cons (pv 2) (pa_cons (pv 3) (pa_cons (pv 20) (pa_cons (pv 10) (pa_cons (pv 17) pa_nil)))))))) (pss_one (ps_if (PW.pt (pw_and (pt_cmpR op_isN (pv 18) pe_non (nomark _)) (pw_and1 (pt_cmpR op_eq (pe_lenSetF rfl T.m_len rfl T.m_set (pv 19)) (cB call_len_seq T.m_len (pa_cons (pv 19) pa_nil)) (nomark _))))) (pss_one (ps_set (i := 18) nd rfl (Or.inl rfl) (pv 10))) pss_nil)))) (pss_one (ps_ret (pe_cl D__law_alike hr K__law_alike T.g__law_alike passL (pa_cons (pe_methR (pv 5) T.cl_PaceObserver T.me_PaceObserver_telling_bucket D_PaceObserver_telling_bucket (hr.mono (by decide)) passL (pa_cons pe_int pa_nil)) (pa_cons (pv 18) pa_nil))))))) pss_nil) (pss_one (ps_ret pe_bl))))))))), ?_⟩
  walk_at "go"
  refine ⟨zz, sc, ns, 58, rfl, hS, hn, fun s0 Lc H0 s00 hs0 hL0 st0 => ?_⟩
  clear s00 hs0 hL0
  walk_at "go"
  refine ⟨s0, Lc, 5, 6, rfl, by omega, by omega, by omega, by omega, st0, fun D H3 rs ps f3 st3 hD eD hR hG hlen hp6 => ?_⟩
  have hDn : NN s0 Lc D := st0.ne hD
  clear st0 f3 hD
  have h2 := hG.two
  have hrl := hR.1
  walk_at "go"
  refine ⟨D, _, rfl, .inl (.inl (.inl eD)), ?_⟩
  rw [List.length_map, hrl]
  walk_at "go"
  refine ⟨s0, Lc, (ps.length : Int), rfl, by omega, by omega, st3, fun y1 H4 f4 st4 hi0 hi1 => ?_⟩
  walk_at "go"
  refine ⟨s0, Lc, 12, rfl, by omega, by omega, st4, fun y2 H5 f5 st5 hv0 hv1 => ?_⟩
  have f35 := f4.trans f5
  have eD5 := f35 _ _ hDn eD
  have R5 := hR.mono f35
  clear f35 f4 f5 st3 st4 eD hR
  obtain ⟨hI, rfl⟩ : ∃ k : Nat, y1 = k := ⟨y1.toNat, by omega⟩
  have hhI : hI < ps.length := by omega
  obtain ⟨hid0, ev, hvv1, hvv2⟩ : ∃ v : Int, 1 + y2 = v ∧ 1 ≤ v ∧ v ≤ 12 := ⟨_, rfl, by omega, by omega⟩
  walk_at "go"
  rw [ev]
  clear ev hv0 hv1 hi0 hi1
  refine ⟨show 2 ≤ sizeLine by decide, fun t2 ht2 => ?_⟩
  have s6 := same_upd (o := .tup [V.int hI, V.int hid0]) ht2
  refine go_gTup (.inl (.inl upd_same)) rfl ?_
  generalize upd H5 t2 (.tup [V.int hI, V.int hid0]) = H6 at s6 ⊢
  have st6 := st5.keep s6
  have eD6 := s6 _ _ eD5
  have R6 := R5.mono (frn_same s6)
  clear s6 st5 eD5 R5 ht2
  walk_at "go"
  refine ⟨NN s0 Lc, D, rs, ps, rfl, eD6, R6, hG.bdd, by omega, fun H7 s7 => ?_⟩
  walk_at "go"
  refine ⟨NN s0 Lc, ps, rfl, hG, fun p hp => (st6.keep s7).ne hp, fun ln H8 s8 hln hL8 => ?_⟩
  obtain ⟨dx, tp, tn, td, rs0, LL⟩ := hL8
  have s68 := s7.trans s8
  have st8 := st6.keep s68
  have eD8 := s68 _ _ eD6
  have R8 := R6.mono (frn_same s68)
  clear s7 s8 s68 st6 eD6 R6 hln
  walk_at "go"
  obtain ⟨ph, eph⟩ : ∃ p, ps[hI]? = some p := ⟨ps[hI], by simp [hhI]⟩
  have hzh : (ps.map (·.1))[hI]? = some ph.1 := by rw [List.getElem?_map, eph]; rfl
  obtain ⟨th, ah, _, bh⟩ := R8.2 hI ph eph
  refine go_ixL (.inl (.inl eD8)) (at_nat (at_map ah)) ?_
  walk_at "go"
  refine go_ixT (.inl (.inl bh)) rfl ?_
  walk_at "go"
  rintro o dx0 ho hdx hne
  have so : Same H8 (upd (upd H8 dx0 (.own o)) o (.ins (He.ga K "PaceObserver") dx0 [])) := fun b u e => by
    rw [upd_ne (ne_of_none e ho), upd_ne (ne_of_none e hdx)]
    exact e
  refine ⟨NN s0 Lc, o, dx0, ln, dx, tp, tn, td, rs0, ps, ph.1, rfl, upd_same, LL.keep so, List.mem_of_getElem? hzh, fun sl H10 fr hsl eo es hso => ⟨rfl, ?_⟩⟩
  have s10 : Same H8 H10 := fun b u e => fr b u (ne_of_none e ho) (so b u e)
  have hsl8 : H8 sl = Option.none := by
    cases e : H8 sl with
    | none => rfl
    | some u => rw [so _ _ e] at hsl; cases hsl
  walk_at "go"
  refine ⟨Nat.zero_le _, fun R hR => ?_⟩
  have sR := same_upd (o := .lst []) hR
  have eR : (upd H10 R (.lst [])) R = some (.lst ([].map V.ref)) := upd_same
  generalize upd H10 R (.lst []) = H11 at sR eR ⊢
  have hR8 : H8 R = none := s10.free hR
  have hRo : R ≠ o := fun q => by rw [q, eo] at hR; cases hR
  have hRs : R ≠ sl := fun q => by rw [q, es] at hR; cases hR
  have apt : ∀ b u, H8 b = some u → NN s0 Lc b → Apt s0 Lc o sl R b := fun b u e n => ⟨n, ne_of_none e ho, ne_of_none e hsl8, ne_of_none e hR8⟩
  have hos : NN s0 Lc o ∧ NN s0 Lc sl ∧ NN s0 Lc R := ⟨st8.ne ho, st8.ne hsl8, st8.ne hR8⟩
  have s11 := s10.trans sR
  have W0 : Lz K H11 s0 Lc o dx0 ln sl R 5 (obf ln ph.1 sl) ph.1 1 1000 dx tp tn td rs0 rs ps hI D [] [] :=
    ⟨st8.keep s11, sR _ _ eo, obf_ok _ _ _, (LL.imp apt).keep s11, sR _ _ es, s11 _ _ eD8, apt _ _ eD8 hDn, (R8.imp apt).mono (frn_same s11), eR, ⟨rfl, fun j u w e => by simp at e⟩⟩
  clear apt s10 s11 hsl8 hR8 es eo fr hsl so ho hdx hne R8 LL st8 eD8 bh ah sR eR hR
  have h6 : ∀ p ∈ ps, 1 ≤ p.2 ∧ p.2 ≤ 6 := fun p hp => ⟨(hG.pc p hp).1, hp6 p hp⟩
  walk_at "go"
  refine ⟨show 2 ≤ sizeLine by decide, fun t3 ht3 => ?_⟩
  have s12 := same_upd (o := .tup [V.int 1, V.int 1000]) ht3
  refine go_gTup (.inl (.inl upd_same)) rfl ?_
  generalize upd H11 t3 (.tup [V.int 1, V.int 1000]) = H12 at s12 ⊢
  have W1 := W0.same s12
  clear W0 s12 ht3
  walk_at "go"
  refine ⟨_, rfl, by omega, by omega, ?_⟩
  refine for_w (walk_range (lo := 0) (n := 4)) (fun j σ H' => ∃ (n : Nat) (fs : List (Str × V)) (lo hi hid : Int) (xs rx : List Addr), n ≤ 5 + 2 * j ∧ xs.length ≤ j ∧ 1 ≤ lo ∧ lo ≤ hid ∧ hid ≤ hi ∧ hi ≤ 1000 ∧ hid ≤ 16 + ((j : Nat) : Int) ∧ Lz K H' s0 Lc o dx0 ln sl R n fs ph.1 lo hi dx tp tn td rs0 rs ps hI D xs rx ∧ ∃ u9 u10 u11 u12 u13 u14 u15 u16, σ = [some (.ref sc), some (.ref s0), some (.ref D), some (.int hI), some (.int hid), some (.ref o), some (.ref R), some (.int lo), some (.int hi), u9, u10, u11, u12, u13, u14, u15, u16, none, none, none, none]) ⟨5, _, 1, 1000, hid0, [], [], by omega, by simp, by omega, by omega, by omega, by omega, by omega, W1, _, _, _, _, _, _, _, _, rfl⟩ (fun _ _ _ _ _ => trivial) ?_ ?_
  · clear W1
    rintro j x σ Ha Hb hj ⟨n, fs, lo, hi, hid, xs, rx, hn5, hxl, hlo, hlh, hhh, hhi, hh16, W, u9, u10, u11, u12, u13, u14, u15, u16, rfl⟩ ⟨rfl, rfl⟩
    dsimp only
    rw [Int.zero_add]
    refine seq_mid (fun σ' H' => ∃ (b i : Nat) (w : Int), b ≤ 5 ∧ i < ps.length ∧ (w = 0 ∨ w = 1) ∧ Lz K H' s0 Lc o dx0 ln sl R n fs ph.1 lo hi dx tp tn td rs0 rs ps hI D xs rx ∧ σ' = [some (.ref sc), some (.ref s0), some (.ref D), some (.int hI), some (.int hid), some (.ref o), some (.ref R), some (.int lo), some (.int hi), some (.int (j : Nat)), some (.int b), some (.int i), some (.int w), u13, u14, u15, u16, none, none, none, none]) (fun NX hNX => ?_) ?_
    · walk_at "go"
      refine ⟨s0, Lc, 6, rfl, by omega, by omega, W.st, fun y1 H1 f1 st1 hy0 hy1 => ?_⟩
      have W1 := W.drw f1 st1 hos
      walk_at "go"
      refine ⟨D, _, rfl, .inl (.inl (.inl W1.eD)), ?_⟩
      rw [List.length_map, hrl]
      walk_at "go"
      refine ⟨s0, Lc, (ps.length : Int), rfl, by omega, by omega, W1.st, fun y2 H2 f2 st2 hy2 hy3 => ?_⟩
      have W2 := W1.drw f2 st2 hos
      walk_at "go"
      refine ⟨show 4 ≤ sizeLine by decide, fun l1 hl1 => ?_⟩
      have sl1 := same_upd (o := .lst [V.int 0, V.int 0, V.int 0, V.int 1]) hl1
      have el1 : (upd H2 l1 (.lst [V.int 0, V.int 0, V.int 0, V.int 1])) l1 = some (.lst [V.int 0, V.int 0, V.int 0, V.int 1]) := upd_same
      have nl1 : NN s0 Lc l1 := st2.ne hl1
      generalize upd H2 l1 (.lst [V.int 0, V.int 0, V.int 0, V.int 1]) = H3 at sl1 el1 ⊢
      have W3 := W2.same sl1
      walk_at "go"
      refine ⟨s0, Lc, 4, rfl, by omega, by omega, W3.st, fun y3 H4 f4 st4 hy4 hy5 => ?_⟩
      have W4 := W3.drw f4 st4 hos
      obtain ⟨w, ew, hw⟩ : ∃ w : Int, atI [V.int 0, V.int 0, V.int 0, V.int 1] y3 = some (.int w) ∧ (w = 0 ∨ w = 1) := by
        rcases (show y3 = 0 ∨ y3 = 1 ∨ y3 = 2 ∨ y3 = 3 by omega) with rfl | rfl | rfl | rfl
        · exact ⟨0, rfl, .inl rfl⟩
        · exact ⟨0, rfl, .inl rfl⟩
        · exact ⟨0, rfl, .inl rfl⟩
        · exact ⟨1, rfl, .inr rfl⟩
      refine go_ixL (.inl (.inl (f4 _ _ nl1 el1))) ew ?_
      walk_at "go"
      refine ⟨show 3 ≤ sizeLine by decide, fun t1 ht1 => ?_⟩
      have s5 := same_upd (o := .tup [V.int y1, V.int y2, V.int w]) ht1
      refine go_gTup (.inl (.inl upd_same)) rfl ?_
      generalize upd H4 t1 (.tup [V.int y1, V.int y2, V.int w]) = H5 at s5 ⊢
      obtain ⟨b, rfl⟩ : ∃ b : Nat, y1 = b := ⟨y1.toNat, by omega⟩
      obtain ⟨i, rfl⟩ : ∃ i : Nat, y2 = i := ⟨y2.toNat, by omega⟩
      walk_at "go"
      exact hNX _ _ ⟨b, i, w, by omega, by omega, hw, W4.same s5, rfl⟩
    clear W
    rintro σ' H1 ⟨b, i, w, hb, hip, hw, W, rfl⟩
    have mono : ∀ u v : Int, u ≤ v → fP ps hI b i u ≤ fP ps hI b i v := fun u v h => Cm_mono h b i
    have far := far_at (h := hI) (b := b) (i := i) h2 (by omega) hhI h6 hb hip
    refine seq_mid (fun σ' H' => ∃ tk : Int, tk = fP ps hI b i hid + w ∧ Lz K H' s0 Lc o dx0 ln sl R n fs ph.1 lo hi dx tp tn td rs0 rs ps hI D xs rx ∧ σ' = [some (.ref sc), some (.ref s0), some (.ref D), some (.int hI), some (.int hid), some (.ref o), some (.ref R), some (.int lo), some (.int hi), some (.int (j : Nat)), some (.int b), some (.int i), some (.int w), some (.int tk), u14, u15, u16, none, none, none, none]) (fun NX hNX => ?_) ?_
    · walk_at "go"
      refine ⟨_, D, rs, ps, hI, b, i, hid, rfl, W.eD, W.Rw, hG, hhI, hip, by omega, by omega, by omega, fun H4 s4 => ?_⟩
      walk_at "go"
      exact hNX _ _ ⟨_, rfl, W.same s4, rfl⟩
    clear W
    rintro σ' H2 ⟨tk, htk, W, rfl⟩
    refine seq_mid (fun σ' H' => ∃ F : Addr, Lz K H' s0 Lc o dx0 ln sl R n fs ph.1 lo hi dx tp tn td rs0 rs ps hI D xs rx ∧ (F ≠ o ∧ F ≠ sl ∧ F ≠ R) ∧ H' F = some (.lst (((rng lo (min hi 40)).filter (fun x => decide (fP ps hI b i x = tk))).map V.int)) ∧ σ' = [some (.ref sc), some (.ref s0), some (.ref D), some (.int hI), some (.int hid), some (.ref o), some (.ref R), some (.int lo), some (.int hi), some (.int (j : Nat)), some (.int b), some (.int i), some (.int w), some (.int tk), some (.ref F), u15, u16, none, none, none, none]) (fun NX hNX => ?_) ?_
    · walk_at "go"
      refine ⟨_, _, rfl, ?_⟩
      rw [show (if (40 : Int) < hi then (40 : Int) else hi) = min hi 40 by split <;> omega]
      walk_at "go"
      refine ⟨_, _, rfl, ⟨by omega, by omega, by omega, by omega⟩, ?_⟩
      rw [show (min hi 40 + 1 - lo).toNat = (min hi 40 - lo + 1).toNat by omega]
      refine lc_fil (walk_range (lo := lo) (n := (min hi 40 - lo + 1).toNat)) (fun _ _ => trivial) (fun k => if (fun x => decide (fP ps hI b i x = tk)) (lo + (k : Int)) = true then some (lo + (k : Int)) else none) (by omega) ?_ ?_
      · rintro k y Hx Hy kk k0 hk sx ⟨rfl, rfl⟩ hkk hk0
        dsimp only at hkk hk0 ⊢
        have Wx := W.same sx
        walk_at "go"
        refine ⟨rfl, ?_⟩
        walk_at "go"
        refine ⟨_, D, rs, ps, hI, b, i, lo + (k : Int), rfl, Wx.eD, Wx.Rw, hG, hhI, hip, by omega, by omega, by omega, fun H' s' => ?_⟩
        walk_at "go"
        by_cases c : fP ps hI b i (lo + (k : Int)) = tk
        · rw [c, decide_eq_true rfl]
          refine iteT ?_
          walk_at "go"
          refine hkk _ _ ?_ s'
          rw [if_pos (by simpa using c)]
        · rw [decide_eq_false (fun q => c (V.int.inj q))]
          refine iteF (hk0 ?_ _ s')
          rw [if_neg (by simpa using c)]
      intro F H3 hF s3 eF
      have eF : H3 F = some (.lst (((rng lo (min hi 40)).filter (fun x => decide (fP ps hI b i x = tk))).map V.int)) := by
        rw [eF]
        congr 3
        exact fmap_flt (fun x => decide (fP ps hI b i x = tk)) (fun k : Nat => lo + (k : Int)) _
      walk_at "go"
      exact hNX _ _ ⟨F, W.same s3, ⟨fun q => (by rw [q, W.ob] at hF; cases hF), fun q => (by rw [q, W.esl] at hF; cases hF), fun q => (by rw [q, W.eR] at hF; cases hF)⟩, eF, rfl⟩
    clear W
    rintro σ' H3 ⟨F, W, hF, eF, rfl⟩
    refine seq_mid (fun σ' H' => Lz K H' s0 Lc o dx0 ln sl R n fs ph.1 lo hi dx tp tn td rs0 rs ps hI D xs rx ∧ H' F = some (.lst (((rng lo (min hi 40)).filter (fun x => decide (fP ps hI b i x = tk))).map V.int)) ∧ σ' = [some (.ref sc), some (.ref s0), some (.ref D), some (.int hI), some (.int hid), some (.ref o), some (.ref R), some (.int lo), some (.int hi), some (.int (j : Nat)), some (.int b), some (.int i), some (.int w), some (.int tk), some (.ref F), some (.bl (decide (40 < hi ∧ fP ps hI b i 1000 = tk))), u16, none, none, none, none]) (fun NX hNX => ?_) ?_
    · walk_at "go"
      by_cases hc : 40 < hi
      · rw [decide_eq_true hc]
        refine iteT ?_
        walk_at "go"
        refine ⟨_, D, rs, ps, hI, b, i, 1000, rfl, W.eD, W.Rw, hG, hhI, hip, by omega, by omega, by omega, fun H4 s4 => ?_⟩
        walk_at "go"
        refine hNX _ _ ⟨W.same s4, s4 _ _ eF, ?_⟩
        have q : decide (40 < hi ∧ fP ps hI b i 1000 = tk) = decide (V.int (fP ps hI b i 1000) = V.int tk) := by simp [hc]
        rw [q]
        rfl
      · rw [decide_eq_false hc]
        refine iteF ?_
        walk_at "go"
        refine hNX _ _ ⟨W, eF, ?_⟩
        have q : decide (40 < hi ∧ fP ps hI b i 1000 = tk) = false := by simp [hc]
        rw [q]
        rfl
    clear W eF
    rintro σ' H4 ⟨W, eF, rfl⟩
    refine seq_mid (fun σ' H' => ∃ (n : Nat) (fs : List (Str × V)) (lo hi hid : Int) (xs rx : List Addr), n ≤ 5 + 2 * (j + 1) ∧ xs.length ≤ (j + 1) ∧ 1 ≤ lo ∧ lo ≤ hid ∧ hid ≤ hi ∧ hi ≤ 1000 ∧ hid ≤ 16 + (((j + 1) : Nat) : Int) ∧ Lz K H' s0 Lc o dx0 ln sl R n fs ph.1 lo hi dx tp tn td rs0 rs ps hI D xs rx ∧ ∃ u10 u11 u12 u13 u14 u15 u16, σ' = [some (.ref sc), some (.ref s0), some (.ref D), some (.int hI), some (.int hid), some (.ref o), some (.ref R), some (.int lo), some (.int hi), some (.int (j : Nat)), u10, u11, u12, u13, u14, u15, u16, none, none, none, none]) (fun NX hNX => ?_) ?_
    · walk_at "go"
      refine go_methW ?_
      walk_at "go"
      refine ⟨o, dx0, fs, rfl, W.ob, W.f.m1, ?_⟩
      walk_at "go"
      obtain ⟨ti, a0, _, b0⟩ := W.Rw.2 i ps[i] (by simp [hip])
      refine go_ixL (.inl (.inl W.eD)) (at_nat (at_map a0)) ?_
      walk_at "go"
      refine go_ixT (.inl (.inl b0)) rfl ?_
      have hzi : (ps.map (·.1))[i]? = some ps[i].1 := by simp [hip]
      have hyo := nm_ok (hG.nm ps[i] (List.getElem_mem _))
      walk_at "go"
      refine ⟨n, o, dx0, ln, sl, fs, ph.1, lo, hi, _, dx, tp, tn, td, rs0, ps, hI, b, i, tk, _, xs.map V.ref, rfl, W.obat hG hzh hlo hhi, by omega, W.esl, hso, by rw [List.length_map]; omega, by omega, by omega, hzi, fun hno H5 s5 => ⟨true, T.em_CC.at_, fun _ xa hxa => ?_, fun z => nomatch z⟩, fun l g fs' t2 H5 fr ho5 F5 ht2 et2 hsl5 q1 q2 q3 q4 q5 q6 => ?_⟩
      · have W1 := W.same s5
        have nb : ¬ (40 < hi ∧ fP ps hI b i 1000 = tk) := htk ▸ no_beyond mono far (by omega) (by omega) (by omega) hhi fun x h1 h2 => htk ▸ hno x h1 h2
        have e0 : (rng lo (min hi 40)).filter (fun x => decide (fP ps hI b i x = tk)) = [] := flt_non fun x h1 h2 => decide_eq_false (hno x h1 (by omega))
        rw [e0] at eF
        walk_at "go"
        refine ⟨Nat.zero_le _, fun e1 he1 => ?_⟩
        have se := same_upd (o := .lst []) he1
        refine go_neI (xs := []) (ys := []) (.inl (.inl (se _ _ (s5 _ _ eF)))) (.inl (.inl upd_same)) ?_
        walk_at "go"
        rw [decide_eq_true (rfl : ([] : List Int) = []), decide_eq_false nb]
        refine iteF ?_
        walk_at "go"
        refine iteF ?_
        walk_at "go"
        exact hNX _ _ ⟨n, fs, lo, hi, hid, xs, rx, by omega, by omega, hlo, hlh, hhh, hhi, by omega, W1.same se, _, _, _, _, _, _, _, rfl⟩
      · have el : fP ps hI b i l = fP ps hI b i hid + w := htk ▸ q4 l (Int.le_refl _) q2
        have eg : fP ps hI b i g = fP ps hI b i hid + w := htk ▸ q4 g q2 (Int.le_refl _)
        have l40 := low_near mono far hlh (by omega) (by omega) (by omega) el fun x h1 h2 => htk ▸ q5 x h1 h2
        have hg2 := high_next mono far (by omega) (by omega) q3 hhi eg fun x h1 h2 => htk ▸ q6 x h1 h2
        rw [← htk] at hg2
        have e0 : (rng lo (min hi 40)).filter (fun x => decide (fP ps hI b i x = tk)) = rng l (min g 40) := flt_rng q1 (by omega) fun x h1 h2 => by
          rw [decide_eq_true_iff]
          constructor
          · intro e
            refine ⟨Int.not_lt.mp fun c => ?_, ?_⟩
            · have := q5 x h1 c
              omega
            · have : x ≤ g := Int.not_lt.mp fun c => by
                have := q6 x c (by omega)
                omega
              omega
          · rintro ⟨c1, c2⟩
            exact q4 x c1 (by omega)
        rw [e0] at eF
        have hrl9 := rng_len l (min g 40)
        have eF5 := fr _ _ hF.1 hF.2.1 eF
        have rc5 : Recs s0 Lc o sl R H5 xs rx := W.rc.mv fun c ws a e => fr _ _ a.2.1 a.2.2.1 e
        have fr5 : ∀ c u, Apt s0 Lc o sl R c → H4 c = some u → H5 c = some u := fun c u a e => fr _ _ a.2.1 a.2.2.1 e
        have st5 := W.st.apart fr hos.1 hos.2.1
        have eR5 := fr _ _ hRo hRs W.eR
        have t2a : Apt s0 Lc o sl R t2 := ⟨W.st.ne ht2, fun z => (by rw [z, W.ob] at ht2; cases ht2), fun z => (by rw [z, W.esl] at ht2; cases ht2), fun z => (by rw [z, W.eR] at ht2; cases ht2)⟩
        have eD5 := fr5 _ _ W.hD W.eD
        have R5 : Rows (Apt s0 Lc o sl R) H5 rs ps := W.Rw.mono fun c u a e => fr5 c u a e
        walk_at "go"
        refine ⟨Nat.zero_le _, fun e1 he1 => ?_⟩
        have se := same_upd (o := .lst []) he1
        have ee : (upd H5 e1 (.lst [])) e1 = some (.lst []) := upd_same
        generalize upd H5 e1 (.lst []) = H6 at se ee ⊢
        refine go_eqI (xs := rng l (min g 40)) (ys := []) (.inl (.inl (se _ _ eF5))) (.inl (.inl ee)) ?_
        walk_at "go"
        rw [decide_eq_false (show ¬ rng l (min g 40) = [] from fun z => by rw [z] at hrl9; simp at hrl9; omega)]
        refine iteF ?_
        walk_at "go"
        refine go_ixL (.inl (.inl (se _ _ eF5))) (at_nat (i := 0) (at_map (rng_at (by omega)))) ?_
        walk_at "go"
        rw [show l + ((0 : Nat) : Int) = l by omega]
        refine pick_v (.int g) (fun hc K' k => ?_) (fun hc K' k => ?_) ?_
        · walk_at "go"
          rw [if_pos hc] at hg2
          rw [hg2]
          exact k
        · rw [if_neg hc] at hg2
          have hlen9 : (rng l (min g 40)).length - 1 = (g - l).toNat := by rw [hrl9, hg2]; omega
          walk_at "go"
          refine go_ixL (n := -((1 : Nat) : Int)) (.inl (.inl (se _ _ eF5))) (at_neg (by omega) (by rw [List.length_map, hrl9]; omega) (by rw [List.length_map, hlen9]; exact at_map (rng_at (by omega)))) ?_
          rw [show l + (((g - l).toNat : Nat) : Int) = g by omega]
          exact k
        walk_at "go"
        have eR6 := se _ _ eR5
        refine ⟨ty_lst eR6, ?_⟩
        walk_at "go"
        have R6 := R5.mono (frn_same se)
        obtain ⟨ti2, a02, _, b02⟩ := R6.2 i ps[i] (by simp [hip])
        refine go_ixL (.inl (.inl (se _ _ eD5))) (at_nat (at_map a02)) ?_
        walk_at "go"
        refine go_ixT (.inl (.inl b02)) rfl ?_
        walk_at "go"
        refine ⟨show 3 ≤ sizeLine by decide, fun r hr => ?_⟩
        have s7 := same_upd (o := .tup [V.int b, V.str ps[i].1, V.int tk]) hr
        have er : (upd H6 r (.tup [V.int b, V.str ps[i].1, V.int tk])) r = some (.tup [V.int b, V.str ps[i].1, V.int tk]) := upd_same
        generalize upd H6 r (.tup [V.int b, V.str ps[i].1, V.int tk]) = H7 at s7 er ⊢
        have s57 := se.trans s7
        have hxr := W.rc.1
        walk_at "go"
        refine ⟨R, _, _, rfl, rfl, s57 _ _ eR5, Nat.lt_of_lt_of_le (show (rx.map V.ref).length < 2000 by rw [List.length_map]; omega) (by decide), ?_⟩
        have ra : Apt s0 Lc o sl R r := by
          have n0 := (st5.keep se).ne hr
          exact ⟨n0, fun z => (by rw [z, se _ _ ho5] at hr; cases hr), fun z => (by rw [z, se _ _ hsl5] at hr; cases hr), fun z => (by rw [z, eR6] at hr; cases hr)⟩
        have keep : ∀ c u, Apt s0 Lc o sl R c → H5 c = some u → (upd H7 R (.lst (rx.map V.ref ++ [V.ref r]))) c = some u := fun c u a e => by
          rw [upd_ne a.2.2.2]
          exact s57 _ _ e
        have rc8 : Recs s0 Lc o sl R (upd H7 R (.lst (rx.map V.ref ++ [V.ref r]))) (xs ++ [t2]) (rx ++ [r]) := Recs.snoc (rc5.mv fun c ws a e => keep _ _ a e) t2a ra hyo (keep _ _ t2a et2) (by rw [upd_ne ra.2.2.2]; exact er)
        have st8 : HSt (upd H7 R (.lst (rx.map V.ref ++ [V.ref r]))) s0 Lc := (st5.keep s57).frd frd_upd hos.2.2
        have W8 : Lz K (upd H7 R (.lst (rx.map V.ref ++ [V.ref r]))) s0 Lc o dx0 ln sl R (n + 2) fs' ph.1 l g dx tp tn td rs0 rs ps hI D (xs ++ [t2]) (rx ++ [r]) := W.mv (fun c u a e => keep _ _ a (fr5 _ _ a e)) st8 (by rw [upd_ne hRo.symm]; exact s57 _ _ ho5) F5 (by rw [upd_ne hRs.symm, List.map_append]; exact s57 _ _ hsl5) (by rw [upd_same, List.map_append]; rfl) rc8
        generalize upd H7 R (.lst (rx.map V.ref ++ [V.ref r])) = H8 at W8 ⊢
        clear keep rc8 st8 s57 s7 er
        walk_at "go"
        refine iteNe rfl ?_
        walk_at "go"
        have wok : ∃ hid2 : Int, l ≤ hid2 ∧ hid2 ≤ g ∧ hid2 ≤ 16 + ((j + 1 : Nat) : Int) ∧ hid2 = (if w = 0 then hid else l) := by
          rcases hw with rfl | rfl
          · refine ⟨hid, Int.not_lt.mp fun c => ?_, Int.not_lt.mp fun c => ?_, by omega, rfl⟩
            · have := q5 hid hlh c
              omega
            · have := q6 hid c hhh
              omega
          · refine ⟨l, Int.le_refl _, q2, ?_, by simp⟩
            have := low_next mono far hlh hh16 (by omega) (by omega) (by omega) el fun x h1 h2 => htk ▸ q5 x h1 h2
            omega
        obtain ⟨hid2, w1, w2, w3, w4⟩ := wok
        refine pick_v (.int hid2) (fun hc K' k => ?_) (fun hc K' k => ?_) ?_
        · rw [if_pos (V.int.inj hc)] at w4
          walk_at "go"
          rw [← w4]
          exact k
        · rw [if_neg (fun z => hc (by rw [z]))] at w4
          walk_at "go"
          rw [← w4]
          exact k
        walk_at "go"
        exact hNX _ _ ⟨n + 2, fs', l, g, hid2, _, _, by omega, by rw [List.length_append]; simp; omega, by omega, w1, w2, by omega, w3, W8, _, _, _, _, _, _, _, rfl⟩
    clear W eF
    rintro σ' H5 ⟨n, fs, lo, hi, hid, xs, rx, hn5, hxl, hlo, hlh, hhh, hhi, hh16, W, u10, u11, u12, u13, u14, u15, u16, rfl⟩
    walk_at "go"
    refine ⟨o, dx0, _, rfl, W.ob, n, o, dx0, ln, sl, fs, ph.1, lo, hi, rfl, W.ob, W.f, fun p1 H6 s6 hp1 ep1 => ?_⟩
    have W1 := W.same s6
    walk_at "go"
    refine ⟨o, dx0, _, rfl, W1.ob, n, o, dx0, ln, sl, fs, ph.1, lo, hi, _, rfl, W1.ob, W1.f, W1.esl, by rw [List.length_map]; omega, fun p2 H7 s7 hp2 ep2 => ?_⟩
    have W2 := W1.same s7
    walk_at "go"
    refine ⟨show 2 ≤ sizeLine by decide, fun q1 hq1 => ?_⟩
    have s8 := same_upd (o := .lst [V.ref p1, V.ref p2]) hq1
    have eq1 : (upd H7 q1 (.lst [V.ref p1, V.ref p2])) q1 = some (.lst [V.ref p1, V.ref p2]) := upd_same
    generalize upd H7 q1 (.lst [V.ref p1, V.ref p2]) = H8 at s8 eq1 ⊢
    walk_at "go"
    refine ⟨show 2 ≤ sizeLine by decide, fun t1 ht1 => ?_⟩
    have s9 := same_upd (o := .tup [V.int lo, V.int hi]) ht1
    have et1 : (upd H8 t1 (.tup [V.int lo, V.int hi])) t1 = some (.tup [V.int lo, V.int hi]) := upd_same
    generalize upd H8 t1 (.tup [V.int lo, V.int hi]) = H9 at s9 et1 ⊢
    walk_at "go"
    refine ⟨show 2 ≤ sizeLine by decide, fun q2 hq2 => ?_⟩
    have sa := same_upd (o := .lst [V.ref t1, V.ref R]) hq2
    have eq2 : (upd H9 q2 (.lst [V.ref t1, V.ref R])) q2 = some (.lst [V.ref t1, V.ref R]) := upd_same
    generalize upd H9 q2 (.lst [V.ref t1, V.ref R]) = Hd at sa eq2 ⊢
    have s7a := s8.trans (s9.trans sa)
    have W3 := W2.same s7a
    have alk : EqD Hd 6 (.ref q1) (.ref q2) := two_eqd (s9.trans sa _ _ eq1 |> fun e => e) eq2 (int_eqd ((s7.trans s7a) _ _ ep1) (sa _ _ et1)) (W3.rc.eqd (by omega) (s7a _ _ ep2) W3.eR)
    walk_at "go"
    refine ⟨_, _, rfl, alk, fun Hf sf => ?_⟩
    have W4 := W3.same sf
    clear W W1 W2 W3 s6 s7 s8 s9 sa s7a alk ep1 ep2 et1 eq1 eq2 hp1 hp2 hq1 hq2 ht1
    walk_at "go"
    refine iteF ?_
    walk_at "go"
    rw [decide_eq_true hlh]
    refine iteT ?_
    walk_at "go"
    rw [decide_eq_true hhh]
    refine iteF ?_
    walk_at "go"
    exact ⟨n, fs, lo, hi, hid, xs, rx, hn5, hxl, hlo, hlh, hhh, hhi, hh16, W4, _, _, _, _, _, _, _, _, rfl⟩
  · clear W1
    rintro σ Hb ⟨n, fs, lo, hi, hid, xs, rx, hn5, hxl, hlo, hlh, hhh, hhi, hh16, W, u9, u10, u11, u12, u13, u14, u15, u16, rfl⟩
    walk_at "go"
    refine iteD (fun hc => ?_) fun hc => ?_
    · walk_at "go"
      refine ⟨D, _, rfl, .inl (.inl (.inl W.eD)), ?_⟩
      rw [List.length_map, hrl]
      walk_at "go"
      rw [show (ps.length : Int) - 1 = ((ps.length - 1 : Nat) : Int) by omega]
      refine ⟨show 2 ≤ sizeLine by decide, fun t1 ht1 => ?_⟩
      have s1 := same_upd (o := .tup [V.int ((ps.length - 1 : Nat) : Int), V.non]) ht1
      refine go_gTup (.inl (.inl upd_same)) rfl ?_
      generalize upd Hb t1 (.tup [V.int ((ps.length - 1 : Nat) : Int), V.non]) = Hc at s1 ⊢
      have W1 := W.same s1
      clear W s1 ht1
      walk_at "go"
      refine ⟨_, rfl, by omega, by omega, ?_⟩
      refine for_w (walk_range (lo := 0) (n := 6)) (fun j σ H' => Lz K H' s0 Lc o dx0 ln sl R n fs ph.1 lo hi dx tp tn td rs0 rs ps hI D xs rx ∧ ∃ v19 v9 v10 v20, σ = [some (.ref sc), some (.ref s0), some (.ref D), some (.int hI), some (.int hid), some (.ref o), some (.ref R), some (.int lo), some (.int hi), v9, v10, u11, u12, u13, u14, u15, u16, some (.int ((ps.length - 1 : Nat) : Int)), some (if j = 0 then V.non else if lo = hi ∨ fP ps hI 0 (ps.length - 1) lo < fP ps hI 0 (ps.length - 1) (lo + 1) then .int 0 else .non), v19, v20]) ⟨W1, _, _, _, _, rfl⟩ (fun _ _ _ _ _ => trivial) ?_ ?_
      · clear W1
        rintro j x σ Hd He' hj ⟨W, v19, v9, v10, v20, rfl⟩ ⟨rfl, rfl⟩
        dsimp only
        rw [Int.zero_add]
        have hj : j < 6 := hj
        walk_at "go"
        refine ⟨_, _, rfl, ⟨by omega, by omega, by omega, by omega⟩, ?_⟩
        rw [show (hi + 1 - lo).toNat = (hi - lo + 1).toNat by omega]
        refine lc_fun (walk_range (lo := lo) (n := (hi - lo + 1).toNat)) (fun _ _ => trivial) (fun k => .int (fP ps hI j (ps.length - 1) (lo + (k : Int)))) (by omega) ?_ ?_
        · rintro k y Hx Hy kk hk sx ⟨rfl, rfl⟩ hkk
          dsimp only
          have Wx := W.same sx
          walk_at "go"
          refine ⟨rfl, ?_⟩
          walk_at "go"
          refine ⟨_, D, rs, ps, hI, j, ps.length - 1, lo + (k : Int), rfl, Wx.eD, Wx.Rw, hG, hhI, by omega, by omega, by omega, by omega, fun H' s' => ?_⟩
          exact hkk _ s'
        intro Dn H3 hDn s3 e3
        have e3 : H3 Dn = some (.lst (((rng lo hi).map (fP ps hI j (ps.length - 1))).map V.int)) := by
          rw [e3]
          unfold rng
          rw [List.map_map, List.map_map]
          rfl
        have W3 := W.same s3
        have hrl9 := rng_len lo hi
        generalize hv : (if j = 0 then V.non else if lo = hi ∨ fP ps hI 0 (ps.length - 1) lo < fP ps hI 0 (ps.length - 1) (lo + 1) then V.int 0 else V.non) = v
        by_cases hcc : lo = hi ∨ fP ps hI 0 (ps.length - 1) lo < fP ps hI 0 (ps.length - 1) (lo + 1)
        · by_cases hj0 : j = 0
          · subst hj0
            rw [if_pos rfl] at hv
            subst hv
            walk_at "go"
            refine ⟨rfl, _, rfl, ?_⟩
            rw [decide_eq_true (rfl : V.non = V.non)]
            refine iteT ?_
            walk_at "go"
            refine ⟨.ref Dn, rfl, Dn, _, rfl, .inl (.inl e3), by rw [List.length_map]; omega, ?_⟩
            walk_at "go"
            refine ⟨_, _, rfl, .inl (.inl (.inl e3)), ?_⟩
            rw [List.length_map]
            walk_at "go"
            rw [Bk.difs_nodup (f0_inj h2 hcc), decide_eq_true rfl]
            refine iteT ?_
            walk_at "go"
            rw [if_neg (show ¬ (0 + 1 = 0) by omega), if_pos hcc]
            exact ⟨W3, _, _, _, _, rfl⟩
          · rw [if_neg hj0, if_pos hcc] at hv
            subst hv
            walk_at "go"
            refine ⟨rfl, _, rfl, ?_⟩
            rw [decide_eq_false (show ¬ V.int 0 = V.non from fun z => nomatch z)]
            refine iteF ?_
            walk_at "go"
            rw [if_neg (show ¬ (j + 1 = 0) by omega), if_pos hcc]
            exact ⟨W3, _, _, _, _, rfl⟩
        · rw [if_neg hcc, ite_self] at hv
          subst hv
          walk_at "go"
          refine ⟨rfl, _, rfl, ?_⟩
          rw [decide_eq_true (rfl : V.non = V.non)]
          refine iteT ?_
          walk_at "go"
          refine ⟨.ref Dn, rfl, Dn, _, rfl, .inl (.inl e3), by rw [List.length_map]; omega, ?_⟩
          walk_at "go"
          refine ⟨_, _, rfl, .inl (.inl (.inl e3)), ?_⟩
          rw [List.length_map]
          walk_at "go"
          have hne : lo ≠ hi := fun z => hcc (.inl z)
          have lt := f_same (ps := ps) (h := hI) h2 (show lo < hi by omega) (fun z => hcc (.inr z)) j (ps.length - 1)
          rw [decide_eq_false (fun z => by have := V.int.inj z; omega)]
          refine iteF ?_
          walk_at "go"
          rw [if_neg (show ¬ (j + 1 = 0) by omega), if_neg hcc]
          exact ⟨W3, _, _, _, _, rfl⟩
      · rintro σ Hd ⟨W, v19, v9, v10, v20, rfl⟩
        clear W1
        walk_at "go"
        refine go_methR ?_
        walk_at "go"
        refine ⟨o, dx0, _, rfl, W.ob, W.f.m4, ?_⟩
        walk_at "go"
        refine ⟨n, o, dx0, ln, sl, _, ph.1, lo, hi, _, dx, tp, tn, td, rs0, ps, hI, 5, rfl, W.obat hG hzh hlo hhi, by omega, by omega, by omega, fun H11 s11 => ?_⟩
        walk_at "go"
        refine ⟨_, _, rfl, ?_, fun H12 s12 => h _⟩
        rw [if_neg (by omega : ¬ (6 = 0))]
        refine .inl ⟨rfl, ?_⟩
        split
        · exact .inr (.inr (.inl ⟨_, rfl⟩))
        · exact .inl rfl
    · walk_at "go"
      exact h _

end
end K
namespace K
open PySem PySem.Spec PyProof.Rows L2 Bk
local macro_rules | `(tactic| walk_at "go1") => `(tactic| (first
  | ((with_reducible show tVar _ _ _ _); refine go_var rfl ?_)
  | (with_reducible first | refine go_c ?_ | refine go_op ?_ | refine go_cons ?_ | refine go_nil ?_ | refine go_cb ?_ | refine go_cl ?_ | refine go_seq ?_ | refine go_asg ?_ | refine go_name ?_ | refine go_ifS ?_ | refine go_test ?_ | refine go_bl ?_)
  | (with_reducible first | refine go_rI0 ?_ | refine go_rU ?_ | refine go_ret ?_ | refine go_next ?_ | refine go_B ?_ | refine go_and ?_ | refine go_or ?_ | refine go_not ?_ | refine go_if ?_ | refine go_andV ?_ | refine go_orV ?_ | refine go_notV ?_)
  | ((with_reducible show rEq _ _ _ _); refine go_rEq rfl ?_)
  | ((with_reducible show rNe _ _ _ _); refine go_rNe rfl ?_)
  | (with_reducible first | refine go_un ?_ | refine go_chain ?_ | refine go_drop ?_ | refine go_retN ?_ | refine go_isN ?_ | refine go_notN ?_ | refine go_cont ?_ | refine go_break ?_ | refine go_par ?_ | refine go_two ?_ | refine go_part ?_ | refine go_noPart ?_ | refine go_int ?_ | refine go_sl ?_ | refine go_yes ?_ | refine go_tup ?_ | refine go_lst ?_)
  | (with_reducible first | refine go_gCons ?_ | refine go_gNil ?_ | refine go_for ?_ | refine go_iEnT ?_ | refine go_iEnum ?_ | refine go_iList ?_ | refine go_iTup ?_ | refine go_iStr ?_ | refine go_iRng1 ?_ | refine go_iRng2 ?_ | refine go_iZip ?_ | refine go_lc ?_ | refine go_mkR ?_ | refine go_mkS ?_ | refine go_clO ?_ | refine go_pr ?_ | refine go_sfld ?_ | refine go_bm ?_ | refine go_ref ?_)))
local macro_rules | `(tactic| walk_at "go") => `(tactic| ((repeat (walk_at "go1")); try dsimp only))
local macro_rules | `(tactic| walk_at "so") => `(tactic| first | omega | (simp; done) | (simp; omega) | (simp at *; omega))
section
variable {P : Program} {w : World} {K : PySem.W.Frag} {mg : Str → Option Value} {base : Heap}
theorem law_ok (T : Tx K mg) {fd : FuncData} (F : FunD K "law" "law" (defArgs s_law) (defBody s_law) (defScope s_law) [] [] (He.ga K "law") fd) : FnOk P w K mg base (L2.CX P w) 12 (He.ga K "law") fd ["_law_script"] (spLaw K) := by
  have D_is_whole : Fx P w K mg base 1 (He.ga K "is_whole") spWhole := ok_is_whole T 
  have D_in_range : Fx P w K mg base 2 (He.ga K "in_range") spInRange := ok_in_range T D_is_whole
  have D_check_number : Fx P w K mg base 3 (He.ga K "check_number") spCheckNumber := ok_check_number T D_in_range
  have D_place_of : Fx P w K mg base 1 (He.ga K "place_of") (spPlaceOf K) := ok_place_of T 
  have D_is_name : Fx P w K mg base 1 (He.ga K "is_name") spIsName := ok_is_name T 
  have D_check_people : Fx P w K mg base 3 (He.ga K "check_people") (spCheckPeople K) := ok_check_people T D_is_name D_in_range
  have D_durations_of : Fx P w K mg base 1 (He.ga K "durations_of") (spDurationsOf K) := ok_durations_of T 
  have D_Lineu_initu : Fx P w K mg base 5 (He.ma K (He.ga K "Line") "__init__") (StSp 1 (spInit K)) := ok_Lineu_initu T D_check_people D_durations_of
  have D_Line_names : Fx P w K mg base 1 (gt K "Line" "names") (spNames K) := ok_Line_names T 
  have D_turns : Fx P w K mg base 1 (He.ga K "turns") (spTurns K) := ok_turns T 
  have D_growths : Fx P w K mg base 2 (He.ga K "growths") (spGrowths K) := ok_growths T D_turns
  have D_hand_over_end : Fx P w K mg base 3 (He.ga K "hand_over_end") (spEnd K) := ok_hand_over_end T D_growths
  have D_Lineu_callu : Fx P w K mg base 4 (He.ma K (He.ga K "Line") "__call__") (spCall K) := ok_Lineu_callu T D_check_number D_place_of D_hand_over_end
  have D_Lineu_addu : Fx P w K mg base 7 (He.ma K (He.ga K "Line") "__add__") (spAdd K) := ok_Lineu_addu T D_Lineu_initu
  have D_Lineu_subu : Fx P w K mg base 7 (He.ma K (He.ga K "Line") "__sub__") (spSub K) := ok_Lineu_subu T D_place_of D_Lineu_initu
  have D__law_durations : Fx P w K mg base 1 (He.ga K "_law_durations") (spLDurs K) := ok__law_durations T 
  have D_check_person : Fx P w K mg base 1 (He.ga K "check_person") (spCheckPerson K) := ok_check_person T 
  have D_Line_trained : Fx P w K mg base 7 (He.ma K (He.ga K "Line") "trained") (StSp 2 (spTrained K)) := ok_Line_trained T D_place_of D_Lineu_initu
  have D_PaceObserveru_initu : Fx P w K mg base 3 (He.ma K (He.ga K "PaceObserver") "__init__") (spObInit K) := ok_PaceObserveru_initu T D_check_person D_Line_names
  have D_PaceObserver_possible_paces : Fx P w K mg base 1 (gt K "PaceObserver" "possible_paces") (spPoss K) := ok_PaceObserver_possible_paces T 
  have D_PaceObserveruheld_from : Fx P w K mg base 8 (He.ma K (He.ga K "PaceObserver") "_held_from") (spHeld K) := ok_PaceObserveruheld_from T D_Line_trained D_Lineu_callu
  have D_PaceObserverufirst_pace : Fx P w K mg base 9 (He.ma K (He.ga K "PaceObserver") "_first_pace") (spFirst K) := ok_PaceObserverufirst_pace T D_PaceObserveruheld_from
  have D_durations_ofL : Fx P w K mg base 1 (He.ga K "durations_of") (spDurationsOfL K) := ok_durations_ofL T 
  have D_Line_trainedN : Fx P w K mg base 7 (He.ma K (He.ga K "Line") "trained") (StSp 2 (spTrainedN K)) := ok_Line_trainedN T D_place_of D_Lineu_initu
  have D_has_digits_only : Fx P w K mg base 1 (He.ga K "has_digits_only") spDigits := ok_has_digits_only T 
  have D_is_number : Fx P w K mg base 2 (He.ga K "is_number") spDigits := ok_is_number T D_has_digits_only
  have D_wrong_word : Fx P w K mg base 3 (He.ga K "wrong_word") (spWrong K) := ok_wrong_word T D_is_name D_is_number
  have D_parse_line : Fx P w K mg base 8 (He.ga K "parse_line") (spParse K) := ok_parse_line T D_wrong_word D_Lineu_initu
  have D__law_mix : Fx P w K mg base 1 (He.ga K "_law_mix") (spMix K) := ok__law_mix T 
  have D__law_next : Fx P w K mg base 1 (He.ga K "_law_next") (spNext K) := ok__law_next T 
  have D__law_people : Fx P w K mg base 2 (He.ga K "_law_people") (spPeople9 K) := ok__law_people T D__law_next
  have D__law_text : Fx P w K mg base 1 (He.ga K "_law_text") (spText K) := ok__law_text T 
  have D__law_held : Fx P w K mg base 2 (He.ga K "_law_held") (spHeldT K) := ok__law_held T D__law_durations
  have D__law_alike : Fx P w K mg base 7 (He.ga K "_law_alike") (spAlD K 6) := ok__law_alike T  6
  have D_PaceObserver_records : Fx P w K mg base 1 (gt K "PaceObserver" "records") (spRecs K) := ok_PaceObserver_records T 
  have D_PaceObserver_see : Fx P w K mg base 10 (He.ma K (He.ga K "PaceObserver") "see") (spSeeG K) := ok_PaceObserver_see T D_check_number D_check_person D_Line_names D_PaceObserverufirst_pace D_is_whole
  have D_PaceObserver_telling_bucket : Fx P w K mg base 10 (He.ma K (He.ga K "PaceObserver") "telling_bucket") (spTell K) := ok_PaceObserver_telling_bucket T D_check_number D_Line_names D_PaceObserveruheld_from
  have D__law_seen : Fx P w K mg base 3 (He.ga K "_law_seen") (spTick K) := ok__law_seen T D__law_held
  exact ok_law T D__law_mix D__law_people D__law_next D_PaceObserveru_initu D_parse_line D__law_text D__law_seen D_PaceObserver_see D__law_alike D_PaceObserver_possible_paces D_PaceObserver_records D_PaceObserver_telling_bucket F
/-- the end, for promises of a CX that knows the world -/
theorem walk_mine {l : PySem.W.OpenLaw} {n k : Nat} {q : Program} {loose : List Str} {XP : (Str → Option Value) → Heap → Prop} {YP : World → Heap → Prop} {d : DefRec} {CX : World → CXT} {x : Str} (hn : l.most = some n) (hn2 : n ≤ sizeLine) (hdf : d.params.defaults = []) (hr : Room k callerA)
    (F : ∀ (w : World) (mg : Str → Option Value) (fa : Addr) (h : Heap), YP w h → h.Ns mainGlobals mg → mg d.name = some (.ref fa) → ∃ (K : PySem.W.Frag) (fd : FuncData) (sp : Sp), K.In h ∧ (∀ (s : Shared) (u : Value), BindsTo s fd ⟨[u], []⟩ [(x, u)]) ∧
      (∀ (H : Hp) (a : Addr) (ns : List Int), ns.length ≤ n → Only H → SqL K H a (ns.map V.int) → sp [.ref a] H (fun v _ => v = .bl true) fun _ _ _ => False) ∧ ∀ base : Heap, K.In base → base.Ns mainGlobals mg → FnOk l.prog w K mg base (CX w) k fa fd [x] sp)
    (hX : ∀ (w : World) (H : Hp) (s : Shared) (e : Value) (s' : Shared), CX w [] H s (fun _ _ _ => False) e s' → False) : PySem.W.WalkO q loose XP YP l.row.toRowW d [] (fun f vs => PySem.call f vs) := Att.attach_call hn hdf (by
  intro w t0 t1 mg mb fa o pm cd doc a vs ns G Y ho hd hcd hm hob hi hle hg
  obtain ⟨K, fd, sp, KX, hb, hsp, hF⟩ := F w mg fa _ Y G.T.g hm
  refine law_call KX G.T.g G.T.b G.T.builtins G.T.nolimit hg hob hi (Nat.le_trans hle hn2) hr hF hb ?_ ?_
  · exact fun H hO hS => hsp H a ns hle hO hS
  · exact fun H e s' => hX w H t1 e s')
end
end K
open PySem PySem.W PySem.Calls PyProof.Rows
theorem PySem.Challenge.cw_bucketline_k58_whole_hidden_paces_holds : PySem.Challenge.rw_bucketline_k58_whole_hidden_paces.Holds := by
  w_on; o_law
  refine HandSHeadRun.head_any (r := K.R) (q := view K.R.prog [45]) (H := K.hk) (ob := K.ob) (M := 9000) (loose := K.lo) (d := HandSHeadRun.topDef K.R.prog 45) (kwd := []) K.ob_eq (by kernel_rfl) (fun s => by kernel_rfl) K.run (by kernel_rfl) (by kernel_rfl) (by kernel_rfl) (by rfl) (by first | assumption | decide +kernel) (by decide +kernel) ⟨rfl, rfl, rfl, rfl, rfl, by decide +kernel⟩ ?hw ?hc
  case hw => w_witness2
  case hc =>
    refine K.walk_mine (l := PySem.Challenge.rw_bucketline_k58_whole_hidden_paces) (n := 63) (k := 12) (x := "_law_script") (CX := fun w => L2.CX PySem.Challenge.rw_bucketline_k58_whole_hidden_paces.prog w) rfl (by decide) (by kernel_rfl) ⟨rfl, by decide, by decide⟩ ?F ?X
    case X =>
      rintro w H s e s' ⟨_, _, _, _, _, _, _, _, _, _, _, _, hE⟩
      exact hE
    case F =>
      intro w mg fa h Y G hm
      obtain ⟨KK, KX, c, ex⟩ := Y
      have hmg : mg ("law" : PySem.Str) = some (.ref fa) := by
        have e : (HandSHeadRun.topDef K.R.prog 45).name = ("law" : PySem.Str) := by kernel_rfl
        rw [← e]
        exact hm
      have T := K.tx_of KX G c ex
      have e := hmg.symm.trans T.g_law
      cases e
      obtain ⟨fd, F⟩ := T.F_law
      have b := L2.FunD.bindsA (ps := ["_law_script"]) F fun _ _ _ _ _ _ us hl => match us, hl with | [_], _ => rfl
      refine ⟨KK, fd, K.spLaw KK, KX, fun s v => b s [v] rfl, fun H a ns hl hO hS => ⟨L2.Rd H a (.lst (ns.map L2.V.int)), a, ns, rfl, ⟨fun z => z, fun z => ?_⟩, hl, fun _ => rfl⟩, fun base _ _ => K.law_ok T F⟩
      rcases hS with q | q
      · exact absurd q z
      · exact q
