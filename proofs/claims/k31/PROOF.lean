import PyProof.Rows.All
import Wide.All
import OpenK.AllK
import Wide.FinOn
import KE.KStateDown
import HandS.Base
import HandS.Call
import HandS.Ends
import HandS.Defaults
import HandS.Property
import HandS.Head0
import HandS.Head1
import HandS.Head2
import HandS.HeadEnd
import HandS.HeadHook1
import HandS.HeadHook2
import HandS.HeadNt
import HandS.Star
import HandS.ClsMeth
import HandS.Codes
import KE.GoesEnum
import KE.KTupSum
import KE.KOpsOwn
import HandS.ForMost
import HandS.Exc
import HandS.WordsExc
import HandS.Zip
import HandS.Evl
import HandS.Wide
import HandS.Conv
import HandS.TupAny
import HandS.IsInst
import HandS.SlotsOwn
import HandS.Walk
import HandS.Flow
import KE.SortData
import HandS.MethStar
import HandS.Style
import PyProof.InstEq
import HandS.GenList
import HandS.MakeKwOnly
import HandS.Replace
import HandS.Text
import KE.KExcSuper
import HandS.ExcInit
import HandS.ExcField
import HandS.ExcIs
import HandS.FStr
import KE.KSuper
import HandS.More
import HandS.DictComp
import HandS.ListItems
import HandS.TryOnly
import HandS.HeadHook4
import HandS.HeadWalk
import HandS.Deep
import KE.KExcIs
import HandS.RaiseMore
import PyProof.ExcBaseAll.ValueError
import HandS.SetFor
import PySem.Challenge.RW_bucketline_k31_kinds_of_people
set_option Elab.async false
set_option linter.all false
set_option maxRecDepth 100000
set_option maxHeartbeats 0
namespace Bk
open PySem PySem.Spec PyProof.Rows L2
/-! the hook of our heads: the library's facts and defs, and one Bool more -/
abbrev Seen : Type := He.AlD × Bool
def look (n : Nat) (fa : List He.Fa) (fn : List He5.DefA) (ex : PySem.W.Frag → Bool) (g : Addr → Option Obj) : Seen :=
  (He5.obsA fa fn (He.frG g (He5.asA g n)), ex (He.frG g (He5.asA g n)))
def bkHook (n : Nat) (fa : List He.Fa) (fn : List He5.DefA) (ex : PySem.W.Frag → Bool) : PySem.W.Hook where
  α := Seen
  obs := fun s => look n fa fn ex s.heap.get?
  val := fun _ => (He5.valA fn, true)
  says := fun _ h => ∃ K : PySem.W.Frag, K.In h ∧ (He5.SaysA fa fn K ∧ ex K = true)
  of := fun _ _ e => ⟨_, He.frG_in, congrArg (fun z : Seen => z.1) e, congrArg (fun z : Seen => z.2) e⟩
  keeps := fun _ _ _ ⟨K, hK, c⟩ k => ⟨K, PySem.W.Frag.In.keeps hK k, c⟩
theorem look_eq {n : Nat} {fa : List He.Fa} {fn : List He5.DefA} {ex : PySem.W.Frag → Bool} {g : Addr → Option Obj} {s : Shared} (h : ∀ a, g a = s.heap.get? a) : look n fa fn ex g = (bkHook n fa fn ex).obs s := by
  have e : g = s.heap.get? := funext h
  rw [e] <;> rfl
/-! a property of a class: where its getter stands, and that it is one -/
def gt (K : PySem.W.Frag) (C f : Str) : Addr := He5.wf K (He.ga K C) "property" f
def isProp (K : PySem.W.Frag) (C f : Str) : Bool :=
  He.eqO (PySem.W.findIn K (.ref (He.ga K C)) f) (some (some (.ref (He.ma K (He.ga K C) f)))) &&
  (He.eqO (PySem.W.specialIn K (.ref (He.ma K (He.ga K C) f)) "__get__") (some (some (.builtin "property.__get__"))) &&
  (decide (PySem.W.takesIn K (.ref (He.ma K (He.ga K C) f)) = some true) &&
  (match PySem.W.recIn K (He.ma K (He.ga K C) f) "property" with
    | some (.ref _ :: _) => true
    | _ => false)))
theorem isProp_ok {K : PySem.W.Frag} {C f : Str} (h : isProp K C f = true) : PropOf K (He.ga K C) f (He.ma K (He.ga K C) f) (gt K C f) := by
  obtain ⟨h1, h⟩ := He.ba h
  obtain ⟨h2, h⟩ := He.ba h
  obtain ⟨h3, h4⟩ := He.ba h
  refine ⟨He.eqO_ok h1, He.eqO_ok h2, of_decide_eq_true h3, ?_⟩
  show ∃ rest, _ = some (Value.ref (He5.wf K (He.ga K C) "property" f) :: rest)
  unfold He5.wf
  split at h4
  · rename_i g r e
    exact ⟨r, by rw [e]⟩
  · cases h4
/-- where a def of the text stands: a def of the top, a method -/
def atG (x : Str) : PySem.W.Frag → Addr := fun K => He.ga K x
def atM (C m : Str) : PySem.W.Frag → Addr := fun K => He.ma K (He.ga K C) m
def atP (C f : Str) : PySem.W.Frag → Addr := fun K => gt K C f
/-- what calls an instance of a class -/
def isCallO (K : PySem.W.Frag) (C : Str) : Bool :=
  He.eqO (PySem.W.findIn K (.ref (He.ga K C)) "__call__") (some (some (.ref (He.ma K (He.ga K C) "__call__")))) &&
  (PySem.W.isFn K (.ref (He.ma K (He.ga K C) "__call__")) && PySem.W.fnIn K (He.ma K (He.ga K C) "__call__"))
theorem isCallO_ok {K : PySem.W.Frag} {C : Str} (h : isCallO K C = true) : StX.CallO K (He.ga K C) (He.ma K (He.ga K C) "__call__") := by
  obtain ⟨h1, h⟩ := He.ba h
  obtain ⟨h2, h3⟩ := He.ba h
  exact ⟨He.eqO_ok h1, h2, h3⟩
end Bk
namespace Bk
open PySem PySem.Spec PyProof.Rows L2
/-- the operators + and - of a class -/
structure OpsOf (K : PySem.W.Frag) (C : Str) : Prop where
  first : PySem.W.selfFirst K (He.ga K C) = true
  add : PySem.W.findIn K (.ref (He.ga K C)) (PySem.dunder Operator.Add.info.2) = some (some (.ref (He.ma K (He.ga K C) "__add__")))
  fadd : PySem.W.isFn K (.ref (He.ma K (He.ga K C) "__add__")) = true
  sub : PySem.W.findIn K (.ref (He.ga K C)) (PySem.dunder Operator.Sub.info.2) = some (some (.ref (He.ma K (He.ga K C) "__sub__")))
  fsub : PySem.W.isFn K (.ref (He.ma K (He.ga K C) "__sub__")) = true
  rsub : PySem.W.findIn K (.ref (He.ga K C)) (PySem.dunderR Operator.Sub.info.2) = some none
  ssub : ∃ o, PySem.W.findIn K (.type "str") (PySem.dunder Operator.Sub.info.2) = some o
  srsub : ∃ o, PySem.W.findIn K (.type "str") (PySem.dunderR Operator.Sub.info.2) = some o
  str : PySem.W.subIn K (.type "str") (.ref (He.ga K C)) = some false
def isOps (K : PySem.W.Frag) (C : Str) : Bool :=
  [PySem.W.selfFirst K (He.ga K C),
   He.eqO (PySem.W.findIn K (.ref (He.ga K C)) (PySem.dunder Operator.Add.info.2)) (some (some (.ref (He.ma K (He.ga K C) "__add__")))),
   PySem.W.isFn K (.ref (He.ma K (He.ga K C) "__add__")),
   He.eqO (PySem.W.findIn K (.ref (He.ga K C)) (PySem.dunder Operator.Sub.info.2)) (some (some (.ref (He.ma K (He.ga K C) "__sub__")))),
   PySem.W.isFn K (.ref (He.ma K (He.ga K C) "__sub__")),
   He.eqO (PySem.W.findIn K (.ref (He.ga K C)) (PySem.dunderR Operator.Sub.info.2)) (some none),
   (PySem.W.findIn K (.type "str") (PySem.dunder Operator.Sub.info.2)).isSome,
   (PySem.W.findIn K (.type "str") (PySem.dunderR Operator.Sub.info.2)).isSome,
   decide (PySem.W.subIn K (.type "str") (.ref (He.ga K C)) = some false)].all id
theorem all_at {l : List Bool} (h : l.all id = true) (i : Nat) {b : Bool} (e : l[i]? = some b := by rfl) : b = true := List.all_eq_true.mp h b (List.mem_of_getElem? e)
theorem isOps_ok {K : PySem.W.Frag} {C : Str} (h : isOps K C = true) : OpsOf K C where
  first := all_at h 0
  add := He.eqO_ok (all_at h 1)
  fadd := all_at h 2
  sub := He.eqO_ok (all_at h 3)
  fsub := all_at h 4
  rsub := He.eqO_ok (all_at h 5)
  ssub := Option.isSome_iff_exists.mp (all_at h 6)
  srsub := Option.isSome_iff_exists.mp (all_at h 7)
  str := of_decide_eq_true (all_at h 8)
end Bk
namespace Bk
open PySem PySem.Spec PyProof.Rows L2
/-- a class's value that is an int, read off the class -/
structure ConC (K : PySem.W.Frag) (C f : Str) (i : Int) : Prop where
  rd : ClX.CRead K (He.ga K C) (.type "type")
  va : ∃ t, ClX.CVal K (He.ga K C) (.type "type") f (.int i) (.int i t)
def isConC (K : PySem.W.Frag) (C f : Str) (i : Int) : Bool :=
  [PySem.W.readsIn K (He.ga K C) (.type "type"),
   He.eqO (PySem.W.specialIn K (.ref (He.ga K C)) "__getattribute__") (some (some (.builtin "type.__getattribute__"))),
   (match PySem.W.findCls K (.ref (He.ga K C)) (.type "type") f with
    | some (.val (.int j _)) => decide (j = i)
    | _ => false)].all id
theorem isConC_ok {K : PySem.W.Frag} {C f : Str} {i : Int} (h : isConC K C f i = true) : ConC K C f i := by
  refine ⟨⟨all_at h 0, He.eqO_ok (all_at h 1)⟩, ?_⟩
  have h2 := all_at h 2
  split at h2
  · rename_i j t e
    cases of_decide_eq_true h2
    exact ⟨t, e, t, rfl⟩
  · cases h2
/-- isinstance(a, C) of an instance -/
def isIsi (K : PySem.W.Frag) (C : Str) : Bool :=
  [(He.Fa.cls C).ok K,
   He.eqO (PySem.W.findIn K (.ref (He.ga K C)) "__class__") (some (some (.builtin "object.__class__"))),
   He.eqO (PySem.W.specialIn K (.builtin "object.__class__") "__get__") (some (some (.builtin "getset_descriptor.__get__"))),
   decide (PySem.W.takesIn K (.builtin "object.__class__") = some true),
   decide (PySem.W.mroIn K (He.ga K C) (.type "object") = some true),
   decide (PySem.W.kitOne K (.ref (He.ga K C)) (.ref (He.ga K C)) = some true)].all id
structure IsiOf (K : PySem.W.Frag) (C : Str) : Prop where
  c : C8.InsC K (He.ga K C)
theorem isIsi_ok {K : PySem.W.Frag} {C : Str} (h : isIsi K C = true) : IsiOf K C := by
  constructor
  exact { cl := He.cls_ok (all_at h 0), ha := He.eqO_ok (all_at h 1), hn := He.eqO_ok (all_at h 2), htk := of_decide_eq_true (all_at h 3), hm := of_decide_eq_true (all_at h 4), me := of_decide_eq_true (all_at h 5) }
end Bk
namespace Bk
open PySem PySem.Spec PyProof.Rows L2

/-! ### a def of the text keeps a promise: by position, what it raises as the layer's CX says -/
section
variable {P : Program} {w : World} {K : PySem.W.Frag} {mg : Str → Option Value} {base : Heap} {x qual : Str} {params : Arguments} {body : List Stmt} {scope : Scope} {kws : List (Str × V)} {f : Addr} {fd : FuncData} {N ps : List Str} {k : Nat} {sp : Sp}
abbrev Fx (P : Program) (w : World) (K : PySem.W.Frag) (mg : Str → Option Value) (base : Heap) (k : Nat) (f : Addr) (sp : Sp) : Prop := FnR P w K mg base (L2.CX P w) k f sp
abbrev Cb (P : Program) (w : World) (K : PySem.W.Frag) (mg : Str → Option Value) (base : Heap) (N : List Str) (qual : Str) (scope : Scope) (f : Addr) (cdv : Value) (A : Around) (outer : List Env) (s : Shared) (H : Hp) (E : XK) : Cx :=
  cxOf (L2.CX P w) P w K mg base N qual scope f cdv A outer s H E
/-- a def that lets nothing out -/
theorem fx_of (F : FunD K x qual params body scope [] kws f fd) (S : FnScope N ps scope) (len : ∀ vs H Q E, sp vs H Q E → vs.length = ps.length)
    (hb : ∀ (kV doc pm : Value) (an : Option Addr) (cdv ct : Value) (us : List Value), us.length = ps.length → bindArgs (PySem.W.fnOf x qual params body scope .none kV doc pm an cdv ct) ⟨us, []⟩ = pure (ps.zip us))
    (h : ∀ (cdv : Value) (A : Around) (outer : List Env) (s : Shared) (H : Hp) (vs : List V) (Q : VK) (E : XK), Room k (A.deeper (envOfC qual scope s.heap.objs.size f cdv)) → sp vs H Q E →
      ∃ t, PSs (Cb P w K mg base N qual scope f cdv A outer s H E).nox body t ∧ t { nx := fun _ H' => Q .non H', rt := Q } (start N vs) H) : Fx P w K mg base (k + 1) f sp := by
  have G : FnOk P w K mg base (L2.CX P w) (k + 1) f fd ps sp := F.ok S len fun cdv A outer s H vs Q E hr hs => by
    obtain ⟨t, h1, h2⟩ := h cdv A outer s H vs Q E hr hs
    exact ⟨t, h1.nox, h2⟩
  have R := G.raw (F.bindsN hb) .nil
  exact R.imp fun vs H Q E q => by rw [List.append_nil]; exact q
end

/-! ### calls by position -/
section
variable {X : Cx} {CX : CXT} {k j : Nat} {f C g : Addr} {sp : Sp} {E : XK} {x m : Str} {p pos apos sp_ : Pos} {e o fe : Expr} {es : List Expr} {t : TA} {te ta : TE}
def tCl (sp : Sp) (E : XK) (t : TA) : TE := fun σ H Q => t σ H fun vs H1 => sp vs H1 Q E
theorem pe_cl (F : FnR X.prog X.w X.K X.mg X.base CX k f sp) (hr : Room j X.A) (hk : PySem.W.keepIn X.K (.ref f) = true) (hm : X.mg x = some (.ref f)) (hx : Passes CX X E) (ha : PA X (e :: es) t) (hj : k ≤ j := by decide) (hg : Gl X x := by rfl)
    (hd : (x == ("__debug__" : Str)) = false := by decide) (he : starEach (e :: es) X.env = (false, eval e X.env) :: starEach es X.env := by rfl) (hp : (backTo pos (starEach es X.env)).any (·.1) = false := by rfl) :
    PE X (.Call (.Name x p) (e :: es) [] pos) (tCl sp E t) := by
  constructor
  intro pins s σ H Q I h
  apply wpAny_Call_Name_kw
  apply ld_glob I hg hm _ hd
  refine PySem.W.callWith_K (h₀ := X.base) I.ok.mod.kin hk ?_ he hp
  refine thn (ha.run pos pins s σ H _ I h) ?_
  rintro us s1 ⟨vs, H1, I1, r, q⟩
  exact ⟨I1.kIn, wpAny_call (run_fnR F (hr.mono hj) hx I1 r q)⟩
theorem pe_cl0 (F : FnR X.prog X.w X.K X.mg X.base CX k f sp) (hr : Room j X.A) (hk : PySem.W.keepIn X.K (.ref f) = true) (hm : X.mg x = some (.ref f)) (hx : Passes CX X E) (hj : k ≤ j := by decide) (hg : Gl X x := by rfl)
    (hd : (x == ("__debug__" : Str)) = false := by decide) : PE X (.Call (.Name x p) [] [] pos) (tCl sp E tNil) := by
  constructor
  intro pins s σ H Q I h
  apply wpAny_Call_Name_kw
  apply ld_glob I hg hm _ hd
  exact PySem.W.callWith_K0 I.kIn hk (wpAny_call (run_fnR (us := []) F (hr.mono hj) hx I .nil h))
/-- C(*e): a new instance, its __init__ with the items of a tuple or list -/
def tMkS (K : PySem.W.Frag) (C : Addr) (sp : Sp) (E : XK) (te : TE) : TE := fun σ H Q => te σ H fun y H1 => ∃ a xs, y = V.ref a ∧ (SqT K H1 a xs ∨ SqL K H1 a xs) ∧
  ∀ o dx, H1 o = Option.none → H1 dx = Option.none → dx ≠ o → sp (V.ref o :: xs) (upd (upd H1 dx (.own o)) o (.ins C dx [])) (fun v H2 => v = .non ∧ Q (.ref o) H2) E
theorem pe_mkS (M : Mk X.K C f) (F : FnR X.prog X.w X.K X.mg X.base CX k f sp) (hr : Room j X.A) (hm : X.mg x = some (.ref C)) (hx : Passes CX X E) (he : PE X e te) (hj : k + 1 ≤ j := by decide) (hg : Gl X x := by rfl) (hd : (x == ("__debug__" : Str)) = false := by decide)
    (hs : starEach [.Starred e sp_] X.env = [(true, eval e X.env)] := by rfl) : PE X (.Call (.Name x p) [.Starred e sp_] [] pos) (tMkS X.K C sp E te) := by
  constructor
  intro pins s σ H Q I h
  apply wpAny_Call_Name_kw
  apply ld_glob I hg hm _ hd
  refine PySem.W.callWith_S (h₀ := X.base) I.ok.mod.kin M.kp ?_ hs
  refine thn (he.run pins s σ H _ I h) ?_
  rintro v s1 ⟨y, H1, I1, ry, a, xs, ey, hxs, q⟩
  subst ey
  cases (show v = Value.ref a from ry)
  exact StX.star_any I1 hxs fun us s2 I2 rv => ⟨I2.kIn, StX.run_makeR M F (hr.mono hj) hx I2 rv q⟩
/-- e.f, a property: by position -/
def tPr (C : Addr) (sp : Sp) (E : XK) (ta : TE) : TE := fun σ H Q => ta σ H fun x H1 => ∃ a dx fs, x = .ref a ∧ H1 a = some (.ins C dx fs) ∧ sp [.ref a] H1 Q E
theorem getpr_ok {a dx pa : Addr} {fs : List (Str × V)} {pins : List (Addr × Obj)} {σ : L2.St} {H : Hp} {s : Shared} {Q : VK} {b : Bool} {E' : Value → Shared → Prop} (I : Inv X pins σ H s) (ea : H a = some (.ins C dx fs)) (c : Cls X.K C) (hp : PropOf X.K C x pa g)
    (F : FnR X.prog X.w X.K X.mg X.base CX k g sp) (hr : Room (k + 1) X.A) (hx : Passes CX X.nox E) (h : sp [.ref a] H Q E) : wpAny (model X.prog X.w) X.A (getAttr (.ref a) x b) (EP X pins σ Q) E' s := by
  obtain ⟨mA, O, _⟩ := ins_get I.hok ea
  obtain ⟨od, J, _⟩ := O.look
  obtain ⟨rest, hrec⟩ := hp.rec_
  have I1 := I.tok (s.toks + 1)
  have hc : (PySem.W.clsIn X.K C).isSome = true := by
    obtain ⟨cd, e, _⟩ := PySem.W.any_some c.hd
    simp [e]
  refine PySem.W.get_bind I.kIn J (PySem.W.plainGet_of (c.get x)).1 (PySem.W.findObj_data hc hp.at_ hp.get hp.tak) (PySem.W.plainGet_of (c.get x)).2 (wpAny_call (PySem.W.prop_get (s := { s with toks := s.toks + 1 }) I.kIn hrec ?_))
  refine codeAny_mono (F X.A.in1 X.stack { s with toks := s.toks + 1 } H [.ref a] [.ref a] Q E hr.in1 I1.env0.in1 (.cons rfl .nil) h) ?_
  rintro (er | fl) s' hq
  · exact (hx pins σ H { s with toks := s.toks + 1 } er s' (I1.wish _) hq).elim
  · cases fl with
    | ret u =>
      obtain ⟨v, H', I3, rv, q3⟩ := I1.after hq
      show wpAny _ _ (handedOut u) _ _ _
      rw [PySem.W.handedOut_of (handed_of rv)]
      exact wpAny_pure ⟨v, H', I3, rv, q3⟩
    | next => exact hq.elim
    | brk => exact hq.elim
    | cont => exact hq.elim
theorem pe_pr {pa : Addr} (he : PE X e ta) (c : Cls X.K C) (hp : PropOf X.K C x pa g) (F : FnR X.prog X.w X.K X.mg X.base CX k g sp) (hr : Room j X.A) (hx : Passes CX X.nox E) (hj : k + 1 ≤ j := by decide) (hab : attributeBase e x X.env (eval e X.env) = eval e X.env := by rfl) :
    PE X (.Attribute e x pos) (tPr C sp E ta) := by
  constructor
  intro pins s σ H Q I h
  refine attr_of hab (thn (he.run pins s σ H _ I h) ?_)
  rintro u s1 ⟨y, H1, I1, rx, a, dx, fs, ex, ea, q⟩
  subst ex
  cases (show u = Value.ref a from rx)
  exact getpr_ok I1 ea c hp F (hr.mono hj) hx q
/-- f(e, ..), f an instance: by position (the layer's pe_callO, the level apart) -/
theorem pe_clO (hf : PE X fe te) (c : StX.CallO X.K C g) (F : FnR X.prog X.w X.K X.mg X.base CX k g sp) (hr : Room j X.A) (hx : Passes CX X E) (ha : PA X (e :: es) t) (hj : k ≤ j := by decide)
    (ht : eval (.Call fe (e :: es) [] pos) X.env = (do callWith pos (← eval fe X.env) [] (backTo pos (starEach (e :: es) X.env)) (backToKw pos (keywordEach [] X.env))) := by rfl)
    (he : starEach (e :: es) X.env = (false, eval e X.env) :: starEach es X.env := by rfl) (hp : (backTo pos (starEach es X.env)).any (·.1) = false := by rfl) : PE X (.Call fe (e :: es) [] pos) (StX.tCallO X C sp E te t) :=
  StX.pe_callO hf c F (hr.mono hj) hx ha ht he hp
end

/-! ### operators of an own class -/
def rOw (C : Addr) (sp : Sp) (E : XK) (G : V → Hp → Prop) : R2 := fun x y H Q => ∃ a dx fs, x = .ref a ∧ H a = some (.ins C dx fs) ∧ G y H ∧ sp [.ref a, y] H Q E
section
variable {X : Cx} {CX : CXT} {k j : Nat} {C g : Addr} {sp : Sp} {E : XK}
theorem ins_at {pins : List (Addr × Obj)} {σ : L2.St} {H : Hp} {s : Shared} {a dx : Addr} {fs : List (Str × V)} (I : Inv X pins σ H s) (h : H a = some (.ins C dx fs)) : ∃ ox od, PySem.W.InstAt s.heap a ox C od ∧ ox.data = .plain := StX.insC_at I (.inr ⟨dx, fs, h⟩)
/-- own a + own b, both of the class -/
theorem op_ownC {op : Operator} (hc : PySem.W.selfFirst X.K C = true) (hs : PySem.W.findIn X.K (.ref C) (PySem.dunder op.info.2) = some (some (.ref g))) (hf : PySem.W.isFn X.K (.ref g) = true) (F : FnR X.prog X.w X.K X.mg X.base CX k g sp) (hr : Room j X.A) (hx : Passes CX X E)
    (hj : k ≤ j := by decide) : OpR X (binaryOp op) (rOw C sp E fun y H => ∃ b dy gs, y = .ref b ∧ H b = some (.ins C dy gs)) := by
  intro pins s σ H x y v u Q I rx ry h
  obtain ⟨a, dx, fs, rfl, ha, ⟨b, dy, gs, rfl, hb⟩, q⟩ := h
  cases (show v = Value.ref a from rx)
  cases (show u = Value.ref b from ry)
  obtain ⟨ox, od, J, _⟩ := ins_at I ha
  obtain ⟨oy, oe, J', _⟩ := ins_at I hb
  obtain ⟨m, hF⟩ := I.fr
  refine PySem.W.binop_K hF I.ok.mod.kin J J'.type hc hs hf ?_
  refine wpAny_mono (wpAny_call (run_fnR (us := [.ref a, .ref b]) (vs := [.ref a, .ref b]) F (hr.mono hj) hx I (.cons rfl (.cons rfl .nil)) q)) ?_ fun _ _ z => z
  rintro w s' ⟨z, H', I', rz, qz⟩
  exact SlX.cmpback rz ⟨z, H', I', rz, qz⟩
/-- own a - a text -/
theorem op_ownS {op : Operator} {fo ro rc : Option Value} (hc : PySem.W.selfFirst X.K C = true) (hs : PySem.W.findIn X.K (.ref C) (PySem.dunder op.info.2) = some (some (.ref g))) (hf : PySem.W.isFn X.K (.ref g) = true)
    (hr0 : PySem.W.findIn X.K (.ref C) (PySem.dunderR op.info.2) = some rc) (hp : rc = none ∨ ∃ g : Addr, rc = some (.ref g)) (h1 : PySem.W.findIn X.K (.type "str") (PySem.dunder op.info.2) = some fo) (h2 : PySem.W.findIn X.K (.type "str") (PySem.dunderR op.info.2) = some ro)
    (hu : PySem.W.subIn X.K (.type "str") (.ref C) = some false) (F : FnR X.prog X.w X.K X.mg X.base CX k g sp) (hr : Room j X.A) (hx : Passes CX X E) (hj : k ≤ j := by decide) : OpR X (binaryOp op) (rOw C sp E fun y _ => ∃ z, y = .str z) := by
  intro pins s σ H x y v u Q I rx ry h
  obtain ⟨a, dx, fs, rfl, ha, ⟨z, rfl⟩, q⟩ := h
  cases (show v = Value.ref a from rx)
  obtain ⟨t, rfl⟩ := (show ∃ t, u = Value.str z t from ry)
  obtain ⟨ox, od, J, _⟩ := ins_at I ha
  obtain ⟨m, hF⟩ := I.fr
  refine PySem.W.ksp_binT (T := "str") hF I.ok.mod.kin J rfl hc hs hf hr0 hp h1 h2 hu ?_
  refine wpAny_mono (wpAny_call (run_fnR (us := [.ref a, .str z t]) (vs := [.ref a, .str z]) F (hr.mono hj) hx I (.cons rfl (.cons ⟨t, rfl⟩ .nil)) q)) ?_ fun _ _ z => z
  rintro w s' ⟨z, H', I', rz, qz⟩
  exact SlX.cmpback rz ⟨z, H', I', rz, qz⟩
end

/-! ### sum of a tuple; enumerate of a tuple -/
section
variable {X : Cx}
def rSumT (K : PySem.W.Frag) : List V → Hp → VK → Prop := fun vs H Q => ∃ (a : Addr) (ns : List Int), vs = [V.ref a] ∧ SqT K H a (ns.map V.int) ∧ Q (.int ns.sum) H
theorem cr_sumT (hc : X.calm = true) : CallR X (.builtin "sum") (rSumT X.K) := by
  intro pins s σ H vs us Q I r h
  obtain ⟨a, ns, rfl, hs, q⟩ := h
  obtain ⟨its, rv, hl, _⟩ := I.tuple hs
  rw [Vals.ref1 r]
  obtain ⟨xs, e⟩ := rv.ints.allInts.items
  have hn : numsOf (intItems xs).toList = ns := by rw [← e]; exact rv.ints.numsOf
  rw [nums_intItems] at hn
  rw [e] at hl
  refine PySem.W.ktm_sumG (I.ok.hd hc) hl fun h' tk t' hk => ?_
  rw [preSum_eq, List.take_of_length_le (by simp), hn]
  exact ⟨.int _, H, I.kept hk, ⟨_, rfl⟩, q⟩
end
/-- a tuple by places, each with its number, in new pairs -/
def ItE (K : PySem.W.Frag) (a : Addr) : It where
  go i H := ∃ xs y, SqT K H a xs ∧ xs[i]? = some y
  yld i H v H' := ∃ T y, v = .ref T ∧ H T = none ∧ H' = upd H T (.tup [.int (i : Nat), y]) ∧ ∀ xs, SqT K H a xs → xs[i]? = some y
  stop i H := ∃ xs, SqT K H a xs ∧ xs.length ≤ i
theorem tupIt_ne {h : Heap} {a it : Addr} {i : Nat} {its : Array Value} (q : IsTup h a its) (st : h.IsTupleIter it a i) : a ≠ it := by
  rintro rfl
  obtain ⟨o1, e1, c1, _⟩ := q
  obtain ⟨o2, e2, c2, _⟩ := st
  rw [e1] at e2
  cases e2
  rw [c1] at c2
  simp at c2
theorem turn_en {P : Program} {w : World} {K : PySem.W.Frag} {elts : List Expr} {kk : Nat} {tpos : Pos} (a e it : Addr) :
    Turn P w K (.Tuple elts kk tpos) (ItE K a) [e, it] e (fun i h => (∃ old, IsEnum h e it ((i : Nat) : Int) old) ∧ (h.IsTupleIter it a i ∧ e ≠ it)) where
  mem := List.mem_cons_self
  obj i h st b hb := by
    obtain ⟨⟨old, he⟩, ⟨o, ho, hc, hd⟩, _⟩ := st
    rcases List.mem_cons.mp hb with rfl | hb
    · exact ⟨_, he, fun v q => nomatch q⟩
    · refine ⟨o, by rw [List.mem_singleton.mp hb]; exact ho, fun v q => ?_⟩
      rw [hd] at q
      cases q
  keep i h h' st k := by
    obtain ⟨⟨old, he⟩, ⟨o, ho, r⟩, hne⟩ := st
    exact ⟨⟨old, k e (by simp) _ he⟩, ⟨o, k it (by simp) o ho, r⟩, hne⟩
  item := by
    intro X hP hw hK hc i pins s σ H E I hf st hg
    subst hP hw hK
    obtain ⟨⟨old, he⟩, hit, hne⟩ := st
    obtain ⟨xs, y, hq, hy⟩ := hg
    obtain ⟨its, rv, p, hz⟩ := I.tuple hq
    obtain ⟨u, hu, ru⟩ := rv.get hy
    have hai := tupIt_ne p hit
    have hea : e ≠ a := by
      rintro rfl
      obtain ⟨o1, e1, c1, _⟩ := p
      rw [he] at e1
      cases e1
      simp at c1
    have el : e < s.heap.objs.size := Heap.lt_size he
    have il : it < s.heap.objs.size := hit.elim fun _ q => Heap.lt_size q.1
    have hi : i < its.toArray.size := by
      have := (List.getElem?_eq_some_iff.mp hu).1
      simpa using this
    have D := Draws.tuple (prog := X.prog) (w := X.w) (A := X.A.in1) (I.ok.hd hc) it a hai its.toArray
    refine wpAny_pyNext_enum_itemD D he ⟨hit, p⟩ hi hne (by simp [hne, hea]) ?_
    intro z h' tk hP ho hS hT hsz hk
    have ez : z = u := by
      have q : its.toArray[i]? = some z := hP
      rw [show its.toArray[i]? = its[i]? from by simp, hu] at q
      exact (Option.some.inj q).symm
    subst ez
    refine ⟨_, rfl, wpAny_letOwnedTupleGo_enum (s := { s with heap := h', toks := tk + 1 }) ho ?_⟩
    intro h2 he2 sb
    have t2 : h2.get? s.heap.objs.size = some { cls := .type "tuple", data := .seq #[.int i tk, z] } := (sb.2 _ (Nat.ne_of_gt el)).trans hT
    have new : ObjOk X.prog X.w (upd H s.heap.objs.size (.tup [.int (i : Nat), y])) h2 s.heap.objs.size (.tup [.int (i : Nat), y]) := by
      refine ⟨by show 2 ≤ sizeLine; decide, [.int i tk, z], .cons ⟨_, rfl⟩ (.cons ru .nil), ?_⟩
      exact ⟨_, t2, rfl, _, rfl⟩
    have I1 := I.turnedNew (t' := tk + 1) (ch := [e, it]) (fun b ob hb q => by
      have b1 : b ≠ e := fun z => hb (by simp [z])
      have b2 : b ≠ it := fun z => hb (by simp [z])
      exact (sb.2 b b1).trans (hk b ob b1 b2 q)) hf (Nat.le_refl _) new
    have hfr := I.hok.fresh (Nat.le_refl _)
    refine ⟨.ref s.heap.objs.size, _, I1, rfl, ⟨_, y, rfl, hfr, rfl, fun ys hy' => by rw [I.tuple_inj hy' hq]; exact hy⟩, ⟨⟨z, ?_⟩, ?_, hne⟩, ?_⟩
    · have e1 : ((i + 1 : Nat) : Int) = (i : Int) + 1 := by omega
      rw [e1]
      exact he2
    · obtain ⟨o, ho', r⟩ := hS.1
      exact ⟨o, (sb.2 it (Ne.symm hne)).trans ho', r⟩
    · intro b hb
      have lb : b < s.heap.objs.size := by
        rcases List.mem_cons.mp hb with z | hb
        · rw [z]; exact el
        · rw [List.mem_singleton.mp hb]; exact il
      exact (upd_ne (Nat.ne_of_lt lb)).trans (hf b hb).1
  done := by
    intro X hP hw hK hc i pins s σ H E I hf st hg
    subst hP hw hK
    obtain ⟨⟨old, he⟩, hit, hne⟩ := st
    obtain ⟨xs, hq, hx⟩ := hg
    obtain ⟨its, rv, p, hz⟩ := I.tuple hq
    obtain ⟨f0, f1, f2, f3, f4, f5⟩ := hf it (by simp)
    have hl := rv.length
    have hT : s.TypeIs (.ref e) "enumerate" := ⟨_, he, rfl⟩
    unfold pyNext
    refine wpAny_bind (wpAny_attempt (wpAny_callSpecial?_slot (name := Str.ofString "__next__") hT F.slot_enumerate_next ?_))
    refine wpAny_call_entry F.slot_enumerate_next hT F.entry_enumerate_next ?_ (F.args_enumerate_next_1 _)
    show wpAny _ X.A.in1 (field (Value.ref e) 2 >>= _) _ _ s
    apply wpAny_bind
    refine wpAny_field he rfl (x := Value.ref it) rfl ?_
    apply wpAny_bind
    refine wpAny_nextOf_tuple_end (I.ok.hd hc) hit p (by simp; omega) ?_
    rintro h' x he' ⟨o, ho, hcl⟩
    refine wpAny_bind (wpAny_isInstance (T := "StopIteration") (b := true) ⟨o, ho, hcl⟩ isSubtype_stop (wpAny_pure ?_))
    exact ⟨rfl, I.turned (t' := s.toks) he' f0 f1 f3 f4 f5⟩
  self A i s Q E st h := by
    obtain ⟨⟨_, he⟩, _⟩ := st
    exact wpAny_pyIter_enum he h
/-- enumerate(v) of what begins an iterator -/
theorem en_meets {v : Value} {o : Obj} {G : Heap → Prop} (B : Begins v o G) : Meets (Builtin.«enumerate.__new__» ⟨[.type "enumerate", v], []⟩) (fun _ R s => G s.heap ∧
    R (.ok (.ret (.ref (s.heap.push o).objs.size))) { s with heap := (s.heap.push o).push { cls := .type "enumerate", data := .fields #[.none, .bool false, .ref s.heap.objs.size, rawInt 0, .none, .none] } }) := by
  refine .of_wp fun prog w A R s h => ?_
  obtain ⟨hp, gs, dr, tk, os⟩ := s
  obtain ⟨h1, h2⟩ := h
  have sub := sub_enumerate
  have beg : ∀ {A' : Around} {E : Value → Shared → Prop} {Q : Value → Shared → Prop}, Q (.ref hp.objs.size) ⟨hp.push o, gs, dr, tk, os⟩ → wpAny (model prog w) A' (pyIter v) Q E ⟨hp, gs, dr, tk, os⟩ :=
    fun {A' E Q} z => B.iter prog w A' E ⟨hp, gs, dr, tk, os⟩ Q h1 z
  wp_walk using beg
  refine wpAny_stack_any fun _ => wpAny_pure ?_
  split
  · rename_i c _ _ _ _ _
    cases (c == Value.type "enumerate") <;> (wp_walk using beg) <;> exact ⟨_, rfl, h2⟩
  · wp_walk using beg
    exact ⟨_, rfl, h2⟩
theorem en_begins {prog : Program} {w : World} {A : Around} {E : Value → Shared → Prop} {s : Shared} {v : Value} {o : Obj} {G : Heap → Prop} {Q : Value → Shared → Prop} (B : Begins v o G) (h1 : G s.heap)
    (h : ∀ h', IsEnum h' (s.heap.objs.size + 1) s.heap.objs.size 0 .none → h'.get? s.heap.objs.size = some o → (∀ b u, s.heap.get? b = some u → h'.get? b = some u) → Q (.ref (s.heap.objs.size + 1)) { s with heap := h' }) :
    wpAny (model prog w) A (call (.type "enumerate") [v]) Q E s := by
  refine callType_new F.called_enumerate (by decide) (F.typeCall_enumerate_1 _) (F.newCall_enumerate_1 _) (fun obj => F.args_object_init_2 obj _) F.entry_enumerate_new (en_meets B) ⟨h1, ?_⟩
  have hz : (s.heap.push o).objs.size = s.heap.objs.size + 1 := Heap.size_push ..
  show _ ∧ _
  rw [hz]
  have he := Heap.get?_push_size (s.heap.push o) (o := { cls := .type "enumerate", data := .fields #[.none, .bool false, .ref s.heap.objs.size, rawInt 0, .none, .none] }) rfl
  rw [hz] at he
  exact ⟨⟨_, he, rfl⟩, h _ he (Heap.get?_push_of_some _ (Heap.get?_push_size _ B.free)) fun b u q => Heap.get?_push_of_some _ (Heap.get?_push_of_some _ q)⟩
def iEnT (K : PySem.W.Frag) (ta : TA) : TI := fun σ H R => ta σ H fun vs H1 => ∃ a xs, vs = [.ref a] ∧ SqT K H1 a xs ∧ R (ItE K a) H1
theorem pi_enT {X : Cx} {e : Expr} {ta : TA} {p pos tpos : Pos} {elts : List Expr} {kk : Nat} (hm : X.mg "enumerate" = none) (ha : PA X [e] ta) (hg : Gl X "enumerate" := by rfl) (hs : starEach [e] X.env = [(false, eval e X.env)] := by rfl) :
    PI X (.Tuple elts kk tpos) (.Call (.Name "enumerate" p) [e] [] pos) (iEnT X.K ta) := by
  constructor
  intro pins s σ H R I h
  refine Call_ (ld_blt I hg hm boot_enumerate (PyProof.Rows.callWith_type1 (thn (ha.run pos pins s σ H _ I h) ?_) hs rfl))
  rintro us s1 ⟨vs, H1, I1, r1, a, xs, rfl, hq, q⟩
  rw [Vals.ref1 r1]
  obtain ⟨its, rv, p', hz⟩ := I1.tuple hq
  refine en_begins (begins_tuple a its.toArray) p' ?_
  intro h' he hit hk
  refine wpAny_pyIter_enum he ?_
  have I2 : Inv X pins σ H1 { s1 with heap := h' } := I1.kept (t' := s1.toks) hk
  refine ⟨s1.heap.objs.size + 1, [s1.heap.objs.size + 1, s1.heap.objs.size], _, _, H1, rfl, I2, turn_en a (s1.heap.objs.size + 1) s1.heap.objs.size, ⟨⟨.none, he⟩, ⟨_, hit, rfl, rfl⟩, Nat.succ_ne_self _⟩, ?_, q⟩
  intro b hb
  have lb : s1.heap.objs.size ≤ b := by
    rcases List.mem_cons.mp hb with z | hb
    · rw [z]
      exact Nat.le_add_right _ _
    · rw [List.mem_singleton.mp hb]
      exact Nat.le_refl _
  exact I1.fpOk lb (I1.hok.fresh lb)
/-! ### short forms -/
section
variable {X : Cx} {x : Str} {p pos : Pos} {e : Expr} {es : List Expr} {t : TA} {id : String} {r : List V → Hp → VK → Prop}
theorem pe_bty (n : String) (hm : X.mg x = none) (hv : bootBuiltins x = some (.type n) := by decide +kernel) (hg : Gl X x := by rfl) (hn : x ≠ "__name__" := by decide) (hd : (x == ("__debug__" : Str)) = false := by decide) : PE X (.Name x pos) (tC (.ty n)) :=
  pe_bltn hg hm hv rfl hn hd
theorem cB (hc : CallR X (.builtin id) r) (hm : X.mg x = none) (ha : PA X (e :: es) t) (hv : bootBuiltins x = some (.builtin id) := by decide +kernel) (hg : Gl X x := by rfl) (hn : x ≠ "__name__" := by decide) (hd : (x == ("__debug__" : Str)) = false := by decide)
    (he : starEach (e :: es) X.env = (false, eval e X.env) :: starEach es X.env := by rfl) (hp : (backTo pos (starEach es X.env)).any (·.1) = false := by rfl) : PE X (.Call (.Name x p) (e :: es) [] pos) (tCB r t) := pe_callB hc hg hm hv ha hn hd he hp
theorem cT {n : String} (hc : CallR X (.type n) r) (hm : X.mg x = none) (ha : PA X (e :: es) t) (hv : bootBuiltins x = some (.type n) := by decide +kernel) (hg : Gl X x := by rfl) (hn : x ≠ "__name__" := by decide) (hd : (x == ("__debug__" : Str)) = false := by decide)
    (he : starEach (e :: es) X.env = (false, eval e X.env) :: starEach es X.env := by rfl) (hp : (backTo pos (starEach es X.env)).any (·.1) = false := by rfl) : PE X (.Call (.Name x p) (e :: es) [] pos) (tCB r t) := pe_callTy hc hg hm hv ha hn hd he hp
/-- a module's constant -/
theorem gI {i : Int} (h : ∃ t, X.mg x = some (.int i t)) (hg : Gl X x := by rfl) (hd : (x == ("__debug__" : Str)) = false := by decide) : PE X (.Name x pos) (tC (.int i)) := by
  obtain ⟨t, h⟩ := h
  exact pe_glob hg h ⟨t, rfl⟩ hd
theorem gS {z : Str} (h : ∃ t, X.mg x = some (.str z t)) (hg : Gl X x := by rfl) (hd : (x == ("__debug__" : Str)) = false := by decide) : PE X (.Name x pos) (tC (.str z)) := by
  obtain ⟨t, h⟩ := h
  exact pe_glob hg h ⟨t, rfl⟩ hd
theorem gR {a : Addr} (h : X.mg x = some (.ref a)) (hg : Gl X x := by rfl) (hd : (x == ("__debug__" : Str)) = false := by decide) : PE X (.Name x pos) (tC (.ref a)) := pe_glob hg h rfl hd
end
theorem iteD {c A B : Prop} [Decidable c] (h1 : c → A) (h2 : ¬ c → B) : if decide c = true then A else B := by
  by_cases h : c
  · rw [if_pos (decide_eq_true h)]
    exact h1 h
  · rw [if_neg (by simpa using h)]
    exact h2 h
theorem iteB {b : Bool} {A B : Prop} (h1 : b = true → A) (h2 : b = false → B) : if b = true then A else B := by
  cases b with
  | true => exact iteT (h1 rfl)
  | false => exact iteF (h2 rfl)
/-! ### readings, step by step -/
section
variable {K : PySem.W.Frag} {σ : L2.St} {H : Hp} {ta tb te tc : TE} {t u tt : TT} {x y z v : V} {r r' : R2} {Q : VK} {D : Ends} {ts tr tw : TS} {g : TG} {i j k : Nat} {al ar : TA} {QB : Bool → Hp → Prop} {QL : List V → Hp → Prop} {sp : Sp} {E : XK} {p q : Int}
theorem go_var (h : σ[i]? = some (some v)) (e : Q v H) : tVar i σ H Q := ⟨v, h, e⟩
theorem go_c (e : Q v H) : tC v σ H Q := e
theorem go_op (h : ta σ H fun x H1 => tb σ H1 fun y H2 => r x y H2 Q) : tOp r ta tb σ H Q := h
theorem go_un {r : V → Hp → VK → Prop} (h : ta σ H fun x H1 => r x H1 Q) : tUn r ta σ H Q := h
theorem go_chain (h : ta σ H fun x H1 => tb σ H1 fun y H2 => r x y H2 fun z H3 => ∃ k, z = .bl k ∧ (if k = true then tc σ H3 fun w' H4 => r' y w' H4 Q else Q (.bl false) H3)) : tChain r r' ta tb tc σ H Q := h
theorem go_cb {r : List V → Hp → VK → Prop} (h : al σ H fun vs H1 => r vs H1 Q) : tCB r al σ H Q := h
theorem go_nil (h : QL [] H) : tNil σ H QL := h
theorem go_cons (h : ta σ H fun x H1 => ar σ H1 fun xs H2 => QL (x :: xs) H2) : tCons ta ar σ H QL := h
theorem go_tup (h : al σ H fun xs H1 => xs.length ≤ sizeLine ∧ ∀ p, H1 p = none → Q (.ref p) (upd H1 p (.tup xs))) : tTup al σ H Q := h
theorem go_lst (h : al σ H fun xs H1 => xs.length ≤ sizeLine ∧ ∀ p, H1 p = none → Q (.ref p) (upd H1 p (.lst xs))) : tLst al σ H Q := h
theorem go_cl (h : al σ H fun vs H1 => sp vs H1 Q E) : tCl sp E al σ H Q := h
theorem go_test (h : ta σ H fun x H' => ∃ k, x = .bl k ∧ QB k H') : tTest ta σ H QB := h
theorem go_B (h : ta σ H fun x H' => ∃ k, x = .bl k ∧ QB k H') : tB ta σ H QB := h
theorem go_and (h : t σ H fun c H1 => if c = true then u σ H1 QB else QB false H1) : tAnd t u σ H QB := h
theorem go_or (h : t σ H fun c H1 => if c = true then QB true H1 else u σ H1 QB) : tOr t u σ H QB := h
theorem go_not (h : t σ H fun c H1 => QB (!c) H1) : tNot t σ H QB := h
theorem go_if (h : t σ H fun c H1 => if c = true then ta σ H1 Q else tb σ H1 Q) : tIf t ta tb σ H Q := h
theorem go_andV (h : ta σ H fun x H1 => ∃ c, x = .bl c ∧ if c = true then tb σ H1 Q else Q (.bl false) H1) : tAndV ta tb σ H Q := h
theorem go_orV (h : ta σ H fun x H1 => ∃ c, x = .bl c ∧ if c = true then Q (.bl true) H1 else tb σ H1 Q) : tOrV ta tb σ H Q := h
theorem go_notV (h : ta σ H fun x H1 => ∃ c, x = .bl c ∧ Q (.bl (!c)) H1) : tNotV ta σ H Q := h
theorem go_isN (h : ta σ H fun x H1 => Q (.bl (decide (x = .non))) H1) : tIsN ta σ H Q := h
theorem go_notN (h : ta σ H fun x H1 => Q (.bl (!decide (x = .non))) H1) : tNotN ta σ H Q := h
theorem go_bl {b : Bool} {P : Bool → Prop} (h : P b) : ∃ k, V.bl b = V.bl k ∧ P k := ⟨b, rfl, h⟩
theorem go_rI0 {f : Int → Int → V} (e : Q (f p q) H) : rI0 f (.int p) (.int q) H Q := ⟨p, q, rfl, rfl, e⟩
theorem go_rI {C : Int → Int → Prop} {f : Int → Int → V} (c : C p q) (e : Q (f p q) H) : rI C f (.int p) (.int q) H Q := ⟨p, q, rfl, rfl, c, e⟩
theorem go_rU {f : Int → V} (e : Q (f p) H) : rU f (.int p) H Q := ⟨p, rfl, e⟩
theorem go_rEq (s : scal x y = true) (e : Q (.bl (decide (x = y))) H) : rEq x y H Q := ⟨s, e⟩
theorem go_rNe (s : scal x y = true) (e : Q (.bl (!decide (x = y))) H) : rNe x y H Q := ⟨s, e⟩
theorem go_ixL {a : Addr} {xs : List V} {n : Int} (h : SqL K H a xs) (e : atI xs n = some v) (q : Q v H) : rIxL K (.ref a) (.int n) H Q := ⟨a, xs, n, v, rfl, rfl, h, e, q⟩
theorem go_ixT {a : Addr} {xs : List V} {n : Int} (h : SqT K H a xs) (e : atI xs n = some v) (q : Q v H) : rIxT K (.ref a) (.int n) H Q := ⟨a, xs, n, v, rfl, rfl, h, e, q⟩
theorem go_seq (h : ts { D with nx := tr D } σ H) : tSeq ts tr D σ H := h
theorem go_asg (h : te σ H fun x H1 => g x σ H1 D.nx) : tAsg te g D σ H := h
theorem go_ret (h : te σ H D.rt) : tRet te D σ H := h
theorem go_retN (h : D.rt .non H) : tRetN D σ H := h
theorem go_drop (h : te σ H fun _ H1 => D.nx σ H1) : tDrop te D σ H := h
theorem go_ifS (h : t σ H fun b H1 => if b = true then ts D σ H1 else tr D σ H1) : tIfS t ts tr D σ H := h
theorem go_next (h : D.nx σ H) : tNext D σ H := h
theorem go_cont (h : D.ct σ H) : tCont D σ H := h
theorem go_break (h : D.bk σ H) : tBreak D σ H := h
theorem go_par (h : al σ H fun vs H1 => ∃ v w, vs = [v, w] ∧ D.nx ((σ.set i (some v)).set j (some w)) H1) : tPar i j al D σ H := h
theorem go_two {P : V → V → Prop} (h : P x y) : ∃ v w, [x, y] = [v, w] ∧ P v w := ⟨x, y, rfl, h⟩
theorem go_name {QS : L2.St → Hp → Prop} (h : QS (σ.set i (some v)) H) : gName i v σ H QS := h
theorem go_part {QO : Option Int → Hp → Prop} (h : ta σ H fun x H1 => ∃ i, x = .int i ∧ QO (some i) H1) : tPart ta σ H QO := h
theorem go_noPart {QO : Option Int → Hp → Prop} (h : QO none H) : tNoPart σ H QO := h
theorem go_int {P : Int → Prop} (h : P p) : ∃ i, V.int p = V.int i ∧ P i := ⟨p, rfl, h⟩
theorem go_sl {r : V → Option Int → Option Int → Hp → VK → Prop} {to th : TO} (h : te σ H fun x H1 => to σ H1 fun l H2 => th σ H2 fun u H3 => r x l u H3 Q) : tSl r te to th σ H Q := h
theorem go_yes {QB : Bool → Hp → Prop} (h : QB true H) : tYes σ H QB := h
end
/-! ### heaps that grow -/
theorem same_upd {H : Hp} {p : Addr} {o : HO} (h : H p = Option.none) : Same H (upd H p o) := fun a u e => by
  rw [upd_ne (ne_of_none e h)]
  exact e
theorem same_l {K : PySem.W.Frag} {H H' : Hp} {a : Addr} {xs : List V} (e : Same H H') (h : SqL K H a xs) : SqL K H' a xs := e.seq h
theorem same_t {K : PySem.W.Frag} {H H' : Hp} {a : Addr} {xs : List V} (e : Same H H') (h : SqT K H a xs) : SqT K H' a xs := by
  rcases h with (h | ⟨o, h⟩) | h
  · exact .inl (.inl (e _ _ h))
  · exact .inl (.inr ⟨o, e _ _ h⟩)
  · exact .inr h
/-- all but what stands at D is kept -/
def FrD (D : Addr) (H H' : Hp) : Prop := ∀ a o, a ≠ D → H a = some o → H' a = some o
theorem FrD.refl {D : Addr} {H : Hp} : FrD D H H := fun _ _ _ e => e
theorem FrD.trans {D : Addr} {H H1 H2 : Hp} (a : FrD D H H1) (b : FrD D H1 H2) : FrD D H H2 := fun x o n e => b x o n (a x o n e)
theorem frd_same {D : Addr} {H H' : Hp} (e : Same H H') : FrD D H H' := fun a o _ h => e a o h
theorem frd_upd {D : Addr} {H : Hp} {o : HO} : FrD D H (upd H D o) := fun a u n e => by
  rw [upd_ne n]
  exact e
theorem FrD.t {D : Addr} {H H' : Hp} {a : Addr} {xs : List V} (f : FrD D H H') (n : a ≠ D) (h : H a = some (.tup xs)) : H' a = some (.tup xs) := f a _ n h
/-! ### walks -/
section
variable {K : PySem.W.Frag} {a b : Addr} {xs ys : List V}
theorem walk_en : Walk (ItE K a) xs.length (fun H => SqT K H a xs) (YPair (fun i => some (.int (i : Nat))) fun i => xs[i]?) where
  goes i H hi q := ⟨xs, xs[i], q, by simp [hi]⟩
  stops H q := ⟨xs, q, Nat.le_refl _⟩
  yields i H v H' _ q y := by
    obtain ⟨T, z, h1, h2, h3, h4⟩ := y
    exact ⟨T, .int (i : Nat), z, h1, h2, h3, rfl, h4 xs q⟩
theorem walk_zipT {n : Nat} (hn : n = min xs.length ys.length) : Walk (RZ.ItzT K a b) n (fun H => SqT K H a xs ∧ SqT K H b ys) (YPair (fun i => xs[i]?) fun i => ys[i]?) where
  goes i H hi q := by
    have h1 : i < xs.length := by omega
    have h2 : i < ys.length := by omega
    exact ⟨xs, ys, xs[i], ys[i], q.1, q.2, by simp [h1], by simp [h2]⟩
  stops H q := ⟨xs, ys, q.1, q.2, by omega⟩
  yields i H v H' _ q y := by
    obtain ⟨T, x, z, h1, h2, h3, h4, h5⟩ := y
    exact ⟨T, x, z, h1, h2, h3, h4 xs q.1, h5 ys q.2⟩
end
/-! ### comprehensions: what each turn gives is told by G i, kept while all but the new list stands -/
section
variable {J : It} {n : Nat} {G : Hp → Prop} {Y : Nat → Hp → V → Hp → Prop} {g : TG} {te : TE} {vs : List Nat} {σ : L2.St} {H1 : Hp} {QD : Addr → Hp → Prop}
theorem lc_gen (w : Walk J n G Y) (hG : ∀ H, Same H1 H → G H) (R : Addr → Nat → V → Hp → Prop) (hR : ∀ D i y H H', FrD D H H' → R D i y H → R D i y H') (hn : n ≤ 100000)
    (hs : ∀ (D : Addr) i x H H' (k : VK), H1 D = Option.none → i < n → Same H1 H → (∃ o, H D = some o) → Y i H x H' → (∀ y H4, Same H H4 → R D i y H4 → k y H4) → g x (wipe σ vs) H' fun σ2 H2 => wipe σ2 vs = wipe σ vs ∧ te σ2 H2 k)
    (hd : ∀ (D : Addr) ys H2, H1 D = Option.none → Same H1 H2 → H2 D = some (.lst ys) → ys.length = n → (∀ i y, ys[i]? = some y → R D i y H2) → QD D H2) :
    ∀ D, H1 D = Option.none → ∃ W : Nat → Nat → Hp → Prop, (∃ m, W 0 m (upd H1 D (.lst []))) ∧ ∀ i m H, W i m H →
      (J.stop i H ∧ QD D H) ∨ (J.go i H ∧ ∃ Nx : Hp → Prop, (∀ H', Nx H' → ∃ m', m' < m ∧ W (i + 1) m' H') ∧ ∀ x H', J.yld i H x H' → g x (wipe σ vs) H' fun σ2 H2 => wipe σ2 vs = wipe σ vs ∧ tYes σ2 H2 fun b H3 =>
        if b = true then te σ2 H3 fun y H4 => ∃ acc, H4 D = some (.lst acc) ∧ acc.length < sizeLine ∧ Nx (upd H4 D (.lst (acc ++ [y]))) else Nx H3) := by
  intro D hD
  refine lc_it w (Qd := fun H => QD D H) (fun i H => Same H1 H ∧ ∃ ys, H D = some (.lst ys) ∧ ys.length = i ∧ ∀ j y, ys[j]? = some y → R D j y H) ⟨same_upd hD, [], upd_same, rfl, fun j y e => by simp at e⟩ (fun i H _ p => hG H p.1) ?_ ?_
  · rintro i x H H' hi ⟨s1, ys, e1, e2, e3⟩ hy
    have := hs D i x H H' (fun y H4 => ∃ acc, H4 D = some (.lst acc) ∧ acc.length < sizeLine ∧ (Same H1 (upd H4 D (.lst (acc ++ [y]))) ∧ ∃ zs, (upd H4 D (.lst (acc ++ [y]))) D = some (.lst zs) ∧ zs.length = i + 1 ∧ ∀ j z, zs[j]? = some z → R D j z (upd H4 D (.lst (acc ++ [y]))))) hD hi s1 ⟨_, e1⟩ hy ?_
    · exact this
    · intro y H4 s4 ry
      refine ⟨ys, s4 _ _ e1, ?_, fun b o e => ?_, ys ++ [y], upd_same, by simp [e2], fun j z e => ?_⟩
      · rw [e2]
        exact Nat.lt_of_lt_of_le (Nat.lt_of_lt_of_le hi hn) (by decide)
      · rw [upd_ne (ne_of_none e hD)]
        exact s4 _ _ (s1 _ _ e)
      · by_cases hj : j < ys.length
        · rw [List.getElem?_append_left hj] at e
          exact hR D j z H _ ((frd_same s4).trans frd_upd) (e3 j z e)
        · have hl : j < (ys ++ [y]).length := (List.getElem?_eq_some_iff.mp e).1
          have ej : j = ys.length := by simp at hl; omega
          subst ej
          rw [List.getElem?_append_right (Nat.le_refl _)] at e
          simp at e
          rw [← e, e2]
          exact hR D i y H4 _ frd_upd ry
  · rintro H ⟨s1, ys, e1, e2, e3⟩
    exact hd D ys H hD s1 e1 e2 e3
/-- the values are told by their number -/
theorem lc_fun (w : Walk J n G Y) (hG : ∀ H, Same H1 H → G H) (f : Nat → V) (hn : n ≤ 100000)
    (hs : ∀ i x H H' (k : VK), i < n → Same H1 H → Y i H x H' → (∀ H4, Same H H4 → k (f i) H4) → g x (wipe σ vs) H' fun σ2 H2 => wipe σ2 vs = wipe σ vs ∧ te σ2 H2 k)
    (hd : ∀ (D : Addr) H2, H1 D = Option.none → Same H1 H2 → H2 D = some (.lst ((List.range n).map f)) → QD D H2) :
    ∀ D, H1 D = Option.none → ∃ W : Nat → Nat → Hp → Prop, (∃ m, W 0 m (upd H1 D (.lst []))) ∧ ∀ i m H, W i m H →
      (J.stop i H ∧ QD D H) ∨ (J.go i H ∧ ∃ Nx : Hp → Prop, (∀ H', Nx H' → ∃ m', m' < m ∧ W (i + 1) m' H') ∧ ∀ x H', J.yld i H x H' → g x (wipe σ vs) H' fun σ2 H2 => wipe σ2 vs = wipe σ vs ∧ tYes σ2 H2 fun b H3 =>
        if b = true then te σ2 H3 fun y H4 => ∃ acc, H4 D = some (.lst acc) ∧ acc.length < sizeLine ∧ Nx (upd H4 D (.lst (acc ++ [y]))) else Nx H3) := by
  refine lc_gen w hG (fun _ i y _ => y = f i) (fun _ _ _ _ _ _ e => e) hn (fun D i x H H' k _ hi s1 _ hy hk => hs i x H H' k hi s1 hy fun H4 s4 => hk _ H4 s4 rfl) fun D ys H2 hD s1 e el ey => hd D H2 hD s1 ?_
  rw [e]
  congr 2
  apply List.ext_getElem?
  intro i
  by_cases hi : i < n
  · have h1 : ys[i]? = some (ys[i]'(by omega)) := by simp [show i < ys.length by omega]
    have h2 := ey i _ h1
    rw [h1, h2]
    simp [hi]
  · rw [List.getElem?_eq_none (by omega), List.getElem?_eq_none (by simp; omega)]
end
section
variable {K : PySem.W.Frag} {σ : L2.St} {H : Hp} {g : TG} {gs : TGs} {v : V} {r : List V} {a : Addr} {xs : List V} {n : Nat} {QS : L2.St → Hp → Prop} {D : Ends} {wi : TI} {tb : TS} {te : TE} {tt : TT} {vs : List Nat} {Q : VK} {ta : TA} {tl : TE} {R : It → Hp → Prop}
theorem go_gTup (h : SqT K H a xs) (hl : xs.length = n) (q : gs xs σ H QS) : gTup K n gs (.ref a) σ H QS := ⟨a, xs, rfl, h, hl, q⟩
theorem go_gCons (h : g v σ H fun σ' H' => gs r σ' H' QS) : gCons g gs (v :: r) σ H QS := ⟨v, r, rfl, h⟩
theorem go_gNil (h : QS σ H) : gNil [] σ H QS := ⟨rfl, h⟩
theorem go_iEnT (h : ta σ H fun ws H1 => ∃ a xs, ws = [.ref a] ∧ SqT K H1 a xs ∧ R (ItE K a) H1) : iEnT K ta σ H R := h
theorem go_iEnum (h : ta σ H fun ws H1 => ∃ a xs, ws = [.ref a] ∧ SqL K H1 a xs ∧ R (Ite K a) H1) : iEnum K ta σ H R := h
theorem go_iList (h : tl σ H fun x H1 => ∃ a, x = .ref a ∧ (∃ xs, SqL K H1 a xs) ∧ R (Itl K a) H1) : iList K tl σ H R := h
theorem go_iTup (h : tl σ H fun x H1 => ∃ a, x = .ref a ∧ (∃ xs, SqT K H1 a xs) ∧ R (Itt K a) H1) : iTup K tl σ H R := h
theorem go_iStr (h : tl σ H fun x H1 => ∃ z, x = .str z ∧ R (Its z) H1) : iStr tl σ H R := h
theorem go_iRng1 (h : ta σ H fun ws H1 => ∃ j : Int, ws = [.int j] ∧ -(2 ^ 62) ≤ j ∧ j < 2 ^ 62 ∧ R (Itr 0 j.toNat) H1) : iRng1 ta σ H R := h
theorem go_iRng2 (h : ta σ H fun ws H1 => ∃ i j : Int, ws = [.int i, .int j] ∧ (-(2 ^ 62) ≤ i ∧ i < 2 ^ 62 ∧ -(2 ^ 62) ≤ j ∧ j < 2 ^ 62) ∧ R (Itr i (j - i).toNat) H1) : iRng2 ta σ H R := h
theorem go_for (h : wi σ H fun J H1 => ∃ W : Nat → Nat → L2.St → Hp → Prop, (∃ m, W 0 m σ H1) ∧ ∀ i m σ H, W i m σ H → (J.stop i H ∧ D.nx σ H) ∨ (J.go i H ∧ ∃ N : L2.St → Hp → Prop, (∀ σ' H', N σ' H' → ∃ m', m' < m ∧ W (i + 1) m' σ' H') ∧
    ∀ x H', J.yld i H x H' → g x σ H' fun σ2 H2 => tb { D with nx := N, ct := N, bk := D.nx } σ2 H2)) : tFor wi g tb D σ H := h
theorem go_iZip (h : ta σ H fun ws H1 => ∃ a b xs ys, ws = [.ref a, .ref b] ∧ ((SqL K H1 a xs ∧ SqL K H1 b ys ∧ R (Itz K a b) H1) ∨ (SqT K H1 a xs ∧ SqT K H1 b ys ∧ R (RZ.ItzT K a b) H1))) : RZ.iZipA K ta σ H R := h
theorem go_lc (h : wi σ H fun J H1 => ∀ D, H1 D = Option.none → ∃ W : Nat → Nat → Hp → Prop, (∃ m, W 0 m (upd H1 D (.lst []))) ∧ ∀ i m H, W i m H →
    (J.stop i H ∧ Q (.ref D) H) ∨ (J.go i H ∧ ∃ Nx : Hp → Prop, (∀ H', Nx H' → ∃ m', m' < m ∧ W (i + 1) m' H') ∧ ∀ x H', J.yld i H x H' → g x (wipe σ vs) H' fun σ2 H2 => wipe σ2 vs = wipe σ vs ∧ tt σ2 H2 fun b H3 =>
      if b = true then te σ2 H3 fun y H4 => ∃ acc, H4 D = some (.lst acc) ∧ acc.length < sizeLine ∧ Nx (upd H4 D (.lst (acc ++ [y]))) else Nx H3)) : tLc wi g tt te vs σ H Q := h
end
/-- a for over a walk, its ends apart -/
theorem for_w {J : It} {n : Nat} {G : Hp → Prop} {Y : Nat → Hp → V → Hp → Prop} (w : Walk J n G Y) {g : TG} {tb : TS} {NX : L2.St → Hp → Prop} {RT : VK} {σ : L2.St} {H : Hp} (Pv : Nat → L2.St → Hp → Prop) (h0 : Pv 0 σ H) (hG : ∀ i σ H, i ≤ n → Pv i σ H → G H)
    (hs : ∀ i x σ H H', i < n → Pv i σ H → Y i H x H' → g x σ H' fun σ2 H2 => tb { nx := Pv (i + 1), rt := RT, bk := NX, ct := Pv (i + 1) } σ2 H2) (hd : ∀ σ H, Pv n σ H → NX σ H) :
    ∃ W : Nat → Nat → L2.St → Hp → Prop, (∃ m, W 0 m σ H) ∧ ∀ i m σ H, W i m σ H →
      (J.stop i H ∧ NX σ H) ∨ (J.go i H ∧ ∃ N : L2.St → Hp → Prop, (∀ σ' H', N σ' H' → ∃ m', m' < m ∧ W (i + 1) m' σ' H') ∧ ∀ x H', J.yld i H x H' → g x σ H' fun σ2 H2 => tb { nx := N, rt := RT, bk := NX, ct := N } σ2 H2) :=
  for_it w (D := { nx := NX, rt := RT, bk := NX, ct := NX }) Pv h0 hG hs hd
theorem map_at {α β : Type} {l : List α} {f : α → β} {i : Nat} {y : β} (h : (l.map f)[i]? = some y) : ∃ x, l[i]? = some x ∧ y = f x := by
  rw [List.getElem?_map] at h
  cases e : l[i]? with
  | none => rw [e] at h; cases h
  | some x => rw [e] at h; exact ⟨x, rfl, (Option.some.inj h).symm⟩
theorem at_map {α β : Type} {l : List α} {f : α → β} {i : Nat} {x : α} (h : l[i]? = some x) : (l.map f)[i]? = some (f x) := by
  rw [List.getElem?_map, h]
  rfl
section
variable {P : Program} {w : World} {K : PySem.W.Frag} {mg : Str → Option Value} {base : Heap} {x qual : Str} {params : Arguments} {body : List Stmt} {scope : Scope} {kws : List (Str × V)} {f : Addr} {fd : FuncData} {N ps : List Str} {k : Nat} {sp : Sp}
/-- the promise of a def with a star parameter: what is left over comes as a new tuple -/
def StSp (n : Nat) (sp : Sp) : Sp := fun vs H Q E => ∃ ws rest, vs = ws ++ rest ∧ ws.length = n ∧ rest.length ≤ sizeLine ∧ ∀ p, H p = Option.none → sp (ws ++ [V.ref p]) (upd H p (.tup rest)) Q E
theorem fx_star {pv : Str} (F : FunD K x qual params body scope [] kws f fd) (S : FnScope N (ps ++ [pv]) scope)
    (hb : ∀ (kV doc pm : Value) (an : Option Addr) (cdv ct : Value) (us rest : List Value), us.length = ps.length → bindArgs (PySem.W.fnOf x qual params body scope .none kV doc pm an cdv ct) ⟨us ++ rest, []⟩ = (newTuple rest >>= fun t => pure (ps.zip us ++ [(pv, t)])))
    (h : ∀ (cdv : Value) (A : Around) (outer : List Env) (s : Shared) (H : Hp) (vs : List V) (Q : VK) (E : XK), Room k (A.deeper (envOfC qual scope s.heap.objs.size f cdv)) → sp vs H Q E →
      ∃ t, PSs (Cb P w K mg base N qual scope f cdv A outer s H E).nox body t ∧ t { nx := fun _ H' => Q .non H', rt := Q } (start N vs) H) : Fx P w K mg base (k + 1) f (StSp ps.length sp) := by
  obtain ⟨oc, od, dV, kV, doc, pm, an, cdv, ct, osl, rfl, lk, hcd, hD, hK⟩ := F.ex
  have eD : dV = .none := by
    rcases hD with ⟨_, e⟩ | ⟨e, _⟩
    · exact e
    · exact absurd rfl e
  subst eD
  refine StX.fn_star lk hcd S StX.cxUp (hb kV doc pm an cdv ct) fun A outer s H vs Q E hr hs => ?_
  obtain ⟨t, h1, h2⟩ := h cdv A outer s H vs Q E hr hs
  exact ⟨t, h1.nox, h2⟩
end
/-! ### slices -/
theorem cut_take (xs : List V) (i : Nat) : cutV xs none (some (i : Int)) = xs.take i := by
  unfold cutV
  rw [HT.sIx_none, HT.sIx_nat, List.drop_zero, Nat.sub_zero]
  by_cases h : i ≤ xs.length
  · rw [Nat.min_eq_left h]
  · rw [Nat.min_eq_right (by omega), List.take_length, List.take_of_length_le (by omega)]
theorem cut_drop (xs : List V) (i : Nat) : cutV xs (some (i : Int)) none = xs.drop i := by
  unfold cutV
  rw [HT.sIx_none, HT.sIx_nat]
  by_cases h : i ≤ xs.length
  · rw [Nat.min_eq_left h]
    exact List.take_of_length_le (by simp)
  · rw [Nat.min_eq_right (by omega), List.drop_length, List.drop_of_length_le (by omega)]
    simp
theorem cut_mid (xs : List V) (i j : Nat) : cutV xs (some (i : Int)) (some (j : Int)) = (xs.take j).drop i := by
  unfold cutV
  rw [HT.sIx_nat, HT.sIx_nat, List.drop_take]
  by_cases h : i ≤ xs.length
  · rw [Nat.min_eq_left h]
    by_cases h2 : j ≤ xs.length
    · rw [Nat.min_eq_left h2]
    · rw [Nat.min_eq_right (a := j) (by omega), List.take_of_length_le (by simp), List.take_of_length_le (by simp; omega)]
  · rw [Nat.min_eq_right (a := i) (by omega), List.drop_length]
    have e9 : xs.drop i = [] := List.drop_of_length_le (by omega)
    rw [e9]
    simp
section
variable {K : PySem.W.Frag} {H : Hp} {a b : Addr} {xs ys : List V} {lo hi : Option Int} {Q : VK} {ta : TE} {σ : L2.St} {f : Str} {x y : V}
theorem go_slT (h : SqT K H a xs) (k : ∀ p H', Same H H' → (p = a ∨ H p = Option.none) → SqT K H' p (cutV xs lo hi) → Q (.ref p) H') : rSlA K (.ref a) lo hi H Q := by
  refine ⟨a, xs, rfl, h, fun q => k a H (Same.refl _) (.inl rfl) ?_, fun _ p hp => k p _ (same_upd hp) (.inr hp) (.inl (.inl upd_same))⟩
  have e : cutV xs lo hi = xs := by
    unfold cutV
    rw [q.1, q.2]
    simp
  rw [e]
  exact h
theorem go_slL (h : SqL K H a xs) (k : ∀ p H', Same H H' → H p = Option.none → H' p = some (.lst (cutV xs lo hi)) → Q (.ref p) H') : rSlL K (.ref a) lo hi H Q := ⟨a, xs, rfl, h, fun p hp => k p _ (same_upd hp) hp upd_same⟩
theorem go_catT (h : SqT K H a xs) (h' : SqT K H b ys) (hz : xs.length + ys.length ≤ 100000) (k : ∀ p H', Same H H' → (p = a ∨ p = b ∨ H p = Option.none) → SqT K H' p (xs ++ ys) → Q (.ref p) H') : rCatA K (.ref a) (.ref b) H Q := by
  refine ⟨a, b, xs, ys, rfl, rfl, h, h', Nat.le_trans hz (by decide), fun q => k b H (Same.refl _) (.inr (.inl rfl)) (by rw [q]; exact h'), fun _ q => k a H (Same.refl _) (.inl rfl) (by rw [q, List.append_nil]; exact h), fun _ _ p hp => k p _ (same_upd hp) (.inr (.inr hp)) (.inl (.inl upd_same))⟩
theorem go_catL (h : H a = some (.lst xs)) (h' : H b = some (.lst ys)) (hz : xs.length + ys.length ≤ 100000) (k : ∀ p H', Same H H' → H p = Option.none → H' p = some (.lst (xs ++ ys)) → Q (.ref p) H') : rCat (.ref a) (.ref b) H Q :=
  ⟨a, b, xs, ys, rfl, rfl, h, h', Nat.le_trans hz (by decide), fun p hp => k p _ (same_upd hp) hp upd_same⟩
theorem go_cval {C : Addr} {mc u : Value} {v : V} (r : ClX.CRead K C mc) (k : ClX.CVal K C mc f v u) (q : Q v H) : ClX.tCVal K (tC (.ref C)) f σ H Q := ⟨C, mc, v, u, rfl, r, k, q⟩
theorem go_fld {C dx : Addr} {fs : List (Str × V)} {v : V} (h : H a = some (.ins C dx fs)) (c : Cls K C) (n : NoAttr K C f) (l : fs.lookup f = some v) (q : Q v H) {i : Nat} (hv : σ[i]? = some (some (.ref a)) := by rfl) : tFld K (tVar i) f σ H Q := ⟨_, hv, a, C, dx, fs, v, rfl, h, c, n, l, q⟩
/-- a text in a list or tuple of texts -/
theorem inV_strs {z : Str} {l : List Str} : inV (.str z) (l.map V.str) = decide (z ∈ l) := by
  unfold inV
  rw [List.any_map, Bool.eq_iff_iff, List.any_eq_true, decide_eq_true_iff]
  constructor
  · rintro ⟨x, hx, e⟩
    have e2 : (x == z) = true := e
    rw [← eq_of_beq e2]
    exact hx
  · intro h
    exact ⟨z, h, by show (z == z) = true; simp⟩
theorem flat_strs {l : List Str} : (l.map V.str).all flatV = true := by
  rw [List.all_eq_true]
  intro x hx
  obtain ⟨z, _, rfl⟩ := List.mem_map.mp hx
  rfl
theorem go_inL {neg : Bool} {z : Str} {l : List Str} (h : SqL K H a (l.map V.str) ∨ SqT K H a (l.map V.str)) (q : Q (.bl (if neg then !decide (z ∈ l) else decide (z ∈ l))) H) : rIn K neg (.str z) (.ref a) H Q := by
  refine ⟨a, _, rfl, h, rfl, flat_strs, ?_⟩
  rw [inV_strs]
  exact q
end
theorem range_map {α β : Type} (l : List α) (g : α → β) (d : α) {n : Nat} (hn : n = l.length) : (List.range n).map (fun i => g (l.getD i d)) = l.map g := by
  subst hn
  apply List.ext_getElem?
  intro i
  by_cases h : i < l.length
  · simp [List.getD, h]
  · simp [h]
section
variable {K : PySem.W.Frag} {σ : L2.St} {H : Hp} {ta te tf tv : TE} {t : TA} {Q : VK} {C : Addr} {sp : Sp} {E : XK} {f : Str} {D : Ends} {X : Cx} {T : String} {r : V → List V → Hp → VK → Prop}
theorem go_mkR (h : t σ H fun vs H1 => ∀ x dx, H1 x = Option.none → H1 dx = Option.none → dx ≠ x → sp (V.ref x :: vs) (upd (upd H1 dx (.own x)) x (.ins C dx [])) (fun v H2 => v = .non ∧ Q (.ref x) H2) E) : StX.tMakeR C sp E t σ H Q := h
theorem go_mkS (h : te σ H fun y H1 => ∃ a xs, y = V.ref a ∧ (SqT K H1 a xs ∨ SqL K H1 a xs) ∧
  ∀ o dx, H1 o = Option.none → H1 dx = Option.none → dx ≠ o → sp (V.ref o :: xs) (upd (upd H1 dx (.own o)) o (.ins C dx [])) (fun v H2 => v = .non ∧ Q (.ref o) H2) E) : tMkS K C sp E te σ H Q := h
theorem go_clO (h : tf σ H fun y H1 => ∃ a, y = V.ref a ∧ t σ H1 fun vs H2 => StX.InsC X H2 a C ∧ sp (V.ref a :: vs) H2 Q E) : StX.tCallO X C sp E tf t σ H Q := h
theorem go_pr (h : ta σ H fun x H1 => ∃ a dx fs, x = .ref a ∧ H1 a = some (.ins C dx fs) ∧ sp [.ref a] H1 Q E) : tPr C sp E ta σ H Q := h
theorem go_sfld (h : tv σ H fun y H1 => ta σ H1 fun x H2 => ∃ a C dx fs, x = .ref a ∧ H2 a = some (.ins C dx fs) ∧ Cls K C ∧ NoAttr K C f ∧ fs.length < 1000 ∧ D.nx σ (upd H2 a (.ins C dx (putF f y fs)))) : sFld K ta tv f D σ H := h
theorem go_bm (h : ta σ H fun x H1 => tyV K T x H1 ∧ t σ H1 fun xs H2 => r x xs H2 Q) : tBM K T r ta t σ H Q := h
theorem go_ref {a : Addr} {P : Addr → Prop} (h : P a) : ∃ b, V.ref a = V.ref b ∧ P b := ⟨a, rfl, h⟩
end
end Bk
/-! The mathematics of hand-overs: the ends by hand-over (En), and their closed form. d i: the duration of the i-th hand-over, M: the last one's place. -/
namespace Mt
/-- the end of the hand-over of a bucket at a place -/
def En (d : Nat → Int) (M : Nat) : Nat → Nat → Int
  | 0, 0 => d 0
  | 0, p + 1 => En d M 0 p + d (p + 1)
  | b + 1, 0 => En d M b (min 1 M) + d 0
  | b + 1, p + 1 => max (En d M (b + 1) p) (En d M b (min (p + 2) M)) + d (p + 1)
termination_by b p => (b, p)
theorem En_00 (d : Nat → Int) (M : Nat) : En d M 0 0 = d 0 := by rw [En]
theorem En_0s (d : Nat → Int) (M p : Nat) : En d M 0 (p + 1) = En d M 0 p + d (p + 1) := by rw [En]
theorem En_s0 (d : Nat → Int) (M b : Nat) : En d M (b + 1) 0 = En d M b (min 1 M) + d 0 := by rw [En]
theorem En_ss (d : Nat → Int) (M b p : Nat) : En d M (b + 1) (p + 1) = max (En d M (b + 1) p) (En d M b (min (p + 2) M)) + d (p + 1) := by rw [En]
/-- two successive durations -/
def tn (d : Nat → Int) (i : Nat) : Int := d i + d (i + 1)
/-- the greatest of the first r turns -/
def Lm (d : Nat → Int) : Nat → Int
  | 0 => tn d 0
  | r + 1 => max (Lm d r) (tn d r)
theorem Lm_1 (d : Nat → Int) : Lm d 1 = tn d 0 := by simp [Lm]
theorem Lm_le (d : Nat → Int) {r i : Nat} (h : i < r) : tn d i ≤ Lm d r := by
  induction r with
  | zero => omega
  | succ r ih =>
    simp only [Lm]
    by_cases e : i = r
    · subst e; omega
    · have := ih (by omega); omega
theorem Lm_mono (d : Nat → Int) (r : Nat) : Lm d r ≤ Lm d (r + 1) := by simp only [Lm]; omega
/-- the sum of the first p + 1 durations -/
def Wy (d : Nat → Int) : Nat → Int
  | 0 => d 0
  | p + 1 => Wy d p + d (p + 1)
/-- what is lost from place p on, k places, below the greatest turn L -/
def Ls (d : Nat → Int) (L : Int) (p : Nat) : Nat → Int
  | 0 => 0
  | k + 1 => (L - tn d p) + Ls d L (p + 1) k
/-- the value of a reach -/
def Fv (d : Nat → Int) (r : Nat) (b : Nat) (p : Nat) : Int := Wy d p - Ls d (Lm d r) p (r - p) + Lm d r * (b : Int)
theorem Ls_nonneg (d : Nat → Int) (L : Int) : ∀ (k p : Nat), (∀ i, p ≤ i → i < p + k → tn d i ≤ L) → 0 ≤ Ls d L p k
  | 0, p, _ => by simp [Ls]
  | k + 1, p, h => by
    have h1 := h p (by omega) (by omega)
    have h2 := Ls_nonneg d L k (p + 1) fun i a b => h i (by omega) (by omega)
    simp only [Ls]; omega
theorem En_0 (d : Nat → Int) (M : Nat) : ∀ p, En d M 0 p = Wy d p
  | 0 => by rw [En_00]; rfl
  | p + 1 => by rw [En_0s, En_0 d M p]; rfl
/-- one bucket less, one place on -/
theorem Fv_on (d : Nat → Int) {r b p : Nat} (h : p + 1 ≤ r) : Fv d r (b + 1) p = d p + Fv d r b (p + 1) := by
  obtain ⟨k, rfl⟩ : ∃ k, r = p + 1 + k := ⟨r - (p + 1), by omega⟩
  have e1 : p + 1 + k - p = k + 1 := by omega
  have e2 : p + 1 + k - (p + 1) = k := by omega
  have e3 : Lm d (p + 1 + k) * ((b + 1 : Nat) : Int) = Lm d (p + 1 + k) * (b : Int) + Lm d (p + 1 + k) := by
    rw [Int.natCast_add, Int.mul_add]; simp
  unfold Fv
  rw [e1, e2, e3]
  simp only [Ls, Wy, tn]
  omega
/-- the same reach, one place on -/
theorem Fv_up (d : Nat → Int) {r b p : Nat} (h : p + 1 ≤ r) : Fv d r b (p + 1) = d (p + 1) + Fv d r b p + (Lm d r - tn d p) := by
  obtain ⟨k, rfl⟩ : ∃ k, r = p + 1 + k := ⟨r - (p + 1), by omega⟩
  have e1 : p + 1 + k - p = k + 1 := by omega
  have e2 : p + 1 + k - (p + 1) = k := by omega
  unfold Fv
  rw [e1, e2]
  simp only [Ls, Wy]
  omega
theorem Fv_self (d : Nat → Int) (r b : Nat) : Fv d r b r = Wy d r + Lm d r * (b : Int) := by
  unfold Fv; simp [Ls]
theorem Fv_last (d : Nat → Int) (r b : Nat) : Fv d (r + 1) b r = Wy d r - (Lm d (r + 1) - tn d r) + Lm d (r + 1) * (b : Int) := by
  unfold Fv
  rw [show r + 1 - r = 1 by omega]
  simp [Ls]
theorem En_ge_left (d : Nat → Int) (M b p : Nat) : d (p + 1) + En d M b p ≤ En d M b (p + 1) := by
  cases b with
  | zero => rw [En_0s]; omega
  | succ b => rw [En_ss]; omega
theorem En_ge_next (d : Nat → Int) (M b p : Nat) : d p + En d M b (min (p + 1) M) ≤ En d M (b + 1) p := by
  cases p with
  | zero => rw [En_s0]; simp only [Nat.zero_add]; omega
  | succ p =>
    rw [En_ss, show p + 1 + 1 = p + 2 from rfl]
    omega
/-- no reach gives more -/
theorem Fv_le (d : Nat → Int) (M : Nat) : ∀ (b p r : Nat), p ≤ M → p ≤ r → 1 ≤ r → r ≤ M → Fv d r b p ≤ En d M b p := by
  intro b
  induction b with
  | zero =>
    intro p r hp hr h1 hM
    have := Ls_nonneg d (Lm d r) (r - p) p fun i a b => Lm_le d (by omega)
    rw [En_0]
    unfold Fv
    simp only [Int.natCast_zero, Int.mul_zero]
    omega
  | succ b ihb =>
    intro p
    induction p with
    | zero =>
      intro r hp hr h1 hM
      rw [Fv_on d (by omega)]
      have h2 := ihb 1 r (by omega) (by omega) h1 hM
      have h3 := En_ge_next d M b 0
      rw [show min (0 + 1) M = 1 by omega] at h3
      simp only [Nat.zero_add] at h2 ⊢
      omega
    | succ p ihp =>
      intro r hp hr h1 hM
      by_cases hlt : p + 2 ≤ r
      · rw [Fv_on d (by omega), show p + 1 + 1 = p + 2 from rfl]
        have h2 := ihb (p + 2) r (by omega) (by omega) h1 hM
        have h3 := En_ge_next d M b (p + 1)
        rw [show min (p + 1 + 1) M = p + 2 by omega] at h3
        omega
      · have er : r = p + 1 := by omega
        subst er
        rw [Fv_self]
        have hl := En_ge_left d M (b + 1) p
        have hW : Wy d (p + 1) = Wy d p + d (p + 1) := rfl
        have hL : Lm d (p + 1) = tn d p ∨ Lm d (p + 1) = Lm d p := by simp only [Lm]; omega
        rcases hL with e | e
        · have h2 := ihp (p + 1) (by omega) (by omega) (by omega) hM
          rw [Fv_last] at h2
          omega
        · cases p with
          | zero =>
            have h2 := ihp 1 (by omega) (by omega) (by omega) hM
            have e1 := Lm_1 d
            rw [show (1 : Nat) = 0 + 1 from rfl, Fv_last] at h2
            simp only [Nat.zero_add] at *
            omega
          | succ q =>
            have h2 := ihp (q + 1) (by omega) (by omega) (by omega) (by omega)
            rw [Fv_self] at h2
            rw [e]
            omega
/-- some reach gives it -/
theorem Fv_is (d : Nat → Int) (M : Nat) (h0 : ∀ i, i ≤ M → 0 ≤ d i) (hM : 1 ≤ M) : ∀ (b p : Nat), p ≤ M → ∃ r, p ≤ r ∧ 1 ≤ r ∧ r ≤ M ∧ Fv d r b p = En d M b p := by
  intro b
  induction b with
  | zero =>
    intro p hp
    cases p with
    | zero =>
      refine ⟨1, by omega, by omega, hM, ?_⟩
      rw [En_00, show (1 : Nat) = 0 + 1 from rfl, Fv_last]
      have e1 := Lm_1 d
      have e2 : Wy d 0 = d 0 := rfl
      simp only [Int.natCast_zero, Int.mul_zero, Nat.zero_add]
      omega
    | succ p =>
      refine ⟨p + 1, by omega, by omega, hp, ?_⟩
      rw [Fv_self, En_0]
      simp
  | succ b ihb =>
    intro p
    induction p with
    | zero =>
      intro hp
      obtain ⟨r, h1, h2, h3, e⟩ := ihb 1 (by omega)
      refine ⟨r, by omega, h2, h3, ?_⟩
      rw [Fv_on d (by omega), En_s0, show min 1 M = 1 by omega, ← e]
      simp only [Nat.zero_add]
      omega
    | succ p ihp =>
      intro hp
      have hle : ∀ r, p + 1 ≤ r → 1 ≤ r → r ≤ M → Fv d r (b + 1) (p + 1) ≤ En d M (b + 1) (p + 1) := fun r x y z => Fv_le d M (b + 1) (p + 1) r hp x y z
      rw [En_ss]
      by_cases hc : En d M (b + 1) p ≤ En d M b (min (p + 2) M)
      · rw [Int.max_eq_right hc]
        by_cases hl : p + 2 ≤ M
        · rw [show min (p + 2) M = p + 2 by omega]
          obtain ⟨r, h1, h2, h3, e⟩ := ihb (p + 2) hl
          refine ⟨r, by omega, h2, h3, ?_⟩
          rw [Fv_on d (by omega), ← e, show p + 1 + 1 = p + 2 from rfl]
          omega
        · have eM : M = p + 1 := by omega
          rw [show min (p + 2) M = M by omega]
          obtain ⟨r, h1, h2, h3, e⟩ := ihb M (by omega)
          have er : r = M := by omega
          rw [er, Fv_self] at e
          refine ⟨M, by omega, hM, by omega, ?_⟩
          have h4 := Fv_le d M (b + 1) M M (by omega) (by omega) hM (by omega)
          have h5 := En_ss d M b p
          rw [Int.max_eq_right hc, show min (p + 2) M = M by omega] at h5
          have h6 : Lm d M * ((b + 1 : Nat) : Int) = Lm d M * (b : Int) + Lm d M := by rw [Int.natCast_add, Int.mul_add]; simp
          have h7 := Lm_le d (show p < M by omega)
          have h8 := h0 p (by omega)
          rw [← eM] at h5 ⊢
          rw [Fv_self] at h4 ⊢
          have h9 : tn d p = d p + d M := by rw [eM]; rfl
          omega
      · rw [Int.max_eq_left (by omega)]
        obtain ⟨r, h1, h2, h3, e⟩ := ihp (by omega)
        have h5 := En_ss d M b p
        rw [Int.max_eq_left (by omega)] at h5
        by_cases hr : p + 1 ≤ r
        · refine ⟨r, hr, h2, h3, ?_⟩
          have h4 := hle r hr h2 h3
          rw [Fv_up d hr] at h4 ⊢
          have h6 := Lm_le d (show p < r by omega)
          omega
        · have er : r = p := by omega
          subst er
          refine ⟨r + 1, by omega, by omega, hp, ?_⟩
          have h4 := hle (r + 1) (by omega) (by omega) hp
          rw [Fv_self] at h4 e ⊢
          have h6 := Lm_mono d r
          have h7 : Lm d r * ((b + 1 : Nat) : Int) ≤ Lm d (r + 1) * ((b + 1 : Nat) : Int) := Int.mul_le_mul_of_nonneg_right h6 (by omega)
          have h8 : Wy d (r + 1) = Wy d r + d (r + 1) := rfl
          omega
/-- two people: one hand-over -/
theorem En_one (d : Nat → Int) : ∀ b : Nat, En d 0 b 0 = d 0 + d 0 * (b : Int)
  | 0 => by rw [En_00]; simp
  | b + 1 => by
    rw [En_s0, show min 1 0 = 0 from rfl, En_one d b, Int.natCast_add, Int.mul_add]
    simp
    omega
/-- the last hand-over -/
theorem En_last (d : Nat → Int) (M : Nat) (h0 : ∀ i, i ≤ M → 0 ≤ d i) (hM : 1 ≤ M) (b : Nat) : En d M b M = Wy d M + Lm d M * (b : Int) := by
  obtain ⟨r, h1, h2, h3, e⟩ := Fv_is d M h0 hM b M (Nat.le_refl _)
  have er : r = M := by omega
  rw [er, Fv_self] at e
  exact e.symm
end Mt
namespace K
open PySem PySem.Spec PyProof.Rows L2 Bk
local macro_rules | `(tactic| walk_at "go1") => `(tactic| (first
  | ((with_reducible show tVar _ _ _ _); refine go_var rfl ?_)
  | (with_reducible first | refine go_c ?_ | refine go_op ?_ | refine go_cons ?_ | refine go_nil ?_ | refine go_cb ?_ | refine go_cl ?_ | refine go_seq ?_ | refine go_asg ?_ | refine go_name ?_ | refine go_ifS ?_ | refine go_test ?_ | refine go_bl ?_)
  | (with_reducible first | refine go_rI0 ?_ | refine go_rU ?_ | refine go_ret ?_ | refine go_next ?_ | refine go_B ?_ | refine go_and ?_ | refine go_or ?_ | refine go_not ?_ | refine go_if ?_ | refine go_andV ?_ | refine go_orV ?_ | refine go_notV ?_)
  | ((with_reducible show rEq _ _ _ _); refine go_rEq rfl ?_)
  | ((with_reducible show rNe _ _ _ _); refine go_rNe rfl ?_)
  | (with_reducible first | refine go_un ?_ | refine go_chain ?_ | refine go_drop ?_ | refine go_retN ?_ | refine go_isN ?_ | refine go_notN ?_ | refine go_cont ?_ | refine go_break ?_ | refine go_par ?_ | refine go_two ?_ | refine go_part ?_ | refine go_noPart ?_ | refine go_int ?_ | refine go_sl ?_ | refine go_yes ?_ | refine go_tup ?_ | refine go_lst ?_)
  | (with_reducible first | refine go_gCons ?_ | refine go_gNil ?_ | refine go_for ?_ | refine go_iEnT ?_ | refine go_iEnum ?_ | refine go_iList ?_ | refine go_iTup ?_ | refine go_iStr ?_ | refine go_iRng1 ?_ | refine go_iRng2 ?_ | refine go_iZip ?_ | refine go_lc ?_ | refine go_mkR ?_ | refine go_mkS ?_ | refine go_clO ?_ | refine go_pr ?_ | refine go_sfld ?_ | refine go_bm ?_ | refine go_ref ?_)))
local macro_rules | `(tactic| walk_at "go") => `(tactic| ((repeat (walk_at "go1")); try dsimp only))
local macro_rules | `(tactic| walk_at "so") => `(tactic| first | omega | (simp; done) | (simp; omega) | (simp at *; omega))
/-! ### the data: people, lines -/
abbrev Pr := Str × Int
def letters : List Nat := ("abcdefghijklmnopqrstuvwxyz" : Str).cps.toList
def nmB (z : Str) : Bool := decide (1 ≤ z.length ∧ z.length ≤ 8) && z.cps.toList.all fun c => decide (c ∈ letters)
structure Good (ps : List Pr) : Prop where
  two : 2 ≤ ps.length
  most : ps.length ≤ 12
  nm : ∀ p ∈ ps, nmB p.1 = true
  pc : ∀ p ∈ ps, 1 ≤ p.2 ∧ p.2 ≤ 1000
  nd : (ps.map (·.1)).Nodup
/-- the rows of people, tuples (name, pace), at addresses of N -/
def Rows (N : Addr → Prop) (H : Hp) (rs : List Addr) (ps : List Pr) : Prop := rs.length = ps.length ∧ ∀ (i : Nat) (p : Pr), ps[i]? = some p → ∃ t, rs[i]? = some t ∧ N t ∧ H t = some (.tup [.str p.1, .int p.2])
/-- all that stands at addresses of N is kept -/
def FrN (N : Addr → Prop) (H H' : Hp) : Prop := ∀ a o, N a → H a = some o → H' a = some o
theorem FrN.trans {N : Addr → Prop} {H H1 H2 : Hp} (a : FrN N H H1) (b : FrN N H1 H2) : FrN N H H2 := fun x o n e => b x o n (a x o n e)
theorem frn_same {N : Addr → Prop} {H H' : Hp} (e : Same H H') : FrN N H H' := fun a o _ h => e a o h
theorem frn_frd {N : Addr → Prop} {D : Addr} {H H' : Hp} (e : FrD D H H') (h : ∀ a, N a → a ≠ D) : FrN N H H' := fun a o n q => e a o (h a n) q
theorem Rows.mono {N : Addr → Prop} {H H' : Hp} {rs : List Addr} {ps : List Pr} (e : FrN N H H') (h : Rows N H rs ps) : Rows N H' rs ps := ⟨h.1, fun i p q => by
  obtain ⟨t, h1, h2, h3⟩ := h.2 i p q
  exact ⟨t, h1, h2, e _ _ h2 h3⟩⟩
theorem Rows.weak {N M : Addr → Prop} {H : Hp} {rs : List Addr} {ps : List Pr} (e : ∀ a, N a → M a) (h : Rows N H rs ps) : Rows M H rs ps := ⟨h.1, fun i p q => by
  obtain ⟨t, h1, h2, h3⟩ := h.2 i p q
  exact ⟨t, h1, e _ h2, h3⟩⟩
theorem Rows.at {N : Addr → Prop} {H : Hp} {rs : List Addr} {ps : List Pr} (h : Rows N H rs ps) {i : Nat} {y : V} (e : (rs.map V.ref)[i]? = some y) : ∃ p t, ps[i]? = some p ∧ y = .ref t ∧ N t ∧ H t = some (.tup [.str p.1, .int p.2]) := by
  obtain ⟨t, ht, rfl⟩ := map_at e
  have hi : i < ps.length := by
    have := (List.getElem?_eq_some_iff.mp ht).1
    rw [h.1] at this
    exact this
  obtain ⟨t', h1, h2, h3⟩ := h.2 i ps[i] (by simp [hi])
  rw [ht] at h1
  cases h1
  exact ⟨ps[i], t, by simp [hi], rfl, h2, h3⟩
/-- the durations -/
def dsOf : List Pr → List Int
  | a :: b :: r => max a.2 b.2 :: dsOf (b :: r)
  | _ => []
theorem dsOf_len : ∀ ps : List Pr, (dsOf ps).length = ps.length - 1
  | [] => rfl
  | [_] => rfl
  | a :: b :: r => by
    show (dsOf (b :: r)).length + 1 = _
    rw [dsOf_len (b :: r)]
    simp
theorem dsOf_at : ∀ (ps : List Pr) (i : Nat) (a b : Pr), ps[i]? = some a → ps[i + 1]? = some b → (dsOf ps)[i]? = some (max a.2 b.2)
  | [], i, a, b, h, _ => by simp at h
  | [_], i, a, b, h, h' => by simp at h'
  | x :: y :: r, 0, a, b, h, h' => by
    simp at h h'
    subst h h'
    rfl
  | x :: y :: r, i + 1, a, b, h, h' => by
    have := dsOf_at (y :: r) i a b (by simpa using h) (by simpa using h')
    simpa [dsOf] using this
theorem dsOf_eq (ps : List Pr) : dsOf ps = (List.range (ps.length - 1)).map fun i => max ((ps.map (·.2)).getD i 0) ((ps.map (·.2)).getD (i + 1) 0) := by
  apply List.ext_getElem?
  intro i
  by_cases hi : i + 1 < ps.length
  · rw [dsOf_at ps i ps[i] ps[i + 1] (by simp [show i < ps.length by omega]) (by simp [hi]), List.getElem?_map, List.getElem?_range (by omega)]
    simp [List.getD, show i < ps.length by omega, hi]
  · rw [List.getElem?_eq_none (by rw [dsOf_len]; omega), List.getElem?_eq_none (by simp; omega)]
theorem dsOf_bd {ps : List Pr} (h : ∀ p ∈ ps, 1 ≤ p.2 ∧ p.2 ≤ 1000) : ∀ d ∈ dsOf ps, 1 ≤ d ∧ d ≤ 1000 := by
  intro d hd
  obtain ⟨i, hi, e⟩ := List.mem_iff_getElem.mp hd
  rw [dsOf_len] at hi
  have h1 := dsOf_at ps i ps[i] ps[i + 1] (by simp [show i < ps.length by omega]) (by simp [show i + 1 < ps.length by omega])
  rw [List.getElem?_eq_getElem (by rw [dsOf_len]; exact hi)] at h1
  have h2 := Option.some.inj h1
  have a1 := h ps[i] (List.getElem_mem _)
  have a2 := h (ps[i + 1]'(by omega)) (List.getElem_mem _)
  rw [← e, h2]
  omega
/-! ### a line as an object -/
def lf (tp tn td : Addr) : List (Str × V) := putF "_durations" (.ref td) (putF "_names" (.ref tn) (putF "_people" (.ref tp) []))
theorem nPN : ¬ (("_people" : Str) = "_names") := by decide +kernel
theorem nPD : ¬ (("_people" : Str) = "_durations") := by decide +kernel
theorem nND : ¬ (("_names" : Str) = "_durations") := by decide +kernel
theorem lf_p (tp tn td : Addr) : (lf tp tn td).lookup ("_people" : Str) = some (.ref tp) := by
  unfold lf
  rw [lookup_putF, if_neg nPD, lookup_putF, if_neg nPN, lookup_putF, if_pos rfl]
theorem lf_n (tp tn td : Addr) : (lf tp tn td).lookup ("_names" : Str) = some (.ref tn) := by
  unfold lf
  rw [lookup_putF, if_neg nND, lookup_putF, if_pos rfl]
theorem lf_d (tp tn td : Addr) : (lf tp tn td).lookup ("_durations" : Str) = some (.ref td) := by
  unfold lf
  rw [lookup_putF, if_pos rfl]
structure LineF (K : PySem.W.Frag) (N : Addr → Prop) (H : Hp) (o dx tp tn td : Addr) (rs : List Addr) (ps : List Pr) : Prop where
  no : N o
  np : N tp
  nn : N tn
  nd : N td
  obj : H o = some (.ins (He.ga K "Line") dx (lf tp tn td))
  pp : H tp = some (.tup (rs.map V.ref))
  rows : Rows N H rs ps
  nm : H tn = some (.tup ((ps.map (·.1)).map V.str))
  ds : H td = some (.tup ((dsOf ps).map V.int))
/-- at o stands the line of these people -/
def LineAt (K : PySem.W.Frag) (N : Addr → Prop) (H : Hp) (o : Addr) (ps : List Pr) : Prop := ∃ dx tp tn td rs, LineF K N H o dx tp tn td rs ps
theorem LineAt.mono {K : PySem.W.Frag} {N : Addr → Prop} {H H' : Hp} {o : Addr} {ps : List Pr} (e : FrN N H H') (h : LineAt K N H o ps) : LineAt K N H' o ps := by
  obtain ⟨dx, tp, tn, td, rs, h⟩ := h
  exact ⟨dx, tp, tn, td, rs, h.no, h.np, h.nn, h.nd, e _ _ h.no h.obj, e _ _ h.np h.pp, h.rows.mono e, e _ _ h.nn h.nm, e _ _ h.nd h.ds⟩
theorem LineAt.weak {K : PySem.W.Frag} {N M : Addr → Prop} {H : Hp} {o : Addr} {ps : List Pr} (e : ∀ a, N a → M a) (h : LineAt K N H o ps) : LineAt K M H o ps := by
  obtain ⟨dx, tp, tn, td, rs, h⟩ := h
  exact ⟨dx, tp, tn, td, rs, e _ h.no, e _ h.np, e _ h.nn, e _ h.nd, h.obj, h.pp, h.rows.weak e, h.nm, h.ds⟩
theorem putF_len (f : Str) (v : V) : ∀ fs : List (Str × V), (putF f v fs).length ≤ fs.length + 1
  | [] => by simp [putF]
  | (g, x) :: r => by
    have := putF_len f v r
    unfold putF
    split <;> simp <;> omega
theorem putF_len1 (f : Str) (v : V) : (putF f v []).length < 1000 := Nat.lt_of_le_of_lt (putF_len f v []) (by decide)
theorem putF_len2 (f g : Str) (v x : V) : (putF f v (putF g x [])).length < 1000 := by
  have h1 := putF_len f v (putF g x [])
  have h2 := putF_len g x []
  simp at h2
  omega
end K
/-! sorted of data, over the layer -/
namespace Bk
open PySem PySem.Spec PyProof.Rows L2
section
variable {β : Type}
def rSortB (K : PySem.W.Frag) (enc : β → PyData) : List V → Hp → VK → Prop := fun vs H Q => ∃ (a : Addr) (xs : List V) (bs : List β), vs = [V.ref a] ∧ (SqL K H a xs ∨ SqT K H a xs) ∧ xs.length = bs.length ∧ (∀ (i : Nat) (x : V) (b : β), xs[i]? = some x → bs[i]? = some b → Dp K H x (enc b)) ∧
  ∀ (ys : List V) (p : Addr), ys.length = bs.length → (∀ (i : Nat) (y : V) (b : β), ys[i]? = some y → (bs.mergeSort (PySem.W.dataLe false enc))[i]? = some b → ∃ j : Nat, xs[j]? = some y ∧ bs[j]? = some b) → H p = Option.none → Q (.ref p) (upd H p (.lst ys))
theorem each_of {R : Value → β → Prop} : ∀ {us : List Value} {bs : List β}, us.length = bs.length → (∀ (i : Nat) (u : Value) (b : β), us[i]? = some u → bs[i]? = some b → R u b) → PySem.W.EachIs R us bs
  | [], [], _, _ => .nil
  | u :: us, b :: bs, h, g => .cons (g 0 u b rfl rfl) (each_of (by simpa using h) fun i u b x y => g (i + 1) u b (by simpa using x) (by simpa using y))
theorem each_pick {R : Value → β → Prop} {S : V → β → Prop} (hR : ∀ u b, R u b → ∃ x, RelV x u ∧ S x b) : ∀ {us : List Value} {bs : List β}, PySem.W.EachIs R us bs → ∃ ys : List V, Vals ys us ∧ ys.length = bs.length ∧ ∀ (i : Nat) (y : V) (b : β), ys[i]? = some y → bs[i]? = some b → S y b
  | _, _, .nil => ⟨[], .nil, rfl, fun i y b h => by simp at h⟩
  | _, _, .cons r t => by
    obtain ⟨x, rx, sx⟩ := hR _ _ r
    obtain ⟨ys, v, l, h⟩ := each_pick hR t
    refine ⟨x :: ys, .cons rx v, by simp [l], fun i y b e1 e2 => ?_⟩
    match i, e1, e2 with
    | 0, e1, e2 => cases e1; cases e2; exact sx
    | i + 1, e1, e2 => exact h i y b (by simpa using e1) (by simpa using e2)
end
/-! a tuple sorted: its items in a new list, that sorted -/
section
open PySem.W PySem.Calls
variable {prog : Program} {w : World} {A : Around} {E : Value → Shared → Prop} {s : Shared}
theorem collect_tup {tp : Addr} {us : List Value} {Q : List Value → Shared → Prop} (ht : IsTup s.heap tp us.toArray) (hz : us.length ≤ sizeLine)
    (h : Q us { s with heap := (s.heap.push (seqObj "list" #[] 0)).update s.heap.objs.size (Obj.mapSeq (· ++ us.toArray)) }) : wpAny (model prog w) A (collect (.ref tp)) Q E s := by
  obtain ⟨ob, hob, hcl, nn, hdt⟩ := id ht
  have up : (s.heap.push (seqObj "list" #[] 0)).get? tp = some ob := Heap.get?_push_of_some _ hob
  unfold collect; refine wpAny_bind (wpAny_runValue (codeAny_builtin entry_proto_collect' ?_))
  show wpAny _ _ (do again (.builtin "list.__iadd__" ⟨[← newList [], .ref tp], []⟩)) _ _ s; refine wpAny_bind (wpAny_newList (wpAny_pure ⟨Code.quiet_builtin _ (by decide +kernel), codeAny_builtin entry_list_iadd' ?_⟩))
  show wpAny _ _ (Builtin.List.listExtendWith (.ref s.heap.objs.size) (.ref tp) (.ref s.heap.objs.size)) _ _ { s with heap := s.heap.push (seqObj "list" #[] 0) }; unfold Builtin.List.listExtendWith
  refine wpAny_bind (wpAny_typeOf (T := "tuple") ⟨ob, up, hcl⟩ ?_); have two : (Value.type "tuple" == Value.type "tuple") = true := by rfl
  rw [if_pos (by rw [two]; simp)]; refine wpAny_bind (listItems_at up hdt ?_)
  refine wpAny_bind (listItems_at (xs := #[]) (n := 0) (Heap.get?_push_size _ rfl) rfl ?_); rw [if_neg (by simp)]
  refine wpAny_bind (listUpdate_at (xs := #[]) (n := 0) (Heap.get?_push_size _ rfl) rfl ?_ (Nat.zero_le _) (by show (#[] ++ us.toArray).size ≤ sizeLine + 1; simp only [Array.size_append, List.size_toArray, List.length_nil]; omega)); refine wpAny_pure ?_
  show wpAny (model prog w) A (load s.heap.objs.size >>= fun o => match o.data with | .seq xs _ => pure xs.toList | _ => unsupported "internal:collect") Q E { s with heap := (s.heap.push (seqObj "list" #[] 0)).update s.heap.objs.size (Obj.mapSeq (· ++ us.toArray)) }
  refine wpAny_bind (wpAny_load (get?_update_seq (Heap.get?_push_size _ rfl) _) ?_); show wpAny _ _ (pure ((#[] : Array Value) ++ us.toArray).toList) Q E _
  rw [show ((#[] : Array Value) ++ us.toArray).toList = us by simp]; exact wpAny_pure h
variable {β : Type} {R : Value → β → Prop} {enc : β → PyData} {bs : List β}
theorem sorted_tup {tp : Addr} {us : List Value} {Q : Value → Shared → Prop} (ht : IsTup s.heap tp us.toArray) (e : EachIs R us bs) (er : EachIs (fun v b => ∃ as, Reads s.heap v (enc b) as) us bs) (hal : AllAlike (bs.map enc)) (hk : Sortable (bs.map enc)) (hL : bs.length ≤ sizeLine)
    (hu : ∀ b, b ∈ bs → A.units + 2 + (enc b).depth < cLine) (h : ∀ out, out.length = bs.length → EachIs R out (bs.mergeSort (dataLe false enc)) → Q (.ref (s.heap.objs.size + 1)) { s with heap := sortedAll s.heap us (List.toArray out) }) : wpAny (model prog w) A (call (.builtin "sorted") [.ref tp]) Q E s := by
  have hz : us.length ≤ sizeLine := by rw [e.length]; exact hL
  have er2 : EachIs (fun v b => ∃ as, Reads (sortingHeap (copyHeap s.heap us) (s.heap.objs.size + 1) us) v (enc b) as) us bs := er.mono fun _ _ ⟨as, r⟩ => ⟨as, PyProof.Rows.Reads.keeps (fun _ _ => sorting_copy_old) r⟩
  have S := SortsAt.data (prog := prog) (w := w) (A := A.in1.in1) (s := { s with heap := sortingHeap (copyHeap s.heap us) (s.heap.objs.size + 1) us }) (each_map (R := fun v d => ∃ as, Reads (sortingHeap (copyHeap s.heap us) (s.heap.objs.size + 1) us) v d as) enc er2) hal hk (bound_map fun b hb => by have := hu b hb; show A.units + 1 + 1 + _ < _; omega)
  refine call_function_entry_kw kind_sorted plain_sorted entry_sorted (args_sorted1 _) ?_; unfold Builtin.«sorted»
  refine wpAny_bind (m := checkCount "sorted" 1 1 _) (wpAny_pure ?_); refine wpAny_bind (collect_tup ht hz ?_)
  refine wpAny_bind (wpAny_newList ?_ hz); have size1 : ((s.heap.push (seqObj "list" #[] 0)).update s.heap.objs.size (Obj.mapSeq (· ++ us.toArray))).objs.size = s.heap.objs.size + 1 := (Heap.size_update ..).trans (size_push' ..)
  show wpAny _ _ _ _ _ { s with heap := copyHeap s.heap us }; rw [size1]
  refine wpAny_bind (wpAny_holding (wpAny_call_entry_kw slot_list_sort ⟨_, copyHeap_at s.heap us, rfl⟩ entry_list_sort (wpAny_mono (list_sort_vals (E := E) (s := { s with heap := copyHeap s.heap us }) (P := fun f s' => f = .done (.ret .none) ∧ Q (.ref (s.heap.objs.size + 1)) s') (copyHeap_at s.heap us) S hz ⟨rfl, ?_⟩) (fun f s' hf => ?_) fun _ _ z => z) (args_list_sort _)))
  · exact h _ (by rw [sortVals_length false rfl]; exact e.length) (sortVals_data false e er2 hal)
  · obtain ⟨rfl, hq⟩ := hf; exact ⟨_, rfl, wpAny_pure ⟨_, rfl, hq⟩⟩
end
section
variable {β : Type}
theorem cr_sortB (K0 : PySem.W.Frag) {X : Cx} (enc : β → PyData) (hu : X.A.units + 64 < cLine) (al : ∀ b b', PySem.W.alike (enc b) (enc b') = true) (tu : ∀ b, ∃ x r, enc b = .tuple (x :: r)) (dp : ∀ b, (enc b).depth ≤ 5) (hK : X.K = K0 := by rfl) : CallR X (.builtin "sorted") (rSortB K0 enc) := by
  subst hK
  intro pins s σ H vs us Q I r h
  obtain ⟨a, xs, bs, rfl, hs, hl, hd, q⟩ := h
  obtain rfl := Vals.ref1 r
  have fin : ∀ its : List Value, Vals xs its → xs.length ≤ sizeLine → (∀ (E' : Value → Shared → Prop) (Q' : Value → Shared → Prop), PySem.W.EachIs (fun u b => ∃ x, (∃ j : Nat, xs[j]? = some x ∧ bs[j]? = some b) ∧ RelV x u) its bs → PySem.W.EachIs (fun v b => ∃ as, Reads s.heap v (enc b) as) its bs → (∀ b, b ∈ bs → X.A.units + 2 + (enc b).depth < cLine) →
      (∀ out, out.length = bs.length → PySem.W.EachIs (fun u b => ∃ x, (∃ j : Nat, xs[j]? = some x ∧ bs[j]? = some b) ∧ RelV x u) out (bs.mergeSort (PySem.W.dataLe false enc)) → Q' (.ref (s.heap.objs.size + 1)) { s with heap := PyProof.Rows.sortedAll s.heap its (List.toArray out) }) → wpAny (model X.prog X.w) X.A (call (.builtin "sorted") [.ref a]) Q' E' s) →
      wpAny (model X.prog X.w) X.A (call (.builtin "sorted") [.ref a]) (EP X pins σ Q) X.xe s := fun its rv hz run => by
    have hlen := rv.length
    have rel : ∀ (i : Nat) (u : Value) (b : β), its[i]? = some u → bs[i]? = some b → ∃ x, (∃ j : Nat, xs[j]? = some x ∧ bs[j]? = some b) ∧ RelV x u := fun i u b e1 e2 => by
      have hi : i < xs.length := by
        have := (List.getElem?_eq_some_iff.mp e2).1
        omega
      have ex : xs[i]? = some xs[i] := by simp [hi]
      obtain ⟨u', e3, r3⟩ := rv.get ex
      rw [e1] at e3
      cases e3
      exact ⟨xs[i], ⟨i, ex, e2⟩, r3⟩
    refine run _ _ (each_of (by omega) rel) (each_of (by omega) fun i u b e1 e2 => ?_) (fun b _ => ?_) fun out ho eo => ?_
    · obtain ⟨x, ⟨j, j1, j2⟩, r1⟩ := rel i u b e1 e2
      exact Dp.reads I (enc b) x u (hd j x b j1 j2) r1
    · have := dp b
      omega
    · obtain ⟨c, hcat⟩ := PyProof.Rows.sortedAll_at s.heap its out.toArray
      obtain ⟨ys, rys, lys, hys⟩ := each_pick (S := fun x b => ∃ j : Nat, xs[j]? = some x ∧ bs[j]? = some b) (fun u b ⟨x, a1, a2⟩ => ⟨x, a2, a1⟩) eo
      have hsz : ys.length ≤ sizeLine := by
        rw [lys, List.length_mergeSort]
        omega
      exact ⟨.ref (s.heap.objs.size + 1), _, I.laid (t' := s.toks) (fun _ _ => PyProof.Rows.sortedAll_old) (Nat.le_succ _) (show ObjOk X.prog X.w _ _ _ (.lst ys) from ⟨hsz, out, c, rys, hcat⟩), rfl, q ys _ (by rw [lys, List.length_mergeSort]) hys (I.hok.fresh (Nat.le_succ _))⟩
  rcases hs with hs | hs
  · obtain ⟨its, rv, pl, hz⟩ := I.list hs
    exact fin its rv hz fun E' Q' e er hub k => PySem.W.sorted_data pl.isList e er (PySem.W.AllAlike.of al) (PySem.W.Sortable.tuples tu) (by omega) hub k
  · obtain ⟨its, rv, pt, hz⟩ := I.tuple hs
    exact fin its rv hz fun E' Q' e er hub k => sorted_tup pt e er (PySem.W.AllAlike.of al) (PySem.W.Sortable.tuples tu) (by omega) hub k
end
/-! minus of an own instance -/
structure NegOf (K : PySem.W.Frag) (C : Str) : Prop where
  at_ : PySem.W.findIn K (.ref (He.ga K C)) "__neg__" = some (some (.ref (He.ma K (He.ga K C) "__neg__")))
  fn : PySem.W.isFn K (.ref (He.ma K (He.ga K C) "__neg__")) = true
def isNeg (K : PySem.W.Frag) (C : Str) : Bool :=
  He.eqO (PySem.W.findIn K (.ref (He.ga K C)) "__neg__") (some (some (.ref (He.ma K (He.ga K C) "__neg__")))) && PySem.W.isFn K (.ref (He.ma K (He.ga K C) "__neg__"))
theorem isNeg_ok {K : PySem.W.Frag} {C : Str} (h : isNeg K C = true) : NegOf K C := by
  obtain ⟨h1, h2⟩ := He.ba h
  exact ⟨He.eqO_ok h1, h2⟩
def rOw1 (C : Addr) (sp : Sp) (E : XK) : V → Hp → VK → Prop := fun x H Q => ∃ a dx fs, x = .ref a ∧ H a = some (.ins C dx fs) ∧ sp [.ref a] H Q E
theorem un_ownN {X : Cx} {CX : CXT} {k j : Nat} {C g : Addr} {sp : Sp} {E : XK} (hs : PySem.W.findIn X.K (.ref C) "__neg__" = some (some (.ref g))) (hf : PySem.W.isFn X.K (.ref g) = true) (F : FnR X.prog X.w X.K X.mg X.base CX k g sp) (hr : Room j X.A) (hx : Passes CX X E) (hj : k ≤ j := by decide) :
    UnR X (unaryOp .USub) (rOw1 C sp E) := by
  intro pins s σ H x v Q I rx h
  obtain ⟨a, dx, fs, rfl, ha, q⟩ := h
  cases (show v = Value.ref a from rx)
  obtain ⟨ox, od, J, _⟩ := ins_at I ha
  have run := wpAny_call (run_fnR (us := [.ref a]) (vs := [.ref a]) F (hr.mono hj) hx I (.cons rfl .nil) q)
  unfold unaryOp
  refine wpAny_holding ?_
  show wpAny _ _ (callSpecial? (.ref a) "__neg__" >>= fun o => match o with | some r => pure r | none => _) _ _ _
  exact wpAny_bind (PySem.W.special_fn I.kIn J hs (beq_iff_eq.mp hf) (wpAny_mono run (fun _ _ z => wpAny_pure z) fun _ _ z => z))
/-! a tuple turned round: t[::-1] -/
section
open PySem.W PySem.Calls HT
variable {prog : Program} {w : World} {A : Around} {E : Value → Shared → Prop} {s : Shared}
theorem fm_congr {α γ : Type} {f g : α → Option γ} : ∀ {l : List α}, (∀ x ∈ l, f x = g x) → l.filterMap f = l.filterMap g
  | [], _ => rfl
  | x :: l, h => by
    rw [List.filterMap_cons, List.filterMap_cons, h x (by simp), fm_congr fun y hy => h y (by simp [hy])]
theorem turn_pick (xs : Array Value) : ((List.range xs.size).filterMap fun (k : Nat) => xs[((xs.size : Int) - 1 + (k : Int) * -1).toNat]?) = xs.toList.reverse := by
  have e : ((List.range xs.size).filterMap fun (k : Nat) => xs[((xs.size : Int) - 1 + (k : Int) * -1).toNat]?) = (List.range xs.size).filterMap fun k => xs.toList.reverse[k]? := by
    apply fm_congr
    intro k hk
    have hk := List.mem_range.mp hk
    rw [List.getElem?_reverse (by simpa using hk)]
    rw [show ((xs.size : Int) - 1 + (k : Int) * -1).toNat = xs.toList.length - 1 - k by simp; omega]
    simp
  rw [e]
  apply List.ext_getElem?
  intro k
  have all : ∀ (l : List Value), ((List.range l.length).filterMap fun k => l[k]?) = l := fun l => by
    induction l with
    | nil => rfl
    | cons x l ih =>
      rw [List.length_cons, List.range_succ_eq_map, List.filterMap_cons]
      simp only [List.getElem?_cons_zero, List.filterMap_map]
      congr 1
  have := all xs.toList.reverse
  rw [List.length_reverse, Array.length_toList] at this
  rw [this]
theorem turn_applied {sl : Addr} {vl vu vs : Value} {n : Nat} {Q : Int × Int × Nat → Shared → Prop} (hs : s.heap.IsSliceOf sl vl vu vs) (pl : IsPart vl none) (pu : IsPart vu none) (ps : IsPart vs (some (-1)))
    (h : Q ((n : Int) - 1, -1, n) s) : wpAny (model prog w) A (Builtin.Slice.sliceApplied (.ref sl) (pure (n : Int))) Q E s := by
  obtain ⟨ob, hob, hcl, hdt⟩ := id hs
  unfold Builtin.Slice.sliceApplied; unfold Builtin.Slice.sliceFields
  refine wpAny_bind (wpAny_bind (wpAny_field hob hdt (x := vl) rfl (wpAny_bind (wpAny_field hob hdt (x := vu) rfl (wpAny_bind (wpAny_field hob hdt (x := vs) rfl (wpAny_pure ?_)))))))
  refine wpAny_bind (slicePart_ ps ?_); show wpAny _ _ (if ((-1 : Int) == 0) = true then _ else _) _ _ s
  rw [if_neg (by decide)]; refine wpAny_bind (slicePart_ pl (wpAny_bind (slicePart_ pu (wpAny_bind (wpAny_pure ?_)))))
  show wpAny _ _ (match Builtin.Slice.sliceAdjust none none (-1) (n : Int) with | (lo, hi) => pure (lo, (-1 : Int), Builtin.Slice.slicePlaces lo hi (-1))) _ _ s
  have e1 : Builtin.Slice.sliceAdjust none none (-1) (n : Int) = ((n : Int) - 1, -1) := rfl
  rw [e1]
  show wpAny _ _ (pure ((n : Int) - 1, (-1 : Int), Builtin.Slice.slicePlaces ((n : Int) - 1) (-1) (-1))) _ _ s
  have e2 : Builtin.Slice.slicePlaces ((n : Int) - 1) (-1) (-1) = n := by
    unfold Builtin.Slice.slicePlaces
    rw [if_neg (by decide)]
    by_cases c : (n : Int) - 1 > -1
    · rw [if_pos c]
      simp
    · rw [if_neg c]
      simp
      omega
  rw [e2]
  exact wpAny_pure h
theorem turn_get {t sl : Addr} {items : Array Value} {vl vu vs : Value} {Q : Value → Shared → Prop} (ht : IsTup s.heap t items) (hs : s.heap.IsSliceOf sl vl vu vs) (pl : IsPart vl none) (pu : IsPart vu none) (ps : IsPart vs (some (-1)))
    (h : Q (.ref s.heap.objs.size) { s with heap := s.heap.push { cls := .type "tuple", data := .seq items.toList.reverse.toArray } }) (hsz : items.size ≤ sizeLine) : wpAny (model prog w) A (getItem (.ref t) (.ref sl)) Q E s := by
  obtain ⟨ob, hob, hcl, hdt⟩ := id hs
  have tyS : s.TypeIs (.ref sl) "slice" := ⟨ob, hob, hcl⟩
  have fits : sizeOk (.seq items.toList.reverse.toArray) := by show items.toList.reverse.toArray.size ≤ sizeLine; rw [List.size_toArray, List.length_reverse, Array.length_toList]; exact hsz
  unfold getItem; try with_reducible refine wpAny_holding ?_
  first | refine wpAny_bind (wpAny_pure ?_) | skip
  refine wpAny_bind (wpAny_sequenceKey ht.typeIs (by decide) ?_); refine wpAny_bind (wpAny_callSpecial?_slot (name := Str.ofString "__getitem__") ht.typeIs PyProof.Rows.slot_tuple_getitem (wpAny_call_entry PyProof.Rows.slot_tuple_getitem ht.typeIs entry_tuple_getitem ?_ (args_tuple_getitem _ _)))
  show wpAny _ _ (Builtin.Tuple.tupleItemsOf (.ref t) >>= _) _ _ s; refine wpAny_bind (tupleItemsOf_ ht ?_)
  refine wpAny_bind (wpAny_typeOf tyS ?_); rw [if_pos (by decide)]
  refine wpAny_bind (turn_applied hs pl pu ps ?_); have no : ¬ ((((items.size : Int) - 1) == 0 && (-1 : Int) == 1 && items.size == items.size) = true) := by simp
  show wpAny _ _ (if (((items.size : Int) - 1) == 0 && (-1 : Int) == 1 && items.size == items.size) = true then _ else _) _ _ s; rw [if_neg no, turn_pick]
  first
    | exact wpAny_bind (m := Builtin.Tuple.tupleExact _) (wpAny_newObj_type (wpAny_pure ⟨_, rfl, wpAny_pure h⟩) fits)
    | exact wpAny_bind (m := Builtin.Tuple.tupleExact _) (wpAny_newObj_type (wpAny_bind (wpAny_pure (wpAny_pure ⟨_, rfl, wpAny_pure h⟩))) fits)
    | exact wpAny_bind (wpAny_bind (m := Builtin.Tuple.tupleExact _) (wpAny_newObj_type (wpAny_pure (wpAny_pure ⟨_, rfl, wpAny_pure h⟩)) fits))
end
section
variable {X : Cx}
def tRevT (K : PySem.W.Frag) (te : TE) : TE := fun σ H Q => te σ H fun x H1 => ∃ a xs, x = .ref a ∧ SqT K H1 a xs ∧ ∀ p, H1 p = Option.none → Q (.ref p) (upd H1 p (.tup xs.reverse))
theorem go_revT {K : PySem.W.Frag} {te : TE} {σ : L2.St} {H : Hp} {Q : VK} (h : te σ H fun x H1 => ∃ a xs, x = .ref a ∧ SqT K H1 a xs ∧ ∀ p, H1 p = Option.none → Q (.ref p) (upd H1 p (.tup xs.reverse))) : tRevT K te σ H Q := h
theorem pe_revT {e : Expr} {te : TE} {k : Nat} {p1 p2 p3 pos : Pos} (he : PE X e te) : PE X (.Subscript e (.Slice none none (some (.UnaryOp .USub (.Constant (.int 1) k p1) p2)) p3) pos) (tRevT X.K te) := ⟨fun pins s σ H Q I h => by
  refine Subscript_ (thn (he.run pins s σ H _ I h) ?_)
  rintro v s1 ⟨x, H1, I1, r1, a, xs, rfl, hx, q⟩
  cases (show v = Value.ref a from r1)
  have hst : PO X (some (.UnaryOp .USub (.Constant (.int 1) k p1) p2)) (tPart (tUn (rU fun i => .int (-i)) (tC (.int 1)))) := po_some (pe_un un_neg pe_int)
  refine wpAny_Slice (thn (po_none.run pins s1 σ H1 (fun o H2 => o = none ∧ H2 = H1) I1 ⟨rfl, rfl⟩) ?_); rintro vl s2 ⟨l, H2, I2, pl, rfl, rfl⟩
  refine thn (po_none.run pins s2 σ H2 (fun o H3 => o = none ∧ H3 = H2) I2 ⟨rfl, rfl⟩) ?_; rintro vu s3 ⟨u, H3, I3, pu, rfl, rfl⟩
  refine thn (hst.run pins s3 σ H3 (fun o H4 => o = some (-1) ∧ H4 = H3) I3 ⟨1, rfl, -1, rfl, rfl, rfl⟩) ?_; rintro vs s4 ⟨o, H4, I4, ps, rfl, rfl⟩
  have I5 : Inv X pins σ H4 { s4 with heap := s4.heap.push { cls := .type "slice", data := .fields #[vl, vu, vs] } } := I4.kept (t' := s4.toks) fun b ob q => Heap.get?_push_of_some _ q
  obtain ⟨its, r, ht, hz⟩ := I5.tuple hx
  have hlen := r.length
  show wpAny (model X.prog X.w) X.A (subscriptTail e (.Slice none none (some (.UnaryOp .USub (.Constant (.int 1) k p1) p2)) p3) (.ref a) (.ref s4.heap.objs.size)) (EP X pins σ Q) X.xe { s4 with heap := s4.heap.push { cls := .type "slice", data := .fields #[vl, vu, vs] } }
  refine tail_any (ops := [.ref a, .ref s4.heap.objs.size]) ht.typeIs (PyProof.Rows.slot_tuple_getitem.lookup) ?_ (by with_unfolding_all rfl)
  refine turn_get ht (Heap.IsSliceOf.new _ vl vu vs) pl pu ps ?_ (by rw [List.size_toArray]; omega)
  refine ⟨.ref _, _, I5.laid (t' := s4.toks) (o := .tup xs.reverse) (fun b ob q => Heap.get?_push_of_some _ q) (Nat.le_refl _) ?_, rfl, q _ (I5.hok.fresh (Nat.le_refl _))⟩
  exact ⟨by rw [List.length_reverse]; exact hz, its.reverse, r.reverse, _, Heap.get?_push_size _ rfl, rfl, 0, rfl⟩⟩
end
end Bk
/-! The mathematics of orders: no order of the same paces has a smaller pace than the good one. a: the paces by place. -/
namespace Od
def vl (a : Nat → Int) (i : Nat) : Int := max (a i) (a (i + 1)) + max (a (i + 1)) (a (i + 2))
/-- a permutation of lists by places -/
theorem perm_ix {α : Type} {l s : List α} (h : l.Perm s) : ∃ f g : Nat → Nat, (∀ i, i < l.length → f i < l.length ∧ g (f i) = i ∧ l[i]? = s[f i]?) ∧ (∀ j, j < l.length → g j < l.length ∧ f (g j) = j) := by
  induction h with
  | nil => exact ⟨id, id, fun i h => absurd h (Nat.not_lt_zero _), fun i h => absurd h (Nat.not_lt_zero _)⟩
  | @cons x l1 l2 h ih =>
    obtain ⟨f, g, h1, h2⟩ := ih
    refine ⟨fun i => match i with | 0 => 0 | i + 1 => f i + 1, fun i => match i with | 0 => 0 | i + 1 => g i + 1, fun i hi => ?_, fun i hi => ?_⟩
    · match i, hi with
      | 0, _ => exact ⟨by simp, rfl, rfl⟩
      | i + 1, hi =>
        obtain ⟨a, b, c⟩ := h1 i (by simpa using hi)
        exact ⟨by simpa using a, by simpa using b, by simpa using c⟩
    · match i, hi with
      | 0, _ => exact ⟨by simp, rfl⟩
      | i + 1, hi =>
        obtain ⟨a, b⟩ := h2 i (by simpa using hi)
        exact ⟨by simpa using a, by simpa using b⟩
  | swap x y l1 =>
    refine ⟨fun i => match i with | 0 => 1 | 1 => 0 | i + 2 => i + 2, fun i => match i with | 0 => 1 | 1 => 0 | i + 2 => i + 2, fun i hi => ?_, fun i hi => ?_⟩
    · match i, hi with
      | 0, _ => exact ⟨by simp, rfl, rfl⟩
      | 1, _ => exact ⟨by simp, rfl, rfl⟩
      | i + 2, hi => exact ⟨by simpa using hi, rfl, by simp⟩
    · match i, hi with
      | 0, _ => exact ⟨by simp, rfl⟩
      | 1, _ => exact ⟨by simp, rfl⟩
      | i + 2, hi => exact ⟨by simpa using hi, rfl⟩
  | @trans l1 l2 l3 h12 h23 ih1 ih2 =>
    obtain ⟨f1, g1, a1, b1⟩ := ih1
    obtain ⟨f2, g2, a2, b2⟩ := ih2
    have hl := h12.length_eq
    rw [← hl] at a2 b2
    refine ⟨fun i => f2 (f1 i), fun i => g1 (g2 i), fun i hi => ?_, fun i hi => ?_⟩
    · obtain ⟨x1, y1, z1⟩ := a1 i hi
      obtain ⟨x2, y2, z2⟩ := a2 (f1 i) x1
      exact ⟨x2, by show g1 (g2 (f2 (f1 i))) = i; rw [y2, y1], z1.trans z2⟩
    · obtain ⟨x2, y2⟩ := b2 i hi
      obtain ⟨x1, y1⟩ := b1 (g2 i) x2
      exact ⟨x1, by show f2 (f1 (g1 (g2 i))) = i; rw [y1, y2]⟩
/-- paces by place a, the sorted ones s, n of them; f and g lead from one to the other -/
structure Pm (n : Nat) (a s : Nat → Int) (f g : Nat → Nat) : Prop where
  fg : ∀ i, i < n → f i < n ∧ g (f i) = i ∧ a i = s (f i)
  gf : ∀ j, j < n → g j < n ∧ f (g j) = j
  up : ∀ i j, i ≤ j → j < n → s i ≤ s j
section
variable {n : Nat} {a s : Nat → Int} {f g : Nat → Nat}
theorem Pm.ne (P : Pm n a s f g) {i j : Nat} (hi : i < n) (hj : j < n) (h : i ≠ j) : f i ≠ f j := fun e => h (by rw [← (P.fg i hi).2.1, ← (P.fg j hj).2.1, e])
theorem Pm.ge (P : Pm n a s f g) {i k : Nat} (hi : i < n) (h : k ≤ f i) : s k ≤ a i := by
  obtain ⟨h1, _, h3⟩ := P.fg i hi
  rw [h3]
  exact P.up k (f i) h h1
theorem Pm.at (P : Pm n a s f g) {j : Nat} (hj : j < n) : a (g j) = s j := by
  obtain ⟨h1, h2⟩ := P.gf j hj
  rw [(P.fg (g j) h1).2.2, h2]
theorem Pm.gne (P : Pm n a s f g) {i j : Nat} (hi : i < n) (hj : j < n) (h : i ≠ j) : g i ≠ g j := fun e => h (by rw [← (P.gf i hi).2, ← (P.gf j hj).2, e])
/-- one who stands within counts twice -/
theorem Pm.mid {p : Nat} (h1 : 1 ≤ p) : 2 * a p ≤ vl a (p - 1) := by
  obtain ⟨q, rfl⟩ : ∃ q, p = q + 1 := ⟨p - 1, by omega⟩
  simp only [Nat.add_sub_cancel, vl]
  omega
theorem Pm.two (P : Pm n a s f g) {i j : Nat} (hi : i < n) (hj : j < n) (h : i ≠ j) : s 1 ≤ max (a i) (a j) := by
  have ne := P.ne hi hj h
  by_cases c : 1 ≤ f i
  · have := P.ge hi c
    omega
  · have := P.ge (k := 1) hj (by omega)
    omega
/-- the greatest and the second least -/
theorem Pm.low1 (P : Pm n a s f g) (hn : 3 ≤ n) : ∃ i, i + 2 < n ∧ s (n - 1) + s 1 ≤ vl a i := by
  have hp := (P.gf (n - 1) (by omega)).1
  have ep := P.at (j := n - 1) (by omega)
  by_cases c : g (n - 1) + 2 < n
  · refine ⟨g (n - 1), c, ?_⟩
    have := P.two (i := g (n - 1) + 1) (j := g (n - 1) + 2) (by omega) c (by omega)
    unfold vl
    omega
  · by_cases d : g (n - 1) = n - 1
    · refine ⟨n - 3, by omega, ?_⟩
      have := P.two (i := n - 3) (j := n - 3 + 1) (by omega) (by omega) (by omega)
      have e : a (n - 3 + 2) = s (n - 1) := by rw [show n - 3 + 2 = g (n - 1) by omega]; exact ep
      unfold vl
      omega
    · refine ⟨g (n - 1) - 1, by omega, ?_⟩
      have h1 := Pm.mid (a := a) (p := g (n - 1)) (by omega)
      have h2 := P.up 1 (n - 1) (by omega) (by omega)
      omega
/-- the third greatest, twice -/
theorem Pm.low2 (P : Pm n a s f g) (hn : 3 ≤ n) : ∃ i, i + 2 < n ∧ 2 * s (n - 3) ≤ vl a i := by
  have three : ∃ j, n - 3 ≤ j ∧ j < n ∧ 1 ≤ g j ∧ g j + 1 < n := by
    have p1 := (P.gf (n - 1) (by omega)).1
    have p2 := (P.gf (n - 2) (by omega)).1
    have p3 := (P.gf (n - 3) (by omega)).1
    have n1 := P.gne (i := n - 1) (j := n - 2) (by omega) (by omega) (by omega)
    have n2 := P.gne (i := n - 1) (j := n - 3) (by omega) (by omega) (by omega)
    have n3 := P.gne (i := n - 2) (j := n - 3) (by omega) (by omega) (by omega)
    by_cases c1 : 1 ≤ g (n - 1) ∧ g (n - 1) + 1 < n
    · exact ⟨n - 1, by omega, by omega, c1⟩
    · by_cases c2 : 1 ≤ g (n - 2) ∧ g (n - 2) + 1 < n
      · exact ⟨n - 2, by omega, by omega, c2⟩
      · exact ⟨n - 3, by omega, by omega, by omega, by omega⟩
  obtain ⟨j, h1, h2, h3, h4⟩ := three
  refine ⟨g j - 1, by omega, ?_⟩
  have e := P.at h2
  have h5 := Pm.mid (a := a) h3
  have h6 := P.up (n - 3) j h1 h2
  omega
/-- the second greatest and the fourth least (of five: the third) -/
theorem Pm.low3 (P : Pm n a s f g) (hn : 5 ≤ n) : ∃ i, i + 2 < n ∧ s (n - 2) + s (if n = 5 then 2 else 3) ≤ vl a i := by
  have p1 := (P.gf (n - 1) (by omega)).1
  have p2 := (P.gf (n - 2) (by omega)).1
  have n1 := P.gne (i := n - 1) (j := n - 2) (by omega) (by omega) (by omega)
  have e1 := P.at (j := n - 1) (by omega)
  have e2 := P.at (j := n - 2) (by omega)
  have u1 := P.up (n - 2) (n - 1) (by omega) (by omega)
  have u2 : s (if n = 5 then 2 else 3) ≤ s (n - 2) := P.up _ _ (by split <;> omega) (by omega)
  by_cases c1 : 1 ≤ g (n - 1) ∧ g (n - 1) + 1 < n
  · refine ⟨g (n - 1) - 1, by omega, ?_⟩
    have := Pm.mid (a := a) c1.1
    omega
  · by_cases c2 : 1 ≤ g (n - 2) ∧ g (n - 2) + 1 < n
    · refine ⟨g (n - 2) - 1, by omega, ?_⟩
      have := Pm.mid (a := a) c2.1
      omega
    · -- both at the ends
      have a0 : s (n - 2) ≤ a 0 := by
        by_cases c : g (n - 1) = 0
        · rw [c] at e1; omega
        · have : g (n - 2) = 0 := by omega
          rw [this] at e2; omega
      have aL : s (n - 2) ≤ a (n - 3 + 2) := by
        rw [show n - 3 + 2 = n - 1 by omega]
        by_cases c : g (n - 1) = n - 1
        · rw [c] at e1; omega
        · have : g (n - 2) = n - 1 := by omega
          rw [this] at e2; omega
      have left : ∀ k, (s k ≤ a 1 ∨ s k ≤ a 2) → ∃ i, i + 2 < n ∧ s (n - 2) + s k ≤ vl a i := fun k h => ⟨0, by omega, by unfold vl; simp only [Nat.zero_add]; omega⟩
      have right : ∀ k, (s k ≤ a (n - 3) ∨ s k ≤ a (n - 3 + 1)) → ∃ i, i + 2 < n ∧ s (n - 2) + s k ≤ vl a i := fun k h => ⟨n - 3, by omega, by unfold vl; omega⟩
      have q12 := P.ne (i := 1) (j := 2) (by omega) (by omega) (by omega)
      by_cases c5 : n = 5
      · rw [if_pos c5]
        subst c5
        have q13 := P.ne (i := 1) (j := 3) (by omega) (by omega) (by omega)
        have q23 := P.ne (i := 2) (j := 3) (by omega) (by omega) (by omega)
        by_cases d1 : 2 ≤ f 1
        · exact left 2 (.inl (P.ge (by omega) d1))
        · by_cases d2 : 2 ≤ f 2
          · exact left 2 (.inr (P.ge (by omega) d2))
          · exact right 2 (.inr (P.ge (by omega) (by show 2 ≤ f 3; omega)))
      · rw [if_neg c5]
        have q1 := P.ne (i := 1) (j := n - 3) (by omega) (by omega) (by omega)
        have q2 := P.ne (i := 2) (j := n - 3) (by omega) (by omega) (by omega)
        have q3 := P.ne (i := 1) (j := n - 3 + 1) (by omega) (by omega) (by omega)
        have q4 := P.ne (i := 2) (j := n - 3 + 1) (by omega) (by omega) (by omega)
        have q5 := P.ne (i := n - 3) (j := n - 3 + 1) (by omega) (by omega) (by omega)
        by_cases d1 : 3 ≤ f 1
        · exact left 3 (.inl (P.ge (by omega) d1))
        · by_cases d2 : 3 ≤ f 2
          · exact left 3 (.inr (P.ge (by omega) d2))
          · by_cases d3 : 3 ≤ f (n - 3)
            · exact right 3 (.inl (P.ge (by omega) d3))
            · exact right 3 (.inr (P.ge (by omega) (by omega)))
/-- the good order: the greatest, the two least, from the fifth on those between, the third and fourth, the second greatest -/
structure Gd (n : Nat) (s b : Nat → Int) : Prop where
  b0 : b 0 = s (n - 1)
  few : n ≤ 5 → ∀ i, i + 1 < n → b (i + 1) = s i
  b1 : 6 ≤ n → b 1 = s 0
  b2 : 6 ≤ n → b 2 = s 1
  bm : 6 ≤ n → ∀ i, 3 ≤ i → i + 3 < n → b i = s (i + 1)
  b3 : 6 ≤ n → b (n - 3) = s 2
  b4 : 6 ≤ n → b (n - 2) = s 3
  b5 : 6 ≤ n → b (n - 1) = s (n - 2)
theorem good_val {n : Nat} {s b : Nat → Int} (up : ∀ i j, i ≤ j → j < n → s i ≤ s j) (G : Gd n s b) (hn : 3 ≤ n) {i : Nat} (hi : i + 2 < n) :
    vl b i ≤ s (n - 1) + s 1 ∨ vl b i ≤ 2 * s (n - 3) ∨ (5 ≤ n ∧ vl b i ≤ s (n - 2) + s (if n = 5 then 2 else 3)) := by
  have b0 := G.b0
  by_cases h5 : n ≤ 5
  · have F := G.few h5
    have f0 := F 0 (by omega)
    have f1 := F 1 (by omega)
    have u01 := up 0 1 (by omega) (by omega)
    have u1L := up 1 (n - 1) (by omega) (by omega)
    simp only [Nat.zero_add, Nat.reduceAdd] at f0 f1
    match i, hi with
    | 0, _ =>
      left
      unfold vl
      simp only [Nat.zero_add]
      have := up 0 (n - 1) (by omega) (by omega)
      omega
    | 1, hi =>
      have f2 := F 2 (by omega)
      simp only [Nat.reduceAdd] at f2
      have u12 := up 1 2 (by omega) (by omega)
      have u2L := up 2 (n - 1) (by omega) (by omega)
      left
      unfold vl
      simp only [Nat.reduceAdd]
      omega
    | 2, hi =>
      have e5 : n = 5 := by omega
      subst e5
      have f2 := F 2 (by omega)
      have f3 := F 3 (by omega)
      simp only [Nat.reduceAdd] at f2 f3
      have u12 := up 1 2 (by omega) (by omega)
      have u23 := up 2 3 (by omega) (by omega)
      right; right
      refine ⟨by omega, ?_⟩
      rw [if_pos rfl]
      unfold vl
      simp only [Nat.reduceAdd, Nat.reduceSub]
      omega
    | i + 3, hi => omega
  · have h6 : 6 ≤ n := by omega
    have b1 := G.b1 h6
    have b2 := G.b2 h6
    have b3 := G.b3 h6
    have b4 := G.b4 h6
    have b5 := G.b5 h6
    have u01 := up 0 1 (by omega) (by omega)
    have u12 := up 1 2 (by omega) (by omega)
    have u23 := up 2 3 (by omega) (by omega)
    have u0L := up 0 (n - 1) (by omega) (by omega)
    have u34 := up 3 (n - 2) (by omega) (by omega)
    rw [if_neg (by omega)]
    by_cases e0 : i = 0
    · subst e0
      left
      unfold vl
      simp only [Nat.zero_add]
      omega
    · by_cases e3 : i = n - 3
      · right; right
        refine ⟨by omega, ?_⟩
        unfold vl
        rw [e3, show n - 3 + 1 = n - 2 by omega, show n - 3 + 2 = n - 1 by omega, b3, b4, b5]
        omega
      · by_cases e1 : i = 1
        · subst e1
          left
          unfold vl
          simp only [Nat.reduceAdd]
          by_cases e6 : n = 6
          · subst e6
            simp only [Nat.reduceSub] at b3
            have := up 2 5 (by omega) (by omega)
            simp only [Nat.reduceSub]
            omega
          · have := G.bm h6 3 (by omega) (by omega)
            simp only [Nat.reduceAdd] at this
            have := up 4 (n - 1) (by omega) (by omega)
            have := up 1 4 (by omega) (by omega)
            omega
        · by_cases e4 : i = n - 4
          · by_cases e6 : n = 6
            · subst e6
              have ei : i = 2 := by omega
              subst ei
              simp only [Nat.reduceSub] at b3 b4 u34
              right; right
              refine ⟨by omega, ?_⟩
              unfold vl
              simp only [Nat.reduceAdd, Nat.reduceSub]
              have := up 2 4 (by omega) (by omega)
              omega
            · have bi := G.bm h6 i (by omega) (by omega)
              right; left
              unfold vl
              rw [show i + 1 = n - 3 by omega] at bi ⊢
              rw [show i + 2 = n - 2 by omega, bi, b3, b4]
              have := up 3 (n - 3) (by omega) (by omega)
              omega
          · -- i ≤ n - 5
            have bi1 := G.bm h6 (i + 1) (by omega) (by omega)
            have w1 := up (i + 1 + 1) (n - 3) (by omega) (by omega)
            have hb : b i ≤ s (n - 3) := by
              by_cases e2 : i = 2
              · rw [e2, b2]
                exact up 1 (n - 3) (by omega) (by omega)
              · rw [G.bm h6 i (by omega) (by omega)]
                exact up (i + 1) (n - 3) (by omega) (by omega)
            have hb2 : b (i + 2) ≤ s (n - 3) := by
              by_cases e5 : i + 2 = n - 3
              · rw [e5, b3]
                exact up 2 (n - 3) (by omega) (by omega)
              · rw [G.bm h6 (i + 2) (by omega) (by omega)]
                exact up (i + 2 + 1) (n - 3) (by omega) (by omega)
            right; left
            unfold vl
            omega
/-- no order has less -/
theorem good_least {n : Nat} {a s b : Nat → Int} {f g : Nat → Nat} (P : Pm n a s f g) (G : Gd n s b) (hn : 3 ≤ n) {i : Nat} (hi : i + 2 < n) : ∃ j, j + 2 < n ∧ vl b i ≤ vl a j := by
  rcases good_val P.up G hn hi with h | h | ⟨h5, h⟩
  · obtain ⟨j, h1, h2⟩ := P.low1 hn
    exact ⟨j, h1, by omega⟩
  · obtain ⟨j, h1, h2⟩ := P.low2 hn
    exact ⟨j, h1, by omega⟩
  · obtain ⟨j, h1, h2⟩ := P.low3 h5
    exact ⟨j, h1, by omega⟩
end
end Od
/-! len of an own instance; o.m(e, *y) -/
namespace Bk
open PySem PySem.Spec PyProof.Rows L2
structure LenOf (K : PySem.W.Frag) (C : Str) : Prop where
  at_ : PySem.W.findIn K (.ref (He.ga K C)) "__len__" = some (some (.ref (He.ma K (He.ga K C) "__len__")))
  fn : PySem.W.isFn K (.ref (He.ma K (He.ga K C) "__len__")) = true
def isLen (K : PySem.W.Frag) (C : Str) : Bool :=
  He.eqO (PySem.W.findIn K (.ref (He.ga K C)) "__len__") (some (some (.ref (He.ma K (He.ga K C) "__len__")))) && PySem.W.isFn K (.ref (He.ma K (He.ga K C) "__len__"))
theorem isLen_ok {K : PySem.W.Frag} {C : Str} (h : isLen K C = true) : LenOf K C := by
  obtain ⟨h1, h2⟩ := He.ba h
  exact ⟨He.eqO_ok h1, h2⟩
structure BmOf (K : PySem.W.Frag) (C m : Str) : Prop where
  gf : PySem.W.specialIn K (.ref (He.ma K (He.ga K C) m)) "__get__" = some (some (.builtin "function.__get__"))
  tk : PySem.W.takesIn K (.ref (He.ma K (He.ga K C) m)) = some false
  fi : PySem.W.fnIn K (He.ma K (He.ga K C) m) = true
def isBm (K : PySem.W.Frag) (C m : Str) : Bool :=
  He.eqO (PySem.W.specialIn K (.ref (He.ma K (He.ga K C) m)) "__get__") (some (some (.builtin "function.__get__"))) && (decide (PySem.W.takesIn K (.ref (He.ma K (He.ga K C) m)) = some false) && PySem.W.fnIn K (He.ma K (He.ga K C) m))
theorem isBm_ok {K : PySem.W.Frag} {C m : Str} (h : isBm K C m = true) : BmOf K C m := by
  obtain ⟨h1, h⟩ := He.ba h
  obtain ⟨h2, h3⟩ := He.ba h
  exact ⟨He.eqO_ok h1, of_decide_eq_true h2, h3⟩
theorem BmOf.b {K : PySem.W.Frag} {C m : Str} (h : BmOf K C m) (mt : Meth K (He.ga K C) m (He.ma K (He.ga K C) m)) (cp : PySem.W.copiedNames.contains m = false := by decide +kernel) : BMeth K (He.ga K C) m (He.ma K (He.ga K C) m) := ⟨mt, h.gf, h.tk, cp, h.fi⟩
def rLenO (C : Addr) (sp : Sp) (E : XK) : List V → Hp → VK → Prop := fun vs H Q => ∃ a dx fs, vs = [.ref a] ∧ H a = some (.ins C dx fs) ∧ sp [.ref a] H (fun v H' => ∃ n : Int, v = .int n ∧ 0 ≤ n ∧ n < 2 ^ 63 ∧ Q (.int n) H') E
section
open PySem.W PySem.Calls
variable {X : Cx} {CX : CXT} {k j : Nat} {C g : Addr} {sp : Sp} {E : XK}
theorem cr_lenO (hs : PySem.W.findIn X.K (.ref C) "__len__" = some (some (.ref g))) (hf : PySem.W.isFn X.K (.ref g) = true) (F : FnR X.prog X.w X.K X.mg X.base CX k g sp) (hr : Room j X.A) (hx : Passes CX X E) (hj : k + 1 ≤ j := by decide) : CallR X (.builtin "len") (rLenO C sp E) := by
  intro pins s σ H vs us Q I r h
  obtain ⟨a, dx, fs, rfl, ha, q⟩ := h
  rw [Vals.ref1 r]
  obtain ⟨ox, od, J, _⟩ := ins_at I ha
  have hr1 : Room (k + 1) X.A := hr.mono hj
  have run : wpAny (model X.prog X.w) X.A.in1 (call (.ref g) [.ref a]) (EP X pins σ (fun v H' => ∃ n : Int, v = .int n ∧ 0 ≤ n ∧ n < 2 ^ 63 ∧ Q (.int n) H')) X.xe s := by
    refine wpAny_call (codeAny_mono (F X.A.in1 X.stack s H [.ref a] [.ref a] _ E hr1.in1 I.env0.in1 (.cons rfl .nil) q) ?_)
    rintro (er | fl) s' hq
    · exact hx pins σ H s er s' I hq
    · cases fl with
      | ret u => exact I.after hq
      | next => exact hq.elim
      | brk => exact hq.elim
      | cont => exact hq.elim
  refine Calls.call_function_entry kind_len plain_len entry_len (args_len1 _) ?_
  unfold Builtin.«len»
  refine wpAny_bind (m := oneArg "len" _) (wpAny_pure ?_)
  refine wpAny_bind (m := callSpecial? (.ref a) (Str.ofString "__len__")) (PySem.W.special_fn I.kIn J hs (beq_iff_eq.mp hf) (wpAny_mono run (fun r s' hr => ?_) fun _ _ y => y))
  obtain ⟨v, H', I', rv, n, rfl, h0, h1, hq⟩ := hr
  obtain ⟨u, rfl⟩ := (show ∃ t, r = Value.int n t from rv)
  refine wpAny_bind (wpAny_holding (wpAny_pure ?_))
  refine wpAny_bind (wpAny_letGo ?_)
  show wpAny _ _ (if n < 0 then _ else _) _ _ _
  rw [if_neg (by omega)]
  show wpAny _ _ (if n ≥ 2 ^ 63 then _ else _) _ _ _
  rw [if_neg (by omega)]
  exact wpAny_bind (wpAny_mkInt (wpAny_pure ⟨_, rfl, ⟨.int n, H', I'.tok _, ⟨_, rfl⟩, hq⟩⟩))
end
section
variable {X : Cx} {CX : CXT} {k j : Nat} {C g : Addr} {m : Str} {sp : Sp} {E : XK} {o e1 e2 : Expr} {ta t1 t2 : TE} {p apos pos : Pos}
theorem pe_mSB (he : PE X o ta) (c : Cls X.K C) (b : BMeth X.K C m g) (F : FnR X.prog X.w X.K X.mg X.base CX k g sp) (hr : Room j X.A) (hx : Passes CX X E) (h1 : PE X e1 t1) (h2 : PE X e2 t2) (hj : k ≤ j := by decide) (hbase : attributeBase o m X.env (eval o X.env) = eval o X.env := by rfl)
    (hst : starEach [e1, .Starred e2 p] X.env = [(false, eval e1 X.env), (true, eval e2 X.env)] := by rfl) : PE X (.Call (.Attribute o m apos) [e1, .Starred e2 p] [] pos) (tMethSB X.K C m g sp E ta t1 t2) := pe_methSB he c b F (hr.mono hj) hx h1 h2 hbase hst
theorem go_mSB {K : PySem.W.Frag} {σ : L2.St} {H : Hp} {Q : VK} (h : ta σ H fun x H1 => ∃ a dx fs, x = .ref a ∧ H1 a = some (.ins C dx fs) ∧ fs.lookup m = none ∧
  ∀ q, H1 q = none → t1 σ (upd H1 q (.met g a)) fun y1 H2 => t2 σ H2 fun y2 H3 => ∃ b vs, y2 = .ref b ∧ (SqT K H3 b vs ∨ SqL K H3 b vs) ∧ H3 q = some (.met g a) ∧ sp (.ref a :: y1 :: vs) H3 Q E) : tMethSB K C m g sp E ta t1 t2 σ H Q := h
end
end Bk
/-! own != own, by __eq__ -/
namespace Bk
open PySem PySem.Spec PyProof.Rows L2
structure EqOf (K : PySem.W.Frag) (C : Str) : Prop where
  eq : PySem.W.findIn K (.ref (He.ga K C)) "__eq__" = some (some (.ref (He.ma K (He.ga K C) "__eq__")))
  fn : PySem.W.isFn K (.ref (He.ma K (He.ga K C) "__eq__")) = true
  ne : PySem.W.findIn K (.ref (He.ga K C)) "__ne__" = some (some (.builtin "object.__ne__"))
def isEqo (K : PySem.W.Frag) (C : Str) : Bool :=
  He.eqO (PySem.W.findIn K (.ref (He.ga K C)) "__eq__") (some (some (.ref (He.ma K (He.ga K C) "__eq__")))) && (PySem.W.isFn K (.ref (He.ma K (He.ga K C) "__eq__")) && He.eqO (PySem.W.findIn K (.ref (He.ga K C)) "__ne__") (some (some (.builtin "object.__ne__"))))
theorem isEqo_ok {K : PySem.W.Frag} {C : Str} (h : isEqo K C = true) : EqOf K C := by
  obtain ⟨h1, h⟩ := He.ba h
  obtain ⟨h2, h3⟩ := He.ba h
  exact ⟨He.eqO_ok h1, h2, He.eqO_ok h3⟩
section
open PySem.W PySem.Calls PySem.Builtin
variable {M : Model} {prog : Program} {w : World} {A : Around} {E : Value → Shared → Prop} {s : Shared} {K : Frag} {x y C f : Addr} {ox oy : Obj} {od oe : Option Obj}
theorem special_K {name : Str} {r : Option Value} {Q : Option Value → Shared → Prop} (X : K.In s.heap) (I : W.InstAt s.heap x ox C od) (hs : findIn K (.ref C) name = some r) (h : Q r s) : wpAny M A (specialOf (.ref x) name) Q E s := by
  unfold specialOf
  exact wpAny_bind (I.type.here ((looks_findIn X hs).here h))
theorem bound_K {name : Str} {args : List Value} {v : Value} {Q : Option Value → Shared → Prop} (X : K.In s.heap) (I : W.InstAt s.heap x ox C od) (hs : findIn K (.ref C) name = some (some v)) (hb : ∀ (E : Value → Shared → Prop) (Q : Value × List Value → Shared → Prop), Q (v, [.ref x]) s → wpAny M A (bindSpecial v (.ref x)) Q E s)
    (h : wpAny M A (call v (.ref x :: args)) (fun r => Q (some r)) E s) : wpAny M A (callSpecialIfBound? (.ref x) name args) Q E s := by
  simp only [callSpecialIfBound?, bindSpecialIfBound?]
  refine wpAny_holding (wpAny_bind (wpAny_bind (special_K X I hs ?_)))
  refine wpAny_bind (wpAny_askSetting (wpAny_ite ?_))
  have fin : wpAny M A (call v ([.ref x] ++ args) >>= fun r => pure (some r)) Q E s := wpAny_bind (wpAny_mono h (fun r s' h' => wpAny_pure h') fun _ _ h' => h')
  split
  · exact wpAny_bind (hb _ _ (wpAny_pure (by exact fin)))
  · exact wpAny_tryCatch (wpAny_bind (hb _ _ (wpAny_pure (by exact fin))))
theorem check_K {id owner n : String} {rest : List Value} {Q : Unit → Shared → Prop} (hk : builtinKind id = some .slot) (hs : splitId id = some (owner, n)) (ha : argsOk id ⟨.ref x :: rest, []⟩) (X : K.In s.heap) (I : W.InstAt s.heap x ox C od) (hm : mroIn K C (.type owner) = some true) (hq : Q () s) :
    wpAny M A (checkBuiltinCall id ⟨.ref x :: rest, []⟩) Q E s := by
  simp only [checkBuiltinCall, hk, hs]
  refine wpAny_bind ?_
  simp only [isInstance]
  refine wpAny_bind (I.type.here ((looks_subIn (t := .ref C) (base := .type owner) X hm).here ?_))
  cases hsig : Manifest.signature? id with
  | none => exact wpAny_pure hq
  | some sig =>
    simp only [argsOk, hsig] at ha
    have h2 : Bind.checkArgs id sig ⟨.ref x :: rest, []⟩ = pure () := ha
    show wpAny M A (Bind.checkArgs id sig ⟨.ref x :: rest, []⟩) Q E _
    rw [h2]
    exact wpAny_pure hq
theorem neBody_K {Q : PySem.Fin → Shared → Prop} (X : K.In s.heap) (I : W.InstAt s.heap x ox C od) (he : findIn K (.ref C) "__eq__" = some (some (.ref f))) (hf : isFn K (.ref f) = true) (hu : A.units < cLine)
    (h : wpAny (model prog w) A (call (.ref f) [.ref x, .ref y]) (fun v s' => ∃ b, v = .bool b ∧ Q (.done (.ret (.bool (!b)))) s') E s) : wpAny (model prog w) A (Builtin.«object.__ne__» ⟨[.ref x, .ref y], []⟩) Q E s := by
  unfold Builtin.«object.__ne__»
  repeat (first
    | with_reducible refine wpAny_cRoomFor hu ?_
    | (refine wpAny_bind (m := callSpecialIfBound? (.ref x) (Str.ofString "__eq__") [.ref y])
        (bound_K X I he (fun E Q q => (bind_fn X (.ref x) (beq_iff_eq.mp hf)).here q) (wpAny_mono h (fun r s' hr => by
          obtain ⟨b, rfl, hq⟩ := hr
          repeat (first | exact hq | exact wpAny_pure hq | exact wpAny_truthy_bool hq | (refine wpAny_bind (m := truthy (.bool _)) (wpAny_truthy_bool ?_)) | wp_step)) fun _ _ e => e)))
    | wp_step)
theorem ne_K {Q : Value → Shared → Prop} (X : K.In s.heap) (I : W.InstAt s.heap x ox C od) (J : W.InstAt s.heap y oy C oe) (he : findIn K (.ref C) "__eq__" = some (some (.ref f))) (hf : isFn K (.ref f) = true) (hn : findIn K (.ref C) "__ne__" = some (some (.builtin "object.__ne__"))) (hm : mroIn K C (.type "object") = some true) (hu : A.units + 1 < cLine)
    (h : wpAny (model prog w) A.in1 (call (.ref f) [.ref x, .ref y]) (fun v s' => ∃ b, v = .bool b ∧ Q (.bool (!b)) s') E s) : wpAny (model prog w) A (compareOp .NotEq (.ref x) (.ref y)) Q E s := by
  unfold compareOp richCompare
  simp only [oneThing_ref]
  refine wpAny_holding ?_
  refine wpAny_bind (wpAny_cRoomFor (Nat.lt_of_succ_lt hu) ?_)
  rw [cmpInfo_NotEq]
  dsimp only
  refine wpAny_bind (I.type.here ?_)
  refine wpAny_bind (J.type.here ?_)
  rw [show (Value.ref C != Value.ref C) = false from by simp]
  simp only [Bool.false_eq_true, if_false]
  refine wpAny_bind (wpAny_pure ?_)
  simp only [Bool.false_eq_true, if_false]
  refine wpAny_bind (m := tryCompare (.ref x) "__ne__" (.ref y)) ?_
  simp only [tryCompare]
  refine wpAny_bind (bound_K X I hn (fun E Q q => by rw [PySem.F.cmp_object.ne.bind]; exact wpAny_pure q) (wpAny_call (codeAny_call_builtin PySem.F.cmp_object.ne.plain PySem.F.cmpEntry_ne ?_)))
  refine check_K PySem.F.cmpKind_ne PySem.F.cmpSplit_ne (PySem.F.cmpArgs_ne _ _) X I hm (neBody_K (A := A.in1) X I he hf hu (wpAny_mono h (fun v s' hv => ?_) fun _ _ e => e))
  obtain ⟨b, rfl, hq⟩ := hv
  first | exact ⟨b, rfl, wpAny_pure (wpAny_pure hq)⟩ | exact ⟨b, rfl, wpAny_pure hq⟩ | exact ⟨b, rfl, hq⟩
end
def rNeO (C : Addr) (sp : Sp) (E : XK) : R2 := fun x y H Q => ∃ a b dx dy fs gs, x = .ref a ∧ y = .ref b ∧ H a = some (.ins C dx fs) ∧ H b = some (.ins C dy gs) ∧ sp [.ref a, .ref b] H (fun v H' => ∃ c, v = .bl c ∧ Q (.bl (!c)) H') E
theorem op_neO {X : Cx} {CX : CXT} {k j : Nat} {C g : Addr} {sp : Sp} {E : XK} (he : PySem.W.findIn X.K (.ref C) "__eq__" = some (some (.ref g))) (hf : PySem.W.isFn X.K (.ref g) = true) (hn : PySem.W.findIn X.K (.ref C) "__ne__" = some (some (.builtin "object.__ne__"))) (hm : PySem.W.mroIn X.K C (.type "object") = some true)
    (F : FnR X.prog X.w X.K X.mg X.base CX k g sp) (hr : Room j X.A) (hu : X.A.units + 64 < cLine) (hx : Passes CX X E) (hj : k + 1 ≤ j := by decide) : OpR X (compareOp .NotEq) (rNeO C sp E) := by
  intro pins s σ H x y v u Q I rx ry h
  obtain ⟨a, b, dx, dy, fs, gs, rfl, rfl, ha, hb, q⟩ := h
  cases (show v = Value.ref a from rx)
  cases (show u = Value.ref b from ry)
  obtain ⟨ox, od, J, _⟩ := ins_at I ha
  obtain ⟨oy, oe, J', _⟩ := ins_at I hb
  have hr1 : Room (k + 1) X.A := hr.mono hj
  have run : wpAny (model X.prog X.w) X.A.in1 (call (.ref g) [.ref a, .ref b]) (EP X pins σ (fun v H' => ∃ c, v = .bl c ∧ Q (.bl (!c)) H')) X.xe s := by
    refine wpAny_call (codeAny_mono (F X.A.in1 X.stack s H [.ref a, .ref b] [.ref a, .ref b] _ E hr1.in1 I.env0.in1 (.cons rfl (.cons rfl .nil)) q) ?_)
    rintro (er | fl) s' hq
    · exact hx pins σ H s er s' I hq
    · cases fl with
      | ret u => exact I.after hq
      | next => exact hq.elim
      | brk => exact hq.elim
      | cont => exact hq.elim
  refine ne_K I.kIn J J' he hf hn hm (by omega) (wpAny_mono run (fun r s' hr' => ?_) fun _ _ z => z)
  obtain ⟨v, H', I', rv, c, rfl, hq⟩ := hr'
  cases (show r = Value.bool c from rv)
  exact ⟨c, rfl, ⟨.bl (!c), H', I', rfl, hq⟩⟩
end Bk
namespace PySem
open Sem (wp)
section
variable {M : Model} {A : Around} {R : GenEnd} {Y : Protocol} {n : Nat} {s₀ : Shared} {c : Code} {fs : List Frame} {s : Shared} {env : Env}
  {K : Flow → Sem Fin} {H : Value → Sem Fin} {gd : Bool → Bool} {lv : List Value → List Value}
def iterOf (iter : Expr) (env : Env) : Sem Value := do
  let x ← foldedSetIterable iter env (← eval iter env)
  standAt iter.pos
  holding [x] (pyIter x)
theorem exec_For2 (target iter body orelse pos) : exec (.For target iter body orelse pos) env = (do
    standAt pos
    let it ← iterOf iter env
    runOwn (.forLoop target it body orelse env) env) := by
  rw [exec_For]
  unfold iterOf
  simp only [bind_assoc]
theorem seg_For {target iter : Expr} {body orelse : List Stmt} {pos : Pos}
    (h : wpAny M (A.over c fs) (iterOf iter env) (fun it s' => ∀ p, Seg M A R Y n s₀ (.forLoop target it body orelse env) (M.den (.forLoop target it body orelse env))
      (.ret (fun r => ((match r with | .ok f => (.pure f : Sem Flow) | .error e => .raise e).onRaise fun (x : Value) => do
        if (← field x 1) == Value.none then unsupported "frame.own-activation:exception-without-traceback"
        setFlight x env.frame).wrap K H gd lv) none (gd false) (lv []) c p [] :: fs) s') (fun x s' => Seg M A R Y n s₀ c (H x) fs s') s) :
    Seg M A R Y n s₀ c ((exec (.For target iter body orelse pos) env).wrap K H gd lv) fs s := by
  rw [exec_For2]
  show Seg M A R Y n s₀ c (.at pos fun _ => ((iterOf iter env >>= fun it => runOwn (.forLoop target it body orelse env) env)).wrap K H gd lv) fs s
  refine seg_at ?_
  rw [Sem.bind_eq_wrap', Sem.wrap_wrap]
  refine seg_wrap (wpAny_mono h (fun it s' h' => ?_) fun _ _ x => x)
  exact seg_call h'
end
section
variable {prog : Program} {w : World} {A : Around} {R : GenEnd} {Y : Protocol} {n : Nat} {s₀ : Shared} {fs : List Frame} {s : Shared} {env : Env}
theorem seg_forLoop {target : Expr} {it : Value} {body orelse : List Stmt}
    (h : wpAny (model prog w) (A.over (.forLoop target it body orelse env) fs) (pyNext it) (fun r s1 => match r with
        | none => Seg (model prog w) A R Y n s₀ (.forLoop target it body orelse env) (.pure (.again (.block orelse env))) fs s1
        | some v => wpAny (model prog w) (A.over (.forLoop target it body orelse env) fs) (letOwnedTupleGo target it v) (fun _ s2 => wpAny (model prog w) (A.over (.forLoop target it body orelse env) fs) (assign target env v) (fun _ s3 =>
            Seg (model prog w) A R Y n s₀ (.forLoop target it body orelse env) ((execs body env).wrap (fun f => match f with
            | .next | .cont => .pure (.again (.forLoop target it body orelse env))
            | .brk => .pure (.done .next)
            | .ret v => .pure (.done (.ret v))) (fun e => (do noteFrame e env; theTreesLotGoes e : Sem Unit).wrap (fun _ => .raise e) .raise id id) id id) fs s3)
            (fun x s' => Seg (model prog w) A R Y n s₀ (.forLoop target it body orelse env) ((do noteFrame x env; theTreesLotGoes x : Sem Unit).wrap (fun _ => .raise x) .raise id id) fs s') s2)
            (fun x s' => Seg (model prog w) A R Y n s₀ (.forLoop target it body orelse env) ((do noteFrame x env; theTreesLotGoes x : Sem Unit).wrap (fun _ => .raise x) .raise id id) fs s') s1)
      (fun x s' => Seg (model prog w) A R Y n s₀ (.forLoop target it body orelse env) ((do noteFrame x env; theTreesLotGoes x : Sem Unit).wrap (fun _ => .raise x) .raise id id) fs s') s) :
    Seg (model prog w) A R Y n s₀ (.forLoop target it body orelse env) ((model prog w).den (.forLoop target it body orelse env)) fs s := by
  show Seg _ A R Y n s₀ _ ((forTurn target it body orelse env).onRaise (fun x => do noteFrame x env; theTreesLotGoes x)) fs s
  have ex : ∀ (x : Value) (s' : Shared), Seg (model prog w) A R Y n s₀ (.forLoop target it body orelse env) ((do noteFrame x env; theTreesLotGoes x : Sem Unit).wrap (fun _ => .raise x) .raise id id) fs s' → Seg (model prog w) A R Y n s₀ (.forLoop target it body orelse env) ((do noteFrame x env; theTreesLotGoes x : Sem Unit).bind fun _ => .raise x) fs s' := fun x s' hx => by rw [Sem.bind_eq_wrap]; exact hx
  unfold forTurn
  rw [Sem.onRaise_eq_wrap]
  show Seg _ A R Y n s₀ _ (.at target.pos fun _ => Sem.wrap _ _ _ _ (((pyNext it).onRaise _) >>= _)) fs s
  refine seg_at ?_
  rw [Sem.bind_eq_wrap', Sem.wrap_wrap]
  refine seg_wrap (wpAny_onRaise (wpAny_mono h (fun r s1 h1 => ?_) fun x s' hx => wpAny_standAt ?_))
  · cases r with
    | none => exact h1
    | some v =>
      show Seg _ A R Y n s₀ _ (Sem.wrap _ _ _ _ (letOwnedTupleGo target it v >>= fun _ => (assign target env v >>= fun _ => _))) fs s1
      rw [Sem.bind_eq_wrap', Sem.wrap_wrap]
      refine seg_wrap (wpAny_mono h1 (fun _ s2 h2 => ?_) fun x s' hx => ?_)
      · rw [Sem.bind_eq_wrap', Sem.wrap_wrap]
        refine seg_wrap (wpAny_mono h2 (fun _ s3 h3 => ?_) fun x s' hx => ?_)
        · rw [Sem.bind_eq_wrap', Sem.wrap_wrap]
          rw [Sem.wrap_congr (execs body env) _ _ (K' := fun f => match f with
            | .next | .cont => .pure (.again (.forLoop target it body orelse env))
            | .brk => .pure (.done .next)
            | .ret v => .pure (.done (.ret v))) (H' := (fun e => (do noteFrame e env; theTreesLotGoes e : Sem Unit).wrap (fun _ => .raise e) .raise id id))
            (fun f => by cases f <;> rfl)
            (fun e => by first | exact Sem.bind_eq_wrap _ _ | (show (do noteFrame e env; theTreesLotGoes e : Sem Unit).bind (fun _ => .raise e) = _; rw [Sem.bind_eq_wrap]))]
          exact h3
        · exact ex x s' hx
      · exact ex x s' hx
  · exact ex x s' hx
end
end PySem
namespace L2
open PySem PySem.Spec PyProof.Rows GenW
section
variable {X : Cx} {tg : Expr}
def tGFor (wi : TI) (g : TG) (tb : TGn) : TGn := fun D ys σ H => wi σ H fun J H1 => ∃ W : Nat → Nat → List V → St → Hp → Prop, (∃ m, W 0 m ys σ H1) ∧ ∀ i m ys σ H, W i m ys σ H →
  (J.stop i H ∧ D.nx ys σ H) ∨ (J.go i H ∧ ∃ N : List V → St → Hp → Prop, (∀ ys' σ' H', N ys' σ' H' → ∃ m', m' < m ∧ W (i + 1) m' ys' σ' H') ∧ ∀ x H', J.yld i H x H' → g x σ H' fun σ2 H2 => tb { D with nx := N, ct := N, bk := D.nx } ys σ2 H2)
theorem gs_for {iter : Expr} {body : List Stmt} {wi : TI} {g : TG} {tb : TGn} {pos : Pos} (hp : PassesOwn (model X.prog X.w) X.A X.env X.xe) (hc : X.calm = true) (hi : PI X tg iter wi) (hg : PG X tg g) (hb : GSs X body tb)
    (hs : ∀ x, foldedSetIterable iter X.env x = pure x := by intro _; rfl) : GS X (.For tg iter body [] pos) (tGFor wi g tb) := by
  refine ⟨fun A S ip R n ys s₀ c fs K J gd lv s σ H D gc hn k hI ht => ?_⟩
  obtain ⟨acc0, cc0, r0, I0⟩ := hI
  refine seg_For ?_
  rw [gc.over]
  unfold iterOf
  refine wpAny_bind (wpAny_mono (hi.run _ s σ H _ I0 ht) (fun v s1 h1 => wpAny_bind (wpAny_of_eq (hs v) (wpAny_bind (wpAny_standAt (wpAny_holding (wpAny_mono h1 (fun itv s2 h2 p => ?_) fun x s' hx => k.exc n s₀ x s' hx)))))) fun x s' hx => k.exc n s₀ x s' hx)
  obtain ⟨it, fp, tn, JJ, H2, e, I2, T, st2, f2, W, ⟨m0, w0⟩, turn⟩ := h2
  subst e
  have gl := fun (kk : Result → Sem PySem.Fin) => gc_loop (k := kk) (c' := .forLoop tg (.ref it) body [] X.env) (l := lv []) (kp := []) (p := p) gc rfl rfl
  have stat : ∀ {acc : Array Value} {cc : Nat} {H' : Hp}, (∀ b ∈ fp, H' b = none) → ∀ b ∈ fp, FpOk X ((S, lstObj acc cc) :: ip) H' b := fun hn b hb => by
    obtain ⟨_, a1, a2, a3, a4, a5⟩ := f2 b hb
    refine ⟨hn b hb, a1, a2, a3, a4, fun q hq => ?_⟩
    rcases List.mem_append.mp hq with z | z
    · exact a5 q (List.mem_append_left _ z)
    · rcases List.mem_cons.mp z with z | z
      · rw [z]
        exact a5 (S, lstObj acc0 cc0) (List.mem_append_right _ List.mem_cons_self)
      · exact a5 q (List.mem_append_right _ (List.mem_cons_of_mem _ z))
  have loop : ∀ (m i n : Nat) (ys : List V) (s₀ s : Shared) (σ : St) (H : Hp), n + ys.length = sizeLine → W i m ys σ H → GI X S ip ys σ H s → tn i s.heap → (∀ b ∈ fp, H b = none) →
      Seg (model X.prog X.w) A R (GY X S) n s₀ (.forLoop tg (.ref it) body [] X.env) ((model X.prog X.w).den (.forLoop tg (.ref it) body [] X.env))
        (.ret (fun r => ((match r with | .ok f => (.pure f : Sem Flow) | .error e => .raise e).onRaise (cameBack X.env)).wrap K J gd lv) none (gd false) (lv []) c p [] :: fs) s := by
    intro m
    induction m using Nat.strongRecOn with
    | ind m ih =>
      intro i n ys s₀ s σ H hn w hI st fr
      have ee : ∀ (n : Nat) (s₀ : Shared) (x : Value) (s' : Shared), X.xe x s' → Seg (model X.prog X.w) A R (GY X S) n s₀ (.forLoop tg (.ref it) body [] X.env)
          ((do noteFrame x X.env; theTreesLotGoes x : Sem Unit).wrap (fun _ => .raise x) .raise id id)
          (.ret (fun r => ((match r with | .ok f => (.pure f : Sem Flow) | .error e => .raise e).onRaise (cameBack X.env)).wrap K J gd lv) none (gd false) (lv []) c p [] :: fs) s' := fun n s₀ x s' hx => by
        refine seg_wrap ?_
        rw [(gl _).over]
        refine wpAny_bind (wpAny_mono (hp x s' hx) (fun _ s'' hcb => wpAny_theTreesLotGoes ?_) fun y s'' hcb => ?_)
        · exact seg_leaf (.error x) (seg_cameBack gc k hcb)
        · exact seg_leaf (.error y) (seg_cameBack gc k hcb)
      refine seg_forLoop ?_
      rw [(gl _).over]
      obtain ⟨acc, cc, r, I⟩ := hI
      rcases turn i m ys σ H w with ⟨stop, qn⟩ | ⟨go, N, hN, step⟩
      · refine wpAny_mono (T.done X rfl rfl rfl hc i _ s σ H X.xe I (stat fr) st stop) (fun rr s4 ⟨hr, I4⟩ => ?_) fun x s' hx => ee n s₀ x s' hx
        subst hr
        refine seg_again rfl ?_
        show Seg _ A R _ n s₀ _ (((execs [] X.env).onRaise _) >>= _) _ s4
        rw [Sem.onRaise_eq_wrap, Sem.bind_eq_wrap', Sem.wrap_wrap]
        refine seg_execs_nil ?_
        exact seg_leaf (.ok .next) (k.ok n ys s₀ s4 .next hn ⟨σ, H, ⟨acc, cc, r, I4⟩, qn⟩)
      · refine wpAny_mono (T.item X rfl rfl rfl hc i _ s σ H X.xe I (stat fr) st go) (fun rr s4 ⟨u, hr, h4⟩ => ?_) fun x s' hx => ee n s₀ x s' hx
        subst hr
        refine wpAny_mono h4 (fun _ s5 ⟨x, H5, I5, r5, y5, st5, fr5⟩ => ?_) fun x s' hx => ee n s₀ x s' hx
        have I5' := I5.pinned (stat fr5) (T.obj _ _ st5)
        refine wpAny_mono (hg.run _ s5 σ H5 x u _ I5' r5 (step x H5 y5)) (fun _ s6 ⟨σ6, H6, I6, q6⟩ => ?_) fun x s' hx => ee n s₀ x s' hx
        have hipS : ∀ q ∈ ip ++ pinsAt fp s5.heap, q.1 ≠ S := fun q hq => by
          rcases List.mem_append.mp hq with z | z
          · exact gc.ip q z
          · obtain ⟨hb, _⟩ := of_pinsAt z
            exact fun e => (f2 q.1 hb).2.2.2.2.2 (S, lstObj acc0 cc0) (List.mem_append_right _ List.mem_cons_self) e.symm
        have gl2 : GC X S (ip ++ pinsAt fp s5.heap) A (.forLoop tg (.ref it) body [] X.env) (.ret (fun r => ((match r with | .ok f => (.pure f : Sem Flow) | .error e => .raise e).onRaise (cameBack X.env)).wrap K J gd lv) none (gd false) (lv []) c p [] :: fs) id :=
          ⟨gc.pn, hipS, gc.apart, (gl _).over, (gl _).split, (gl _).guard, rfl⟩
        have unp : ∀ {ys7 : List V} {σ7 : St} {H7 : Hp} {s7 : Shared}, GI X S (ip ++ pinsAt fp s5.heap) ys7 σ7 H7 s7 → GI X S ip ys7 σ7 H7 s7 := fun ⟨a7, c7, r7, I7⟩ =>
          ⟨a7, c7, r7, Inv.unpinned (pins := (S, lstObj a7 c7) :: ip) (pl := pinsAt fp s5.heap) I7⟩
        have again : ∀ {n7 : Nat} {ys7 : List V} {σ7 : St} {H7 : Hp} {s₀7 s7 : Shared}, n7 + ys7.length = sizeLine → GI X S (ip ++ pinsAt fp s5.heap) ys7 σ7 H7 s7 → N ys7 σ7 H7 →
            Seg (model X.prog X.w) A R (GY X S) n7 s₀7 (.forLoop tg (.ref it) body [] X.env) (.pure (.again (.forLoop tg (.ref it) body [] X.env)))
              (.ret (fun r => ((match r with | .ok f => (.pure f : Sem Flow) | .error e => .raise e).onRaise (cameBack X.env)).wrap K J gd lv) none (gd false) (lv []) c p [] :: fs) s7 := fun {n7 ys7 σ7 H7 s₀7 s7} hn7 g7 n7' => by
          obtain ⟨m', hm, w7⟩ := hN ys7 σ7 H7 n7'
          have hu := unp g7
          obtain ⟨a7, c7, r7, I7⟩ := g7
          have pin : ∀ q ∈ pinsAt fp s5.heap, s7.heap.get? q.1 = some q.2 ∧ H7 q.1 = none := fun q hq => by
            have := I7.pin q (List.mem_append_right _ (List.mem_cons_of_mem _ (List.mem_append_right _ hq)))
            exact ⟨this.1, this.2.1⟩
          refine seg_again rfl (ih m' hm (i + 1) n7 ys7 s₀7 s7 σ7 H7 hn7 w7 hu (T.keep _ _ _ st5 fun b hb o e => (pin (b, o) (mem_pinsAt hb e)).1) fun b hb => ?_)
          obtain ⟨o, e, d⟩ := T.obj _ _ st5 b hb
          exact (pin (b, o) (mem_pinsAt hb e)).2
        refine hb.run A S (ip ++ pinsAt fp s5.heap) R n ys s₀ _ _ _ _ id id s6 σ6 H6 { D with nx := N, ct := N, bk := D.nx } gl2 hn ⟨fun n' ys' s₀' s7 f hn' hs => ?_, fun n' s₀' x s3 hx => ee n' s₀' x s3 hx⟩ ⟨acc, cc, r, I6⟩ q6
        cases f with
        | next => obtain ⟨σ7, H7, I7, n7⟩ := hs; exact again hn' I7 n7
        | cont => obtain ⟨σ7, H7, I7, n7⟩ := hs; exact again hn' I7 n7
        | brk => obtain ⟨σ7, H7, I7, q7⟩ := hs; exact seg_leaf (.ok .next) (k.ok n' ys' s₀' s7 .next hn' ⟨σ7, H7, unp I7, q7⟩)
        | ret v => obtain ⟨x7, σ7, H7, I7, r7, q7⟩ := hs; exact seg_leaf (.ok (.ret v)) (k.ok n' ys' s₀' s7 (.ret v) hn' ⟨x7, σ7, H7, unp I7, r7, q7⟩)
  exact loop m0 0 n ys s₀ s2 σ H2 hn w0 ⟨acc0, cc0, r0, I2⟩ st2 fun b hb => (f2 b hb).1
end
end L2
namespace L2
open PySem PySem.Spec PyProof.Rows GenW
section
variable {X : Cx}
theorem GSs.nox {st : List Stmt} {t : TGn} (h : GSs X.nox st t) : GSs X st t := by
  refine ⟨fun A S ip R n ys s₀ c fs K J gd lv s σ H D g hn k hI ht => ?_⟩
  have up : ∀ {ip : List (Addr × Obj)} {ys : List V} {σ : St} {H : Hp} {s : Shared}, GI X.nox S ip ys σ H s → GI X S ip ys σ H s := fun ⟨acc, c, r, I⟩ => ⟨acc, c, r, I.unwish⟩
  have dn : ∀ {ip : List (Addr × Obj)} {ys : List V} {σ : St} {H : Hp} {s : Shared}, GI X S ip ys σ H s → GI X.nox S ip ys σ H s := fun ⟨acc, c, r, I⟩ => ⟨acc, c, r, I.wish _⟩
  have eY : GY X.nox S = GY X S := by
    funext n s₀ v s kap
    refine propext ⟨fun ⟨ys, x, ip, σ, H, a, b, c, d⟩ => ⟨ys, x, ip, σ, H, a, b, up c, d⟩, fun ⟨ys, x, ip, σ, H, a, b, c, d⟩ => ⟨ys, x, ip, σ, H, a, b, dn c, d⟩⟩
  have q := h.run A S ip R n ys s₀ c fs K J gd lv s σ H D ⟨g.pn, g.ip, g.apart, g.over, g.split, g.guard, g.gd⟩ hn ⟨fun n' ys' s₀' s' f hn' hs => ?_, fun _ _ _ _ z => False.elim z⟩ (dn hI) ht
  · rw [eY] at q
    exact q
  · rw [eY]
    refine k.ok n' ys' s₀' s' f hn' ?_
    cases f with
    | next => obtain ⟨σ', H', I, q⟩ := hs; exact ⟨σ', H', up I, q⟩
    | brk => obtain ⟨σ', H', I, q⟩ := hs; exact ⟨σ', H', up I, q⟩
    | cont => obtain ⟨σ', H', I, q⟩ := hs; exact ⟨σ', H', up I, q⟩
    | ret u => obtain ⟨v, σ', H', I, r, q⟩ := hs; exact ⟨v, σ', H', up I, r, q⟩
end
/-- a generator def's promise, its binding beside it -/
structure GFx (P : Program) (w : World) (K : PySem.W.Frag) (mg : Str → Option Value) (base : Heap) (k : Nat) (f : Addr) (sp : SpG) : Prop where
  ex : ∃ (fd : FuncData) (ps : List Str), GFn P w K mg base k f fd ps sp ∧ Binds K fd ps []
section
variable {P : Program} {w : World} {K : PySem.W.Frag} {mg : Str → Option Value} {base : Heap} {x qual : Str} {params : Arguments} {body : List Stmt} {scope : Scope} {f : Addr} {fd : FuncData} {N ps : List Str} {k : Nat} {sp : SpG}
theorem gfx_of (F : FunD K x qual params body scope [] [] f fd) (S : GScope N ps scope) (len : ∀ vs H Q E, sp vs H Q E → vs.length = ps.length)
    (hb : ∀ (kV doc pm : Value) (an : Option Addr) (cdv ct : Value) (us : List Value), us.length = ps.length → bindArgs (PySem.W.fnOf x qual params body scope .none kV doc pm an cdv ct) ⟨us, []⟩ = pure (ps.zip us))
    (h : ∀ (cdv : Value) (A : Around) (outer : List Env) (s : Shared) (H : Hp) (vs : List V) (Q : List V → Hp → Prop) (E : XK) (pn : List (Addr × Obj)), Room k (A.deeper (envOfC qual scope s.heap.objs.size f cdv)) → sp vs H Q E →
      ∃ t, GSs (gcxOf P w K mg base N qual scope f cdv A outer s H E pn).nox body t ∧ t { nx := fun ys _ H' => Q ys H', rt := fun ys v H' => v = .non ∧ Q ys H' } [] (start N vs) H) : GFx P w K mg base (k + 1) f sp := by
  have b := F.bindsN hb
  obtain ⟨oc, od, dV, kV, doc, pm, an, cdv, ct, osl, rfl, lk, hcd, _, _⟩ := F.ex
  refine ⟨⟨_, ps, gfn_of lk hcd S len fun A outer s H vs Q E pn hr hs => ?_, b⟩⟩
  obtain ⟨t, h1, h2⟩ := h cdv A outer s H vs Q E pn hr hs
  exact ⟨t, h1.nox, h2⟩
end
section
variable {X : Cx} {k j : Nat} {f C : Addr} {m nm : Str} {sp : SpG} {o e : Expr} {es : List Expr} {ta : TE} {t : TA} {p pos pos' apos : Pos} {pl : Sem Bool}
/-- list(o.m(e, ..)) of a generator method that lets nothing out -/
def tGenL (C : Addr) (m : Str) (sp : SpG) (ta : TE) (t : TA) : TE := fun σ H Q => ta σ H fun x H1 => ∃ a dx fs, x = .ref a ∧ H1 a = some (.ins C dx fs) ∧ fs.lookup m = none ∧
  t σ H1 fun vs H2 => sp (x :: vs) H2 (fun out H3 => ∀ q, H3 q = none → Q (.ref q) (upd H3 q (.lst out))) E0
theorem pe_genL (he : PE X o ta) (c : Cls X.K C) (hm : Meth X.K C m f) (F : GFx X.prog X.w X.K X.mg X.base k f sp) (hr : Room j X.A) (ha : PA X (e :: es) t) (hg : Gl X "list") (hmg : X.mg "list" = none) (hj : k + 3 ≤ j := by decide)
    (hst : starEach (e :: es) X.env = (false, eval e X.env) :: starEach es X.env := by rfl) (hpl : (backTo pos' (starEach es X.env)).any (·.1) = false := by rfl)
    (ht : eval (.Call (.Attribute o m apos) (e :: es) [] pos') X.env = (do
      let ov ← eval o X.env
      standAt apos.atName
      let (f, first) ← holding [ov] (getMethod ov m pl)
      callWith pos' f first (backTo pos' (starEach (e :: es) X.env)) (backToKw pos' (keywordEach [] X.env))) := by rfl)
    (hs2 : starEach [.Call (.Attribute o m apos) (e :: es) [] pos'] X.env = (false, eval (.Call (.Attribute o m apos) (e :: es) [] pos') X.env) :: starEach [] X.env := by rfl) :
    PE X (.Call (.Name "list" p) [.Call (.Attribute o m apos) (e :: es) [] pos'] [] pos) (tGenL C m sp ta t) := by
  obtain ⟨fd, ps, G, b⟩ := F.ex
  have h := pe_listG (p := p) (pos := pos) (pgen_meth (E := E0) (pl := pl) he c hm G (hr.mono (by omega)) b .nil ha hst hpl ht) passL (fun _ _ _ z => False.elim z) (hr.mono hj) hg hmg (by first | rfl | decide +kernel) (by decide) (by decide) hs2
  refine ⟨fun pins s σ H Q I hq => h.run pins s σ H Q I ?_⟩
  unfold tGenL at hq
  unfold tListG tMethG
  simpa only [List.append_nil] using hq
end
end L2
namespace L2
open PySem PySem.Spec PyProof.Rows GenW
theorem go_gthen {t u : TGn} {D : GEnds} {ys : List V} {σ : St} {H : Hp} (h : t { D with nx := fun ys' σ' H' => u D ys' σ' H' } ys σ H) : tGThen t u D ys σ H := h
theorem go_gplain {t : TS} {D : GEnds} {ys : List V} {σ : St} {H : Hp} (h : t { nx := D.nx ys, rt := D.rt ys, bk := D.bk ys, ct := D.ct ys } σ H) : tPlain t D ys σ H := h
theorem go_gyield {te : TE} {D : GEnds} {ys : List V} {σ : St} {H : Hp} (h1 : ys.length < sizeLine) (h : te σ H fun x H1 => D.nx (ys ++ [x]) σ H1) : tGYield te D ys σ H := ⟨h1, h⟩
theorem for_wG {J : It} {n : Nat} {G : Hp → Prop} {Y : Nat → Hp → V → Hp → Prop} (w : Walk J n G Y) {g : TG} {tb : TGn} {D : GEnds} {ys : List V} {σ : L2.St} {H : Hp} (Pv : Nat → List V → L2.St → Hp → Prop) (h0 : Pv 0 ys σ H) (hG : ∀ i ys σ H, i ≤ n → Pv i ys σ H → G H)
    (hs : ∀ i x ys σ H H', i < n → Pv i ys σ H → Y i H x H' → g x σ H' fun σ2 H2 => tb { D with nx := Pv (i + 1), ct := Pv (i + 1), bk := D.nx } ys σ2 H2) (hd : ∀ ys σ H, Pv n ys σ H → D.nx ys σ H) :
    ∃ W : Nat → Nat → List V → L2.St → Hp → Prop, (∃ m, W 0 m ys σ H) ∧ ∀ i m ys σ H, W i m ys σ H →
      (J.stop i H ∧ D.nx ys σ H) ∨ (J.go i H ∧ ∃ N : List V → L2.St → Hp → Prop, (∀ ys' σ' H', N ys' σ' H' → ∃ m', m' < m ∧ W (i + 1) m' ys' σ' H') ∧ ∀ x H', J.yld i H x H' → g x σ H' fun σ2 H2 => tb { D with nx := N, ct := N, bk := D.nx } ys σ2 H2) := by
  refine ⟨fun i m ys σ H => m = n - i ∧ i ≤ n ∧ Pv i ys σ H, ⟨n, by simp, Nat.zero_le _, h0⟩, ?_⟩
  rintro i m ys σ H ⟨rfl, hi, p⟩
  have q := hG i ys σ H hi p
  by_cases hlt : i < n
  · exact .inr ⟨w.goes i H hlt q, Pv (i + 1), fun ys' σ' H' p' => ⟨n - (i + 1), by omega, rfl, hlt, p'⟩, fun x H' y => hs i x ys σ H H' hlt p (w.yields i H x H' hlt q y)⟩
  · have e : i = n := by omega
    subst e
    exact .inl ⟨w.stops H q, hd ys σ H p⟩
end L2
namespace L2
open PySem PySem.Spec PyProof.Rows Bk
/-- a promise whose last parameters are named at the call -/
structure KFx (P : Program) (w : World) (K : PySem.W.Frag) (mg : Str → Option Value) (base : Heap) (k : Nat) (f : Addr) (n : Nat) (ks : List Str) (sp : Sp) : Prop where
  ex : ∃ (fd : FuncData) (ps : List Str), FnOk P w K mg base (L2.CX P w) k f fd ps sp ∧ KBn K fd ps n ks (fun us ws => us ++ ws) (fun vs zs => vs ++ zs)
section
variable {P : Program} {w : World} {K : PySem.W.Frag} {mg : Str → Option Value} {base : Heap} {x qual : Str} {params : Arguments} {body : List Stmt} {scope : Scope} {f : Addr} {fd : FuncData} {N ps ks : List Str} {k n : Nat} {sp : Sp}
theorem kfx_of (F : FunD K x qual params body scope [] [] f fd) (S : FnScope N ps scope) (len : ∀ vs H Q E, sp vs H Q E → vs.length = ps.length)
    (hb : ∀ (kV doc pm : Value) (an : Option Addr) (cdv ct : Value) (us ws : List Value), us.length = n → ws.length = ks.length → bindArgs (PySem.W.fnOf x qual params body scope .none kV doc pm an cdv ct) ⟨us, ks.zip ws⟩ = pure (ps.zip (us ++ ws)))
    (h : ∀ (cdv : Value) (A : Around) (outer : List Env) (s : Shared) (H : Hp) (vs : List V) (Q : VK) (E : XK), Room k (A.deeper (envOfC qual scope s.heap.objs.size f cdv)) → sp vs H Q E →
      ∃ t, PSs (Cb P w K mg base N qual scope f cdv A outer s H E).nox body t ∧ t { nx := fun _ H' => Q .non H', rt := Q } (start N vs) H) : KFx P w K mg base (k + 1) f n ks sp := by
  have G : FnOk P w K mg base (L2.CX P w) (k + 1) f fd ps sp := F.ok S len fun cdv A outer s H vs Q E hr hs => by
    obtain ⟨t, h1, h2⟩ := h cdv A outer s H vs Q E hr hs
    exact ⟨t, h1.nox, h2⟩
  refine ⟨fd, ps, G, ?_⟩
  obtain ⟨oc, od, dV, kV, doc, pm, an, cdv, ct, osl, rfl, lk, hcd, hD, hK⟩ := F.ex
  rcases hD with ⟨_, rfl⟩ | ⟨e, _⟩
  · exact ⟨fun s us ws _ l1 l2 => .of_eq (hb kV doc pm an cdv ct us ws l1 l2), fun r1 r2 => r1.append r2⟩
  · exact absurd rfl e
end
section
variable {X : Cx} {k j n : Nat} {f C : Addr} {ks : List Str} {sp : Sp} {x : Str} {p pos : Pos} {e : Expr} {es : List Expr} {kws : List Keyword} {t tk : TA}
def tMkK (C : Addr) (n m : Nat) (sp : Sp) (E : XK) (t tk : TA) : TE := tMakeK C n m sp (fun vs zs => vs ++ zs) E t tk
theorem go_mkK {C : Addr} {n m : Nat} {sp : Sp} {E : XK} {t tk : TA} {σ : L2.St} {H : Hp} {Q : VK} (h : t σ H fun vs H1 => tk σ H1 fun zs H2 => vs.length = n ∧ zs.length = m ∧ ∀ x dx, H2 x = none → H2 dx = none → dx ≠ x →
  sp (.ref x :: (vs ++ zs)) (upd (upd H2 dx (.own x)) x (.ins C dx [])) (fun v H3 => v = .non ∧ Q (.ref x) H3) E) : tMkK C n m sp E t tk σ H Q := h
theorem pe_mkK (M : Mk X.K C f) (F : KFx X.prog X.w X.K X.mg X.base k f (n + 1) ks sp) (hr : Room j X.A) (hg : Gl X x) (hm : X.mg x = some (.ref C)) (ha : PA X (e :: es) t) (hkw : PK X kws tk) (hj : k + 1 ≤ j := by decide)
    (hall : (backToKw pos (keywordEach kws X.env)).all (·.1.isSome) = true := by rfl) (hks : (backToKw pos (keywordEach kws X.env)).filterMap (·.1) = ks := by rfl) (hdb : (x == ("__debug__" : Str)) = false := by decide)
    (he : starEach (e :: es) X.env = (false, eval e X.env) :: starEach es X.env := by rfl) (hpl : ((backTo pos (starEach (e :: es) X.env)).any (·.1) || (backToKw pos (keywordEach kws X.env)).any (·.1.isNone)) = false := by rfl) :
    PE X (.Call (.Name x p) (e :: es) kws pos) (tMkK C n ks.length sp E0 t tk) := by
  obtain ⟨fd, ps, G, b⟩ := F.ex
  exact pe_makeK M G (hr.mono hj) hg hm b passL ha hkw hall hks hdb he hpl
end
end L2
/-! forms of relations that name the frag, for use within comprehensions; data of lists or tuples alike -/
namespace Bk
open PySem PySem.Spec PyProof.Rows L2
theorem cK (K0 : PySem.W.Frag) {X : Cx} {f : Value} {r : PySem.W.Frag → List V → Hp → VK → Prop} (hc : CallR X f (r X.K)) (h : X.K = K0 := by rfl) : CallR X f (r K0) := h ▸ hc
def rLenA (K : PySem.W.Frag) : List V → Hp → VK → Prop := fun xs H Q => ∃ p ys, xs = [.ref p] ∧ (SqL K H p ys ∨ SqT K H p ys) ∧ Q (.int ys.length) H
theorem lenK (K0 : PySem.W.Frag) {X : Cx} (h : X.K = K0 := by rfl) : CallR X (.builtin "len") (rLenA K0) := h ▸ call_len_seq
def rIxA (K : PySem.W.Frag) : R2 := fun x y H Q => rIxL K x y H Q ∨ rIxT K x y H Q
theorem ixA (K0 : PySem.W.Frag) {X : Cx} (h : X.K = K0 := by rfl) : IxR X (rIxA K0) := by
  subst h
  intro value slice pins s σ H x y v u Q I rx ry hq hs
  rcases hq with hq | hq
  · exact ix_list value slice pins s σ H x y v u Q I rx ry hq hs
  · exact ix_tup value slice pins s σ H x y v u Q I rx ry hq hs
end Bk
/-! text of one sign: find, index, by place -/
namespace Bk
open PySem PySem.Spec PyProof.Rows L2
theorem ixS {X : Cx} : IxR X rIxS := ix_str
end Bk
/-! an own error whose __init__ begins with super().__init__(..): its promise -/
namespace Bk
open PySem PySem.Spec PyProof.Rows L2
structure SupF (P : Program) (K : PySem.W.Frag) (name qual : Str) (params : Arguments) (body : List Stmt) (scope : Scope) (f C : Addr) (fd : FuncData) : Prop where
  ex : ∃ (oc : Value) (od : Option Addr) (kV doc pm : Value) (an : Option Addr) (ct : Value) (osl : Array (Option Value)) (cc cda : Addr) (ccl : Value) (cdd : Option Addr) (vs : Array Value) (ccs : Array (Option Value)) (file : Str) (tf : Tok) (cl : Value) (cld : Option Addr) (csl : Array (Option Value)),
    fd = PySem.W.ksFn name qual params body scope .none kV doc pm an (.ref cda) ct cc ∧ K.lookup f = some ⟨oc, od, .func fd, osl⟩ ∧ PySem.W.codeIn K (.ref cda) qual = true ∧ K.lookup cda = some ⟨ccl, cdd, .fields vs, ccs⟩ ∧ vs[2]? = some (.str file tf) ∧ ((P.main.file : Str) == file) = true ∧ K.lookup cc = some ⟨cl, cld, .cell (some (.ref C)), csl⟩
  kp : PySem.W.keepIn K (.ref f) = true
  top : (P.main.scope.names.lookup ("super" : Str)).isSome = false
  noany : PySem.W.nsIn K cStatics "thirdparty.any" = some none
  to : PySem.W.ks_superIn K C C "__init__" = some (some (.builtin "ValueError.__init__"))
  ve : PySem.W.subIn K (.ref C) (.type "ValueError") = some true
  self : PySem.W.mroIn K C (.ref C) = some true
  ox : OexC K C
structure SupS (ps : List Str) (scope : Scope) : Prop where
  kind : scope.kind = .function
  co : scope.isCoroutine = false
  gen : scope.isGenerator = false
  nd : ps.Nodup
  par : ∀ x ∈ ps, scope.names.lookup x = some .local
  nocell : ∀ y ∈ scope.names, y.2 ≠ .cell
  free : ∀ y ∈ scope.names, y.2 = .free → y.1 = "__class__"
  su : scope.names.lookup ("super" : Str) = some .globalImplicit
  cl : scope.names.lookup ("__class__" : Str) = some .free
def cxS (P : Program) (w : World) (K : PySem.W.Frag) (mg : Str → Option Value) (base : Heap) (N : List Str) (qual : Str) (scope : Scope) (f cda cc : Addr) (A : Around) (outer : List Env) (s : Shared) (H : Hp) (E : XK) : Cx where
  prog := P
  w := w
  K := K
  mg := mg
  base := base
  A := A.deeper (PySem.W.ksEnv qual scope s.heap.objs.size f (.ref cda) cc)
  N := N
  s_0 := s
  H_0 := H
  env := PySem.W.ksEnv qual scope s.heap.objs.size f (.ref cda) cc
  outer := outer
  stack := PySem.W.ksEnv qual scope s.heap.objs.size f (.ref cda) cc :: outer
  ex := []
  calm := true
  fn := fun y => !(y == ("__class__" : Str))
  pn := []
  xe := fun e s' => wpAny (model P w) (A.deeper (PySem.W.ksEnv qual scope s.heap.objs.size f (.ref cda) cc)) (leaving (PySem.W.ksEnv qual scope s.heap.objs.size f (.ref cda) cc) e) (fun _ s'' => L2.CX P w outer H s E e s'') (fun e' s'' => L2.CX P w outer H s E e' s'') s'
theorem rev_none {x : Str} : ∀ {ps : List Str} {us : List Value}, x ∉ ps → (ps.zip us).reverse.lookup x = none
  | [], _, _ => rfl
  | _ :: _, [], _ => rfl
  | p :: ps, u :: us, h => by
    rw [List.zip_cons_cons, List.reverse_cons, List.lookup_append, rev_none fun z => h (List.mem_cons_of_mem _ z)]
    have hp : (x == p) = false := by
      have : x ≠ p := fun z => h (by rw [z]; exact List.mem_cons_self)
      simpa using this
    simp [List.lookup, hp]
theorem rev_get {x : Str} {u : Value} : ∀ {ps : List Str} {us : List Value} {i : Nat}, ps.Nodup → ps[i]? = some x → us[i]? = some u → (ps.zip us).reverse.lookup x = some u
  | [], _, _, _, h, _ => by simp at h
  | _ :: _, [], _, _, _, h => by simp at h
  | p :: ps, v :: us, 0, nd, h1, h2 => by
    simp at h1 h2
    subst h1
    subst h2
    rw [List.zip_cons_cons, List.reverse_cons, List.lookup_append, rev_none (List.nodup_cons.mp nd).1]
    simp [List.lookup]
  | p :: ps, v :: us, i + 1, nd, h1, h2 => by
    rw [List.zip_cons_cons, List.reverse_cons, List.lookup_append, rev_get (List.nodup_cons.mp nd).2 (by simpa using h1) (by simpa using h2)]
    rfl
section
variable {P : Program} {w : World} {K : PySem.W.Frag} {mg : Str → Option Value} {base : Heap} {ps : List Str} {qual : Str} {scope : Scope} {f cda cc : Addr} {A : Around} {outer : List Env} {s : Shared} {H : Hp} {E : XK}
theorem inv_sup {us : List Value} {vs : List V} {h₀ : Heap} {tk : Nat} {cl : Value} {cld : Option Addr} {csl : Array (Option Value)} {C : Addr} (S : SupS ps scope) (hd : A.handled = none) (e0 : Env0 P w K mg base A outer s H) (hl : vs.length = ps.length) (r : Vals vs us)
    (hc : K.lookup cc = some ⟨cl, cld, .cell (some (.ref C)), csl⟩) (hns : h₀.Ns s.heap.objs.size (fun x => (ps.zip us).reverse.lookup x)) (k : ∀ b o, s.heap.get? b = some o → h₀.get? b = some o) :
    Inv (cxS P w K mg base ps qual scope f cda cc A outer s H E) [] (L2.start ps vs) H { s with heap := h₀, toks := tk } := by
  have noA : ∀ b : Addr, b ∉ (cxS P w K mg base ps qual scope f cda cc A outer s H E).ex := fun b z => absurd (show b ∈ ([] : List Addr) from z) (by simp)
  have one : ∀ {x : Str} {c : Addr}, ([(("__class__" : Str), cc)] : List (Str × Addr)).lookup x = some c → x = "__class__" ∧ c = cc := fun {x c} h => by
    by_cases e : x = "__class__"
    · subst e
      simp [List.lookup] at h
      exact ⟨rfl, h.symm⟩
    · have e2 : (x == ("__class__" : Str)) = false := by simpa using e
      simp [List.lookup, e2] at h
  have hb : base.get? cc = some ⟨cl, cld, .cell (some (.ref C)), csl⟩ := e0.mod.kin _ _ hc
  have hcc : s.heap.get? cc = some ⟨cl, cld, .cell (some (.ref C)), csl⟩ := (e0.bs _ _ hb).1
  refine ⟨⟨e0.mod, S.kind, rfl, rfl, Nat.le_refl _, fun y z c h1 h2 => ?_, fun y hy => ?_, fun y c hf h => ?_, fun _ => hd, Around.frames_deeper e0.frames, .inr ⟨rfl, rfl⟩, fun b z => absurd z (noA b), e0.bs, e0.bsz, fun b _ _ => noA b, fun b z => absurd z (noA b), e0.funs, e0.frf⟩,
    rfl, e0.bare, Un.kept k, ⟨_, hns, fun i y v h1 h2 h3 => ?_⟩, fun y c h => ?_, e0.hok.fresh (Nat.le_refl _), fun y c h => ?_, fun p hp => absurd (show p ∈ ([] : List (Addr × Obj)) from hp) (by simp), e0.hok.kept k, ?_⟩
  · rw [(one h1).1, (one h2).1]
  · have hy : scope.names.lookup y = some .cell ∨ scope.names.lookup y = some .free := hy
    rcases hy with hy | hy
    · exact absurd rfl (S.nocell _ (PySem.mem_of_lookup hy))
    · have := S.free _ (PySem.mem_of_lookup hy) rfl
      exact ⟨cc, by show ([(("__class__" : Str), cc)] : List (Str × Addr)).lookup y = some cc; rw [show y = "__class__" from this]; simp [List.lookup]⟩
  · have e := (one h).1
    subst e
    have hf : (!(("__class__" : Str) == ("__class__" : Str))) = true := hf
    simp at hf
  · have hi : i < vs.length := by
      have := (List.getElem?_eq_some_iff.mp h1).1
      rw [hl]
      exact this
    have ha : vs[i]? = some v := by
      unfold L2.start at h2
      rw [List.getElem?_append_left (by simpa using hi), List.getElem?_map] at h2
      cases e : vs[i]? with
      | none => rw [e] at h2; cases h2
      | some a => rw [e] at h2; cases h2; rfl
    obtain ⟨u, hu, rv⟩ := r.get ha
    exact ⟨u, rv, .inl ⟨S.par y (List.mem_of_getElem? h1), rev_get S.nd h1 hu⟩⟩
  · rw [(one h).2]
    exact ⟨some (.ref C), _, k _ _ hcc, rfl⟩
  · rw [(one h).2]
    exact (e0.bs _ _ hb).2
  · unfold L2.start
    show _ = ps.length
    rw [List.length_append, List.length_map, List.length_replicate]
    omega

theorem fn_sup {name : Str} {params : Arguments} {C : Addr} {fd : FuncData} {k : Nat} {sp : Sp} {ar : Arg} {e : Expr} {es : List Expr} {rest : List Stmt} {p0 p1 p2 p3 p4 : Pos}
    (F : SupF P K name qual params (.Expr (.Call (.Attribute (.Call (.Name "super" p0) [] [] p1) "__init__" p2) (e :: es) [] p3) p4 :: rest) scope f C fd) (S : SupS ps scope) (har : (params.posonlyargs ++ params.args).head? = some ar) (ha0 : ps[0]? = some ar.arg) (hms : mg "super" = none)
    (hev : ∀ env : Env, ∃ pl : Sem Bool, eval (.Call (.Attribute (.Call (.Name "super" p0) [] [] p1) "__init__" p2) (e :: es) [] p3) env = (do
      let ov ← attributeBase (.Call (.Name "super" p0) [] [] p1) "__init__" env (eval (.Call (.Name "super" p0) [] [] p1) env)
      standAt p2.atName
      let (f, first) ← holding [ov] (getMethod ov "__init__" pl)
      callWith p3 f first (backTo p3 (starEach (e :: es) env)) []))
    (hsw : ∀ env : Env, swapsWith (.Call (.Attribute (.Call (.Name "super" p0) [] [] p1) "__init__" p2) (e :: es) [] p3) none p4.line env = pure false)
    (hst : ∀ env : Env, starEach (e :: es) env = (false, eval e env) :: starEach es env) (hpl : ∀ env : Env, (backTo p3 (starEach es env)).any (·.1) = false)
    (len : ∀ vs H Q E, sp vs H Q E → vs.length = ps.length)
    (h : ∀ (cda cc : Addr) (A : Around) (outer : List Env) (s : Shared) (H : Hp) (vs : List V) (Q : VK) (E : XK), Room k (A.deeper (PySem.W.ksEnv qual scope s.heap.objs.size f (.ref cda) cc)) → sp vs H Q E →
      ∃ ta t, PA (cxS P w K mg base ps qual scope f cda cc A outer s H E) (e :: es) ta ∧ PSs (cxS P w K mg base ps qual scope f cda cc A outer s H E) rest t ∧ ∃ a : Addr, vs[0]? = some (.ref a) ∧ H a = some (exo a C none) ∧
        ta (L2.start ps vs) H fun ws H1 => ws.length ≤ 1000 ∧ H1 a = some (exo a C none) ∧ t { nx := fun _ H' => Q .non H', rt := Q } (L2.start ps vs) H1) : FnOk P w K mg base (L2.CX P w) (k + 1) f fd ps sp := by
  refine ⟨len, fun A outer s H args us vs Q E hr e0 hb r hsp => ?_⟩
  obtain ⟨oc, od, kV, doc, pm, an, ct, osl, cc, cda, ccl, cdd, vsC, ccs, file, tf, cl, cld, csl, rfl, lk, hcd, lcode, lfile, hfile, lcell⟩ := F.ex
  have hl := len _ _ _ _ hsp
  have KX : K.In s.heap := e0.mod.kin.keeps fun b o e => (e0.bs b o e).1
  have lim : s.heap.NoLimit := e0.mod.nolimit.keeps fun b o e => (e0.bs b o e).1
  refine PySem.ks_codeAny_call_defAt (fd := PySem.W.ksFn name qual params _ scope .none kV doc pm an (.ref cda) ct cc) (binds := ps.zip us) hr.depth (KX _ _ lk) rfl lim (PySem.W.codeRec_of KX hcd) rfl hb S.nocell (fun y hy => S.par _ (List.of_mem_zip (show (y.1, y.2) ∈ ps.zip us from hy)).1) (fun h₀ hns hk => ?_) S.co S.gen S.kind
  show _root_.PySem.wpAt (model P w) (A.deeper (PySem.W.ksEnv qual scope s.heap.objs.size f (.ref cda) cc)) (.func _ (PySem.W.ksEnv qual scope s.heap.objs.size f (.ref cda) cc)) (execs _ (PySem.W.ksEnv qual scope s.heap.objs.size f (.ref cda) cc)) _ _ _
  have I := inv_sup (E := E) (f := f) (qual := qual) (cda := cda) (tk := s.toks + (ps.zip us).length) S hr.hd e0 hl r lcell hns hk
  obtain ⟨ta, t, hta, ht, a, hva, hea, hq⟩ := h cda cc A outer s H vs Q E (hr.deeper _) hsp
  obtain ⟨pl, hev⟩ := hev (PySem.W.ksEnv qual scope s.heap.objs.size f (.ref cda) cc)
  have hin : interactive (PySem.W.ksEnv qual scope s.heap.objs.size f (.ref cda) cc) = false := by
    unfold interactive
    simp [S.kind]
  refine ks_wpAt_execs_cons (ks_wpAt_Expr_any (ks_wpAt_MethodCall (pl := pl) ?_ hev) hin (hsw _))
  have K0 : K.In h₀ := KX.keeps hk
  -- super()
  refine ks_wpAt_super_base (env := PySem.W.ksEnv qual scope s.heap.objs.size f (.ref cda) cc) S.su S.cl (by decide) rfl (K0 _ _ lk) rfl har rfl (K0 _ _ lcode) rfl lfile hfile F.top ?_
  obtain ⟨mb, hB1, hB2⟩ := e0.mod.blt
  have bk : ∀ b o, base.get? b = some o → h₀.get? b = some o := fun b o z => hk b o (e0.bs b o z).1
  refine PySem.W.ks_loadName_global S.kind S.su (Calls.loadGlobal_builtin (env := PySem.W.ksEnv qual scope s.heap.objs.size f (.ref cda) cc) (e0.mod.glob.keeps bk) hms (hB1.keeps bk) ((hB2 _ (by decide)).trans (by decide +kernel)) ⟨rfl, ?_⟩)
  refine wpAny_loadName_free S.kind S.cl rfl ⟨_, K0 _ _ lcell, rfl⟩ ?_
  have hlen0 : 0 < vs.length := (List.getElem?_eq_some_iff.mp hva).1
  obtain ⟨u0, hu0, ru0⟩ := r.get hva
  obtain rfl : u0 = Value.ref a := ru0
  refine wpAny_loadName_local S.kind (S.par _ (List.mem_of_getElem? ha0)) hns (rev_get S.nd ha0 hu0) ?_
  obtain ⟨nm, q0, Nn, bs, bm, sn, sub, ab, col, dd, k0, k1, k2, k3, k5, lC, hbm⟩ := F.ox.cls
  obtain ⟨t1, hoa⟩ := exo_at I.hok hea
  have hoa : h₀.get? a = some (PySem.W.excObj C t1 none .none) := hoa
  have clC : ∃ cd, PySem.W.clsIn K C = some cd := by
    unfold PySem.W.clsIn
    rw [lC]
    exact ⟨_, rfl⟩
  obtain ⟨cd, hcd2⟩ := clC
  have haC : a ≠ C := fun z => by
    have e1 := K0 _ _ lC
    rw [← z, hoa] at e1
    cases e1
  refine ks_wpAny_isType_cls (K0 _ _ lC) rfl ⟨rfl, ?_⟩
  refine ks_wpAny_call_super (K0 _ _ lC) rfl hoa rfl (fun c z => by cases z) (PySem.W.looks_mroIn K0 F.self) (fun h1 hso kk => ?_)
  -- __init__ of what is above
  have K1 : K.In h1 := K0.keeps kk
  have J1 : PySem.W.InstAt h1 a (PySem.W.excObj C t1 none .none) C none := ⟨kk _ _ hoa, rfl, rfl, trivial⟩
  have hto := F.to
  unfold PySem.W.ks_superIn at hto
  rw [hcd2] at hto
  refine PySem.W.kxs_getMethod (l₀ := cd.mro) PySem.W.kxs_ValueError hso (PySem.W.looks_opaque K1 F.noany) (fun A' Q' E' s' kp qq => wpAny_bind ((PySem.W.looks_clsIn K1 hcd2) A' _ E' s' kp (wpAny_pure qq))) rfl K1 hto (J1.type.andThen (PySem.W.looks_subIn K1 F.ve)) haC (by decide) ?_
  have kw : ∀ b o, h₀.get? b = some o → (h1.push (PySem.W.kxs_mw "ValueError.__init__" a)).get? b = some o := fun b o z => Heap.get?_push_of_some _ (kk b o z)
  have hmw : (h1.push (PySem.W.kxs_mw "ValueError.__init__" a)).get? h1.objs.size = some (PySem.W.kxs_mw "ValueError.__init__" a) := Heap.get?_push_at rfl rfl
  have szL : s.heap.objs.size < h1.objs.size := by
    obtain ⟨oL, _, _, hL, _⟩ := hns
    exact Heap.lt_size (kk _ _ hL)
  have I1 : L2.Inv (cxS P w K mg base ps qual scope f cda cc A outer s H E) [] (L2.start ps vs) H ⟨h1, s.gens, s.drawn, s.toks + (ps.zip us).length, s.os⟩ := I.kept kk
  have fr1 : H h1.objs.size = none := I1.hok.fresh (Nat.le_refl _)
  have I2 : L2.Inv (cxS P w K mg base ps qual scope f cda cc A outer s H E) [(h1.objs.size, PySem.W.kxs_mw "ValueError.__init__" a)] (L2.start ps vs) H ⟨h1.push (PySem.W.kxs_mw "ValueError.__init__" a), s.gens, s.drawn, s.toks + (ps.zip us).length + 1, s.os⟩ :=
    (I.kept (t' := s.toks + (ps.zip us).length + 1) kw).pins_of fun p hp => by
      rw [List.mem_singleton.mp hp]
      refine ⟨hmw, fr1, Nat.ne_of_gt szL, fun z => ?_, fun v z => by cases z⟩
      obtain ⟨_, oq, hoq, _⟩ := e0.funs.mem z
      exact absurd (Nat.lt_trans (Heap.lt_size hoq) szL) (Nat.lt_irrefl _)
  refine PySem.W.kxs_callWith (i := "ValueError.__init__") (x := a) (by rw [hst]; show (false || (backTo p3 (starEach es _)).any (·.1)) = false; rw [hpl]; rfl) ?_
  rw [hst]
  refine PySem.Calls.evalArgs_plain ?_
  have R0 : wpAny (model P w) (A.deeper (PySem.W.ksEnv qual scope s.heap.objs.size f (.ref cda) cc)) (spliced (backTo p3 (starEach (e :: es) (PySem.W.ksEnv qual scope s.heap.objs.size f (.ref cda) cc)))) _ _ _ := hta.run p3 _ _ _ _ _ I2 hq
  rw [hst] at R0
  refine wpAny_mono R0 (fun us1 s2 hz => ?_) fun e s' hs => hs
  obtain ⟨ws, H1, J1, rw1, hwl, ha1, ht1⟩ := hz
  have hpin := (J1.pin (h1.objs.size, PySem.W.kxs_mw "ValueError.__init__" a) (List.mem_singleton.mpr rfl)).1
  refine ⟨hpin, ?_⟩
  have hus : us1.length ≤ sizeLine := by
    rw [← Paired.length rw1, sizeLine_eq]
    omega
  obtain ⟨t2, hoe2⟩ := exo_at J1.hok ha1
  obtain ⟨hq2, g2, d2, tk2, os2⟩ := s2
  refine wpAny_call (codeAny_of_tree ?_)
  show wpAny _ (A.deeper (PySem.W.ksEnv qual scope s.heap.objs.size f (.ref cda) cc)).in1 (callAny (.ref h1.objs.size) ⟨us1, []⟩) _ _ _
  simp only [callAny]
  refine wpAny_bind (wpAny_load hpin ?_)
  simp only [PySem.W.kxs_mw, show (Value.type "method-wrapper" == Value.type "method" || Value.type "method-wrapper" == Value.type "builtin_function_or_method" || Value.type "method-wrapper" == Value.type "method-wrapper") = true by decide, if_true]
  refine PySem.W.KFB.if_so (by decide) ?_
  have JC : K.In hq2 := J1.kIn
  refine wpAny_bind (PySem.W.check_bound_init PySem.F.excBase_ValueError.toExcCallFacts (JC _ _ lC) hoe2 rfl ?_)
  refine wpAny_bind (wpAny_pure (wpAny_pure ?_))
  refine ⟨plainId_quiet PySem.F.excBase_ValueError.init.plain _, codeAny_builtin PySem.F.excBase_ValueError.initEntry ?_⟩
  refine PySem.W.exc_init_tree (cls := .ref C) (t0 := t2) (dv := none) (c2 := .none) (c3 := .none) (b4 := .bool false) hoe2 hus fun h' k' e' _ => ?_
  have J2 := J1.write (t' := tk2) (x := a) (e := a) (o := exo a C none) (by rw [ha1]; exact True.intro) (.inl rfl) k' ⟨_, e'⟩ (exo_ok e')
  have eu : upd H1 a (exo a C none) = H1 := by
    funext b
    by_cases hb : b = a
    · rw [hb, upd_same, ha1]
    · rw [upd_ne hb]
  rw [eu] at J2
  have fin : ∀ {σ' : L2.St} {H' : Hp} {v : V} {u : Value} {s' : Shared}, Inv (cxS P w K mg base ps qual scope f cda cc A outer s H E) [(h1.objs.size, PySem.W.kxs_mw "ValueError.__init__" a)] σ' H' s' → RelV v u → Q v H' → CE outer P w H s Q u s' :=
    fun {σ' H' v u s'} J rv q => ⟨v, H', J.os, J.bare, J.base, J.hok, rv, q⟩
  refine wpAt_of_wpAny (wpAny_mono (ht.run _ _ (L2.start ps vs) H1 _ J2 ht1) (fun fl s' hs => ?_) fun e s' hs => hs)
  cases fl with
  | ret u =>
    obtain ⟨v, σ', H', J, rv, q⟩ := hs
    exact fin J rv q
  | next =>
    obtain ⟨σ', H', J, q⟩ := hs
    exact fin (v := V.non) (u := Value.none) J rfl q
  | brk =>
    obtain ⟨_, _, _, q⟩ := hs
    exact False.elim q
  | cont =>
    obtain ⟨_, _, _, q⟩ := hs
    exact False.elim q
end
end Bk
/-! making an own error by keywords alone -/
namespace PySem.HandSPX
open Builtin Builtin.ObjectAttr
section
variable {M : Model} {pg : Program} {w : World} {A : Around} {E : Value → Shared → Prop} {R : Result → Shared → Prop} {h : Heap} {g : Array GenState} {d : Drawn} {t : Nat} {os : OsState} {kw : List (Str × Value)} {nm q : Str} {C N : Addr} {bs bm bB : List Value}
  {hd : Bool} {sn : List Str} {sub : List Value} {ab : Bool} {col : Option Bool} {dd : Option Addr} {k0 k1 k2 k3 k5 : Option Value} {b n i : String}
theorem bk_check_kw (F : ExcBaseFacts b n i bB) (tt : ∀ Y : String, bm.contains (.type Y) = bB.contains (.type Y)) (cC : h.get? C = some (excClassObj nm q C N bs bm hd sn sub ab col dd k0 k1 k2 k3 k5 n)) {Q : Unit → Shared → Prop} (z : Q () ⟨h, g, d, t, os⟩) :
    wpAny M A (checkBuiltinCall n ⟨[.ref C], kw⟩) Q E ⟨h, g, d, t, os⟩ := by
  have has : (Value.ref C :: bm).contains (.type b) = true := by
    rw [List.contains_cons, tt, F.hasB]
    exact Bool.or_true _
  have star := F.noStar
  simp only [checkBuiltinCall, F.newKind, F.newSplit, F.newRow]
  repeat (first | refine wpAny_loadPart_at cC ?_ | (refine wpAny_isSubtype_exc cC ?_; rw [has]) | refine wpAny_staticBase_exc cC ?_ | refine wpAny_madeBy_exc cC ?_ | simp only [bne_self_eq_false, Bool.false_eq_true, if_false] | wp_step)
  exact z
theorem bk_new_kw (F : ExcBaseFacts b n i bB) (tt : ∀ Y : String, bm.contains (.type Y) = bB.contains (.type Y)) (cC : h.get? C = some (excClassObj nm q C N bs bm hd sn sub ab col dd k0 k1 k2 k3 k5 n))
    (z : R (.ok (.ret (.ref (h.objs.size + 1)))) ⟨(h.push (W.kdv_tup [])).push (excO C h.objs.size), g, d, t, os⟩) : codeAny (model pg w) A (.builtin n ⟨[.ref C], kw⟩) R ⟨h, g, d, t, os⟩ := by
  have ends := F.ends
  have hb : (Value.ref C :: bm).contains (.type b) = true := by
    rw [List.contains_cons, tt, F.hasB]
    exact Bool.or_true _
  have ha : (Value.ref C :: bm).contains (.type "AttributeError") = false := by
    rw [List.contains_cons, tt, F.noAttr]
    rfl
  have hn : (Value.ref C :: bm).contains (.type "NameError") = false := by
    rw [List.contains_cons, tt, F.noName]
    rfl
  refine codeAny_builtinAt F.entry ?_
  unfold Builtin.«BaseException.__new__»
  refine wpAt_bind ?_
  show wpAt _ _ _ (stack >>= _) _ _ _
  refine wpAt_bind (wpAt_stack fun p below => wpAt_of_wpAny ?_)
  wp_walk
  refine wpAt_of_wpAny ?_
  rw [F.owner]
  repeat (first | with_reducible refine wpAny_madeHere_exc F.canon cC ?_ | with_reducible refine wpAny_loadPart_at cC ?_ | (with_reducible refine wpAny_isSubtype_exc cC ?_; first | rw [hb] | rw [ha] | rw [hn]) | wp_step)
  show R _ _
  rw [Heap.size_push]
  exact z
/-- type.__call__(C, k = v, ..): the own __init__ is called with the same keywords -/
theorem bk_type_kw (F : ExcBaseFacts b n i bB) (tt : ∀ Y : String, bm.contains (.type Y) = bB.contains (.type Y)) (cC : h.get? C = some (excClassObj nm q C N bs bm hd sn sub ab col dd k0 k1 k2 k3 k5 n)) {fi : Addr} {Q : Fin → Shared → Prop}
    (li : W.Looks (model pg w) h (typeLookup (.ref C) "__init__") (some (.ref fi))) (bi : ∀ x, W.Looks (model pg w) h (bindSpecial (.ref fi) x) (.ref fi, [x]))
    (z : codeAny (model pg w) A (.call (.ref fi) ⟨[.ref (h.objs.size + 1)], kw⟩) (fun r s' => match r with | .ok (.ret v) => v = .none ∧ Q (.done (.ret (.ref (h.objs.size + 1)))) s' | .ok _ => False | .error e => E e s') ⟨(h.push (W.kdv_tup [])).push (excO C h.objs.size), g, d, t, os⟩) :
    wpAny (model pg w) A (Builtin.«type.__call__» ⟨[.ref C], kw⟩) Q E ⟨h, g, d, t, os⟩ := by
  repeat (first | with_reducible refine wpAny_loadPart_at cC ?_ | with_reducible refine wpAny_madeBy_exc cC ?_ | wp_step)
  refine codeAny_call_builtin_code (Code.quiet_builtin _ F.quiet) (bk_check_kw F tt cC (bk_new_kw F tt cC ?_))
  show wpAny _ _ _ _ _ _
  have kp : ∀ a o, h.get? a = some o → ((h.push (W.kdv_tup [])).push (excO C h.objs.size)).get? a = some o := fun a o x => by
    exact Heap.get?_push_of_some _ (Heap.get?_push_of_some _ x)
  have c1 := kp _ _ cC
  have there : ((h.push (W.kdv_tup [])).push (excO C h.objs.size)).get? (h.objs.size + 1) = some (excO C h.objs.size) := by
    heap_get
  have self : (Value.ref C :: bm).contains (.ref C) = true := by
    simp
  have l1 := li.keeps kp
  have l2 := (bi (.ref (h.objs.size + 1))).keeps kp
  unfold isInstance
  repeat (first | with_reducible refine wpAny_loadPart_at there ?_ | (with_reducible refine wpAny_isSubtype_exc c1 ?_; rw [self]) | wp_step)
  show wpAny _ _ (typeLookup (.ref C) _) _ _ _
  refine l1.at (wpAny_holding (wpAny_bind (l2.at ?_)))
  refine wpAny_bind (wpAny_call (codeAny_mono z fun r s' y => ?_))
  rcases r with e | (v | _ | _ | _) <;> first | exact y | exact y.elim | skip
  obtain ⟨rfl, y⟩ := y
  first
    | exact wpAny_pure (wpAny_pure y)
    | (wp_walk; exact y)
theorem bk_call_kw (F : ExcBaseFacts b n i bB) (tt : ∀ Y : String, bm.contains (.type Y) = bB.contains (.type Y)) (cC : h.get? C = some (excClassObj nm q C N bs bm hd sn sub ab col dd k0 k1 k2 k3 k5 n)) {fi : Addr}
    (li : W.Looks (model pg w) h (typeLookup (.ref C) "__init__") (some (.ref fi))) (bi : ∀ x, W.Looks (model pg w) h (bindSpecial (.ref fi) x) (.ref fi, [x]))
    (z : codeAny (model pg w) (A.under (.builtin "type.__call__" ⟨[.ref C], kw⟩)) (.call (.ref fi) ⟨[.ref (h.objs.size + 1)], kw⟩) (W.InitBack (h.objs.size + 1) R) ⟨(h.push (W.kdv_tup [])).push (excO C h.objs.size), g, d, t, os⟩) :
    codeAny (model pg w) A (.call (.ref C) ⟨[], kw⟩) R ⟨h, g, d, t, os⟩ := by
  have t1 := tc_lookup
  have t2 := tc_bind (.ref C)
  have t3 : (⟨h, g, d, t, os⟩ : Shared).TypeIs (.ref C) "type" := ⟨_, cC, rfl⟩
  refine codeAny_of_tree ?_
  show wpAny _ _ (callAny (.ref C) _) _ _ _
  repeat (any_goals (first | assumption | with_reducible refine wpAny_loadPart_at cC ?_ | wp_step))
  refine ⟨rfl, codeAny_call_builtin_at (Code.quiet_builtin _ (by decide +kernel)) entry_typeCall (wpAny_check_type_call_sub cC (bk_type_kw F tt cC li bi ?_))⟩
  refine codeAny_mono z fun r s' y => ?_
  rcases r with e | (v | _ | _ | _) <;> exact y
end
end PySem.HandSPX
/-! C(k = v, ..), C an own error with an __init__ of its own -/
namespace Bk
open PySem PySem.Spec PyProof.Rows L2
theorem kbn_sup {P : Program} {K : PySem.W.Frag} {name qual : Str} {params : Arguments} {body : List Stmt} {scope : Scope} {f C : Addr} {fd : FuncData} {ps ks : List Str} {n : Nat} (F : SupF P K name qual params body scope f C fd)
    (hb : ∀ (kV doc pm : Value) (an : Option Addr) (cdv ct : Value) (cc : Addr) (us ws : List Value), us.length = n → ws.length = ks.length → bindArgs (PySem.W.ksFn name qual params body scope .none kV doc pm an cdv ct cc) ⟨us, ks.zip ws⟩ = pure (ps.zip (us ++ ws))) :
    KBn K fd ps n ks (fun us ws => us ++ ws) (fun vs zs => vs ++ zs) := by
  obtain ⟨oc, od, kV, doc, pm, an, ct, osl, cc, cda, ccl, cdd, vsC, ccs, file, tf, cl, cld, csl, rfl, _⟩ := F.ex
  exact ⟨fun s us ws _ l1 l2 => .of_eq (hb kV doc pm an (.ref cda) ct cc us ws l1 l2), fun r1 r2 => r1.append r2⟩
/-- what the making asks of the own __init__ -/
def MkX (C : Addr) (m : Nat) (sp : Sp) (zs : List V) (H1 : Hp) (Q : XK) : Prop := zs.length = m ∧ ∀ a, H1 a = none → sp (.ref a :: zs) (upd H1 a (exo a C none))
  (fun v H2 => v = .non ∧ ∃ (d : Addr) (fs : List (Str × V)), H2 a = some (exo a C (some d)) ∧ H2 d = some (exd d fs) ∧ H1 d = none ∧ Q (.ref C) (some d) (upd (del H2 a) d (.xd fs))) (fun _ _ _ => False)
def tMkX (G : List V → Hp → XK → Prop) (tk : TA) : L2.St → Hp → XK → Prop := fun σ H Q => tk σ H fun zs H1 => G zs H1 Q
section
variable {X : Cx} {CX : CXT} {x : Str} {C fI : Addr} {k : Nat} {fd : FuncData} {ps ks : List Str} {sp : Sp} {kws : List Keyword} {p pos : Pos} {tk : TA}
theorem pmk_kw (T : OexC X.K C) (iC : PySem.W.findIn X.K (.ref C) "__init__" = some (some (.ref fI))) (tI : PySem.W.typeIn X.K (.ref fI) = some (.type "function")) (F1 : FnOk X.prog X.w X.K X.mg X.base CX k fI fd ps sp) (hr : Room (k + 1) X.A)
    (hb : KBn X.K fd ps 1 ks (fun us ws => us ++ ws) (fun vs zs => vs ++ zs)) {G : List V → Hp → XK → Prop} (hG : ∀ zs H1 Q, G zs H1 Q → MkX C ks.length sp zs H1 Q) (hx : Passes CX X (fun _ _ _ => False)) (hg : Gl X x) (hm : X.mg x = some (.ref C)) (hkw : PK X kws tk)
    (hall : (backToKw pos (keywordEach kws X.env)).all (·.1.isSome) = true := by rfl) (hks : (backToKw pos (keywordEach kws X.env)).filterMap (·.1) = ks := by rfl) (hdb : (x == ("__debug__" : Str)) = false := by decide)
    (hpl : ((backTo pos (starEach [] X.env)).any (·.1) || (backToKw pos (keywordEach kws X.env)).any (·.1.isNone)) = false := by rfl) : PMk X (.Call (.Name x p) [] kws pos) (tMkX G tk) := by
  intro pins s σ H Q I h
  obtain ⟨nm, q, N, bs, bm, sn, sub, ab, col, dd, k0, k1, k2, k3, k5, lC, vm⟩ := T.cls
  refine wpAny_Call_Name_kw (ld_glob I hg hm ?_ hdb)
  refine PySem.W.callWith_KW0 (h₀ := X.base) I.ok.mod.kin T.kC hall (thn (hkw.run pos pins s σ H _ I h) fun ws s1 ⟨zs, H1, I1, rz, qG⟩ => ⟨I1.kIn, ?_⟩) hpl
  obtain ⟨hz, q1⟩ := hG zs H1 Q qG
  rw [hks]
  show wpAny _ _ (call (.ref C) [] (ks.zip ws)) _ _ _
  obtain ⟨hp, g, dr, tq, os⟩ := s1
  have s1 : hp.objs.size ≤ hp.objs.size + 1 := Nat.le_succ _
  have f1 : H1 (hp.objs.size + 1) = none := I1.hok.fresh s1
  have h1 := q1 (hp.objs.size + 1) f1
  have kk : ∀ b o, hp.get? b = some o → ((hp.push (PySem.W.kdv_tup [])).push (PySem.HandSPX.excO C hp.objs.size)).get? b = some o := fun b o e => by
    exact Heap.get?_push_of_some _ (Heap.get?_push_of_some _ e)
  have there : ((hp.push (PySem.W.kdv_tup [])).push (PySem.HandSPX.excO C hp.objs.size)).get? (hp.objs.size + 1) = some (PySem.HandSPX.excO C hp.objs.size) := by
    heap_get
  have I2 : L2.Inv X pins σ (upd H1 (hp.objs.size + 1) (exo (hp.objs.size + 1) C none)) ⟨(hp.push (PySem.W.kdv_tup [])).push (PySem.HandSPX.excO C hp.objs.size), g, dr, tq, os⟩ := by
    exact I1.laid (t' := tq) (a := hp.objs.size + 1) (o := exo (hp.objs.size + 1) C none) kk s1 (exo_ok there)
  have r1 : Vals [V.ref (hp.objs.size + 1)] [Value.ref (hp.objs.size + 1)] := .cons rfl .nil
  have lz : ws.length = ks.length := rz.length.symm.trans hz
  refine wpAny_call (PySem.HandSPX.bk_call_kw F.excBase_ValueError (fun Y => PySem.HandSPX.refsVE_contains Y bm vm) (I1.kIn _ _ lC) (PySem.W.looks_findIn I1.kIn iC) (fun self => PySem.W.bind_fn I1.kIn self tI)
    (codeAny_mono (F1.run _ X.stack _ _ ⟨[Value.ref (hp.objs.size + 1)], ks.zip ws⟩ ([Value.ref (hp.objs.size + 1)] ++ ws) _ _ (fun _ _ _ => False) (hr.make C [] (ks.zip ws)) (I2.env0.make C [] (ks.zip ws)) (hb.to _ [Value.ref (hp.objs.size + 1)] ws I2.kIn rfl lz) (hb.rel r1 rz) h1) fun r s' y => ?_))
  cases r with
  | error er => exact hx pins σ _ _ er s' I2 y
  | ok fl =>
    cases fl
    case ret u =>
      obtain ⟨v, H2, o2, b2, u2, k2, rv, ev, d, fs, ea, ed, nd, y2⟩ := y
      subst ev
      obtain ⟨h2, g2, d2, t2, os'⟩ := s'
      exact ⟨rv, mk_end (raises_own T.exC T.tyC) I1 s1 kk u2 k2 o2 b2 ea ed nd y2⟩
    all_goals exact False.elim y
end
end Bk
/-! the head's facts of errors with an __init__ of their own; their promise -/
namespace Bk
open PySem PySem.Spec PyProof.Rows L2
/-- a def with cells: all of it but the cells' addresses -/
abbrev FnS : Type := Option (Str × Str × Arguments × FuncBody × Scope × Addr × List Str × Addr)
def fnS (K : PySem.W.Frag) (a : Addr) : FnS := match K.lookup a with
  | some ⟨_, _, .func fd, _⟩ => some (fd.name, fd.qualname, fd.params, fd.body, fd.scope, fd.globals, fd.closure.map (·.1), fd.builtins)
  | _ => none
/-- an error class of the text: its name, the parts of its __init__, the fields that it sets -/
structure ErrD where
  cls : Str
  qual : Str
  params : Arguments
  body : List Stmt
  scope : Scope
  fields : List Str
def ErrD.at_ (K : PySem.W.Frag) (d : ErrD) : Addr := He.ma K (He.ga K d.cls) "__init__"
def ErrD.val (d : ErrD) : FnS := some ("__init__", d.qual, d.params, .stmts d.body, d.scope, mainGlobals, ["__class__"], builtinsNs)
def clsRaw (K : PySem.W.Frag) (C : Addr) : Bool := match K.lookup C with
  | some ⟨.type "type", _, .cls cd, sl⟩ => (match cd.mro, sl.toList with
    | .ref D :: bm, [_, _, _, _, some (.builtin n), _] => decide (D = C) && (decide (n = "ValueError.__new__") && (!cd.hasDel && (cd.hasDict && PySem.HandSPX.refsVE bm)))
    | _, _ => false)
  | _ => false
def codeFile (K : PySem.W.Frag) (file : Str) : Value → Bool
  | .ref cda => (match K.lookup cda with
    | some ⟨_, _, .fields vs, _⟩ => (match (vs[2]? : Option Value) with
      | some (Value.str fl _) => fl == file
      | _ => false)
    | _ => false)
  | _ => false
def cellOf (K : PySem.W.Frag) (C : Addr) : List (Str × Addr) → Bool
  | [(_, cc)] => (match K.lookup cc with
    | some ⟨_, _, .cell (some (.ref D)), _⟩ => decide (D = C)
    | _ => false)
  | _ => false
def initRaw (K : PySem.W.Frag) (file : Str) (C f : Addr) (qual : Str) : Bool := match K.lookup f with
  | some ⟨_, _, .func fd, _⟩ => decide (fd.defaults = .none) && (PySem.W.codeIn K fd.code qual && (codeFile K file fd.code && cellOf K C fd.closure))
  | _ => false
def errL (K : PySem.W.Frag) (file : Str) (C f : Addr) (qual : Str) (fields : List Str) : List Bool :=
  [PySem.W.keepIn K (.ref f),
   He.eqO (PySem.W.nsIn K cStatics "thirdparty.any") (some none),
   He.eqO (PySem.W.ks_superIn K C C "__init__") (some (some (.builtin "ValueError.__init__"))),
   decide (PySem.W.subIn K (.ref C) (.type "ValueError") = some true),
   decide (PySem.W.mroIn K C (.ref C) = some true),
   clsRaw K C,
   He.eqO (PySem.W.findIn K (.ref C) "__setattr__") (some (some (.builtin "object.__setattr__"))),
   decide (PySem.W.subIn K (.ref C) (.type "BaseException") = some true),
   decide (PySem.W.typeIn K (.ref C) = some (.type "type")),
   PySem.W.keepIn K (.ref C),
   He.eqO (PySem.W.findIn K (.ref C) "__init__") (some (some (.ref f))),
   decide (PySem.W.typeIn K (.ref f) = some (.type "function")),
   fields.all fun x => He.eqO (PySem.W.findIn K (.ref C) x) (some none),
   xfB K C,
   initRaw K file C f qual,
   decide (PySem.W.exmOne K (.ref C) (.ref C) = some true)]
def ErrD.ok (K : PySem.W.Frag) (file : Str) (d : ErrD) : Bool := (errL K file (He.ga K d.cls) (d.at_ K) d.qual d.fields).all id
/-- what the text's program says of itself -/
class PFa (P : Program) (file : Str) : Prop where
  file : ((P.main.file : Str) == file) = true
  top : (P.main.scope.names.lookup ("super" : Str)).isSome = false
/-- an error's facts, the program apart -/
structure ErrOf (K : PySem.W.Frag) (file : Str) (C f : Addr) (qual : Str) (params : Arguments) (body : List Stmt) (scope : Scope) (fields : List Str) : Prop where
  ox : OexC K C
  kp : PySem.W.keepIn K (.ref f) = true
  noany : PySem.W.nsIn K cStatics "thirdparty.any" = some none
  to : PySem.W.ks_superIn K C C "__init__" = some (some (.builtin "ValueError.__init__"))
  ve : PySem.W.subIn K (.ref C) (.type "ValueError") = some true
  self : PySem.W.mroIn K C (.ref C) = some true
  iC : PySem.W.findIn K (.ref C) "__init__" = some (some (.ref f))
  tI : PySem.W.typeIn K (.ref f) = some (.type "function")
  no : ∀ x ∈ fields, PySem.W.findIn K (.ref C) x = some none
  xf : XfC K C
  exm : PySem.W.exmOne K (.ref C) (.ref C) = some true
  fd : ∃ (fd : FuncData) (oc : Value) (od : Option Addr) (kV doc pm : Value) (an : Option Addr) (ct : Value) (osl : Array (Option Value)) (cc cda : Addr) (ccl : Value) (cdd : Option Addr) (vs : Array Value) (ccs : Array (Option Value)) (tf : Tok) (cl : Value) (cld : Option Addr) (csl : Array (Option Value)),
    fd = PySem.W.ksFn "__init__" qual params body scope .none kV doc pm an (.ref cda) ct cc ∧ K.lookup f = some ⟨oc, od, .func fd, osl⟩ ∧ PySem.W.codeIn K (.ref cda) qual = true ∧ K.lookup cda = some ⟨ccl, cdd, .fields vs, ccs⟩ ∧ vs[2]? = some (.str file tf) ∧ K.lookup cc = some ⟨cl, cld, .cell (some (.ref C)), csl⟩
theorem clsRaw_ok {K : PySem.W.Frag} {C : Addr} (h : clsRaw K C = true) : ∃ nm q N bs bm sn sub ab col dd k0 k1 k2 k3 k5, K.lookup C = some (excClassObj nm q C N bs bm true sn sub ab col dd k0 k1 k2 k3 k5 "ValueError.__new__") ∧ PySem.HandSPX.refsVE bm = true := by
  unfold clsRaw at h
  split at h
  · rename_i dd cd sl ho
    split at h
    · rename_i D bm k0 k1 k2 k3 n k5 hm hs
      obtain ⟨rfl', h⟩ := He.ba h
      obtain ⟨h2, h⟩ := He.ba h
      obtain ⟨h3, h⟩ := He.ba h
      obtain ⟨h4, h5⟩ := He.ba h
      cases of_decide_eq_true rfl'
      cases of_decide_eq_true h2
      obtain ⟨nm, bs, mro, ns, qn, hd, sn, sub, ab, col, del⟩ := cd
      dsimp only at hm h3 h4
      have h3 : del = false := by simpa using h3
      subst hm h3 h4
      have : sl = #[k0, k1, k2, k3, some (.builtin "ValueError.__new__"), k5] := by
        obtain ⟨l⟩ := sl
        simp only at hs
        rw [hs]
      subst this
      exact ⟨nm, qn, ns, bs, bm, sn, sub, ab, col, dd, k0, k1, k2, k3, k5, ho, h5⟩
    · cases h
  · cases h
theorem codeFile_ok {K : PySem.W.Frag} {file : Str} {v : Value} (h : codeFile K file v = true) : ∃ (cda : Addr) (ccl : Value) (cdd : Option Addr) (vs : Array Value) (ccs : Array (Option Value)) (tf : Tok), v = .ref cda ∧ K.lookup cda = some ⟨ccl, cdd, .fields vs, ccs⟩ ∧ vs[2]? = some (.str file tf) := by
  unfold codeFile at h
  split at h
  · split at h
    · rename_i e
      split at h
      · rename_i fl tf e2
        have := beq_iff_eq.mp h
        subst this
        exact ⟨_, _, _, _, _, tf, rfl, e, e2⟩
      · cases h
    · cases h
  · cases h
theorem cellOf_ok {K : PySem.W.Frag} {C : Addr} {l : List (Str × Addr)} (h : cellOf K C l = true) (n : l.map (·.1) = [("__class__" : Str)]) : ∃ (cc : Addr) (cl : Value) (cld : Option Addr) (csl : Array (Option Value)), l = [(("__class__" : Str), cc)] ∧ K.lookup cc = some ⟨cl, cld, .cell (some (.ref C)), csl⟩ := by
  unfold cellOf at h
  split at h
  · rename_i x cc
    split at h
    · rename_i e
      cases of_decide_eq_true h
      have : x = "__class__" := by simpa using n
      subst this
      exact ⟨cc, _, _, _, rfl, e⟩
    · cases h
  · cases h
theorem err_ok {K : PySem.W.Frag} {file : Str} {d : ErrD} (h : d.ok K file = true) (e : fnS K (d.at_ K) = d.val) : ErrOf K file (He.ga K d.cls) (d.at_ K) d.qual d.params d.body d.scope d.fields := by
  have a := fun i b (z : (errL K file (He.ga K d.cls) (d.at_ K) d.qual d.fields)[i]? = some b) => all_at h i z
  refine ⟨⟨clsRaw_ok (a 5 _ rfl), He.eqO_ok (a 6 _ rfl), of_decide_eq_true (a 7 _ rfl), of_decide_eq_true (a 8 _ rfl), a 9 _ rfl⟩, a 0 _ rfl, He.eqO_ok (a 1 _ rfl), He.eqO_ok (a 2 _ rfl), of_decide_eq_true (a 3 _ rfl), of_decide_eq_true (a 4 _ rfl), He.eqO_ok (a 10 _ rfl), of_decide_eq_true (a 11 _ rfl),
    fun x hx => He.eqO_ok (List.all_eq_true.mp (a 12 _ rfl) x hx), xfB_ok (a 13 _ rfl), of_decide_eq_true (a 15 _ rfl), ?_⟩
  have r := a 14 _ rfl
  unfold initRaw at r
  unfold fnS ErrD.val at e
  split at r
  · rename_i oc od fd osl ho
    rw [ho] at e
    obtain ⟨n1, n2, n3, n4, n5, n6, n7, n8, n9, n10, n11, n12, n13, n14, n15⟩ := fd
    simp only [Option.some.injEq, Prod.mk.injEq] at e
    obtain ⟨h1, h2, h3, h4, h5, h6, h7, h8⟩ := e
    obtain ⟨r1, r⟩ := He.ba r
    obtain ⟨r2, r⟩ := He.ba r
    obtain ⟨r3, r4⟩ := He.ba r
    obtain ⟨cda, ccl, cdd, vs, ccs, tf, e1, e2, e3⟩ := codeFile_ok r3
    obtain ⟨cc, cl, cld, csl, e4, e5⟩ := cellOf_ok r4 h7
    replace r1 := of_decide_eq_true r1
    dsimp only at r1 r2 e1 e4
    subst h1 h2 h3 h4 h5 h6 h8 r1 e1 e4
    exact ⟨_, oc, od, n9, n10, n11, n12, n14, osl, cc, cda, ccl, cdd, vs, ccs, tf, cl, cld, csl, rfl, ho, r2, e2, e3, e5⟩
  · cases r
theorem ErrOf.sup {P : Program} {K : PySem.W.Frag} {file : Str} {C f : Addr} {qual : Str} {params : Arguments} {body : List Stmt} {scope : Scope} {fields : List Str} (T : ErrOf K file C f qual params body scope fields) [p : PFa P file] : ∃ fd, SupF P K "__init__" qual params body scope f C fd := by
  obtain ⟨fd, oc, od, kV, doc, pm, an, ct, osl, cc, cda, ccl, cdd, vs, ccs, tf, cl, cld, csl, e, l, c, cd, v2, ce⟩ := T.fd
  exact ⟨fd, ⟨⟨oc, od, kV, doc, pm, an, ct, osl, cc, cda, ccl, cdd, vs, ccs, file, tf, cl, cld, csl, e, l, c, cd, v2, p.file, ce⟩, T.kp, p.top, T.noany, T.to, T.ve, T.self, T.ox⟩⟩
/-! the hook -/
abbrev SeenE : Type := He.AlD × (List FnS × Bool)
/-- the cells of the defs that are told -/
def cellsG (g : Addr → Option Obj) (as : List Addr) : List Addr := as.flatMap fun a => match g a with
  | some ⟨_, _, .func fd, _⟩ => fd.closure.map (·.2)
  | _ => []
def lookE (n : Nat) (fa : List He.Fa) (fn : List He5.DefA) (file : Str) (er : List ErrD) (ex : PySem.W.Frag → Bool) (g : Addr → Option Obj) : SeenE :=
  let K := He.frG g (He5.asA g n ++ cellsG g (He5.asA g n))
  (He5.obsA fa fn K, er.map fun d => fnS K (d.at_ K), ex K && er.all fun d => d.ok K file)
def SaysE (file : Str) (er : List ErrD) (K : PySem.W.Frag) : Prop := ∀ d ∈ er, ErrOf K file (He.ga K d.cls) (d.at_ K) d.qual d.params d.body d.scope d.fields
theorem says_of {K : PySem.W.Frag} {file : Str} : ∀ {er : List ErrD}, (er.map fun d => fnS K (d.at_ K)) = er.map ErrD.val → (er.all fun d => d.ok K file) = true → SaysE file er K
  | [], _, _ => fun d hd => absurd hd (by simp)
  | e :: er, h, a => fun d hd => by
    rw [List.map_cons, List.map_cons] at h
    rw [List.all_cons] at a
    obtain ⟨a1, a2⟩ := He.ba a
    have ⟨h1, h2⟩ := List.cons.inj h
    rcases List.mem_cons.mp hd with q | q
    · subst q
      exact err_ok a1 h1
    · exact says_of h2 a2 d q
def hookE (n : Nat) (fa : List He.Fa) (fn : List He5.DefA) (file : Str) (er : List ErrD) (ex : PySem.W.Frag → Bool) : PySem.W.Hook where
  α := SeenE
  obs := fun s => lookE n fa fn file er ex s.heap.get?
  val := fun _ => (He5.valA fn, er.map ErrD.val, true)
  says := fun _ h => ∃ K : PySem.W.Frag, K.In h ∧ (He5.SaysA fa fn K ∧ ex K = true ∧ SaysE file er K)
  of := fun _ _ e => by
    have e1 := congrArg (fun z : SeenE => z.1) e
    have e2 := congrArg (fun z : SeenE => z.2.1) e
    have e3 := He.ba (congrArg (fun z : SeenE => z.2.2) e)
    exact ⟨_, He.frG_in, e1, e3.1, says_of e2 e3.2⟩
  keeps := fun _ _ _ ⟨K, hK, c⟩ k => ⟨K, PySem.W.Frag.In.keeps hK k, c⟩
theorem lookE_eq {n : Nat} {fa : List He.Fa} {fn : List He5.DefA} {file : Str} {er : List ErrD} {ex : PySem.W.Frag → Bool} {g : Addr → Option Obj} {s : Shared} (h : ∀ a, g a = s.heap.get? a) : lookE n fa fn file er ex g = (hookE n fa fn file er ex).obs s := by
  have e : g = s.heap.get? := funext h
  rw [e] <;> rfl
end Bk
/-! an own class below an own class, whose __init__ begins with super().__init__(e, ..) -/
namespace Bk
open PySem PySem.Spec PyProof.Rows L2
/-- the facts of such an __init__ -/
structure SupO (P : Program) (K : PySem.W.Frag) (qual : Str) (params : Arguments) (body : List Stmt) (scope : Scope) (f C f2 : Addr) (fd : FuncData) : Prop where
  ex : ∃ (oc : Value) (od : Option Addr) (kV doc pm : Value) (an : Option Addr) (ct : Value) (osl : Array (Option Value)) (cc cda : Addr) (ccl : Value) (cdd : Option Addr) (vs : Array Value) (ccs : Array (Option Value)) (file : Str) (tf : Tok) (cl : Value) (cld : Option Addr) (csl : Array (Option Value)),
    fd = PySem.W.ksFn "__init__" qual params body scope .none kV doc pm an (.ref cda) ct cc ∧ K.lookup f = some ⟨oc, od, .func fd, osl⟩ ∧ PySem.W.codeIn K (.ref cda) qual = true ∧ K.lookup cda = some ⟨ccl, cdd, .fields vs, ccs⟩ ∧ vs[2]? = some (.str file tf) ∧ ((P.main.file : Str) == file) = true ∧ K.lookup cc = some ⟨cl, cld, .cell (some (.ref C)), csl⟩
  top : (P.main.scope.names.lookup ("super" : Str)).isSome = false
  noany : PySem.W.nsIn K cStatics "thirdparty.any" = some none
  to : PySem.W.ks_superIn K C C "__init__" = some (some (.ref f2))
  self : PySem.W.mroIn K C (.ref C) = some true
  ty : PySem.W.typeIn K (.ref f2) = some (.type "function")
  fi : PySem.W.fnIn K f2 = true
/-- the class's own record -/
theorem cls_rec {K : PySem.W.Frag} {C : Addr} {cd : ClassData} (h : PySem.W.clsIn K C = some cd) : ∃ o, K.lookup C = some o ∧ o.data = .cls cd := by
  unfold PySem.W.clsIn at h
  split at h
  · rename_i e
    cases h
    exact ⟨_, e, rfl⟩
  · cases h
section
variable {P : Program} {w : World} {K : PySem.W.Frag} {mg : Str → Option Value} {base : Heap} {ps : List Str} {qual : Str} {scope : Scope} {f cda cc : Addr} {A : Around} {outer : List Env} {s : Shared} {H : Hp} {E : XK}
theorem fn_supO {params : Arguments} {C f2 : Addr} {fd : FuncData} {k k2 : Nat} {sp sp2 : Sp} {ar : Arg} {e : Expr} {es : List Expr} {rest : List Stmt} {p0 p1 p2 p3 p4 : Pos}
    (F : SupO P K qual params (.Expr (.Call (.Attribute (.Call (.Name "super" p0) [] [] p1) "__init__" p2) (e :: es) [] p3) p4 :: rest) scope f C f2 fd) (S : SupS ps scope) (har : (params.posonlyargs ++ params.args).head? = some ar) (ha0 : ps[0]? = some ar.arg) (hms : mg "super" = none)
    (F2 : Fx P w K mg base k2 f2 sp2) (hk2 : k2 ≤ k)
    (hev : ∀ env : Env, ∃ pl : Sem Bool, eval (.Call (.Attribute (.Call (.Name "super" p0) [] [] p1) "__init__" p2) (e :: es) [] p3) env = (do
      let ov ← attributeBase (.Call (.Name "super" p0) [] [] p1) "__init__" env (eval (.Call (.Name "super" p0) [] [] p1) env)
      standAt p2.atName
      let (f, first) ← holding [ov] (getMethod ov "__init__" pl)
      callWith p3 f first (backTo p3 (starEach (e :: es) env)) []))
    (hsw : ∀ env : Env, swapsWith (.Call (.Attribute (.Call (.Name "super" p0) [] [] p1) "__init__" p2) (e :: es) [] p3) none p4.line env = pure false)
    (hst : ∀ env : Env, starEach (e :: es) env = (false, eval e env) :: starEach es env) (hpl : ∀ env : Env, (backTo p3 (starEach es env)).any (·.1) = false)
    (len : ∀ vs H Q E, sp vs H Q E → vs.length = ps.length)
    (h : ∀ (cda cc : Addr) (A : Around) (outer : List Env) (s : Shared) (H : Hp) (vs : List V) (Q : VK) (E : XK), Room k (A.deeper (PySem.W.ksEnv qual scope s.heap.objs.size f (.ref cda) cc)) → sp vs H Q E →
      ∃ ta t, PA (cxS P w K mg base ps qual scope f cda cc A outer s H E) (e :: es) ta ∧ PSs (cxS P w K mg base ps qual scope f cda cc A outer s H E) rest t ∧ ∃ (a dx : Addr) (fs : List (Str × V)), vs[0]? = some (.ref a) ∧ H a = some (.ins C dx fs) ∧
        ta (L2.start ps vs) H fun ws H1 => sp2 (.ref a :: ws) H1 (fun _ H2 => t { nx := fun _ H' => Q .non H', rt := Q } (L2.start ps vs) H2) E) : FnOk P w K mg base (L2.CX P w) (k + 1) f fd ps sp := by
  refine ⟨len, fun A outer s H args us vs Q E hr e0 hb r hsp => ?_⟩
  obtain ⟨oc, od, kV, doc, pm, an, ct, osl, cc, cda, ccl, cdd, vsC, ccs, file, tf, cl, cld, csl, rfl, lk, hcd, lcode, lfile, hfile, lcell⟩ := F.ex
  have KX : K.In s.heap := e0.mod.kin.keeps fun b o e => (e0.bs b o e).1
  have lim : s.heap.NoLimit := e0.mod.nolimit.keeps fun b o e => (e0.bs b o e).1
  refine PySem.ks_codeAny_call_defAt (fd := PySem.W.ksFn "__init__" qual params _ scope .none kV doc pm an (.ref cda) ct cc) (binds := ps.zip us) hr.depth (KX _ _ lk) rfl lim (PySem.W.codeRec_of KX hcd) rfl hb S.nocell (fun y hy => S.par _ (List.of_mem_zip (show (y.1, y.2) ∈ ps.zip us from hy)).1) (fun h₀ hns hk => ?_) S.co S.gen S.kind
  have I := inv_sup (E := E) (f := f) (qual := qual) (cda := cda) (tk := s.toks + (ps.zip us).length) S hr.hd e0 (len _ _ _ _ hsp) r lcell hns hk
  have room := hr.deeper (PySem.W.ksEnv qual scope s.heap.objs.size f (.ref cda) cc)
  obtain ⟨ta, t, hta, ht, a, dx, fs, hva, hea, hq⟩ := h cda cc A outer s H vs Q E room hsp
  have tk : L2.Takes (cxS P w K mg base ps qual scope f cda cc A outer s H E) (fun cls d _ H' => E cls d H') := takes_of rfl rfl rfl rfl
  generalize hX : cxS P w K mg base ps qual scope f cda cc A outer s H E = X at I hta ht tk
  have xA : X.A = A.deeper (PySem.W.ksEnv qual scope s.heap.objs.size f (.ref cda) cc) := by rw [← hX] <;> rfl
  have xenv : X.env = PySem.W.ksEnv qual scope s.heap.objs.size f (.ref cda) cc := by rw [← hX] <;> rfl
  subst hX
  obtain ⟨pl, hev⟩ := hev (PySem.W.ksEnv qual scope s.heap.objs.size f (.ref cda) cc)
  have hin : interactive (PySem.W.ksEnv qual scope s.heap.objs.size f (.ref cda) cc) = false := by
    unfold interactive
    simp [S.kind]
  show _root_.PySem.wpAt (model P w) (A.deeper (PySem.W.ksEnv qual scope s.heap.objs.size f (.ref cda) cc)) (.func _ (PySem.W.ksEnv qual scope s.heap.objs.size f (.ref cda) cc)) (execs _ (PySem.W.ksEnv qual scope s.heap.objs.size f (.ref cda) cc)) _ _ _
  refine ks_wpAt_execs_cons (ks_wpAt_Expr_any (ks_wpAt_MethodCall (pl := pl) ?_ hev) hin (hsw _))
  have K0 : K.In h₀ := KX.keeps hk
  have bk : ∀ b o, base.get? b = some o → h₀.get? b = some o := fun b o z => hk b o (e0.bs b o z).1
  obtain ⟨mb, hB1, hB2⟩ := e0.mod.blt
  obtain ⟨u0, hu0, ru0⟩ := r.get hva
  obtain rfl : u0 = Value.ref a := ru0
  obtain ⟨cd, hcl⟩ : ∃ cd, PySem.W.clsIn K C = some cd := by
    have := F.to
    unfold PySem.W.ks_superIn at this
    cases q : PySem.W.clsIn K C with
    | none => rw [q] at this; cases this
    | some cd => exact ⟨cd, rfl⟩
  obtain ⟨oC, lC, dC⟩ := cls_rec hcl
  obtain ⟨ox, odx, inst, plain⟩ := StX.insC_at I (.inr ⟨dx, fs, hea⟩)
  have apart : a ≠ C := fun z => by
    have e1 := K0 _ _ lC
    rw [← z, inst.at_] at e1
    cases e1
    rw [plain] at dC
    cases dC
  -- super()
  refine ks_wpAt_super_base (env := PySem.W.ksEnv qual scope s.heap.objs.size f (.ref cda) cc) S.su S.cl (by decide) rfl (K0 _ _ lk) rfl har rfl (K0 _ _ lcode) rfl lfile hfile F.top ?_
  refine PySem.W.ks_loadName_global S.kind S.su (Calls.loadGlobal_builtin (env := PySem.W.ksEnv qual scope s.heap.objs.size f (.ref cda) cc) (e0.mod.glob.keeps bk) hms (hB1.keeps bk) ((hB2 _ (by decide)).trans (by decide +kernel)) ⟨rfl, ?_⟩)
  refine wpAny_loadName_free S.kind S.cl rfl ⟨_, K0 _ _ lcell, rfl⟩ (wpAny_loadName_local S.kind (S.par _ (List.mem_of_getElem? ha0)) hns (rev_get S.nd ha0 hu0) ?_)
  refine ks_wpAny_isType_cls (K0 _ _ lC) dC ⟨rfl, ks_wpAny_call_super (K0 _ _ lC) dC inst.at_ inst.cls (fun c z => by rw [plain] at z; cases z) (PySem.W.looks_mroIn K0 F.self) fun h1 hso kk => ?_⟩
  -- the method of what is above
  have K1 : K.In h1 := K0.keeps kk
  have I1 : L2.Inv (cxS P w K mg base ps qual scope f cda cc A outer s H E) [] (L2.start ps vs) H ⟨h1, s.gens, s.drawn, s.toks + (ps.zip us).length, s.os⟩ := I.kept kk
  obtain ⟨of, lof, cof⟩ : ∃ of, h1.get? f2 = some of ∧ of.cls = .type "function" := by
    have q : (K.lookup f2).map (·.cls) = some (.type "function") := F.ty
    cases z : K.lookup f2 with
    | none => rw [z] at q; cases q
    | some of => rw [z] at q; exact ⟨of, K1 _ _ z, Option.some.inj q⟩
  have up := F.to
  unfold PySem.W.ks_superIn at up
  rw [hcl] at up
  refine ks_wpAny_getMethod_super (l₀ := cd.mro) hso (PySem.W.looks_opaque K1 F.noany) (fun A' Q' E' s' kp qq => wpAny_bind ((PySem.W.looks_clsIn K1 hcl) A' _ E' s' kp (wpAny_pure qq))) rfl K1 up lof cof apart (by decide) ?_
  have I2 := ClX.met_new (g := f2) (C := a) I1
  refine ClX.callwith_cm (X := cxS P w K mg base ps qual scope f cda cc A outer s H E) I2 (ClX.base_none I1 (Nat.le_refl _)) F.fi ?_ (hst _) (hpl _)
  refine thn (hta.run p3 _ _ _ H _ I2 hq) fun us3 s3 ⟨vs3, H3, I3, r3, q3⟩ => ⟨⟨ClX.pin_at I3, I3.kIn⟩, ?_⟩
  refine wpAny_mono (ClX.run_cm F2 (room.mono hk2) (passes_call tk fun _ _ _ _ z => z) I3 r3 q3) (fun u s4 hz => ?_) fun e s' hs => hs
  obtain ⟨v4, H4, I4, r4, q4⟩ := hz
  have fin : ∀ {σ' : L2.St} {H' : Hp} {v : V} {u : Value} {s' : Shared}, Inv (cxS P w K mg base ps qual scope f cda cc A outer s H E) [] σ' H' s' → RelV v u → Q v H' → CE outer P w H s Q u s' :=
    fun {σ' H' v u s'} J rv q => ⟨v, H', J.os, J.bare, J.base, J.hok, rv, q⟩
  refine wpAt_of_wpAny (wpAny_mono (ht.run _ _ (L2.start ps vs) H4 _ I4 q4) (fun fl s' hs => ?_) fun e s' hs => hs)
  cases fl with
  | ret u =>
    obtain ⟨v, σ', H', J, rv, q⟩ := hs
    exact fin J rv q
  | next =>
    obtain ⟨σ', H', J, q⟩ := hs
    exact fin (v := V.non) (u := Value.none) J rfl q
  | brk =>
    obtain ⟨_, _, _, q⟩ := hs
    exact False.elim q
  | cont =>
    obtain ⟨_, _, _, q⟩ := hs
    exact False.elim q
end
theorem kbn_supO {P : Program} {K : PySem.W.Frag} {qual : Str} {params : Arguments} {body : List Stmt} {scope : Scope} {f C f2 : Addr} {fd : FuncData} {ps ks : List Str} {n : Nat} (F : SupO P K qual params body scope f C f2 fd)
    (hb : ∀ (kV doc pm : Value) (an : Option Addr) (cdv ct : Value) (cc : Addr) (us ws : List Value), us.length = n → ws.length = ks.length → bindArgs (PySem.W.ksFn "__init__" qual params body scope .none kV doc pm an cdv ct cc) ⟨us, ks.zip ws⟩ = pure (ps.zip (us ++ ws))) :
    KBn K fd ps n ks (fun us ws => us ++ ws) (fun vs zs => vs ++ zs) := by
  obtain ⟨oc, od, kV, doc, pm, an, ct, osl, cc, cda, _, _, _, _, _, _, _, _, _, rfl, _⟩ := F.ex
  exact ⟨fun s us ws _ l1 l2 => .of_eq (hb kV doc pm an (.ref cda) ct cc us ws l1 l2), fun r1 r2 => r1.append r2⟩
/-! the head's facts of such classes: ErrD, its `fields` the name of the class above -/
def upN (d : ErrD) : Str := d.fields.headD ""
def subL (K : PySem.W.Frag) (file : Str) (C f f2 : Addr) (qual : Str) : List Bool :=
  [He.eqO (PySem.W.nsIn K cStatics "thirdparty.any") (some none), He.eqO (PySem.W.ks_superIn K C C "__init__") (some (some (.ref f2))), decide (PySem.W.mroIn K C (.ref C) = some true),
   decide (PySem.W.typeIn K (.ref f2) = some (.type "function")), PySem.W.fnIn K f2, initRaw K file C f qual]
def upAt (K : PySem.W.Frag) (d : ErrD) : Addr := He.ma K (He.ga K (upN d)) "__init__"
def subOk (K : PySem.W.Frag) (file : Str) (d : ErrD) : Bool := (subL K file (He.ga K d.cls) (d.at_ K) (upAt K d) d.qual).all id
structure SubOf (K : PySem.W.Frag) (file : Str) (C f f2 : Addr) (qual : Str) (params : Arguments) (body : List Stmt) (scope : Scope) : Prop where
  noany : PySem.W.nsIn K cStatics "thirdparty.any" = some none
  to : PySem.W.ks_superIn K C C "__init__" = some (some (.ref f2))
  self : PySem.W.mroIn K C (.ref C) = some true
  ty : PySem.W.typeIn K (.ref f2) = some (.type "function")
  fi : PySem.W.fnIn K f2 = true
  fd : ∃ (fd : FuncData) (oc : Value) (od : Option Addr) (kV doc pm : Value) (an : Option Addr) (ct : Value) (osl : Array (Option Value)) (cc cda : Addr) (ccl : Value) (cdd : Option Addr) (vs : Array Value) (ccs : Array (Option Value)) (tf : Tok) (cl : Value) (cld : Option Addr) (csl : Array (Option Value)),
    fd = PySem.W.ksFn "__init__" qual params body scope .none kV doc pm an (.ref cda) ct cc ∧ K.lookup f = some ⟨oc, od, .func fd, osl⟩ ∧ PySem.W.codeIn K (.ref cda) qual = true ∧ K.lookup cda = some ⟨ccl, cdd, .fields vs, ccs⟩ ∧ vs[2]? = some (.str file tf) ∧ K.lookup cc = some ⟨cl, cld, .cell (some (.ref C)), csl⟩
theorem init_fd {K : PySem.W.Frag} {file : Str} {d : ErrD} (r : initRaw K file (He.ga K d.cls) (d.at_ K) d.qual = true) (e : fnS K (d.at_ K) = d.val) : ∃ (fd : FuncData) (oc : Value) (od : Option Addr) (kV doc pm : Value) (an : Option Addr) (ct : Value) (osl : Array (Option Value)) (cc cda : Addr) (ccl : Value) (cdd : Option Addr) (vs : Array Value) (ccs : Array (Option Value)) (tf : Tok) (cl : Value) (cld : Option Addr) (csl : Array (Option Value)),
    fd = PySem.W.ksFn "__init__" d.qual d.params d.body d.scope .none kV doc pm an (.ref cda) ct cc ∧ K.lookup (d.at_ K) = some ⟨oc, od, .func fd, osl⟩ ∧ PySem.W.codeIn K (.ref cda) d.qual = true ∧ K.lookup cda = some ⟨ccl, cdd, .fields vs, ccs⟩ ∧ vs[2]? = some (.str file tf) ∧ K.lookup cc = some ⟨cl, cld, .cell (some (.ref (He.ga K d.cls))), csl⟩ := by
  unfold initRaw at r
  unfold fnS ErrD.val at e
  split at r
  · rename_i oc od fd osl ho
    rw [ho] at e
    obtain ⟨n1, n2, n3, n4, n5, n6, n7, n8, n9, n10, n11, n12, n13, n14, n15⟩ := fd
    simp only [Option.some.injEq, Prod.mk.injEq] at e
    obtain ⟨h1, h2, h3, h4, h5, h6, h7, h8⟩ := e
    obtain ⟨r1, r⟩ := He.ba r
    obtain ⟨r2, r⟩ := He.ba r
    obtain ⟨r3, r4⟩ := He.ba r
    obtain ⟨cda, ccl, cdd, vs, ccs, tf, e1, e2, e3⟩ := codeFile_ok r3
    obtain ⟨cc, cl, cld, csl, e4, e5⟩ := cellOf_ok r4 h7
    replace r1 := of_decide_eq_true r1
    dsimp only at r1 r2 e1 e4
    subst h1 h2 h3 h4 h5 h6 h8 r1 e1 e4
    exact ⟨_, oc, od, n9, n10, n11, n12, n14, osl, cc, cda, ccl, cdd, vs, ccs, tf, cl, cld, csl, rfl, ho, r2, e2, e3, e5⟩
  · cases r
theorem sub_ok {K : PySem.W.Frag} {file : Str} {d : ErrD} (h : subOk K file d = true) (e : fnS K (d.at_ K) = d.val) : SubOf K file (He.ga K d.cls) (d.at_ K) (upAt K d) d.qual d.params d.body d.scope := by
  have a := fun i b (z : (subL K file (He.ga K d.cls) (d.at_ K) (upAt K d) d.qual)[i]? = some b) => all_at h i z
  exact ⟨He.eqO_ok (a 0 _ rfl), He.eqO_ok (a 1 _ rfl), of_decide_eq_true (a 2 _ rfl), of_decide_eq_true (a 3 _ rfl), a 4 _ rfl, init_fd (a 5 _ rfl) e⟩
theorem SubOf.sup {P : Program} {K : PySem.W.Frag} {file : Str} {C f f2 : Addr} {qual : Str} {params : Arguments} {body : List Stmt} {scope : Scope} (T : SubOf K file C f f2 qual params body scope) [p : PFa P file] : ∃ fd, SupO P K qual params body scope f C f2 fd := by
  obtain ⟨fd, oc, od, kV, doc, pm, an, ct, osl, cc, cda, ccl, cdd, vs, ccs, tf, cl, cld, csl, e, l, c, cd, v2, ce⟩ := T.fd
  exact ⟨fd, ⟨⟨oc, od, kV, doc, pm, an, ct, osl, cc, cda, ccl, cdd, vs, ccs, file, tf, cl, cld, csl, e, l, c, cd, v2, p.file, ce⟩, p.top, T.noany, T.to, T.self, T.ty, T.fi⟩⟩
def SaysS (file : Str) (sw : List ErrD) (K : PySem.W.Frag) : Prop := ∀ d ∈ sw, SubOf K file (He.ga K d.cls) (d.at_ K) (upAt K d) d.qual d.params d.body d.scope
theorem saysS_of {K : PySem.W.Frag} {file : Str} : ∀ {sw : List ErrD}, (sw.map fun d => fnS K (d.at_ K)) = sw.map ErrD.val → (sw.all fun d => subOk K file d) = true → SaysS file sw K
  | [], _, _ => fun d hd => absurd hd (by simp)
  | e :: sw, h, a => fun d hd => by
    rw [List.map_cons, List.map_cons] at h
    rw [List.all_cons] at a
    obtain ⟨a1, a2⟩ := He.ba a
    have ⟨h1, h2⟩ := List.cons.inj h
    rcases List.mem_cons.mp hd with q | q
    · subst q
      exact sub_ok a1 h1
    · exact saysS_of h2 a2 d q
def lookW (n : Nat) (fa : List He.Fa) (fn : List He5.DefA) (file : Str) (sw : List ErrD) (ex : PySem.W.Frag → Bool) (g : Addr → Option Obj) : SeenE :=
  let K := He.frG g (He5.asA g n ++ cellsG g (He5.asA g n))
  (He5.obsA fa fn K, sw.map fun d => fnS K (d.at_ K), ex K && sw.all fun d => subOk K file d)
def hookW (n : Nat) (fa : List He.Fa) (fn : List He5.DefA) (file : Str) (sw : List ErrD) (ex : PySem.W.Frag → Bool) : PySem.W.Hook where
  α := SeenE
  obs := fun s => lookW n fa fn file sw ex s.heap.get?
  val := fun _ => (He5.valA fn, sw.map ErrD.val, true)
  says := fun _ h => ∃ K : PySem.W.Frag, K.In h ∧ (He5.SaysA fa fn K ∧ ex K = true ∧ SaysS file sw K)
  of := fun _ _ e => by
    have e1 := congrArg (fun z : SeenE => z.1) e
    have e2 := congrArg (fun z : SeenE => z.2.1) e
    have e3 := He.ba (congrArg (fun z : SeenE => z.2.2) e)
    exact ⟨_, He.frG_in, e1, e3.1, saysS_of e2 e3.2⟩
  keeps := fun _ _ _ ⟨K, hK, c⟩ k => ⟨K, PySem.W.Frag.In.keeps hK k, c⟩
theorem lookW_eq {n : Nat} {fa : List He.Fa} {fn : List He5.DefA} {file : Str} {sw : List ErrD} {ex : PySem.W.Frag → Bool} {g : Addr → Option Obj} {s : Shared} (h : ∀ a, g a = s.heap.get? a) : lookW n fa fn file sw ex g = (hookW n fa fn file sw ex).obs s := by
  have e : g = s.heap.get? := funext h
  rw [e] <;> rfl
end Bk
namespace Bk
open PySem PySem.Spec PyProof.Rows L2
/-! ### a text kept by a class, read through an instance -/
structure KndOf (K : PySem.W.Frag) (C f z : Str) : Prop where
  co : ∃ u, Con K (He.ga K C) f (.str z) u
def isKnd (K : PySem.W.Frag) (C f z : Str) : Bool := match PySem.W.findIn K (.ref (He.ga K C)) f with
  | some (some (.str y t)) => [decide (y = z), He.eqO (PySem.W.specialIn K (.str y t) "__get__") (some none), !PySem.W.copiedNames.contains f].all id
  | _ => false
theorem isKnd_ok {K : PySem.W.Frag} {C f z : Str} (h : isKnd K C f z = true) : KndOf K C f z := by
  unfold isKnd at h
  split at h
  · rename_i y t e
    have h0 := of_decide_eq_true (all_at h 0)
    subst h0
    exact ⟨_, e, ⟨t, rfl⟩, He.eqO_ok (all_at h 1), (Bool.not_eq_true' _).mp (all_at h 2)⟩
  · cases h
theorem go_con {K : PySem.W.Frag} {σ : L2.St} {H : Hp} {Q : VK} {a C dx : Addr} {f : Str} {fs : List (Str × V)} {v : V} {u : Value} (h : H a = some (.ins C dx fs)) (c : Cls K C) (k : Con K C f v u) (l : fs.lookup f = none) (q : Q v H) {te : TE} (hv : ∀ QV : VK, QV (.ref a) H → te σ H QV) : tCon K te f σ H Q := hv _ ⟨a, C, dx, fs, v, u, rfl, h, c, k, l, q⟩
end Bk
namespace K
open PySem PySem.Spec PyProof.Rows L2 Bk
def topS (i : Nat) : Stmt := PySem.Challenge.pw_bucketline_k31_kinds_of_people.main.body.getD i (.Pass ⟨0, 0, 0, 0⟩)
abbrev s_is_whole : Stmt := (topS 8)
abbrev s_in_range : Stmt := (topS 9)
abbrev s_check_number : Stmt := (topS 10)
abbrev s_place_of : Stmt := (topS 11)
abbrev s_is_name : Stmt := (topS 17)
abbrev s_check_people : Stmt := (topS 18)
abbrev s_durations_of : Stmt := (topS 19)
abbrev s_Lineu_initu : Stmt := (inClass (topS 20) 2)
abbrev s_turns : Stmt := (topS 21)
abbrev s_growths : Stmt := (topS 22)
abbrev s_hand_over_end : Stmt := (topS 23)
abbrev s_check_part : Stmt := (topS 28)
abbrev s_Workeru_initu : Stmt := (inClass (topS 29) 1)
abbrev s_Worker_ticks_for : Stmt := (inClass (topS 29) 2)
abbrev s_Tiring_ticks_for : Stmt := (inClass (topS 30) 2)
abbrev s_Learning_ticks_for : Stmt := (inClass (topS 31) 2)
abbrev s_Resting_ticks_for : Stmt := (inClass (topS 32) 2)
abbrev s_check_workers : Stmt := (topS 33)
abbrev s_ends_after : Stmt := (topS 34)
abbrev s_played : Stmt := (topS 35)
abbrev s_ticks_needed : Stmt := (topS 36)
abbrev s__law_random : Stmt := (topS 38)
abbrev s__law_below : Stmt := (topS 39)
abbrev s__law_spec : Stmt := (topS 40)
abbrev s__law_shuffled : Stmt := (topS 41)
abbrev s__law_people : Stmt := (topS 42)
abbrev s__law_worker : Stmt := (topS 43)
abbrev s__law_durations : Stmt := (topS 44)
abbrev s__law_ticks : Stmt := (topS 45)
abbrev s__law_ends : Stmt := (topS 46)
abbrev s__law_equal : Stmt := (topS 47)
abbrev s_law : Stmt := (topS 48)
def fn0 : List He5.DefA := [⟨atG "is_whole", "is_whole", "is_whole", defArgs s_is_whole, defBody s_is_whole, defScope s_is_whole, [], []⟩,
  ⟨atG "in_range", "in_range", "in_range", defArgs s_in_range, defBody s_in_range, defScope s_in_range, [], []⟩,
  ⟨atG "check_number", "check_number", "check_number", defArgs s_check_number, defBody s_check_number, defScope s_check_number, [], []⟩,
  ⟨atG "place_of", "place_of", "place_of", defArgs s_place_of, defBody s_place_of, defScope s_place_of, [], []⟩,
  ⟨atG "is_name", "is_name", "is_name", defArgs s_is_name, defBody s_is_name, defScope s_is_name, [], []⟩,
  ⟨atG "check_people", "check_people", "check_people", defArgs s_check_people, defBody s_check_people, defScope s_check_people, [], []⟩,
  ⟨atG "durations_of", "durations_of", "durations_of", defArgs s_durations_of, defBody s_durations_of, defScope s_durations_of, [], []⟩,
  ⟨atM "Line" "__init__", "__init__", "Line.__init__", defArgs s_Lineu_initu, defBody s_Lineu_initu, defScope s_Lineu_initu, [], []⟩,
  ⟨atG "turns", "turns", "turns", defArgs s_turns, defBody s_turns, defScope s_turns, [], []⟩,
  ⟨atG "growths", "growths", "growths", defArgs s_growths, defBody s_growths, defScope s_growths, [], []⟩]
def fn1 : List He5.DefA := [⟨atG "hand_over_end", "hand_over_end", "hand_over_end", defArgs s_hand_over_end, defBody s_hand_over_end, defScope s_hand_over_end, [], []⟩,
  ⟨atG "check_part", "check_part", "check_part", defArgs s_check_part, defBody s_check_part, defScope s_check_part, [], []⟩,
  ⟨atM "Worker" "__init__", "__init__", "Worker.__init__", defArgs s_Workeru_initu, defBody s_Workeru_initu, defScope s_Workeru_initu, [], []⟩,
  ⟨atM "Worker" "ticks_for", "ticks_for", "Worker.ticks_for", defArgs s_Worker_ticks_for, defBody s_Worker_ticks_for, defScope s_Worker_ticks_for, [], []⟩,
  ⟨atM "Tiring" "ticks_for", "ticks_for", "Tiring.ticks_for", defArgs s_Tiring_ticks_for, defBody s_Tiring_ticks_for, defScope s_Tiring_ticks_for, [], []⟩,
  ⟨atM "Learning" "ticks_for", "ticks_for", "Learning.ticks_for", defArgs s_Learning_ticks_for, defBody s_Learning_ticks_for, defScope s_Learning_ticks_for, [], []⟩,
  ⟨atM "Resting" "ticks_for", "ticks_for", "Resting.ticks_for", defArgs s_Resting_ticks_for, defBody s_Resting_ticks_for, defScope s_Resting_ticks_for, [], []⟩,
  ⟨atG "check_workers", "check_workers", "check_workers", defArgs s_check_workers, defBody s_check_workers, defScope s_check_workers, [], []⟩,
  ⟨atG "ends_after", "ends_after", "ends_after", defArgs s_ends_after, defBody s_ends_after, defScope s_ends_after, [], []⟩,
  ⟨atG "played", "played", "played", defArgs s_played, defBody s_played, defScope s_played, [], []⟩]
def fn2 : List He5.DefA := [⟨atG "ticks_needed", "ticks_needed", "ticks_needed", defArgs s_ticks_needed, defBody s_ticks_needed, defScope s_ticks_needed, [], []⟩,
  ⟨atG "_law_random", "_law_random", "_law_random", defArgs s__law_random, defBody s__law_random, defScope s__law_random, [], []⟩,
  ⟨atG "_law_below", "_law_below", "_law_below", defArgs s__law_below, defBody s__law_below, defScope s__law_below, [], []⟩,
  ⟨atG "_law_spec", "_law_spec", "_law_spec", defArgs s__law_spec, defBody s__law_spec, defScope s__law_spec, [], []⟩,
  ⟨atG "_law_shuffled", "_law_shuffled", "_law_shuffled", defArgs s__law_shuffled, defBody s__law_shuffled, defScope s__law_shuffled, [], []⟩,
  ⟨atG "_law_people", "_law_people", "_law_people", defArgs s__law_people, defBody s__law_people, defScope s__law_people, [], []⟩,
  ⟨atG "_law_worker", "_law_worker", "_law_worker", defArgs s__law_worker, defBody s__law_worker, defScope s__law_worker, [], []⟩,
  ⟨atG "_law_durations", "_law_durations", "_law_durations", defArgs s__law_durations, defBody s__law_durations, defScope s__law_durations, [], []⟩,
  ⟨atG "_law_ticks", "_law_ticks", "_law_ticks", defArgs s__law_ticks, defBody s__law_ticks, defScope s__law_ticks, [], []⟩,
  ⟨atG "_law_ends", "_law_ends", "_law_ends", defArgs s__law_ends, defBody s__law_ends, defScope s__law_ends, [], []⟩]
def fn3 : List He5.DefA := [⟨atG "_law_equal", "_law_equal", "_law_equal", defArgs s__law_equal, defBody s__law_equal, defScope s__law_equal, [], []⟩,
  ⟨atG "law", "law", "law", defArgs s_law, defBody s_law, defScope s_law, [], []⟩]
def fnl : List He5.DefA := fn0 ++ fn1 ++ fn2 ++ fn3
def fa0 : List He.Fa := [.glo "is_whole", .glo "in_range", .glo "check_number", .glo "place_of", .glo "is_name", .glo "check_people", .glo "durations_of", .glo "turns", .glo "growths", .glo "hand_over_end", .glo "check_part", .glo "check_workers", .glo "ends_after", .glo "played", .glo "ticks_needed", .glo "_law_random", .glo "_law_below", .glo "_law_spec", .glo "_law_shuffled", .glo "_law_people"]
def fa1 : List He.Fa := [.glo "_law_worker", .glo "_law_durations", .glo "_law_ticks", .glo "_law_ends", .glo "_law_equal", .glo "law", .glo "LineError", .glo "InvalidLine", .glo "UnknownPerson", .glo "InvalidNumber", .glo "InvalidWorker", .glo "Line", .glo "Worker", .glo "Tiring", .glo "Learning", .glo "Resting", .free "abs", .free "all", .free "bool", .free "enumerate"]
def fa2 : List He.Fa := [.free "int", .free "isinstance", .free "len", .free "list", .free "max", .free "min", .free "range", .free "str", .free "sum", .free "tuple", .free "zip", .str "LETTERS" "abcdefghijklmnopqrstuvwxyz", .int "MAX_LETTERS" 8, .int "MIN_PEOPLE" 2, .int "MAX_BUCKET" 1000000000000000000, .int "MAX_AFTER" 1000, .int "MAX_MORE" 1000, .int "MAX_PLAYED" 2000, .meth "Line" "__init__", .meth "Worker" "__init__"]
def fa3 : List He.Fa := [.meth "Worker" "ticks_for", .meth "Tiring" "ticks_for", .meth "Learning" "ticks_for", .meth "Resting" "ticks_for", .cls "Line", .mkr "Line", .noat "Line" "_people", .noat "Line" "_names", .noat "Line" "_durations", .cls "Worker", .mkr "Worker", .noat "Worker" "name", .noat "Worker" "_pace", .cls "Tiring", .mkr "Tiring", .noat "Tiring" "name", .noat "Tiring" "_pace", .noat "Tiring" "_after", .noat "Tiring" "_extra", .cls "Learning"]
def fa4 : List He.Fa := [.mkr "Learning", .noat "Learning" "name", .noat "Learning" "_pace", .noat "Learning" "_best", .cls "Resting", .mkr "Resting", .noat "Resting" "name", .noat "Resting" "_pace", .noat "Resting" "_after", .noat "Resting" "_rest", .free "super"]
def fal : List He.Fa := fa0 ++ fa1 ++ fa2 ++ fa3 ++ fa4
def exl (K : PySem.W.Frag) : List Bool := [isProp K "Line" "people",
  isProp K "Line" "names",
  isProp K "Line" "durations",
  isProp K "Line" "pace",
  isCallO K "Line",
  isOps K "Line",
  isConC K "Line" "MAX_PEOPLE" 12,
  isConC K "Line" "MAX_PACE" 1000,
  isIsi K "Line",
  isKnd K "Worker" "KIND" "steady",
  isKnd K "Tiring" "KIND" "tiring",
  isKnd K "Learning" "KIND" "learning",
  isKnd K "Resting" "KIND" "resting"]
abbrev s_Tiringu_initu : Stmt := (inClass (topS 30) 1)
abbrev s_Learningu_initu : Stmt := (inClass (topS 31) 1)
abbrev s_Restingu_initu : Stmt := (inClass (topS 32) 1)
def swl : List ErrD := [⟨"Tiring", "Tiring.__init__", defArgs s_Tiringu_initu, defBody s_Tiringu_initu, defScope s_Tiringu_initu, ["Worker"]⟩,
  ⟨"Learning", "Learning.__init__", defArgs s_Learningu_initu, defBody s_Learningu_initu, defScope s_Learningu_initu, ["Worker"]⟩,
  ⟨"Resting", "Resting.__init__", defArgs s_Restingu_initu, defBody s_Restingu_initu, defScope s_Restingu_initu, ["Worker"]⟩]
abbrev FILE : Str := "/claim/cut.py"
def exB (K : PySem.W.Frag) : Bool := (exl K).all id
abbrev R : PySem.W.OpenRow := PySem.W.OpenLaw.row PySem.Challenge.rw_bucketline_k31_kinds_of_people
abbrev hk : PySem.W.Hook := hookW 6 fal fnl FILE swl exB
def ob (s : PySem.W.SharedT) : SeenE := lookW 6 fal fnl FILE swl exB (HandSHeadRun.getT s)
theorem ob_eq (s : PySem.W.SharedT) : ob s = hk.obs s.abs := lookW_eq (HandSHeadRun.getT_eq s)
def lo : List PySem.Str := (["_wall", "LineError", "InvalidLine", "UnknownPerson", "InvalidNumber", "InvalidWorker", "is_whole", "in_range", "check_number", "place_of", "LETTERS", "MAX_LETTERS", "MIN_PEOPLE", "MAX_BUCKET", "is_name", "check_people", "durations_of", "Line", "turns", "growths"] : List PySem.Str) ++ (["hand_over_end", "MAX_AFTER", "MAX_MORE", "MAX_PLAYED", "check_part", "Worker", "Tiring", "Learning", "Resting", "check_workers", "ends_after", "played", "ticks_needed", "_law_random", "_law_below", "_law_spec", "_law_shuffled", "_law_people", "_law_worker", "_law_durations"] : List PySem.Str) ++ (["_law_ticks", "_law_ends", "_law_equal"] : List PySem.Str)
structure Tx (K : PySem.W.Frag) (mg : Str → Option Value) : Prop where
  g_is_whole : mg "is_whole" = some (.ref (He.ga K "is_whole"))
  g_in_range : mg "in_range" = some (.ref (He.ga K "in_range"))
  g_check_number : mg "check_number" = some (.ref (He.ga K "check_number"))
  g_place_of : mg "place_of" = some (.ref (He.ga K "place_of"))
  g_is_name : mg "is_name" = some (.ref (He.ga K "is_name"))
  g_check_people : mg "check_people" = some (.ref (He.ga K "check_people"))
  g_durations_of : mg "durations_of" = some (.ref (He.ga K "durations_of"))
  g_turns : mg "turns" = some (.ref (He.ga K "turns"))
  g_growths : mg "growths" = some (.ref (He.ga K "growths"))
  g_hand_over_end : mg "hand_over_end" = some (.ref (He.ga K "hand_over_end"))
  g_check_part : mg "check_part" = some (.ref (He.ga K "check_part"))
  g_check_workers : mg "check_workers" = some (.ref (He.ga K "check_workers"))
  g_ends_after : mg "ends_after" = some (.ref (He.ga K "ends_after"))
  g_played : mg "played" = some (.ref (He.ga K "played"))
  g_ticks_needed : mg "ticks_needed" = some (.ref (He.ga K "ticks_needed"))
  g__law_random : mg "_law_random" = some (.ref (He.ga K "_law_random"))
  g__law_below : mg "_law_below" = some (.ref (He.ga K "_law_below"))
  g__law_spec : mg "_law_spec" = some (.ref (He.ga K "_law_spec"))
  g__law_shuffled : mg "_law_shuffled" = some (.ref (He.ga K "_law_shuffled"))
  g__law_people : mg "_law_people" = some (.ref (He.ga K "_law_people"))
  g__law_worker : mg "_law_worker" = some (.ref (He.ga K "_law_worker"))
  g__law_durations : mg "_law_durations" = some (.ref (He.ga K "_law_durations"))
  g__law_ticks : mg "_law_ticks" = some (.ref (He.ga K "_law_ticks"))
  g__law_ends : mg "_law_ends" = some (.ref (He.ga K "_law_ends"))
  g__law_equal : mg "_law_equal" = some (.ref (He.ga K "_law_equal"))
  g_law : mg "law" = some (.ref (He.ga K "law"))
  g_LineError : mg "LineError" = some (.ref (He.ga K "LineError"))
  g_InvalidLine : mg "InvalidLine" = some (.ref (He.ga K "InvalidLine"))
  g_UnknownPerson : mg "UnknownPerson" = some (.ref (He.ga K "UnknownPerson"))
  g_InvalidNumber : mg "InvalidNumber" = some (.ref (He.ga K "InvalidNumber"))
  g_InvalidWorker : mg "InvalidWorker" = some (.ref (He.ga K "InvalidWorker"))
  g_Line : mg "Line" = some (.ref (He.ga K "Line"))
  g_Worker : mg "Worker" = some (.ref (He.ga K "Worker"))
  g_Tiring : mg "Tiring" = some (.ref (He.ga K "Tiring"))
  g_Learning : mg "Learning" = some (.ref (He.ga K "Learning"))
  g_Resting : mg "Resting" = some (.ref (He.ga K "Resting"))
  m_abs : mg "abs" = none
  m_all : mg "all" = none
  m_bool : mg "bool" = none
  m_enumerate : mg "enumerate" = none
  m_int : mg "int" = none
  m_isinstance : mg "isinstance" = none
  m_len : mg "len" = none
  m_list : mg "list" = none
  m_max : mg "max" = none
  m_min : mg "min" = none
  m_range : mg "range" = none
  m_str : mg "str" = none
  m_sum : mg "sum" = none
  m_tuple : mg "tuple" = none
  m_zip : mg "zip" = none
  c_LETTERS : ∃ t, mg "LETTERS" = some (.str "abcdefghijklmnopqrstuvwxyz" t)
  c_MAX_LETTERS : ∃ t, mg "MAX_LETTERS" = some (.int 8 t)
  c_MIN_PEOPLE : ∃ t, mg "MIN_PEOPLE" = some (.int 2 t)
  c_MAX_BUCKET : ∃ t, mg "MAX_BUCKET" = some (.int 1000000000000000000 t)
  c_MAX_AFTER : ∃ t, mg "MAX_AFTER" = some (.int 1000 t)
  c_MAX_MORE : ∃ t, mg "MAX_MORE" = some (.int 1000 t)
  c_MAX_PLAYED : ∃ t, mg "MAX_PLAYED" = some (.int 2000 t)
  me_Lineu_initu : Meth K (He.ga K "Line") "__init__" (He.ma K (He.ga K "Line") "__init__")
  me_Workeru_initu : Meth K (He.ga K "Worker") "__init__" (He.ma K (He.ga K "Worker") "__init__")
  me_Worker_ticks_for : Meth K (He.ga K "Worker") "ticks_for" (He.ma K (He.ga K "Worker") "ticks_for")
  me_Tiring_ticks_for : Meth K (He.ga K "Tiring") "ticks_for" (He.ma K (He.ga K "Tiring") "ticks_for")
  me_Learning_ticks_for : Meth K (He.ga K "Learning") "ticks_for" (He.ma K (He.ga K "Learning") "ticks_for")
  me_Resting_ticks_for : Meth K (He.ga K "Resting") "ticks_for" (He.ma K (He.ga K "Resting") "ticks_for")
  cl_Line : Cls K (He.ga K "Line")
  mk_Line : Mk K (He.ga K "Line") (He.ma K (He.ga K "Line") "__init__")
  no_Line_people : NoAttr K (He.ga K "Line") "_people"
  no_Line_names : NoAttr K (He.ga K "Line") "_names"
  no_Line_durations : NoAttr K (He.ga K "Line") "_durations"
  cl_Worker : Cls K (He.ga K "Worker")
  mk_Worker : Mk K (He.ga K "Worker") (He.ma K (He.ga K "Worker") "__init__")
  no_Workername : NoAttr K (He.ga K "Worker") "name"
  no_Worker_pace : NoAttr K (He.ga K "Worker") "_pace"
  cl_Tiring : Cls K (He.ga K "Tiring")
  mk_Tiring : Mk K (He.ga K "Tiring") (He.ma K (He.ga K "Tiring") "__init__")
  no_Tiringname : NoAttr K (He.ga K "Tiring") "name"
  no_Tiring_pace : NoAttr K (He.ga K "Tiring") "_pace"
  no_Tiring_after : NoAttr K (He.ga K "Tiring") "_after"
  no_Tiring_extra : NoAttr K (He.ga K "Tiring") "_extra"
  cl_Learning : Cls K (He.ga K "Learning")
  mk_Learning : Mk K (He.ga K "Learning") (He.ma K (He.ga K "Learning") "__init__")
  no_Learningname : NoAttr K (He.ga K "Learning") "name"
  no_Learning_pace : NoAttr K (He.ga K "Learning") "_pace"
  no_Learning_best : NoAttr K (He.ga K "Learning") "_best"
  cl_Resting : Cls K (He.ga K "Resting")
  mk_Resting : Mk K (He.ga K "Resting") (He.ma K (He.ga K "Resting") "__init__")
  no_Restingname : NoAttr K (He.ga K "Resting") "name"
  no_Resting_pace : NoAttr K (He.ga K "Resting") "_pace"
  no_Resting_after : NoAttr K (He.ga K "Resting") "_after"
  no_Resting_rest : NoAttr K (He.ga K "Resting") "_rest"
  m_super : mg "super" = none
  p_people : PropOf K (He.ga K "Line") "people" (He.ma K (He.ga K "Line") "people") (gt K "Line" "people")
  p_names : PropOf K (He.ga K "Line") "names" (He.ma K (He.ga K "Line") "names") (gt K "Line" "names")
  p_durations : PropOf K (He.ga K "Line") "durations" (He.ma K (He.ga K "Line") "durations") (gt K "Line" "durations")
  p_pace : PropOf K (He.ga K "Line") "pace" (He.ma K (He.ga K "Line") "pace") (gt K "Line" "pace")
  co_Line : StX.CallO K (He.ga K "Line") (He.ma K (He.ga K "Line") "__call__")
  op_Line : OpsOf K "Line"
  cc_MAX_PEOPLE : ConC K "Line" "MAX_PEOPLE" 12
  cc_MAX_PACE : ConC K "Line" "MAX_PACE" 1000
  isi_Line : IsiOf K "Line"
  kd_Worker : KndOf K "Worker" "KIND" "steady"
  kd_Tiring : KndOf K "Tiring" "KIND" "tiring"
  kd_Learning : KndOf K "Learning" "KIND" "learning"
  kd_Resting : KndOf K "Resting" "KIND" "resting"
  F_is_whole : ∃ fd, FunD K "is_whole" "is_whole" (defArgs s_is_whole) (defBody s_is_whole) (defScope s_is_whole) [] [] (He.ga K "is_whole") fd
  F_in_range : ∃ fd, FunD K "in_range" "in_range" (defArgs s_in_range) (defBody s_in_range) (defScope s_in_range) [] [] (He.ga K "in_range") fd
  F_check_number : ∃ fd, FunD K "check_number" "check_number" (defArgs s_check_number) (defBody s_check_number) (defScope s_check_number) [] [] (He.ga K "check_number") fd
  F_place_of : ∃ fd, FunD K "place_of" "place_of" (defArgs s_place_of) (defBody s_place_of) (defScope s_place_of) [] [] (He.ga K "place_of") fd
  F_is_name : ∃ fd, FunD K "is_name" "is_name" (defArgs s_is_name) (defBody s_is_name) (defScope s_is_name) [] [] (He.ga K "is_name") fd
  F_check_people : ∃ fd, FunD K "check_people" "check_people" (defArgs s_check_people) (defBody s_check_people) (defScope s_check_people) [] [] (He.ga K "check_people") fd
  F_durations_of : ∃ fd, FunD K "durations_of" "durations_of" (defArgs s_durations_of) (defBody s_durations_of) (defScope s_durations_of) [] [] (He.ga K "durations_of") fd
  F_Lineu_initu : ∃ fd, FunD K "__init__" "Line.__init__" (defArgs s_Lineu_initu) (defBody s_Lineu_initu) (defScope s_Lineu_initu) [] [] (He.ma K (He.ga K "Line") "__init__") fd
  F_turns : ∃ fd, FunD K "turns" "turns" (defArgs s_turns) (defBody s_turns) (defScope s_turns) [] [] (He.ga K "turns") fd
  F_growths : ∃ fd, FunD K "growths" "growths" (defArgs s_growths) (defBody s_growths) (defScope s_growths) [] [] (He.ga K "growths") fd
  F_hand_over_end : ∃ fd, FunD K "hand_over_end" "hand_over_end" (defArgs s_hand_over_end) (defBody s_hand_over_end) (defScope s_hand_over_end) [] [] (He.ga K "hand_over_end") fd
  F_check_part : ∃ fd, FunD K "check_part" "check_part" (defArgs s_check_part) (defBody s_check_part) (defScope s_check_part) [] [] (He.ga K "check_part") fd
  F_Workeru_initu : ∃ fd, FunD K "__init__" "Worker.__init__" (defArgs s_Workeru_initu) (defBody s_Workeru_initu) (defScope s_Workeru_initu) [] [] (He.ma K (He.ga K "Worker") "__init__") fd
  F_Worker_ticks_for : ∃ fd, FunD K "ticks_for" "Worker.ticks_for" (defArgs s_Worker_ticks_for) (defBody s_Worker_ticks_for) (defScope s_Worker_ticks_for) [] [] (He.ma K (He.ga K "Worker") "ticks_for") fd
  F_Tiring_ticks_for : ∃ fd, FunD K "ticks_for" "Tiring.ticks_for" (defArgs s_Tiring_ticks_for) (defBody s_Tiring_ticks_for) (defScope s_Tiring_ticks_for) [] [] (He.ma K (He.ga K "Tiring") "ticks_for") fd
  F_Learning_ticks_for : ∃ fd, FunD K "ticks_for" "Learning.ticks_for" (defArgs s_Learning_ticks_for) (defBody s_Learning_ticks_for) (defScope s_Learning_ticks_for) [] [] (He.ma K (He.ga K "Learning") "ticks_for") fd
  F_Resting_ticks_for : ∃ fd, FunD K "ticks_for" "Resting.ticks_for" (defArgs s_Resting_ticks_for) (defBody s_Resting_ticks_for) (defScope s_Resting_ticks_for) [] [] (He.ma K (He.ga K "Resting") "ticks_for") fd
  F_check_workers : ∃ fd, FunD K "check_workers" "check_workers" (defArgs s_check_workers) (defBody s_check_workers) (defScope s_check_workers) [] [] (He.ga K "check_workers") fd
  F_ends_after : ∃ fd, FunD K "ends_after" "ends_after" (defArgs s_ends_after) (defBody s_ends_after) (defScope s_ends_after) [] [] (He.ga K "ends_after") fd
  F_played : ∃ fd, FunD K "played" "played" (defArgs s_played) (defBody s_played) (defScope s_played) [] [] (He.ga K "played") fd
  F_ticks_needed : ∃ fd, FunD K "ticks_needed" "ticks_needed" (defArgs s_ticks_needed) (defBody s_ticks_needed) (defScope s_ticks_needed) [] [] (He.ga K "ticks_needed") fd
  F__law_random : ∃ fd, FunD K "_law_random" "_law_random" (defArgs s__law_random) (defBody s__law_random) (defScope s__law_random) [] [] (He.ga K "_law_random") fd
  F__law_below : ∃ fd, FunD K "_law_below" "_law_below" (defArgs s__law_below) (defBody s__law_below) (defScope s__law_below) [] [] (He.ga K "_law_below") fd
  F__law_spec : ∃ fd, FunD K "_law_spec" "_law_spec" (defArgs s__law_spec) (defBody s__law_spec) (defScope s__law_spec) [] [] (He.ga K "_law_spec") fd
  F__law_shuffled : ∃ fd, FunD K "_law_shuffled" "_law_shuffled" (defArgs s__law_shuffled) (defBody s__law_shuffled) (defScope s__law_shuffled) [] [] (He.ga K "_law_shuffled") fd
  F__law_people : ∃ fd, FunD K "_law_people" "_law_people" (defArgs s__law_people) (defBody s__law_people) (defScope s__law_people) [] [] (He.ga K "_law_people") fd
  F__law_worker : ∃ fd, FunD K "_law_worker" "_law_worker" (defArgs s__law_worker) (defBody s__law_worker) (defScope s__law_worker) [] [] (He.ga K "_law_worker") fd
  F__law_durations : ∃ fd, FunD K "_law_durations" "_law_durations" (defArgs s__law_durations) (defBody s__law_durations) (defScope s__law_durations) [] [] (He.ga K "_law_durations") fd
  F__law_ticks : ∃ fd, FunD K "_law_ticks" "_law_ticks" (defArgs s__law_ticks) (defBody s__law_ticks) (defScope s__law_ticks) [] [] (He.ga K "_law_ticks") fd
  F__law_ends : ∃ fd, FunD K "_law_ends" "_law_ends" (defArgs s__law_ends) (defBody s__law_ends) (defScope s__law_ends) [] [] (He.ga K "_law_ends") fd
  F__law_equal : ∃ fd, FunD K "_law_equal" "_law_equal" (defArgs s__law_equal) (defBody s__law_equal) (defScope s__law_equal) [] [] (He.ga K "_law_equal") fd
  F_law : ∃ fd, FunD K "law" "law" (defArgs s_law) (defBody s_law) (defScope s_law) [] [] (He.ga K "law") fd
  S_Tiring : SubOf K FILE (He.ga K "Tiring") (He.ma K (He.ga K "Tiring") "__init__") (He.ma K (He.ga K "Worker") "__init__") "Tiring.__init__" (defArgs s_Tiringu_initu) (defBody s_Tiringu_initu) (defScope s_Tiringu_initu)
  S_Learning : SubOf K FILE (He.ga K "Learning") (He.ma K (He.ga K "Learning") "__init__") (He.ma K (He.ga K "Worker") "__init__") "Learning.__init__" (defArgs s_Learningu_initu) (defBody s_Learningu_initu) (defScope s_Learningu_initu)
  S_Resting : SubOf K FILE (He.ga K "Resting") (He.ma K (He.ga K "Resting") "__init__") (He.ma K (He.ga K "Worker") "__init__") "Resting.__init__" (defArgs s_Restingu_initu) (defBody s_Restingu_initu) (defScope s_Restingu_initu)
theorem ex_at {K : PySem.W.Frag} (i : Nat) {b : Bool} (h : (exl K)[i]? = some b) (e : exB K = true) : b = true := List.all_eq_true.mp e b (List.mem_of_getElem? h)
theorem tx_of {K : PySem.W.Frag} {mg : Str → Option Value} {h : Heap} (X : K.In h) (G : h.Ns mainGlobals mg) (c : He5.SaysA fal fnl K) (e : exB K = true) (es : SaysS FILE swl K) : Tx K mg where
  g_is_whole := He.glo_ok X G (c.fact 0 (f := .glo "is_whole") rfl)
  g_in_range := He.glo_ok X G (c.fact 1 (f := .glo "in_range") rfl)
  g_check_number := He.glo_ok X G (c.fact 2 (f := .glo "check_number") rfl)
  g_place_of := He.glo_ok X G (c.fact 3 (f := .glo "place_of") rfl)
  g_is_name := He.glo_ok X G (c.fact 4 (f := .glo "is_name") rfl)
  g_check_people := He.glo_ok X G (c.fact 5 (f := .glo "check_people") rfl)
  g_durations_of := He.glo_ok X G (c.fact 6 (f := .glo "durations_of") rfl)
  g_turns := He.glo_ok X G (c.fact 7 (f := .glo "turns") rfl)
  g_growths := He.glo_ok X G (c.fact 8 (f := .glo "growths") rfl)
  g_hand_over_end := He.glo_ok X G (c.fact 9 (f := .glo "hand_over_end") rfl)
  g_check_part := He.glo_ok X G (c.fact 10 (f := .glo "check_part") rfl)
  g_check_workers := He.glo_ok X G (c.fact 11 (f := .glo "check_workers") rfl)
  g_ends_after := He.glo_ok X G (c.fact 12 (f := .glo "ends_after") rfl)
  g_played := He.glo_ok X G (c.fact 13 (f := .glo "played") rfl)
  g_ticks_needed := He.glo_ok X G (c.fact 14 (f := .glo "ticks_needed") rfl)
  g__law_random := He.glo_ok X G (c.fact 15 (f := .glo "_law_random") rfl)
  g__law_below := He.glo_ok X G (c.fact 16 (f := .glo "_law_below") rfl)
  g__law_spec := He.glo_ok X G (c.fact 17 (f := .glo "_law_spec") rfl)
  g__law_shuffled := He.glo_ok X G (c.fact 18 (f := .glo "_law_shuffled") rfl)
  g__law_people := He.glo_ok X G (c.fact 19 (f := .glo "_law_people") rfl)
  g__law_worker := He.glo_ok X G (c.fact 20 (f := .glo "_law_worker") rfl)
  g__law_durations := He.glo_ok X G (c.fact 21 (f := .glo "_law_durations") rfl)
  g__law_ticks := He.glo_ok X G (c.fact 22 (f := .glo "_law_ticks") rfl)
  g__law_ends := He.glo_ok X G (c.fact 23 (f := .glo "_law_ends") rfl)
  g__law_equal := He.glo_ok X G (c.fact 24 (f := .glo "_law_equal") rfl)
  g_law := He.glo_ok X G (c.fact 25 (f := .glo "law") rfl)
  g_LineError := He.glo_ok X G (c.fact 26 (f := .glo "LineError") rfl)
  g_InvalidLine := He.glo_ok X G (c.fact 27 (f := .glo "InvalidLine") rfl)
  g_UnknownPerson := He.glo_ok X G (c.fact 28 (f := .glo "UnknownPerson") rfl)
  g_InvalidNumber := He.glo_ok X G (c.fact 29 (f := .glo "InvalidNumber") rfl)
  g_InvalidWorker := He.glo_ok X G (c.fact 30 (f := .glo "InvalidWorker") rfl)
  g_Line := He.glo_ok X G (c.fact 31 (f := .glo "Line") rfl)
  g_Worker := He.glo_ok X G (c.fact 32 (f := .glo "Worker") rfl)
  g_Tiring := He.glo_ok X G (c.fact 33 (f := .glo "Tiring") rfl)
  g_Learning := He.glo_ok X G (c.fact 34 (f := .glo "Learning") rfl)
  g_Resting := He.glo_ok X G (c.fact 35 (f := .glo "Resting") rfl)
  m_abs := He.free_ok X G (c.fact 36 (f := .free "abs") rfl)
  m_all := He.free_ok X G (c.fact 37 (f := .free "all") rfl)
  m_bool := He.free_ok X G (c.fact 38 (f := .free "bool") rfl)
  m_enumerate := He.free_ok X G (c.fact 39 (f := .free "enumerate") rfl)
  m_int := He.free_ok X G (c.fact 40 (f := .free "int") rfl)
  m_isinstance := He.free_ok X G (c.fact 41 (f := .free "isinstance") rfl)
  m_len := He.free_ok X G (c.fact 42 (f := .free "len") rfl)
  m_list := He.free_ok X G (c.fact 43 (f := .free "list") rfl)
  m_max := He.free_ok X G (c.fact 44 (f := .free "max") rfl)
  m_min := He.free_ok X G (c.fact 45 (f := .free "min") rfl)
  m_range := He.free_ok X G (c.fact 46 (f := .free "range") rfl)
  m_str := He.free_ok X G (c.fact 47 (f := .free "str") rfl)
  m_sum := He.free_ok X G (c.fact 48 (f := .free "sum") rfl)
  m_tuple := He.free_ok X G (c.fact 49 (f := .free "tuple") rfl)
  m_zip := He.free_ok X G (c.fact 50 (f := .free "zip") rfl)
  c_LETTERS := He.str_ok X G (c.fact 51 (f := .str "LETTERS" "abcdefghijklmnopqrstuvwxyz") rfl)
  c_MAX_LETTERS := He.int_ok X G (c.fact 52 (f := .int "MAX_LETTERS" 8) rfl)
  c_MIN_PEOPLE := He.int_ok X G (c.fact 53 (f := .int "MIN_PEOPLE" 2) rfl)
  c_MAX_BUCKET := He.int_ok X G (c.fact 54 (f := .int "MAX_BUCKET" 1000000000000000000) rfl)
  c_MAX_AFTER := He.int_ok X G (c.fact 55 (f := .int "MAX_AFTER" 1000) rfl)
  c_MAX_MORE := He.int_ok X G (c.fact 56 (f := .int "MAX_MORE" 1000) rfl)
  c_MAX_PLAYED := He.int_ok X G (c.fact 57 (f := .int "MAX_PLAYED" 2000) rfl)
  me_Lineu_initu := He.meth_ok (c.fact 58 (f := .meth "Line" "__init__") rfl)
  me_Workeru_initu := He.meth_ok (c.fact 59 (f := .meth "Worker" "__init__") rfl)
  me_Worker_ticks_for := He.meth_ok (c.fact 60 (f := .meth "Worker" "ticks_for") rfl)
  me_Tiring_ticks_for := He.meth_ok (c.fact 61 (f := .meth "Tiring" "ticks_for") rfl)
  me_Learning_ticks_for := He.meth_ok (c.fact 62 (f := .meth "Learning" "ticks_for") rfl)
  me_Resting_ticks_for := He.meth_ok (c.fact 63 (f := .meth "Resting" "ticks_for") rfl)
  cl_Line := He.cls_ok (c.fact 64 (f := .cls "Line") rfl)
  mk_Line := He.mkr_ok (c.fact 65 (f := .mkr "Line") rfl)
  no_Line_people := He.noat_ok (c.fact 66 (f := .noat "Line" "_people") rfl)
  no_Line_names := He.noat_ok (c.fact 67 (f := .noat "Line" "_names") rfl)
  no_Line_durations := He.noat_ok (c.fact 68 (f := .noat "Line" "_durations") rfl)
  cl_Worker := He.cls_ok (c.fact 69 (f := .cls "Worker") rfl)
  mk_Worker := He.mkr_ok (c.fact 70 (f := .mkr "Worker") rfl)
  no_Workername := He.noat_ok (c.fact 71 (f := .noat "Worker" "name") rfl)
  no_Worker_pace := He.noat_ok (c.fact 72 (f := .noat "Worker" "_pace") rfl)
  cl_Tiring := He.cls_ok (c.fact 73 (f := .cls "Tiring") rfl)
  mk_Tiring := He.mkr_ok (c.fact 74 (f := .mkr "Tiring") rfl)
  no_Tiringname := He.noat_ok (c.fact 75 (f := .noat "Tiring" "name") rfl)
  no_Tiring_pace := He.noat_ok (c.fact 76 (f := .noat "Tiring" "_pace") rfl)
  no_Tiring_after := He.noat_ok (c.fact 77 (f := .noat "Tiring" "_after") rfl)
  no_Tiring_extra := He.noat_ok (c.fact 78 (f := .noat "Tiring" "_extra") rfl)
  cl_Learning := He.cls_ok (c.fact 79 (f := .cls "Learning") rfl)
  mk_Learning := He.mkr_ok (c.fact 80 (f := .mkr "Learning") rfl)
  no_Learningname := He.noat_ok (c.fact 81 (f := .noat "Learning" "name") rfl)
  no_Learning_pace := He.noat_ok (c.fact 82 (f := .noat "Learning" "_pace") rfl)
  no_Learning_best := He.noat_ok (c.fact 83 (f := .noat "Learning" "_best") rfl)
  cl_Resting := He.cls_ok (c.fact 84 (f := .cls "Resting") rfl)
  mk_Resting := He.mkr_ok (c.fact 85 (f := .mkr "Resting") rfl)
  no_Restingname := He.noat_ok (c.fact 86 (f := .noat "Resting" "name") rfl)
  no_Resting_pace := He.noat_ok (c.fact 87 (f := .noat "Resting" "_pace") rfl)
  no_Resting_after := He.noat_ok (c.fact 88 (f := .noat "Resting" "_after") rfl)
  no_Resting_rest := He.noat_ok (c.fact 89 (f := .noat "Resting" "_rest") rfl)
  m_super := He.free_ok X G (c.fact 90 (f := .free "super") rfl)
  p_people := isProp_ok (ex_at 0 rfl e)
  p_names := isProp_ok (ex_at 1 rfl e)
  p_durations := isProp_ok (ex_at 2 rfl e)
  p_pace := isProp_ok (ex_at 3 rfl e)
  co_Line := isCallO_ok (ex_at 4 rfl e)
  op_Line := isOps_ok (ex_at 5 rfl e)
  cc_MAX_PEOPLE := isConC_ok (ex_at 6 rfl e)
  cc_MAX_PACE := isConC_ok (ex_at 7 rfl e)
  isi_Line := isIsi_ok (ex_at 8 rfl e)
  kd_Worker := isKnd_ok (ex_at 9 rfl e)
  kd_Tiring := isKnd_ok (ex_at 10 rfl e)
  kd_Learning := isKnd_ok (ex_at 11 rfl e)
  kd_Resting := isKnd_ok (ex_at 12 rfl e)
  F_is_whole := c.def_ 0 rfl
  F_in_range := c.def_ 1 rfl
  F_check_number := c.def_ 2 rfl
  F_place_of := c.def_ 3 rfl
  F_is_name := c.def_ 4 rfl
  F_check_people := c.def_ 5 rfl
  F_durations_of := c.def_ 6 rfl
  F_Lineu_initu := c.def_ 7 rfl
  F_turns := c.def_ 8 rfl
  F_growths := c.def_ 9 rfl
  F_hand_over_end := c.def_ 10 rfl
  F_check_part := c.def_ 11 rfl
  F_Workeru_initu := c.def_ 12 rfl
  F_Worker_ticks_for := c.def_ 13 rfl
  F_Tiring_ticks_for := c.def_ 14 rfl
  F_Learning_ticks_for := c.def_ 15 rfl
  F_Resting_ticks_for := c.def_ 16 rfl
  F_check_workers := c.def_ 17 rfl
  F_ends_after := c.def_ 18 rfl
  F_played := c.def_ 19 rfl
  F_ticks_needed := c.def_ 20 rfl
  F__law_random := c.def_ 21 rfl
  F__law_below := c.def_ 22 rfl
  F__law_spec := c.def_ 23 rfl
  F__law_shuffled := c.def_ 24 rfl
  F__law_people := c.def_ 25 rfl
  F__law_worker := c.def_ 26 rfl
  F__law_durations := c.def_ 27 rfl
  F__law_ticks := c.def_ 28 rfl
  F__law_ends := c.def_ 29 rfl
  F__law_equal := c.def_ 30 rfl
  F_law := c.def_ 31 rfl
  S_Tiring := es ⟨"Tiring", "Tiring.__init__", defArgs s_Tiringu_initu, defBody s_Tiringu_initu, defScope s_Tiringu_initu, ["Worker"]⟩ (List.mem_of_getElem? (show swl[0]? = some _ from rfl))
  S_Learning := es ⟨"Learning", "Learning.__init__", defArgs s_Learningu_initu, defBody s_Learningu_initu, defScope s_Learningu_initu, ["Worker"]⟩ (List.mem_of_getElem? (show swl[1]? = some _ from rfl))
  S_Resting := es ⟨"Resting", "Resting.__init__", defArgs s_Restingu_initu, defBody s_Restingu_initu, defScope s_Restingu_initu, ["Worker"]⟩ (List.mem_of_getElem? (show swl[2]? = some _ from rfl))
end K
namespace K
open PySem PySem.Spec PyProof.Rows L2 Bk
theorem run (w : World) : HandSHeadRun.RunEq R (PySem.W.view R.prog [48]) hk ob 9000 lo w := by
  intro os
  kernel_rfl
end K
namespace K
open PySem PySem.Spec PyProof.Rows L2 Bk
local macro_rules | `(tactic| walk_at "go1") => `(tactic| (first
  | ((with_reducible show tVar _ _ _ _); refine go_var rfl ?_)
  | (with_reducible first | refine go_c ?_ | refine go_op ?_ | refine go_cons ?_ | refine go_nil ?_ | refine go_cb ?_ | refine go_cl ?_ | refine go_seq ?_ | refine go_asg ?_ | refine go_name ?_ | refine go_ifS ?_ | refine go_test ?_ | refine go_bl ?_)
  | (with_reducible first | refine go_rI0 ?_ | refine go_rU ?_ | refine go_ret ?_ | refine go_next ?_ | refine go_B ?_ | refine go_and ?_ | refine go_or ?_ | refine go_not ?_ | refine go_if ?_ | refine go_andV ?_ | refine go_orV ?_ | refine go_notV ?_)
  | ((with_reducible show rEq _ _ _ _); refine go_rEq rfl ?_)
  | ((with_reducible show rNe _ _ _ _); refine go_rNe rfl ?_)
  | (with_reducible first | refine go_un ?_ | refine go_chain ?_ | refine go_drop ?_ | refine go_retN ?_ | refine go_isN ?_ | refine go_notN ?_ | refine go_cont ?_ | refine go_break ?_ | refine go_par ?_ | refine go_two ?_ | refine go_part ?_ | refine go_noPart ?_ | refine go_int ?_ | refine go_sl ?_ | refine go_yes ?_ | refine go_tup ?_ | refine go_lst ?_)
  | (with_reducible first | refine go_gCons ?_ | refine go_gNil ?_ | refine go_for ?_ | refine go_iEnT ?_ | refine go_iEnum ?_ | refine go_iList ?_ | refine go_iTup ?_ | refine go_iStr ?_ | refine go_iRng1 ?_ | refine go_iRng2 ?_ | refine go_iZip ?_ | refine go_lc ?_ | refine go_mkR ?_ | refine go_mkS ?_ | refine go_clO ?_ | refine go_pr ?_ | refine go_sfld ?_ | refine go_bm ?_ | refine go_ref ?_)))
local macro_rules | `(tactic| walk_at "go") => `(tactic| ((repeat (walk_at "go1")); try dsimp only))
local macro_rules | `(tactic| walk_at "so") => `(tactic| first | omega | (simp; done) | (simp; omega) | (simp at *; omega))
section
variable {P : Program} {w : World} {K : PySem.W.Frag} {mg : Str → Option Value} {base : Heap} [PFa P FILE]
theorem isi_b {H : Hp} {x : V} {n m : String} {b : Bool} {Q : VK} (ty : TyOf K H x (.type n)) (e : PySem.W.kitOne K (.type n) (.type m) = some b) (h : Q (.bl b) H) : rIsi K [x, .ty m] H Q := ⟨_, _, _, _, b, rfl, ClsV.ty m, .base ty, e, h⟩
/-! is_whole, in_range, check_number: of ints that are in range -/
def spWhole : Sp := fun vs H Q _ => ∃ i : Int, vs = [.int i] ∧ Q (.bl true) H
def spInRange : Sp := fun vs H Q _ => ∃ v lo hi : Int, vs = [.int v, .int lo, .int hi] ∧ Q (.bl (decide (lo ≤ v ∧ v ≤ hi))) H
def spCheckNumber : Sp := fun vs H Q _ => ∃ v lo hi : Int, vs = [.int v, .int lo, .int hi] ∧ lo ≤ v ∧ v ≤ hi ∧ Q .non H
theorem sc_is_whole : FnScope ["value"] ["value"] (defScope s_is_whole) := ⟨rfl, rfl, rfl, by decide +kernel, rfl, by decide +kernel, by decide +kernel⟩
theorem ok_is_whole (T : Tx K mg) : Fx P w K mg base 1 (He.ga K "is_whole") spWhole := by
  obtain ⟨fd, F⟩ := T.F_is_whole
  have nd := sc_is_whole.nd
  refine fx_of F sc_is_whole (fun vs H Q E h => ?_) (fun _ _ _ _ _ _ us hl => match us, hl with | [_], _ => rfl) fun cdv A outer s H vs Q E hr h => ?_
  · obtain ⟨i, rfl, _⟩ := h
    rfl
  obtain ⟨i, rfl, h⟩ := h
  refine ⟨_, (pss_one (ps_ret (pe_and (cB call_isi T.m_isinstance (pa_cons (pv 0) (pa_cons (pe_bty "int" T.m_int) pa_nil))) (pe_one (pe_not (cB call_isi T.m_isinstance (pa_cons (pv 0) (pa_cons (pe_bty "bool" T.m_bool) pa_nil)))))))), ?_⟩
  walk_at "go"
  refine isi_b (.int i) (kit_ty (b := "int") (r := true) (by decide +kernel)) ?_
  walk_at "go"
  refine iteT ?_
  walk_at "go"
  refine isi_b (.int i) (kit_ty (b := "bool") (r := false) (by decide +kernel)) ?_
  walk_at "go"
  exact h

theorem sc_in_range : FnScope ["value", "low", "high"] ["value", "low", "high"] (defScope s_in_range) := ⟨rfl, rfl, rfl, by decide +kernel, rfl, by decide +kernel, by decide +kernel⟩
theorem ok_in_range (T : Tx K mg) (D_is_whole : Fx P w K mg base 1 (He.ga K "is_whole") spWhole) : Fx P w K mg base 2 (He.ga K "in_range") spInRange := by
  have K_is_whole : PySem.W.keepIn K (.ref (He.ga K "is_whole")) = true := T.F_is_whole.elim fun _ q => q.kp
  obtain ⟨fd, F⟩ := T.F_in_range
  have nd := sc_in_range.nd
  refine fx_of F sc_in_range (fun vs H Q E h => ?_) (fun _ _ _ _ _ _ us hl => match us, hl with | [_, _, _], _ => rfl) fun cdv A outer s H vs Q E hr h => ?_
  · obtain ⟨v, lo, hi, rfl, _⟩ := h
    rfl
  obtain ⟨v, lo, hi, rfl, h⟩ := h
  refine ⟨_, (pss_one (ps_ret (pe_and (pe_cl D_is_whole hr K_is_whole T.g_is_whole passL (pa_cons (pv 0) pa_nil)) (pe_one (pe_chain op_le op_le (pv 1) (pv 0) (pv 2)))))), ?_⟩
  walk_at "go"
  refine ⟨v, rfl, ?_⟩
  walk_at "go"
  refine iteT ?_
  walk_at "go"
  refine iteD (fun h1 => ?_) fun h1 => ?_
  all_goals walk_at "go"
  · rw [show decide (v ≤ hi) = decide (lo ≤ v ∧ v ≤ hi) from by simp [h1]]
    exact h
  · rw [show false = decide (lo ≤ v ∧ v ≤ hi) from by simp [h1]]
    exact h

theorem sc_check_number : FnScope ["value", "low", "high"] ["value", "low", "high"] (defScope s_check_number) := ⟨rfl, rfl, rfl, by decide +kernel, rfl, by decide +kernel, by decide +kernel⟩
theorem ok_check_number (T : Tx K mg) (D_in_range : Fx P w K mg base 2 (He.ga K "in_range") spInRange) : Fx P w K mg base 3 (He.ga K "check_number") spCheckNumber := by
  have K_in_range : PySem.W.keepIn K (.ref (He.ga K "in_range")) = true := T.F_in_range.elim fun _ q => q.kp
  obtain ⟨fd, F⟩ := T.F_check_number
  have nd := sc_check_number.nd
  refine fx_of F sc_check_number (fun vs H Q E h => ?_) (fun _ _ _ _ _ _ us hl => match us, hl with | [_, _, _], _ => rfl) fun cdv A outer s H vs Q E hr h => ?_
  · obtain ⟨v, lo, hi, rfl, _⟩ := h
    rfl
  obtain ⟨v, lo, hi, rfl, h1, h2, h⟩ := h
  refine ⟨_, (pss_one (ps_if (pt_not (pt_val (pe_cl D_in_range hr K_in_range T.g_in_range passL (pa_cons (pv 0) (pa_cons (pv 1) (pa_cons (pv 2) pa_nil)))))) (pss_one ps_never) pss_nil)), ?_⟩
  walk_at "go"
  refine ⟨v, lo, hi, rfl, ?_⟩
  walk_at "go"
  rw [decide_eq_true (show lo ≤ v ∧ v ≤ hi from ⟨h1, h2⟩)]
  exact iteF h

/-! place_of: the first place of a name that is there -/
def spPlaceOf (K : PySem.W.Frag) : Sp := fun vs H Q _ => ∃ (a : Addr) (ns : List Str) (i : Nat) (z : Str), vs = [.ref a, .str z] ∧ SqT K H a (ns.map V.str) ∧ ns[i]? = some z ∧ (∀ j, j < i → ns[j]? ≠ some z) ∧ ∀ H', Same H H' → Q (.int (i : Int)) H'
theorem sc_place_of : FnScope ["names", "name", "place", "other"] ["names", "name"] (defScope s_place_of) := ⟨rfl, rfl, rfl, by decide +kernel, rfl, by decide +kernel, by decide +kernel⟩
theorem ok_place_of (T : Tx K mg) : Fx P w K mg base 1 (He.ga K "place_of") (spPlaceOf K) := by
  obtain ⟨fd, F⟩ := T.F_place_of
  have nd := sc_place_of.nd
  refine fx_of F sc_place_of (fun vs H Q E h => ?_) (fun _ _ _ _ _ _ us hl => match us, hl with | [_, _], _ => rfl) fun cdv A outer s H vs Q E hr h => ?_
  · obtain ⟨a, ns, i, z, rfl, _⟩ := h
    rfl
  obtain ⟨a, ns, i, z, rfl, hS, hi, hf, h⟩ := h
  refine ⟨_, (pss_cons (ps_for PassesOwn.never rfl (pi_enT T.m_enumerate (pa_cons (pv 0) pa_nil)) (pg_tup (by rfl) (pgs_cons (pg_name (i := 2) nd rfl (Or.inl rfl)) (pgs_cons (pg_name (i := 3) nd rfl (Or.inl rfl)) pgs_nil))) (pss_one (ps_if (pt_cmpR op_eq (pv 3) (pv 1) (nomark _)) (pss_one (ps_ret (pv 2))) pss_nil))) (pss_one ps_never)), ?_⟩
  walk_at "go"
  refine ⟨_, _, rfl, hS, ?_⟩
  refine for_w walk_en (fun j σ H' => j ≤ i ∧ Same H H' ∧ ∃ u v, σ = [some (.ref a), some (.str z), u, v]) ⟨Nat.zero_le _, Same.refl H, none, none, rfl⟩ (fun j σ H' _ p => same_t p.2.1 hS) ?_ ?_
  · rintro j x σ H1 H2 hj ⟨hle, s1, u, v, rfl⟩ ⟨T', y1, y2, rfl, hT, rfl, e1, e2⟩
    obtain ⟨q, hq, rfl⟩ := map_at e2
    cases e1
    have s2 : Same H (upd H1 T' (.tup [V.int (j : Nat), V.str q])) := s1.trans (same_upd hT)
    refine go_gTup (.inl (.inl upd_same)) rfl ?_
    walk_at "go"
    refine iteD (fun hc => ?_) fun hc => ?_
    · walk_at "go"
      have ez : q = z := by injection hc
      have ej : j = i := by
        by_cases hlt : j < i
        · exact absurd (ez ▸ hq) (hf j hlt)
        · omega
      rw [ej]
      exact h _ (ej ▸ s2)
    · walk_at "go"
      refine ⟨?_, s2, _, _, rfl⟩
      by_cases ej : j = i
      · subst ej
        rw [hi] at hq
        cases hq
        exact absurd rfl hc
      · omega
  · rintro σ H1 ⟨hle, _⟩
    have := (List.getElem?_eq_some_iff.mp hi).1
    simp at hle
    omega

/-! is_name -/
def spIsName : Sp := fun vs H Q _ => ∃ z : Str, vs = [.str z] ∧ z.length ≤ 1000 ∧ ∀ H', Same H H' → Q (.bl (nmB z)) H'
theorem all_range {n : Nat} (l : List Nat) (hl : l.length = n) (p : Nat → Bool) (g : Nat → Nat) (hg : ∀ i (hi : i < l.length), g i = l[i]) : (((List.range n).map fun i => p (g i)).all id) = l.all p := by
  rw [Bool.eq_iff_iff, List.all_eq_true, List.all_eq_true]
  constructor
  · intro h x hx
    obtain ⟨i, hi, rfl⟩ := List.mem_iff_getElem.mp hx
    have := h (p (g i)) (List.mem_map.mpr ⟨i, List.mem_range.mpr (by omega), rfl⟩)
    rw [hg i hi] at this
    exact this
  · intro h x hx
    obtain ⟨i, hi, rfl⟩ := List.mem_map.mp hx
    have hi' : i < l.length := by rw [hl]; exact List.mem_range.mp hi
    rw [hg i hi']
    exact h _ (List.getElem_mem _)
theorem str_len (z : Str) : z.length = z.cps.toList.length := by simp [Str.length]
theorem sc_is_name : FnScope ["name", "letter"] ["name"] (defScope s_is_name) := ⟨rfl, rfl, rfl, by decide +kernel, rfl, by decide +kernel, by decide +kernel⟩
theorem ok_is_name (T : Tx K mg) : Fx P w K mg base 1 (He.ga K "is_name") spIsName := by
  obtain ⟨fd, F⟩ := T.F_is_name
  have nd := sc_is_name.nd
  refine fx_of F sc_is_name (fun vs H Q E h => ?_) (fun _ _ _ _ _ _ us hl => match us, hl with | [_], _ => rfl) fun cdv A outer s H vs Q E hr h => ?_
  · obtain ⟨z, rfl, _⟩ := h
    rfl
  obtain ⟨z, rfl, hz, h⟩ := h
  refine ⟨_, (pss_cons (ps_if (PW.pt (pw_or (pt_not (pt_val (cB call_isi T.m_isinstance (pa_cons (pv 0) (pa_cons (pe_bty "str" T.m_str) pa_nil))))) (pw_or1 (pt_not (pt_chain op_le op_le pe_int (cB call_len_str T.m_len (pa_cons (pv 0) pa_nil)) (gI T.c_MAX_LETTERS)))))) (pss_one (ps_ret pe_bl)) pss_nil) (pss_one (ps_ret (cB (cr_all rfl) T.m_all (pa_cons (pe_lc (own := [("letter", 1)]) (g := (gName 1)) rfl nd (pi_str (pv 0)) (blkOk_by (N := ["name", "letter"]) (sc := defScope s_is_name) (own := [("letter", 1)]) (by decide +kernel)) (fun _ _ _ _ _ => (pg_name (i := 1) nd rfl (Or.inl rfl))) (fun _ _ _ _ _ => pts_nil) (fun _ _ _ _ _ => (pe_cmpR op_in_sign (pv 1) (gS T.c_LETTERS) rfl))) pa_nil))))), ?_⟩
  walk_at "go"
  refine isi_b (.str z) (kit_ty (b := "str") (r := true) (by decide +kernel)) ?_
  walk_at "go"
  refine iteF ?_
  walk_at "go"
  refine ⟨z, rfl, Nat.le_trans hz (by decide), ?_⟩
  walk_at "go"
  refine iteD (fun h1 => ?_) fun h1 => ?_
  · walk_at "go"
    refine iteB (fun h2 => ?_) fun h2 => ?_
    · walk_at "go"
      have : nmB z = false := by
        unfold nmB
        have : ¬ ((z.length : Int) ≤ 8) := by simpa using h2
        rw [decide_eq_false (by omega)]
        rfl
      rw [← this]
      exact h _ (Same.refl _)
    · walk_at "go"
      have h3 : (z.length : Int) ≤ 8 := by simpa using h2
      have hl : decide (1 ≤ z.length ∧ z.length ≤ 8) = true := decide_eq_true ⟨by omega, by omega⟩
      refine ⟨z, rfl, ?_⟩
      refine lc_fun (walk_str (z := z)) (fun _ _ => trivial) (fun i => .bl (decide (z.cps.getD i 0 ∈ letters))) (by have e8 := str_len z; rw [Array.length_toList] at e8; omega) ?_ ?_
      · rintro i x H2 H3 k hi s2 ⟨rfl, c, hc, rfl⟩ hk
        walk_at "go"
        refine ⟨rfl, ?_⟩
        walk_at "go"
        refine ⟨c, _, rfl, rfl, ?_⟩
        have ec : z.cps.getD i 0 = c := by simp [Array.getD, Array.getElem?_eq_some_iff.mp hc |>.1, Array.getElem?_eq_some_iff.mp hc |>.2]
        have := hk _ (Same.refl _)
        rw [ec] at this
        exact this
      · intro D H2 hD s2 e2
        walk_at "go"
        refine ⟨D, (List.range z.cps.size).map fun i => decide (z.cps.getD i 0 ∈ letters), rfl, .inl (.inl (by rw [e2, List.map_map]; rfl)), ?_⟩
        have ea := all_range (n := z.cps.size) z.cps.toList (by simp) (fun c => decide (c ∈ letters)) (fun i => z.cps.getD i 0) (fun i hi => by simp at hi; simp [Array.getD, hi])
        rw [ea]
        have en : nmB z = z.cps.toList.all fun c => decide (c ∈ letters) := by unfold nmB; rw [hl]; rfl
        rw [← en]
        exact h _ s2
  · walk_at "go"
    refine iteT ?_
    walk_at "go"
    have : nmB z = false := by
      unfold nmB
      rw [decide_eq_false (by omega)]
      rfl
    rw [← this]
    exact h _ (Same.refl _)

/-! check_people: of people who can be a line -/
def spCheckPeople (K : PySem.W.Frag) : Sp := fun vs H Q _ => ∃ (N : Addr → Prop) (a : Addr) (rs : List Addr) (ps : List Pr), vs = [.ref a] ∧ SqT K H a (rs.map V.ref) ∧ Rows N H rs ps ∧ Good ps ∧ ∀ H', Same H H' → Q .non H'
theorem nmB_len {z : Str} (h : nmB z = true) : z.length ≤ 1000 := by
  unfold nmB at h
  rw [Bool.and_eq_true, decide_eq_true_iff] at h
  omega
theorem sc_check_people : FnScope ["people", "names", "index", "name", "pace", "fits", "_"] ["people"] (defScope s_check_people) := ⟨rfl, rfl, rfl, by decide +kernel, rfl, by decide +kernel, by decide +kernel⟩
theorem ok_check_people (T : Tx K mg) (D_is_name : Fx P w K mg base 1 (He.ga K "is_name") spIsName) (D_in_range : Fx P w K mg base 2 (He.ga K "in_range") spInRange) : Fx P w K mg base 3 (He.ga K "check_people") (spCheckPeople K) := by
  have K_is_name : PySem.W.keepIn K (.ref (He.ga K "is_name")) = true := T.F_is_name.elim fun _ q => q.kp
  have K_in_range : PySem.W.keepIn K (.ref (He.ga K "in_range")) = true := T.F_in_range.elim fun _ q => q.kp
  obtain ⟨fd, F⟩ := T.F_check_people
  have nd := sc_check_people.nd
  refine fx_of F sc_check_people (fun vs H Q E h => ?_) (fun _ _ _ _ _ _ us hl => match us, hl with | [_], _ => rfl) fun cdv A outer s H vs Q E hr h => ?_
  · obtain ⟨N, a, rs, ps, rfl, _⟩ := h
    rfl
  obtain ⟨N, a, rs, ps, rfl, hS, hR, hG, h⟩ := h
  refine ⟨_, (pss_cons (ps_setLc (i := 1) (own := [("name", 3), ("_", 6)]) (g := (gTup K 2 (gCons (gName 3) (gCons (gName 6) gNil)))) rfl nd rfl rfl (sw_true rfl rfl rfl (by decide +kernel)) (pi_tup (pv 0)) (blkOk_by (N := ["people", "names", "index", "name", "pace", "fits", "_"]) (sc := defScope s_check_people) (own := [("name", 3), ("_", 6)]) (by decide +kernel)) (fun _ _ _ _ _ => (pg_tup (by rfl) (pgs_cons (pg_name (i := 3) nd rfl (Or.inl rfl)) (pgs_cons (pg_name (i := 6) nd rfl (Or.inl rfl)) pgs_nil)))) (fun _ _ _ _ _ => pts_nil) (fun _ _ _ _ _ => (pv 3))) (pss_cons (ps_for PassesOwn.never rfl (pi_enT T.m_enumerate (pa_cons (pv 0) pa_nil)) (pg_tup (by rfl) (pgs_cons (pg_name (i := 2) nd rfl (Or.inl rfl)) (pgs_cons (pg_tup (by rfl) (pgs_cons (pg_name (i := 3) nd rfl (Or.inl rfl)) (pgs_cons (pg_name (i := 4) nd rfl (Or.inl rfl)) pgs_nil))) pgs_nil))) (pss_cons (ps_set (i := 5) nd rfl (Or.inl rfl) (pe_and (pe_cl D_is_name hr K_is_name T.g_is_name passL (pa_cons (pv 3) pa_nil)) (pe_one (pe_cl D_in_range hr K_in_range T.g_in_range passL (pa_cons (pv 4) (pa_cons pe_int (pa_cons (ClX.pe_cval (gR T.g_Line)) pa_nil))))))) (pss_one (ps_if (PW.pt (pw_or (pt_cmpR op_ge (pv 2) (ClX.pe_cval (gR T.g_Line)) (nomark _)) (pw_or (pt_not (pt_val (pv 5))) (pw_or1 (pt_cmpR op_in_seq (pv 3) (pe_slice sl_list (pv 1) po_none (po_some (pv 2))) rfl))))) (pss_one ps_never) pss_nil)))) (pss_one (ps_if (pt_cmpR op_lt (cB call_len_seq T.m_len (pa_cons (pv 0) pa_nil)) (gI T.c_MIN_PEOPLE) (nomark _)) (pss_one ps_never) pss_nil)))), ?_⟩
  have hlen := hR.1
  have hmost := hG.most
  have htwo := hG.two
  walk_at "go"
  refine ⟨⟨_, hS⟩, ?_⟩
  refine lc_fun (walk_tup (xs := rs.map V.ref)) (fun H2 s2 => same_t s2 hS) (fun i => .str ((ps.map (·.1)).getD i ("" : Str))) (by simp; omega) ?_ ?_
  · rintro i x H2 H3 k hi s2 ⟨rfl, hx⟩ hk
    obtain ⟨p, t, hp, rfl, _, ht⟩ := (hR.mono (frn_same s2)).at hx
    refine go_gTup (.inl (.inl ht)) rfl ?_
    walk_at "go"
    refine ⟨rfl, ?_⟩
    walk_at "go"
    have q := hk _ (Same.refl _)
    have e1 : (ps.map (·.1)).getD i ("" : Str) = p.1 := by simp [List.getD, hp]
    rw [e1] at q
    exact q
  · intro D H2 hD s2 e2
    have e3 : H2 D = some (.lst ((ps.map (·.1)).map V.str)) := by
      rw [e2]
      congr 2
      exact range_map (n := (rs.map V.ref).length) (ps.map (·.1)) V.str ("" : Str) (by simp; exact hlen)
    walk_at "go"
    refine ⟨_, _, rfl, same_t s2 hS, ?_⟩
    refine for_w (walk_en (xs := rs.map V.ref)) (fun i σ H' => Same H2 H' ∧ ∃ u1 u2 u3 u4, σ = [some (.ref a), some (.ref D), u1, u2, u3, u4, none]) ⟨Same.refl _, _, _, _, _, rfl⟩ (fun i σ H' _ p => same_t (s2.trans p.1) hS) ?_ ?_
    · rintro i x σ H3 H4 hi ⟨s3, u1, u2, u3, u4, rfl⟩ ⟨T', y1, y2, rfl, hT, rfl, e4, e5⟩
      obtain ⟨p, t, hp, rfl, _, ht⟩ := (hR.mono (frn_same (s2.trans s3))).at e5
      cases e4
      have s4 : Same H3 (upd H3 T' (.tup [V.int (i : Nat), V.ref t])) := same_upd hT
      have hmem : p ∈ ps := List.mem_of_getElem? hp
      have hip : i < ps.length := (List.getElem?_eq_some_iff.mp hp).1
      refine go_gTup (.inl (.inl upd_same)) rfl ?_
      walk_at "go"
      refine go_gTup (.inl (.inl (s4 _ _ ht))) rfl ?_
      walk_at "go"
      refine ⟨p.1, rfl, nmB_len (hG.nm p hmem), fun H5 s5 => ?_⟩
      walk_at "go"
      rw [hG.nm p hmem]
      refine iteT ?_
      walk_at "go"
      refine go_cval T.cc_MAX_PACE.rd T.cc_MAX_PACE.va.choose_spec ?_
      walk_at "go"
      refine ⟨p.2, 1, 1000, rfl, ?_⟩
      rw [decide_eq_true (hG.pc p hmem)]
      walk_at "go"
      refine go_cval T.cc_MAX_PEOPLE.rd T.cc_MAX_PEOPLE.va.choose_spec ?_
      walk_at "go"
      rw [decide_eq_false (show ¬ (12 : Int) ≤ (i : Int) by omega)]
      refine iteF ?_
      walk_at "go"
      refine iteF ?_
      walk_at "go"
      refine go_slL (.inl (.inl (s5 _ _ (s4 _ _ (s3 _ _ e3))))) fun q H6 s6 hq e6 => ?_
      walk_at "go"
      rw [cut_take, ← List.map_take] at e6
      refine go_inL (.inl (.inl (.inl e6))) ?_
      walk_at "go"
      have hn : p.1 ∉ (ps.map (·.1)).take i := by
        intro hm
        obtain ⟨j, hj, ej⟩ := List.mem_iff_getElem.mp hm
        simp at hj ej
        have h1 : (ps.map (·.1))[j]'(by simp; omega) = (ps.map (·.1))[i]'(by simp; omega) := by
          have h2 := (List.getElem?_eq_some_iff.mp hp).2
          simp [ej, h2]
        have := (List.getElem_inj hG.nd).mp h1
        omega
      rw [decide_eq_false hn]
      refine iteF ?_
      walk_at "go"
      exact ⟨s3.trans (s4.trans (s5.trans s6)), _, _, _, _, rfl⟩
    · rintro σ H3 ⟨s3, u1, u2, u3, u4, rfl⟩
      walk_at "go"
      refine ⟨_, _, rfl, .inr (same_t (s2.trans s3) hS), ?_⟩
      walk_at "go"
      rw [decide_eq_false (show ¬ (((rs.map V.ref).length : Int) < 2) by simp; omega)]
      refine iteF ?_
      exact h _ (s2.trans s3)

/-! durations_of -/
def spDurationsOf (K : PySem.W.Frag) : Sp := fun vs H Q _ => ∃ (N : Addr → Prop) (a : Addr) (rs : List Addr) (ps : List Pr), vs = [.ref a] ∧ SqT K H a (rs.map V.ref) ∧ Rows N H rs ps ∧ ps.length ≤ 1000 ∧ ∀ p H', Same H H' → H p = Option.none → H' p = some (.tup ((dsOf ps).map V.int)) → Q (.ref p) H'
theorem sc_durations_of : FnScope ["people", "paces", "_", "pace", "ahead", "behind"] ["people"] (defScope s_durations_of) := ⟨rfl, rfl, rfl, by decide +kernel, rfl, by decide +kernel, by decide +kernel⟩
theorem ok_durations_of (T : Tx K mg) : Fx P w K mg base 1 (He.ga K "durations_of") (spDurationsOf K) := by
  obtain ⟨fd, F⟩ := T.F_durations_of
  have nd := sc_durations_of.nd
  refine fx_of F sc_durations_of (fun vs H Q E h => ?_) (fun _ _ _ _ _ _ us hl => match us, hl with | [_], _ => rfl) fun cdv A outer s H vs Q E hr h => ?_
  · obtain ⟨N, a, rs, ps, rfl, _⟩ := h
    rfl
  obtain ⟨N, a, rs, ps, rfl, hS, hR, hG, h⟩ := h
  refine ⟨_, (pss_cons (ps_setLc (i := 1) (own := [("_", 2), ("pace", 3)]) (g := (gTup K 2 (gCons (gName 2) (gCons (gName 3) gNil)))) rfl nd rfl rfl (sw_true rfl rfl rfl (by decide +kernel)) (pi_tup (pv 0)) (blkOk_by (N := ["people", "paces", "_", "pace", "ahead", "behind"]) (sc := defScope s_durations_of) (own := [("_", 2), ("pace", 3)]) (by decide +kernel)) (fun _ _ _ _ _ => (pg_tup (by rfl) (pgs_cons (pg_name (i := 2) nd rfl (Or.inl rfl)) (pgs_cons (pg_name (i := 3) nd rfl (Or.inl rfl)) pgs_nil)))) (fun _ _ _ _ _ => pts_nil) (fun _ _ _ _ _ => (pv 3))) (pss_one (ps_ret (cT call_tuple_of T.m_tuple (pa_cons (pe_lc (own := [("ahead", 4), ("behind", 5)]) (g := (gTup K 2 (gCons (gName 4) (gCons (gName 5) gNil)))) rfl nd (RZ.pi_zipA rfl T.m_zip (pa_cons (pv 1) (pa_cons (pe_slice sl_list (pv 1) (po_some pe_int) po_none) pa_nil))) (blkOk_by (N := ["people", "paces", "_", "pace", "ahead", "behind"]) (sc := defScope s_durations_of) (own := [("ahead", 4), ("behind", 5)]) (by decide +kernel)) (fun _ _ _ _ _ => (pg_tup (by rfl) (pgs_cons (pg_name (i := 4) nd rfl (Or.inl rfl)) (pgs_cons (pg_name (i := 5) nd rfl (Or.inl rfl)) pgs_nil)))) (fun _ _ _ _ _ => pts_nil) (fun _ _ _ _ _ => (cB (call_max2 rfl) T.m_max (pa_cons (pv 4) (pa_cons (pv 5) pa_nil))))) pa_nil))))), ?_⟩
  have hlen := hR.1
  walk_at "go"
  refine ⟨⟨_, hS⟩, ?_⟩
  refine lc_fun (walk_tup (xs := rs.map V.ref)) (fun H2 s2 => same_t s2 hS) (fun i => .int ((ps.map (·.2)).getD i 0)) (by simp; omega) ?_ ?_
  · rintro i x H2 H3 k hi s2 ⟨rfl, hx⟩ hk
    obtain ⟨p, t, hp, rfl, _, ht⟩ := (hR.mono (frn_same s2)).at hx
    refine go_gTup (.inl (.inl ht)) rfl ?_
    walk_at "go"
    refine ⟨rfl, ?_⟩
    walk_at "go"
    have q := hk _ (Same.refl _)
    have e1 : (ps.map (·.2)).getD i 0 = p.2 := by simp [List.getD, hp]
    rw [e1] at q
    exact q
  · intro D H2 hD s2 e2
    have e3 : H2 D = some (.lst ((ps.map (·.2)).map V.int)) := by
      rw [e2]
      congr 2
      exact range_map (n := (rs.map V.ref).length) (ps.map (·.2)) V.int 0 (by simp; exact hlen)
    walk_at "go"
    refine go_slL (.inl (.inl e3)) fun q H3 s3 hq e4 => ?_
    walk_at "go"
    rw [show (1 : Int) = ((1 : Nat) : Int) from rfl, cut_drop, ← List.map_drop] at e4
    refine ⟨D, q, _, _, rfl, .inl ⟨.inl (.inl (s3 _ _ e3)), .inl (.inl e4), ?_⟩⟩
    refine lc_fun (walk_zip (n := ps.length - 1) (xs := (ps.map (·.2)).map V.int) (ys := ((ps.map (·.2)).drop 1).map V.int) (by walk_at "so")) (fun H4 s4 => ⟨.inl (.inl (s4 _ _ (s3 _ _ e3))), .inl (.inl (s4 _ _ e4))⟩) (fun i => .int (max ((ps.map (·.2)).getD i 0) ((ps.map (·.2)).getD (i + 1) 0))) (by omega) ?_ ?_
    · rintro i x H4 H5 k hi s4 ⟨T', y1, y2, rfl, hT, rfl, f1, f2⟩ hk
      obtain ⟨z1, g1, rfl⟩ := map_at f1
      obtain ⟨z2, g2, rfl⟩ := map_at f2
      refine go_gTup (.inl (.inl upd_same)) rfl ?_
      walk_at "go"
      refine ⟨rfl, ?_⟩
      walk_at "go"
      refine ⟨z1, z2, rfl, ?_⟩
      have q := hk _ (same_upd (o := .tup [V.int z1, V.int z2]) hT)
      have g3 : (ps.map (·.2)).getD i 0 = z1 := by rw [List.getD, g1]; rfl
      have g4 : (ps.map (·.2)).getD (i + 1) 0 = z2 := by
        rw [List.getElem?_drop, Nat.add_comm] at g2
        rw [List.getD, g2]
        rfl
      rw [g3, g4] at q
      have e5 : (if z2 > z1 then z2 else z1) = max z1 z2 := by omega
      rw [e5]
      exact q
    · intro D2 H4 hD2 s4 e5
      walk_at "go"
      refine ⟨D2, _, rfl, .inl ⟨.inl (.inl e5), fun l hl => ?_⟩⟩
      refine h l _ (s2.trans (s3.trans (s4.trans (same_upd hl)))) ((s2.trans (s3.trans s4)).free hl) ?_
      rw [upd_same, dsOf_eq, List.map_map]
      rfl

end
end K
namespace K
open PySem PySem.Spec PyProof.Rows L2 Bk
local macro_rules | `(tactic| walk_at "go1") => `(tactic| (first
  | ((with_reducible show tVar _ _ _ _); refine go_var rfl ?_)
  | (with_reducible first | refine go_c ?_ | refine go_op ?_ | refine go_cons ?_ | refine go_nil ?_ | refine go_cb ?_ | refine go_cl ?_ | refine go_seq ?_ | refine go_asg ?_ | refine go_name ?_ | refine go_ifS ?_ | refine go_test ?_ | refine go_bl ?_)
  | (with_reducible first | refine go_rI0 ?_ | refine go_rU ?_ | refine go_ret ?_ | refine go_next ?_ | refine go_B ?_ | refine go_and ?_ | refine go_or ?_ | refine go_not ?_ | refine go_if ?_ | refine go_andV ?_ | refine go_orV ?_ | refine go_notV ?_)
  | ((with_reducible show rEq _ _ _ _); refine go_rEq rfl ?_)
  | ((with_reducible show rNe _ _ _ _); refine go_rNe rfl ?_)
  | (with_reducible first | refine go_un ?_ | refine go_chain ?_ | refine go_drop ?_ | refine go_retN ?_ | refine go_isN ?_ | refine go_notN ?_ | refine go_cont ?_ | refine go_break ?_ | refine go_par ?_ | refine go_two ?_ | refine go_part ?_ | refine go_noPart ?_ | refine go_int ?_ | refine go_sl ?_ | refine go_yes ?_ | refine go_tup ?_ | refine go_lst ?_)
  | (with_reducible first | refine go_gCons ?_ | refine go_gNil ?_ | refine go_for ?_ | refine go_iEnT ?_ | refine go_iEnum ?_ | refine go_iList ?_ | refine go_iTup ?_ | refine go_iStr ?_ | refine go_iRng1 ?_ | refine go_iRng2 ?_ | refine go_iZip ?_ | refine go_lc ?_ | refine go_mkR ?_ | refine go_mkS ?_ | refine go_clO ?_ | refine go_pr ?_ | refine go_sfld ?_ | refine go_bm ?_ | refine go_ref ?_)))
local macro_rules | `(tactic| walk_at "go") => `(tactic| ((repeat (walk_at "go1")); try dsimp only))
local macro_rules | `(tactic| walk_at "so") => `(tactic| first | omega | (simp; done) | (simp; omega) | (simp at *; omega))
section
variable {P : Program} {w : World} {K : PySem.W.Frag} {mg : Str → Option Value} {base : Heap} [PFa P FILE]
/-! Line.__init__ and the properties -/
def spInit (K : PySem.W.Frag) : Sp := fun vs H Q _ => ∃ (N M : Addr → Prop) (o dx a : Addr) (rs : List Addr) (ps : List Pr), vs = [.ref o, .ref a] ∧ N o ∧ (∀ p, H p = Option.none → N p) ∧ H o = some (.ins (He.ga K "Line") dx []) ∧ H a = some (.tup (rs.map V.ref)) ∧ Rows M H rs ps ∧ Good ps ∧
  ∀ H', FrD o H H' → LineAt K N H' o ps → Q .non H'
theorem mk_ok {K : PySem.W.Frag} {N M : Addr → Prop} {H : Hp} {vs : List V} {rs : List Addr} {ps : List Pr} {Q : VK} {E : XK} (hN : ∀ p, H p = Option.none → N p) (ev : vs = rs.map V.ref) (hR : Rows M H rs ps) (hG : Good ps)
    (k : ∀ x H2, Same H H2 → H x = Option.none → LineAt K N H2 x ps → Q (.ref x) H2) :
    ∀ x dx, H x = Option.none → H dx = Option.none → dx ≠ x → StSp 1 (spInit K) (V.ref x :: vs) (upd (upd H dx (.own x)) x (.ins (He.ga K "Line") dx [])) (fun v H2 => v = .non ∧ Q (.ref x) H2) E := by
  intro x dx hx hdx hne
  subst ev
  have s0 : Same H (upd (upd H dx (.own x)) x (.ins (He.ga K "Line") dx [])) := fun b o e => by
    rw [upd_ne (ne_of_none e hx), upd_ne (ne_of_none e hdx)]
    exact e
  have hlen := hR.1
  have hm := hG.most
  refine ⟨[V.ref x], rs.map V.ref, rfl, rfl, Nat.le_trans (by simp; omega) (show 12 ≤ sizeLine by decide), fun p hp => ?_⟩
  have s1 := same_upd (o := .tup (rs.map V.ref)) hp
  refine ⟨N, M, x, dx, p, rs, ps, rfl, hN _ hx, fun q hq => hN _ (s0.free (s1.free hq)), s1 _ _ upd_same, upd_same, hR.mono (frn_same (s0.trans s1)), hG, fun H' f L => ⟨rfl, k x H' (fun b o e => f b o (ne_of_none e hx) (s1 _ _ (s0 _ _ e))) hx L⟩⟩
def spNames (K : PySem.W.Frag) : Sp := fun vs H Q _ => ∃ (N : Addr → Prop) (o dx tp tn td : Addr) (rs : List Addr) (ps : List Pr), vs = [.ref o] ∧ LineF K N H o dx tp tn td rs ps ∧ Q (.ref tn) H
def spDurs (K : PySem.W.Frag) : Sp := fun vs H Q _ => ∃ (N : Addr → Prop) (o dx tp tn td : Addr) (rs : List Addr) (ps : List Pr), vs = [.ref o] ∧ LineF K N H o dx tp tn td rs ps ∧ Q (.ref td) H
theorem sc_Lineu_initu : FnScope ["self", "people", "name", "pace", "_"] ["self", "people"] (defScope s_Lineu_initu) := ⟨rfl, rfl, rfl, by decide +kernel, rfl, by decide +kernel, by decide +kernel⟩
theorem ok_Lineu_initu (T : Tx K mg) (D_check_people : Fx P w K mg base 3 (He.ga K "check_people") (spCheckPeople K)) (D_durations_of : Fx P w K mg base 1 (He.ga K "durations_of") (spDurationsOf K)) : Fx P w K mg base 5 (He.ma K (He.ga K "Line") "__init__") (StSp 1 (spInit K)) := by
  have K_check_people : PySem.W.keepIn K (.ref (He.ga K "check_people")) = true := T.F_check_people.elim fun _ q => q.kp
  have K_durations_of : PySem.W.keepIn K (.ref (He.ga K "durations_of")) = true := T.F_durations_of.elim fun _ q => q.kp
  obtain ⟨fd, F⟩ := T.F_Lineu_initu
  have nd := sc_Lineu_initu.nd
  refine fx_star (ps := ["self"]) F sc_Lineu_initu (fun kV doc pm an cdv ct => StX.bind_star1 (B := fun l => bindArgs (PySem.W.fnOf "__init__" "Line.__init__" (defArgs s_Lineu_initu) (defBody s_Lineu_initu) (defScope s_Lineu_initu) .none kV doc pm an cdv ct) ⟨l, []⟩) (p1 := "self") (pv := "people") (fun a => rfl) (fun a r rs => rfl)) fun cdv A outer s H vs Q E hr h => ?_
  obtain ⟨N, M, o, dx, a, rs, ps, rfl, No, hN, hO, hS, hR, hG, h⟩ := h
  refine ⟨_, (pss_cons (ps_expr (pe_cl D_check_people hr K_check_people T.g_check_people passL (pa_cons (pv 1) pa_nil))) (pss_cons (ps_fld (pv 0) (cT call_tuple_of T.m_tuple (pa_cons (pe_lc (own := [("name", 2), ("pace", 3)]) (g := (gTup K 2 (gCons (gName 2) (gCons (gName 3) gNil)))) rfl nd (pi_tup (pv 1)) (blkOk_by (N := ["self", "people", "name", "pace", "_"]) (sc := defScope s_Lineu_initu) (own := [("name", 2), ("pace", 3)]) (by decide +kernel)) (fun _ _ _ _ _ => (pg_tup (by rfl) (pgs_cons (pg_name (i := 2) nd rfl (Or.inl rfl)) (pgs_cons (pg_name (i := 3) nd rfl (Or.inl rfl)) pgs_nil)))) (fun _ _ _ _ _ => pts_nil) (fun _ _ _ _ _ => (pe_tup (pa_cons (pv 2) (pa_cons (pv 3) pa_nil))))) pa_nil)) rfl) (pss_cons (ps_fld (pv 0) (cT call_tuple_of T.m_tuple (pa_cons (pe_lc (own := [("name", 2), ("_", 4)]) (g := (gTup K 2 (gCons (gName 2) (gCons (gName 4) gNil)))) rfl nd (pi_tup (pv 1)) (blkOk_by (N := ["self", "people", "name", "pace", "_"]) (sc := defScope s_Lineu_initu) (own := [("name", 2), ("_", 4)]) (by decide +kernel)) (fun _ _ _ _ _ => (pg_tup (by rfl) (pgs_cons (pg_name (i := 2) nd rfl (Or.inl rfl)) (pgs_cons (pg_name (i := 4) nd rfl (Or.inl rfl)) pgs_nil)))) (fun _ _ _ _ _ => pts_nil) (fun _ _ _ _ _ => (pv 2))) pa_nil)) rfl) (pss_one (ps_fld (pv 0) (pe_cl D_durations_of hr K_durations_of T.g_durations_of passL (pa_cons (pv 1) pa_nil)) rfl))))), ?_⟩
  have hlen := hR.1
  have hm := hG.most
  have hao : a ≠ o := ne_of hS hO (fun z => by cases z)
  walk_at "go"
  refine ⟨M, _, rs, ps, rfl, .inl (.inl hS), hR, hG, fun H1 s1 => ?_⟩
  walk_at "go"
  refine ⟨⟨_, .inl (.inl (s1 _ _ hS))⟩, ?_⟩
  refine lc_gen (walk_tup (xs := rs.map V.ref)) (fun H2 s2 => .inl (.inl (s2 _ _ (s1 _ _ hS)))) (fun D i y H => ∃ p t, ps[i]? = some p ∧ y = V.ref t ∧ t ≠ D ∧ t ≠ o ∧ N t ∧ H t = some (.tup [.str p.1, .int p.2])) (fun D i y H2 H3 f ⟨p, t, a1, a2, a3, a4, a5, a6⟩ => ⟨p, t, a1, a2, a3, a4, a5, f _ _ a3 a6⟩) (by walk_at "so") ?_ ?_
  · rintro D i x H2 H3 k hD hi s2 ⟨oD, hoD⟩ ⟨rfl, hx⟩ hk
    obtain ⟨p, t, hp, rfl, _, ht⟩ := (hR.mono (frn_same (s1.trans s2))).at hx
    refine go_gTup (.inl (.inl ht)) rfl ?_
    walk_at "go"
    refine ⟨rfl, ?_⟩
    walk_at "go"
    refine ⟨show 2 ≤ sizeLine by decide, fun q hq => hk _ _ (same_upd hq) ⟨p, q, hp, rfl, fun z => ?_, fun z => ?_, hN _ ((s1.trans s2).free hq), upd_same⟩⟩
    · rw [z, hoD] at hq
      cases hq
    · rw [z, s2 _ _ (s1 _ _ hO)] at hq
      cases hq
  · intro D ys H2 hD s2 e2 hl hy
    walk_at "go"
    refine ⟨D, _, rfl, .inl ⟨.inl (.inl e2), fun tp htp => ?_⟩⟩
    walk_at "go"
    have s3 := same_upd (o := .tup ys) htp
    have s03 := (s1.trans s2).trans s3
    refine ⟨o, _, dx, _, rfl, s03 _ _ hO, T.cl_Line, T.no_Line_people, by decide, ?_⟩
    have rows : ∃ rs2 : List Addr, ys = rs2.map V.ref ∧ ∀ (H' : Hp), FrD o (upd H2 tp (.tup ys)) H' → Rows N H' rs2 ps := by
      refine ⟨ys.map fun y => match y with | .ref t => t | _ => 0, ?_, fun H' fr => ⟨by simp at hl ⊢; omega, fun i p hp => ?_⟩⟩
      · rw [List.map_map]
        symm
        apply List.ext_getElem?
        intro i
        cases ei : ys[i]? with
        | none => simp [ei]
        | some y =>
          obtain ⟨p, t, _, rfl, _⟩ := hy i y ei
          simp [ei]
      · have hi : i < ys.length := by
          have := (List.getElem?_eq_some_iff.mp hp).1
          simp at hl
          omega
        obtain ⟨p', t, a1, a2, a3, a4, a5, a6⟩ := hy i ys[i] (by simp [hi])
        rw [hp] at a1
        cases a1
        refine ⟨t, ?_, a5, fr _ _ a4 (s3 _ _ a6)⟩
        rw [List.getElem?_map, show ys[i]? = some ys[i] by simp [hi], a2]
        rfl
    obtain ⟨rs2, ey, rows⟩ := rows
    have otp : tp ≠ o := fun z => by
      rw [z, (s1.trans s2) _ _ hO] at htp
      cases htp
    have Ntp : N tp := hN _ ((s1.trans s2).free htp)
    generalize hU1 : upd (upd H2 tp (.tup ys)) o (.ins (He.ga K "Line") dx (putF "_people" (.ref tp) [])) = U1
    have f1 : FrD o (upd H2 tp (.tup ys)) U1 := hU1 ▸ frd_upd
    have o1 : U1 o = some (.ins (He.ga K "Line") dx (putF "_people" (.ref tp) [])) := hU1 ▸ upd_same
    have p1 : U1 tp = some (.tup (rs2.map V.ref)) := f1 _ _ otp (by rw [← ey]; exact upd_same)
    have g1 : FrD o H U1 := (frd_same s03).trans f1
    have free1 : ∀ q, U1 q = Option.none → H q = Option.none := fun q hq => by
      cases e : H q with
      | none => rfl
      | some u =>
        by_cases z : q = o
        · rw [z, o1] at hq; cases hq
        · rw [g1 _ _ z e] at hq; cases hq
    have R2 : Rows N U1 rs2 ps := rows U1 f1
    have A1 : U1 a = some (.tup (rs.map V.ref)) := g1 _ _ hao hS
    have hRo : ∀ (i : Nat) (p : Pr), ps[i]? = some p → ∃ t, rs[i]? = some t ∧ t ≠ o ∧ H t = some (.tup [.str p.1, .int p.2]) := fun i p hp => by
      obtain ⟨t, b1, _, b3⟩ := hR.2 i p hp
      exact ⟨t, b1, ne_of b3 hO (fun z => by cases z), b3⟩
    have R1 : Rows (fun b => b ≠ o) U1 rs ps := ⟨hlen, fun i p hp => by
      obtain ⟨t, b1, b2, b3⟩ := hRo i p hp
      exact ⟨t, b1, b2, g1 _ _ b2 b3⟩⟩
    walk_at "go"
    refine ⟨⟨_, .inl (.inl A1)⟩, ?_⟩
    refine lc_fun (walk_tup (xs := rs.map V.ref)) (fun H3 s4 => .inl (.inl (s4 _ _ A1))) (fun i => .str ((ps.map (·.1)).getD i ("" : Str))) (by walk_at "so") ?_ ?_
    · rintro i x H3 H4 k hi s4 ⟨rfl, hx⟩ hk
      obtain ⟨p, t, hp, rfl, _, ht⟩ := (R1.mono (frn_same s4)).at hx
      refine go_gTup (.inl (.inl ht)) rfl ?_
      walk_at "go"
      refine ⟨rfl, ?_⟩
      walk_at "go"
      have q := hk _ (Same.refl _)
      have e1 : (ps.map (·.1)).getD i ("" : Str) = p.1 := by simp [List.getD, hp]
      rw [e1] at q
      exact q
    · intro D2 H3 hD2 s4 e4
      have e5 : H3 D2 = some (.lst ((ps.map (·.1)).map V.str)) := by
        rw [e4]
        congr 2
        exact range_map (n := (rs.map V.ref).length) (ps.map (·.1)) V.str ("" : Str) (by simp; exact hlen)
      walk_at "go"
      refine ⟨D2, _, rfl, .inl ⟨.inl (.inl e5), fun tn htn => ?_⟩⟩
      walk_at "go"
      have s5 := same_upd (o := .tup ((ps.map (·.1)).map V.str)) htn
      have s45 := s4.trans s5
      refine ⟨o, _, dx, _, rfl, s45 _ _ o1, T.cl_Line, T.no_Line_names, putF_len1 _ _, ?_⟩
      have otn : tn ≠ o := fun z => by
        rw [z, s4 _ _ o1] at htn
        cases htn
      have Ntn : N tn := hN _ (free1 _ (s4.free htn))
      have n2 : (upd H3 tn (.tup ((ps.map (·.1)).map V.str))) tn = some (.tup ((ps.map (·.1)).map V.str)) := upd_same
      generalize hU2 : upd (upd H3 tn (.tup ((ps.map (·.1)).map V.str))) o (.ins (He.ga K "Line") dx (putF "_names" (.ref tn) (putF "_people" (.ref tp) []))) = U2
      have f2 : FrD o (upd H3 tn (.tup ((ps.map (·.1)).map V.str))) U2 := hU2 ▸ frd_upd
      have o2 : U2 o = some (.ins (He.ga K "Line") dx (putF "_names" (.ref tn) (putF "_people" (.ref tp) []))) := hU2 ▸ upd_same
      have g2 : FrD o U1 U2 := (frd_same s45).trans f2
      have fn2 := f2 _ _ otn n2
      walk_at "go"
      refine ⟨(fun b => b ≠ o), _, rs, ps, rfl, .inl (.inl (g2 _ _ hao A1)), R1.mono (fun b u n e => g2 b u n e), by omega, fun td H4 s6 htd etd => ?_⟩
      walk_at "go"
      refine ⟨o, _, dx, _, rfl, s6 _ _ o2, T.cl_Line, T.no_Line_durations, putF_len2 _ _ _ _, ?_⟩
      have otd : td ≠ o := fun z => by
        rw [z, o2] at htd
        cases htd
      have free2 : H td = Option.none := by
        cases e : H td with
        | none => rfl
        | some u => rw [g2 _ _ otd (g1 _ _ otd e)] at htd; cases htd
      have f3 : FrD o H4 (upd H4 o (.ins (He.ga K "Line") dx (lf tp tn td))) := frd_upd
      have g3 : FrD o U2 (upd H4 o (.ins (He.ga K "Line") dx (lf tp tn td))) := (frd_same s6).trans f3
      refine h _ (g1.trans (g2.trans g3)) ⟨dx, tp, tn, td, rs2, No, Ntp, Ntn, hN _ free2, upd_same, g3 _ _ otp (g2 _ _ otp p1), rows _ (f1.trans (g2.trans g3)), g3 _ _ otn fn2, f3 _ _ otd etd⟩

/-! turns, growths, hand_over_end -/
def turnsL (ds : List Int) : List Int := if ds.length = 1 then ds else (List.range (ds.length - 1)).map fun i => ds.getD i 0 + ds.getD (i + 1) 0
def spTurns (K : PySem.W.Frag) : Sp := fun vs H Q _ => ∃ (a : Addr) (ds : List Int), vs = [.ref a] ∧ SqT K H a (ds.map V.int) ∧ 1 ≤ ds.length ∧ ds.length ≤ 1000 ∧ ∀ p H', Same H H' → H p = Option.none → H' p = some (.lst ((turnsL ds).map V.int)) → Q (.ref p) H'
theorem sc_turns : FnScope ["durations", "one", "two"] ["durations"] (defScope s_turns) := ⟨rfl, rfl, rfl, by decide +kernel, rfl, by decide +kernel, by decide +kernel⟩
theorem ok_turns (T : Tx K mg) : Fx P w K mg base 1 (He.ga K "turns") (spTurns K) := by
  obtain ⟨fd, F⟩ := T.F_turns
  have nd := sc_turns.nd
  refine fx_of F sc_turns (fun vs H Q E h => ?_) (fun _ _ _ _ _ _ us hl => match us, hl with | [_], _ => rfl) fun cdv A outer s H vs Q E hr h => ?_
  · obtain ⟨a, ds, rfl, _⟩ := h
    rfl
  obtain ⟨a, ds, rfl, hS, h1, h2, h⟩ := h
  refine ⟨_, (pss_cons (ps_if (pt_cmpR op_eq (cB call_len_seq T.m_len (pa_cons (pv 0) pa_nil)) pe_int (nomark _)) (pss_one (ps_ret (cT call_list_of T.m_list (pa_cons (pv 0) pa_nil)))) pss_nil) (pss_one (ps_ret (pe_lc (own := [("one", 1), ("two", 2)]) (g := (gTup K 2 (gCons (gName 1) (gCons (gName 2) gNil)))) rfl nd (RZ.pi_zipA rfl T.m_zip (pa_cons (pv 0) (pa_cons (pe_slice sl_tupA (pv 0) (po_some pe_int) po_none) pa_nil))) (blkOk_by (N := ["durations", "one", "two"]) (sc := defScope s_turns) (own := [("one", 1), ("two", 2)]) (by decide +kernel)) (fun _ _ _ _ _ => (pg_tup (by rfl) (pgs_cons (pg_name (i := 1) nd rfl (Or.inl rfl)) (pgs_cons (pg_name (i := 2) nd rfl (Or.inl rfl)) pgs_nil)))) (fun _ _ _ _ _ => pts_nil) (fun _ _ _ _ _ => (pe_op op_add (pv 1) (pv 2))))))), ?_⟩
  walk_at "go"
  refine ⟨_, _, rfl, .inr hS, ?_⟩
  walk_at "go"
  refine iteD (fun hc => ?_) fun hc => ?_
  · walk_at "go"
    refine ⟨_, _, rfl, .inr hS, fun p hp => h p _ (same_upd hp) hp ?_⟩
    have e1 : ds.length = 1 := by
      have := V.int.inj hc
      simp at this
      omega
    rw [upd_same, turnsL, if_pos e1]
  · have e1 : ds.length ≠ 1 := fun z => hc (by simp [z])
    walk_at "go"
    refine go_slT hS fun q H2 s2 _ hq => ?_
    walk_at "go"
    rw [show (1 : Int) = ((1 : Nat) : Int) from rfl, cut_drop, ← List.map_drop] at hq
    refine ⟨a, q, _, _, rfl, .inr ⟨same_t s2 hS, hq, ?_⟩⟩
    refine lc_fun (walk_zipT (n := ds.length - 1) (xs := ds.map V.int) (ys := (ds.drop 1).map V.int) (by walk_at "so")) (fun H4 s4 => ⟨same_t (s2.trans s4) hS, same_t s4 hq⟩) (fun i => .int (ds.getD i 0 + ds.getD (i + 1) 0)) (by omega) ?_ ?_
    · rintro i x H4 H5 k hi s4 ⟨T', y1, y2, rfl, hT, rfl, f1, f2⟩ hk
      obtain ⟨z1, g1, rfl⟩ := map_at f1
      obtain ⟨z2, g2, rfl⟩ := map_at f2
      refine go_gTup (.inl (.inl upd_same)) rfl ?_
      walk_at "go"
      refine ⟨rfl, ?_⟩
      walk_at "go"
      have q := hk _ (same_upd (o := .tup [V.int z1, V.int z2]) hT)
      have g3 : ds.getD i 0 = z1 := by rw [List.getD, g1]; rfl
      have g4 : ds.getD (i + 1) 0 = z2 := by
        rw [List.getElem?_drop, Nat.add_comm] at g2
        rw [List.getD, g2]
        rfl
      rw [g3, g4] at q
      exact q
    · intro D2 H4 hD2 s4 e5
      walk_at "go"
      refine h D2 _ (s2.trans s4) (s2.free hD2) ?_
      rw [e5, turnsL, if_neg e1, List.map_map]
      rfl

theorem _root_.Bk.ixL (K0 : PySem.W.Frag) {X : Cx} (h : X.K = K0 := by rfl) : IxR X (rIxL K0) := h ▸ ix_list
theorem _root_.Bk.ixT (K0 : PySem.W.Frag) {X : Cx} (h : X.K = K0 := by rfl) : IxR X (rIxT K0) := h ▸ ix_tup
theorem ty_lst {K : PySem.W.Frag} {H : Hp} {a : Addr} {xs : List V} (h : H a = some (.lst xs)) : tyV K "list" (.ref a) H := .inl ⟨rfl, xs, .inl (.inl h)⟩
/-! the mathematics of growths -/
def dd (ds : List Int) (i : Nat) : Int := ds.getD i 0
def tN (n : Nat) : Nat := max (n - 1) 1
theorem turns_eq {ds : List Int} (h : 1 ≤ ds.length) : turnsL ds = (List.range (tN ds.length)).map (Mt.tn (dd ds)) := by
  unfold turnsL tN
  by_cases e : ds.length = 1
  · rw [if_pos e, e]
    match ds, e with
    | [x], _ => simp [Mt.tn, dd]
  · rw [if_neg e, show max (ds.length - 1) 1 = ds.length - 1 by omega]
    rfl
theorem Lm_mem (d : Nat → Int) : ∀ r, 1 ≤ r → ∃ i, i < r ∧ Mt.Lm d r = Mt.tn d i
  | 0, h => by omega
  | 1, _ => ⟨0, by omega, Mt.Lm_1 d⟩
  | r + 2, _ => by
    obtain ⟨i, hi, e⟩ := Lm_mem d (r + 1) (by omega)
    have e2 : Mt.Lm d (r + 2) = max (Mt.Lm d (r + 1)) (Mt.tn d (r + 1)) := rfl
    by_cases hc : Mt.Lm d (r + 1) ≤ Mt.tn d (r + 1)
    · exact ⟨r + 1, by omega, by omega⟩
    · exact ⟨i, by omega, by omega⟩
theorem max_is {d : Nat → Int} {r : Nat} {m : Int} (h1 : 1 ≤ r) (hm : m ∈ (List.range r).map (Mt.tn d)) (hle : ∀ y, y ∈ (List.range r).map (Mt.tn d) → y ≤ m) : m = Mt.Lm d r := by
  obtain ⟨i, hi, e⟩ := Lm_mem d r h1
  have a1 := hle (Mt.tn d i) (List.mem_map.mpr ⟨i, List.mem_range.mpr hi, rfl⟩)
  obtain ⟨j, hj, rfl⟩ := List.mem_map.mp hm
  have a2 := Mt.Lm_le d (List.mem_range.mp hj)
  omega
theorem sum_take (ds : List Int) : ∀ p, p < ds.length → (ds.take (p + 1)).sum = Mt.Wy (dd ds) p
  | 0, h => by
    match ds, h with
    | x :: r, _ => simp [Mt.Wy, dd]
  | p + 1, h => by
    rw [List.take_succ_eq_append_getElem h, List.sum_append, sum_take ds p (by omega)]
    have e : dd ds (p + 1) = ds[p + 1] := by simp [dd, List.getD, h]
    simp [Mt.Wy, e]
theorem sum_Ls (d : Nat → Int) (L : Int) : ∀ (k p : Nat), ((List.range k).map fun i => L - Mt.tn d (p + i)).sum = Mt.Ls d L p k
  | 0, p => by simp [Mt.Ls]
  | k + 1, p => by
    have e := sum_Ls d L k (p + 1)
    rw [List.range_succ_eq_map, List.map_cons, List.map_map, List.sum_cons]
    have e2 : ((fun i => L - Mt.tn d (p + i)) ∘ Nat.succ) = fun i => L - Mt.tn d (p + 1 + i) := by
      funext i
      simp only [Function.comp]
      rw [show p + i.succ = p + 1 + i by omega]
    rw [e2, e]
    rfl
theorem take_rm {α : Type} (f : Nat → α) (r n : Nat) (h : r ≤ n) : ((List.range n).map f).take r = (List.range r).map f := by
  rw [← List.map_take, List.take_range, Nat.min_eq_left h]
theorem drop_rm {α : Type} (f : Nat → α) (p r : Nat) : ((List.range r).map f).drop p = (List.range (r - p)).map fun i => f (p + i) := by
  apply List.ext_getElem?
  intro i
  rw [List.getElem?_drop]
  by_cases h : p + i < r
  · simp [h, show i < r - p by omega]
  · simp [h, show ¬ i < r - p by omega]
def StV (d : Nat → Int) (p r : Nat) : Int := Mt.Wy d p - Mt.Ls d (Mt.Lm d r) p (r - p)
theorem Fv_St (d : Nat → Int) (r b p : Nat) : Mt.Fv d r b p = StV d p r + Mt.Lm d r * (b : Int) := rfl
def GrAt (H : Hp) (D : Addr) (d : Nat → Int) (p n : Nat) : Prop := ∃ ys : List V, H D = some (.lst ys) ∧ ys.length = tN n + 1 - max p 1 ∧ ∀ (i : Nat) (y : V), ys[i]? = some y → ∃ t, y = .ref t ∧ H t = some (.tup [.int (StV d p (max p 1 + i)), .int (Mt.Lm d (max p 1 + i))])
theorem GrAt.mono {H H' : Hp} {D : Addr} {d : Nat → Int} {p n : Nat} (s : Same H H') (h : GrAt H D d p n) : GrAt H' D d p n := by
  obtain ⟨ys, a, b, c⟩ := h
  exact ⟨ys, s _ _ a, b, fun i y e => by
    obtain ⟨t, x, z⟩ := c i y e
    exact ⟨t, x, s _ _ z⟩⟩
theorem dd_bd {ds : List Int} (h : ∀ x ∈ ds, 0 ≤ x ∧ x ≤ 1000) (i : Nat) : 0 ≤ dd ds i ∧ dd ds i ≤ 1000 := by
  unfold dd
  by_cases hi : i < ds.length
  · have := h ds[i] (List.getElem_mem _)
    simpa [List.getD, hi] using this
  · simp [List.getD, hi]
theorem Lm_bd {d : Nat → Int} (h : ∀ i, 0 ≤ d i ∧ d i ≤ 1000) : ∀ r, 0 ≤ Mt.Lm d r ∧ Mt.Lm d r ≤ 2000
  | 0 => by
    have a := h 0
    have b := h (0 + 1)
    simp only [Mt.Lm, Mt.tn]
    omega
  | r + 1 => by
    have a := h r
    have b := h (r + 1)
    have c := Lm_bd h r
    simp only [Mt.Lm, Mt.tn]
    omega
theorem end_is {ds : List Int} (hb : ∀ x ∈ ds, 0 ≤ x ∧ x ≤ 1000) {p b : Nat} {m : Int} (hp : p < ds.length) (hm : m ∈ (List.range (tN ds.length + 1 - max p 1)).map fun i => Mt.Fv (dd ds) (max p 1 + i) b p)
    (hle : ∀ y, (y ∈ (List.range (tN ds.length + 1 - max p 1)).map fun i => Mt.Fv (dd ds) (max p 1 + i) b p) → y ≤ m) : m = Mt.En (dd ds) (ds.length - 1) b p := by
  obtain ⟨i, hi, rfl⟩ := List.mem_map.mp hm
  have hi := List.mem_range.mp hi
  by_cases e : ds.length = 1
  · have e0 : p = 0 := by omega
    subst e0
    rw [e] at hi ⊢
    have ei : i = 0 := by unfold tN at hi; omega
    subst ei
    have d1 : dd ds 1 = 0 := by simp [dd, List.getD, e]
    show Mt.Fv (dd ds) 1 b 0 = _
    have el : Mt.Lm (dd ds) 1 = dd ds 0 := by
      rw [Mt.Lm_1]
      simp [Mt.tn, d1]
    rw [show 1 - 1 = 0 from rfl, Mt.En_one]
    unfold Mt.Fv
    rw [el]
    simp [Mt.Ls, Mt.Wy, Mt.tn, d1]
  · have eT : tN ds.length = ds.length - 1 := by unfold tN; omega
    rw [eT] at hi hle
    have h0 := Mt.Fv_le (dd ds) (ds.length - 1) b p (max p 1 + i) (by omega) (by omega) (by omega) (by omega)
    obtain ⟨r, h1, h2, h3, e1⟩ := Mt.Fv_is (dd ds) (ds.length - 1) (fun i _ => (dd_bd hb i).1) (by omega) b p (by omega)
    have h4 := hle (Mt.Fv (dd ds) r b p) (List.mem_map.mpr ⟨r - max p 1, List.mem_range.mpr (by omega), by rw [show max p 1 + (r - max p 1) = r by omega]⟩)
    omega
def spPace (K : PySem.W.Frag) : Sp := fun vs H Q _ => ∃ (N : Addr → Prop) (o dx tp tn td : Addr) (rs : List Addr) (ps : List Pr), vs = [.ref o] ∧ LineF K N H o dx tp tn td rs ps ∧ 2 ≤ ps.length ∧ ps.length ≤ 1000 ∧ ∀ H', Same H H' → Q (.int (Mt.Lm (dd (dsOf ps)) (tN (ps.length - 1)))) H'
def spGrowths (K : PySem.W.Frag) : Sp := fun vs H Q _ => ∃ (a : Addr) (ds : List Int) (p : Nat), vs = [.ref a, .int p] ∧ SqT K H a (ds.map V.int) ∧ 1 ≤ ds.length ∧ ds.length ≤ 1000 ∧ p < ds.length ∧ ∀ D H', Same H H' → H D = Option.none → GrAt H' D (dd ds) p ds.length → Q (.ref D) H'
def spEnd (K : PySem.W.Frag) : Sp := fun vs H Q _ => ∃ (a : Addr) (ds : List Int) (p b : Nat), vs = [.ref a, .int p, .int b] ∧ SqT K H a (ds.map V.int) ∧ (∀ x ∈ ds, 0 ≤ x ∧ x ≤ 1000) ∧ 1 ≤ ds.length ∧ ds.length ≤ 1000 ∧ p < ds.length ∧ ∀ H', Same H H' → Q (.int (Mt.En (dd ds) (ds.length - 1) b p)) H'
theorem sc_growths : FnScope ["durations", "place", "ticks", "way", "pairs", "reach", "longest", "lost", "turn"] ["durations", "place"] (defScope s_growths) := ⟨rfl, rfl, rfl, by decide +kernel, rfl, by decide +kernel, by decide +kernel⟩
theorem ok_growths (T : Tx K mg) (D_turns : Fx P w K mg base 1 (He.ga K "turns") (spTurns K)) : Fx P w K mg base 2 (He.ga K "growths") (spGrowths K) := by
  have K_turns : PySem.W.keepIn K (.ref (He.ga K "turns")) = true := T.F_turns.elim fun _ q => q.kp
  obtain ⟨fd, F⟩ := T.F_growths
  have nd := sc_growths.nd
  refine fx_of F sc_growths (fun vs H Q E h => ?_) (fun _ _ _ _ _ _ us hl => match us, hl with | [_, _], _ => rfl) fun cdv A outer s H vs Q E hr h => ?_
  · obtain ⟨a, ds, p, rfl, _⟩ := h
    rfl
  obtain ⟨a, ds, p, rfl, hS, h1, h2, hp, h⟩ := h
  refine ⟨_, (pss_cons (ps_set (i := 2) nd rfl (Or.inl rfl) (pe_cl D_turns hr K_turns T.g_turns passL (pa_cons (pv 0) pa_nil))) (pss_cons (ps_set (i := 3) nd rfl (Or.inl rfl) (cB (cr_sumT rfl) T.m_sum (pa_cons (pe_slice sl_tupA (pv 0) po_none (po_some (pe_op op_add (pv 1) pe_int))) pa_nil))) (pss_cons (ps_set (i := 4) nd rfl (Or.inl rfl) (pe_lst pa_nil)) (pss_cons (ps_for PassesOwn.never rfl (pi_range2 rfl T.m_range (pa_cons (cB (call_max2 rfl) T.m_max (pa_cons (pv 1) (pa_cons pe_int pa_nil))) (pa_cons (pe_op op_add (cB call_len_seq T.m_len (pa_cons (pv 2) pa_nil)) pe_int) pa_nil))) (pg_name (i := 5) nd rfl (Or.inl rfl)) (pss_cons (ps_set (i := 6) nd rfl (Or.inr rfl) (cB (cr_max rfl) T.m_max (pa_cons (pe_slice sl_list (pv 2) po_none (po_some (pv 5))) pa_nil))) (pss_cons (ps_set (i := 7) nd rfl (Or.inl rfl) (cB (cr_sum rfl) T.m_sum (pa_cons (pe_lc (own := [("turn", 8)]) (g := (gName 8)) rfl nd (pi_list (pe_slice sl_list (pv 2) (po_some (pv 1)) (po_some (pv 5)))) (blkOk_by (N := ["durations", "place", "ticks", "way", "pairs", "reach", "longest", "lost", "turn"]) (sc := defScope s_growths) (own := [("turn", 8)]) (by decide +kernel)) (fun _ _ _ _ _ => (pg_name (i := 8) nd rfl (Or.inl rfl))) (fun _ _ _ _ _ => pts_nil) (fun _ _ _ _ _ => (pe_op op_sub (pv 6) (pv 8)))) pa_nil))) (pss_one (ps_expr (pe_bm PySem.F.plainAttrs_list PySem.F.slot_list_append PySem.F.type_list_append mt_append (pv 4) (pa_cons (pe_tup (pa_cons (pe_op op_sub (pv 3) (pv 7)) (pa_cons (pv 6) pa_nil))) pa_nil))))))) (pss_one (ps_ret (pv 4))))))), ?_⟩
  walk_at "go"
  refine ⟨a, ds, rfl, hS, h1, h2, fun tk H1 s1 htk e1 => ?_⟩
  rw [turns_eq h1] at e1
  walk_at "go"
  refine go_slT (same_t s1 hS) fun q H2 s2 _ hq => ?_
  walk_at "go"
  rw [show ((p : Int) + 1) = ((p + 1 : Nat) : Int) from rfl, cut_take, ← List.map_take] at hq
  refine ⟨q, _, rfl, hq, ?_⟩
  rw [sum_take ds p hp]
  walk_at "go"
  refine ⟨Nat.zero_le _, fun D hD => ?_⟩
  walk_at "go"
  refine ⟨_, _, rfl, ?_⟩
  rw [show (if (1 : Int) > (p : Int) then (1 : Int) else (p : Int)) = ((max p 1 : Nat) : Int) by split <;> omega]
  walk_at "go"
  have e3 := (same_upd hD : Same H2 (upd H2 D (.lst []))) _ _ (s2 _ _ e1)
  refine ⟨_, _, rfl, .inl (.inl (.inl e3)), ?_⟩
  walk_at "go"
  have ht1 : tN ds.length ≤ 1000 ∧ p ≤ tN ds.length ∧ 1 ≤ tN ds.length := by unfold tN; omega
  refine ⟨_, _, rfl, ⟨by omega, by omega, by simp; omega, by simp; omega⟩, ?_⟩
  rw [List.length_map, List.length_map, List.length_range, show ((tN ds.length : Int) + 1 - ((max p 1 : Nat) : Int)).toNat = tN ds.length + 1 - max p 1 by omega]
  have s02 := s1.trans s2
  refine for_w (walk_range (lo := ((max p 1 : Nat) : Int)) (n := tN ds.length + 1 - max p 1)) (fun i σ H' => Same H2 H' ∧ (∃ ys : List V, H' D = some (.lst ys) ∧ ys.length = i ∧ ∀ (j : Nat) (y : V), ys[j]? = some y → ∃ t, y = .ref t ∧ H' t = some (.tup [.int (StV (dd ds) p (max p 1 + j)), .int (Mt.Lm (dd ds) (max p 1 + j))])) ∧ ∃ u1 u2 u3, σ = [some (.ref a), some (.int p), some (.ref tk), some (.int (Mt.Wy (dd ds) p)), some (.ref D), u1, u2, u3, none]) ⟨same_upd hD, ⟨[], upd_same, rfl, fun j y e => by simp at e⟩, _, _, _, rfl⟩ (fun _ _ _ _ _ => trivial) ?_ ?_
  · rintro i x σ H4 H5 hi ⟨s4, ⟨ys, e5, hl, hy⟩, u1, u2, u3, rfl⟩ ⟨rfl, rfl⟩
    dsimp only
    rw [show ((max p 1 : Nat) : Int) + (i : Int) = ((max p 1 + i : Nat) : Int) from rfl]
    have hr1 : 1 ≤ max p 1 + i := by omega
    have hr2 : max p 1 + i ≤ tN ds.length := by omega
    walk_at "go"
    refine go_slL (.inl (.inl (s4 _ _ (s2 _ _ e1)))) fun q2 H5 s5 hq2 e6 => ?_
    walk_at "go"
    rw [cut_take, ← List.map_take, take_rm _ _ _ hr2] at e6
    refine ⟨q2, _, rfl, .inl (.inl e6), by simp; omega, fun m hm hle => ?_⟩
    rw [max_is hr1 hm hle]
    walk_at "go"
    refine go_slL (.inl (.inl (s5 _ _ (s4 _ _ (s2 _ _ e1))))) fun q3 H6 s6 hq3 e7 => ?_
    walk_at "go"
    rw [cut_mid, ← List.map_take, take_rm _ _ _ hr2, ← List.map_drop, drop_rm] at e7
    refine ⟨⟨_, .inl (.inl e7)⟩, ?_⟩
    refine lc_fun (walk_list (xs := (List.map V.int ((List.range (max p 1 + i - p)).map fun i => Mt.tn (dd ds) (p + i))))) (fun H7 s7 => .inl (.inl (s7 _ _ e7))) (fun j => .int (Mt.Lm (dd ds) (max p 1 + i) - Mt.tn (dd ds) (p + j))) (by simp; omega) ?_ ?_
    · rintro j x H7 H8 k hj s7 ⟨rfl, hx⟩ hk
      obtain ⟨z, hz, rfl⟩ := map_at hx
      obtain ⟨z2, hz2, rfl⟩ := map_at hz
      have ez : z2 = j := by
        rw [List.getElem?_range (by simp at hj; omega)] at hz2
        exact (Option.some.inj hz2).symm
      subst ez
      walk_at "go"
      refine ⟨rfl, ?_⟩
      walk_at "go"
      exact hk _ (Same.refl _)
    · intro D2 H7 hD2 s7 e8
      walk_at "go"
      rw [List.length_map, List.length_map, List.length_range] at e8
      refine ⟨D2, (List.range (max p 1 + i - p)).map fun j => Mt.Lm (dd ds) (max p 1 + i) - Mt.tn (dd ds) (p + j), rfl, .inl (.inl (by rw [e8, List.map_map]; rfl)), ?_⟩
      rw [sum_Ls]
      walk_at "go"
      have s57 := s5.trans (s6.trans s7)
      have e9 := s57 _ _ e5
      refine ⟨ty_lst e9, ?_⟩
      walk_at "go"
      refine ⟨show 2 ≤ sizeLine by decide, fun t ht => ?_⟩
      have s8 := same_upd (o := .tup [.int (Mt.Wy (dd ds) p - Mt.Ls (dd ds) (Mt.Lm (dd ds) (max p 1 + i)) p (max p 1 + i - p)), .int (Mt.Lm (dd ds) (max p 1 + i))]) ht
      walk_at "go"
      refine ⟨D, ys, _, rfl, rfl, s8 _ _ e9, by rw [hl]; exact Nat.lt_of_lt_of_le (show i < 2000 by omega) (by decide), ?_⟩
      walk_at "go"
      have hDt : t ≠ D := fun z => by rw [z, e9] at ht; cases ht
      refine ⟨fun b o eb => ?_, ⟨ys ++ [.ref t], upd_same, by simp [hl], fun j y ej => ?_⟩, _, _, _, rfl⟩
      · rw [upd_ne (ne_of_none eb hD)]
        exact s8 _ _ (s57 _ _ (s4 _ _ eb))
      · by_cases hj : j < ys.length
        · rw [List.getElem?_append_left hj] at ej
          obtain ⟨t2, a1, a2⟩ := hy j y ej
          refine ⟨t2, a1, ?_⟩
          rw [upd_ne (ne_of a2 e5 (fun z => by cases z))]
          exact s8 _ _ (s57 _ _ a2)
        · have hlj : j < (ys ++ [V.ref t]).length := (List.getElem?_eq_some_iff.mp ej).1
          have e10 : j = ys.length := by simp at hlj; omega
          subst e10
          rw [List.getElem?_append_right (Nat.le_refl _)] at ej
          simp at ej
          refine ⟨t, ej.symm, ?_⟩
          rw [upd_ne hDt, hl]
          exact upd_same
  · rintro σ H4 ⟨s4, ⟨ys, e5, hl, hy⟩, u1, u2, u3, rfl⟩
    walk_at "go"
    exact h D H4 (s02.trans s4) (s02.free hD) ⟨ys, e5, hl, hy⟩

theorem sc_hand_over_end : FnScope ["durations", "place", "bucket", "start", "step"] ["durations", "place", "bucket"] (defScope s_hand_over_end) := ⟨rfl, rfl, rfl, by decide +kernel, rfl, by decide +kernel, by decide +kernel⟩
theorem ok_hand_over_end (T : Tx K mg) (D_growths : Fx P w K mg base 2 (He.ga K "growths") (spGrowths K)) : Fx P w K mg base 3 (He.ga K "hand_over_end") (spEnd K) := by
  have K_growths : PySem.W.keepIn K (.ref (He.ga K "growths")) = true := T.F_growths.elim fun _ q => q.kp
  obtain ⟨fd, F⟩ := T.F_hand_over_end
  have nd := sc_hand_over_end.nd
  refine fx_of F sc_hand_over_end (fun vs H Q E h => ?_) (fun _ _ _ _ _ _ us hl => match us, hl with | [_, _, _], _ => rfl) fun cdv A outer s H vs Q E hr h => ?_
  · obtain ⟨a, ds, p, b, rfl, _⟩ := h
    rfl
  obtain ⟨a, ds, p, b, rfl, hS, hb, h1, h2, hp, h⟩ := h
  refine ⟨_, (pss_one (ps_ret (cB (cr_max rfl) T.m_max (pa_cons (pe_lc (own := [("start", 3), ("step", 4)]) (g := (gTup K 2 (gCons (gName 3) (gCons (gName 4) gNil)))) rfl nd (pi_list (pe_cl D_growths hr K_growths T.g_growths passL (pa_cons (pv 0) (pa_cons (pv 1) pa_nil)))) (blkOk_by (N := ["durations", "place", "bucket", "start", "step"]) (sc := defScope s_hand_over_end) (own := [("start", 3), ("step", 4)]) (by decide +kernel)) (fun _ _ _ _ _ => (pg_tup (by rfl) (pgs_cons (pg_name (i := 3) nd rfl (Or.inl rfl)) (pgs_cons (pg_name (i := 4) nd rfl (Or.inl rfl)) pgs_nil)))) (fun _ _ _ _ _ => pts_nil) (fun _ _ _ _ _ => (pe_op op_add (pv 3) (pe_op op_mul (pv 4) (pv 2))))) pa_nil)))), ?_⟩
  walk_at "go"
  refine ⟨a, ds, p, rfl, hS, h1, h2, hp, fun D H1 s1 hD hg => ?_⟩
  obtain ⟨ys, e1, hl, hy⟩ := hg
  walk_at "go"
  refine ⟨⟨_, .inl (.inl e1)⟩, ?_⟩
  have ht1 : tN ds.length ≤ 1000 := by unfold tN; omega
  have ht2 : max p 1 ≤ tN ds.length := by unfold tN; omega
  refine lc_fun (walk_list (xs := ys)) (fun H2 s2 => .inl (.inl (s2 _ _ e1))) (fun i => .int (Mt.Fv (dd ds) (max p 1 + i) b p)) (by omega) ?_ ?_
  · rintro i x H2 H3 k hi s2 ⟨rfl, hx⟩ hk
    obtain ⟨t, rfl, et⟩ := hy i x hx
    refine go_gTup (.inl (.inl (s2 _ _ et))) rfl ?_
    walk_at "go"
    refine ⟨rfl, ?_⟩
    walk_at "go"
    have hc := Lm_bd (dd_bd hb) (max p 1 + i)
    refine go_rI (.inl ⟨by omega, by omega⟩) ?_
    walk_at "go"
    have q := hk _ (Same.refl _)
    rw [Fv_St] at q
    exact q
  · intro D2 H2 hD2 s2 e2
    walk_at "go"
    rw [hl] at e2
    refine ⟨D2, (List.range (tN ds.length + 1 - max p 1)).map fun i => Mt.Fv (dd ds) (max p 1 + i) b p, rfl, .inl (.inl (by rw [e2, List.map_map]; rfl)), by simp; omega, fun m hm hle => ?_⟩
    rw [end_is hb hp hm hle]
    exact h _ (s1.trans s2)

end
end K
namespace K
open PySem PySem.Spec PyProof.Rows L2 Bk
local macro_rules | `(tactic| walk_at "go1") => `(tactic| (first
  | ((with_reducible show tVar _ _ _ _); refine go_var rfl ?_)
  | (with_reducible first | refine go_c ?_ | refine go_op ?_ | refine go_cons ?_ | refine go_nil ?_ | refine go_cb ?_ | refine go_cl ?_ | refine go_seq ?_ | refine go_asg ?_ | refine go_name ?_ | refine go_ifS ?_ | refine go_test ?_ | refine go_bl ?_)
  | (with_reducible first | refine go_rI0 ?_ | refine go_rU ?_ | refine go_ret ?_ | refine go_next ?_ | refine go_B ?_ | refine go_and ?_ | refine go_or ?_ | refine go_not ?_ | refine go_if ?_ | refine go_andV ?_ | refine go_orV ?_ | refine go_notV ?_)
  | ((with_reducible show rEq _ _ _ _); refine go_rEq rfl ?_)
  | ((with_reducible show rNe _ _ _ _); refine go_rNe rfl ?_)
  | (with_reducible first | refine go_un ?_ | refine go_chain ?_ | refine go_drop ?_ | refine go_retN ?_ | refine go_isN ?_ | refine go_notN ?_ | refine go_cont ?_ | refine go_break ?_ | refine go_par ?_ | refine go_two ?_ | refine go_part ?_ | refine go_noPart ?_ | refine go_int ?_ | refine go_sl ?_ | refine go_yes ?_ | refine go_tup ?_ | refine go_lst ?_)
  | (with_reducible first | refine go_gCons ?_ | refine go_gNil ?_ | refine go_for ?_ | refine go_iEnT ?_ | refine go_iEnum ?_ | refine go_iList ?_ | refine go_iTup ?_ | refine go_iStr ?_ | refine go_iRng1 ?_ | refine go_iRng2 ?_ | refine go_iZip ?_ | refine go_lc ?_ | refine go_mkR ?_ | refine go_mkS ?_ | refine go_clO ?_ | refine go_pr ?_ | refine go_sfld ?_ | refine go_bm ?_ | refine go_ref ?_)))
local macro_rules | `(tactic| walk_at "go") => `(tactic| ((repeat (walk_at "go1")); try dsimp only))
local macro_rules | `(tactic| walk_at "so") => `(tactic| first | omega | (simp; done) | (simp; omega) | (simp at *; omega))
section
variable {P : Program} {w : World} {K : PySem.W.Frag} {mg : Str → Option Value} {base : Heap} [PFa P FILE]
/-! a line called; two lines together; a line without somebody -/
def Cm (ds : List Int) (b i : Nat) : Int := if i = 0 then (if b = 0 then 0 else Mt.En (dd ds) (ds.length - 1) (b - 1) 0) else Mt.En (dd ds) (ds.length - 1) b (i - 1)
theorem Good.ds {ps : List Pr} (h : Good ps) : ∀ x ∈ dsOf ps, 0 ≤ x ∧ x ≤ 1000 := fun x hx => by
  have := dsOf_bd h.pc x hx
  omega
theorem Good.first {ps : List Pr} (h : Good ps) {i : Nat} {z : Str} (e : (ps.map (·.1))[i]? = some z) : ∀ j, j < i → (ps.map (·.1))[j]? ≠ some z := by
  intro j hj ej
  obtain ⟨h1, e1⟩ := List.getElem?_eq_some_iff.mp e
  obtain ⟨h2, e2⟩ := List.getElem?_eq_some_iff.mp ej
  have := (List.getElem_inj h.nd (i := i) (j := j) (h₀ := h1) (h₁ := h2)).mp (by rw [e1, e2])
  omega
def spCall (K : PySem.W.Frag) : Sp := fun vs H Q _ => ∃ (N : Addr → Prop) (o dx tp tn td : Addr) (rs : List Addr) (ps : List Pr) (b i : Nat) (z : Str), vs = [.ref o, .int b, .str z] ∧ LineF K N H o dx tp tn td rs ps ∧ Good ps ∧ b ≤ 10 ^ 18 ∧ (ps.map (·.1))[i]? = some z ∧ ∀ H', Same H H' → Q (.int (Cm (dsOf ps) b i)) H'
def spAdd (K : PySem.W.Frag) : Sp := fun vs H Q _ => ∃ (N N1 N2 : Addr → Prop) (o1 o2 dx1 dx2 tp1 tp2 tn1 tn2 td1 td2 : Addr) (rs1 rs2 : List Addr) (ps1 ps2 : List Pr), vs = [.ref o1, .ref o2] ∧ LineF K N1 H o1 dx1 tp1 tn1 td1 rs1 ps1 ∧ LineF K N2 H o2 dx2 tp2 tn2 td2 rs2 ps2 ∧ Good (ps1 ++ ps2) ∧ (∀ p, H p = Option.none → N p) ∧
  ∀ x H', Same H H' → H x = Option.none → LineAt K N H' x (ps1 ++ ps2) → Q (.ref x) H'
def spSub (K : PySem.W.Frag) : Sp := fun vs H Q _ => ∃ (N N1 : Addr → Prop) (o dx tp tn td : Addr) (rs : List Addr) (ps : List Pr) (i : Nat) (z : Str), vs = [.ref o, .str z] ∧ LineF K N1 H o dx tp tn td rs ps ∧ Good ps ∧ Good (ps.take i ++ ps.drop (i + 1)) ∧ (ps.map (·.1))[i]? = some z ∧ (∀ p, H p = Option.none → N p) ∧
  ∀ x H', Same H H' → H x = Option.none → LineAt K N H' x (ps.take i ++ ps.drop (i + 1)) → Q (.ref x) H'
theorem Rows.app {N : Addr → Prop} {H : Hp} {r1 r2 : List Addr} {p1 p2 : List Pr} (h1 : Rows N H r1 p1) (h2 : Rows N H r2 p2) : Rows N H (r1 ++ r2) (p1 ++ p2) := by
  refine ⟨by simp [h1.1, h2.1], fun i p hp => ?_⟩
  by_cases hi : i < p1.length
  · rw [List.getElem?_append_left hi] at hp
    obtain ⟨t, a, b, c⟩ := h1.2 i p hp
    exact ⟨t, by rw [List.getElem?_append_left (by rw [h1.1]; exact hi)]; exact a, b, c⟩
  · rw [List.getElem?_append_right (by omega)] at hp
    obtain ⟨t, a, b, c⟩ := h2.2 _ p hp
    exact ⟨t, by rw [List.getElem?_append_right (by rw [h1.1]; omega), h1.1]; exact a, b, c⟩
theorem Rows.take {N : Addr → Prop} {H : Hp} {r : List Addr} {p : List Pr} (h : Rows N H r p) (k : Nat) : Rows N H (r.take k) (p.take k) := by
  refine ⟨by simp [h.1], fun i q hq => ?_⟩
  rw [List.getElem?_take] at hq ⊢
  split at hq
  · rename_i hi
    rw [if_pos hi]
    exact h.2 i q hq
  · cases hq
theorem Rows.drop {N : Addr → Prop} {H : Hp} {r : List Addr} {p : List Pr} (h : Rows N H r p) (k : Nat) : Rows N H (r.drop k) (p.drop k) := by
  refine ⟨by simp [h.1], fun i q hq => ?_⟩
  rw [List.getElem?_drop] at hq ⊢
  exact h.2 _ q hq
/-! a comprehension with a test, of ints -/
theorem lc_fil {J : It} {n : Nat} {G : Hp → Prop} {Y : Nat → Hp → V → Hp → Prop} {g : TG} {tt : TT} {te : TE} {vs : List Nat} {σ : L2.St} {H1 : Hp} {QD : Addr → Hp → Prop} (w : Walk J n G Y) (hG : ∀ H, Same H1 H → G H) (f : Nat → Option Int) (hn : n ≤ 100000)
    (hs : ∀ i x H H' (k : VK) (k0 : Hp → Prop), i < n → Same H1 H → Y i H x H' → (∀ z H4, f i = some z → Same H H4 → k (.int z) H4) → (f i = none → ∀ H4, Same H H4 → k0 H4) → g x (wipe σ vs) H' fun σ2 H2 => wipe σ2 vs = wipe σ vs ∧ tt σ2 H2 fun b H3 => if b = true then te σ2 H3 k else k0 H3)
    (hd : ∀ (D : Addr) H2, H1 D = Option.none → Same H1 H2 → H2 D = some (.lst (((List.range n).filterMap f).map V.int)) → QD D H2) :
    ∀ D, H1 D = Option.none → ∃ W : Nat → Nat → Hp → Prop, (∃ m, W 0 m (upd H1 D (.lst []))) ∧ ∀ i m H, W i m H →
      (J.stop i H ∧ QD D H) ∨ (J.go i H ∧ ∃ Nx : Hp → Prop, (∀ H', Nx H' → ∃ m', m' < m ∧ W (i + 1) m' H') ∧ ∀ x H', J.yld i H x H' → g x (wipe σ vs) H' fun σ2 H2 => wipe σ2 vs = wipe σ vs ∧ tt σ2 H2 fun b H3 =>
        if b = true then te σ2 H3 fun y H4 => ∃ acc, H4 D = some (.lst acc) ∧ acc.length < sizeLine ∧ Nx (upd H4 D (.lst (acc ++ [y]))) else Nx H3) := by
  intro D hD
  refine lc_it w (Qd := fun H => QD D H) (fun i H => Same H1 H ∧ H D = some (.lst (((List.range i).filterMap f).map V.int))) ⟨same_upd hD, upd_same⟩ (fun i H _ p => hG H p.1) ?_ ?_
  · rintro i x H H' hi ⟨s1, e1⟩ hy
    refine hs i x H H' _ _ hi s1 hy ?_ ?_
    · intro z H4 ez s4
      refine ⟨_, s4 _ _ e1, ?_, fun b o e => ?_, ?_⟩
      · rw [List.length_map]
        exact Nat.lt_of_le_of_lt (List.length_filterMap_le _ _) (by rw [List.length_range]; exact Nat.lt_of_lt_of_le (Nat.lt_of_lt_of_le hi hn) (by decide))
      · rw [upd_ne (ne_of_none e hD)]
        exact s4 _ _ (s1 _ _ e)
      · rw [upd_same, List.range_succ, List.filterMap_append, List.map_append]
        simp [ez]
    · intro ez H4 s4
      refine ⟨s1.trans s4, ?_⟩
      rw [s4 _ _ e1, List.range_succ, List.filterMap_append]
      simp [ez]
  · rintro H ⟨s1, e1⟩
    exact hd D H hD s1 e1
theorem go_star {K : PySem.W.Frag} {te : TE} {t : TA} {σ : L2.St} {H : Hp} {QL : List V → Hp → Prop} (h : te σ H fun x H1 => ∃ p xs, x = V.ref p ∧ (SqT K H1 p xs ∨ SqL K H1 p xs) ∧ t σ H1 fun ys H2 => QL (xs ++ ys) H2) : StX.tStar K te t σ H QL := h
/-! when a maximum of lines is steady -/
theorem steady_abs {F : Nat → Int} {s g : Nat → Int} {lo hi : Nat} {P m : Int} (hF1 : ∀ (k r : Nat), lo ≤ r → r ≤ hi → s r + g r * (k : Int) ≤ F k) (hF2 : ∀ k : Nat, ∃ r, lo ≤ r ∧ r ≤ hi ∧ s r + g r * (k : Int) = F k)
    (hg : ∀ r, lo ≤ r → r ≤ hi → g r ≤ P) (hm1 : ∃ r, lo ≤ r ∧ r ≤ hi ∧ g r = P ∧ s r = m) (hm2 : ∀ r, lo ≤ r → r ≤ hi → g r = P → s r ≤ m) (k : Nat) :
    F (k + 1) = F k + P ↔ ∀ r, lo ≤ r → r ≤ hi → g r < P → s r + g r * (k : Int) ≤ m + P * (k : Int) := by
  have ex : ∀ c : Int, c * ((k + 1 : Nat) : Int) = c * (k : Int) + c := fun c => by rw [Int.natCast_add, Int.mul_add]; simp
  constructor
  · intro h r h1 h2 h3
    apply Classical.byContradiction
    intro hc
    have a1 := hF1 k r h1 h2
    obtain ⟨q, b1, b2, b3⟩ := hF2 (k + 1)
    have a2 := hF1 k q b1 b2
    have a3 := hg q b1 b2
    rw [ex] at b3
    by_cases e : g q = P
    · have a4 := hm2 q b1 b2 e
      rw [e] at b3
      omega
    · omega
  · intro h
    obtain ⟨r, h1, h2, h3, h4⟩ := hm1
    have al : ∀ q, lo ≤ q → q ≤ hi → s q + g q * (k : Int) ≤ m + P * (k : Int) := fun q a b => by
      by_cases e : g q = P
      · have := hm2 q a b e
        rw [e]
        omega
      · exact h q a b (by have := hg q a b; omega)
    have c1 := hF1 k r h1 h2
    have c2 := hF1 (k + 1) r h1 h2
    obtain ⟨q, b1, b2, b3⟩ := hF2 k
    obtain ⟨q', d1, d2, d3⟩ := hF2 (k + 1)
    have e1 := al q b1 b2
    have e2 := al q' d1 d2
    have e3 := hg q' d1 d2
    rw [ex] at c2 d3
    rw [h3, h4] at c1 c2
    omega
theorem reach_iff {a c : Int} {k : Int} (hc : 0 < c) : -(a / c) ≤ k ↔ -(c * k) ≤ a := by
  have h := Int.le_ediv_iff_mul_le (a := -k) (b := a) hc
  have e : -k * c = -(c * k) := by rw [Int.neg_mul, Int.mul_comm]
  rw [e] at h
  rw [← h]
  omega
theorem fil_ne {d : Nat → Int} {p lo n : Nat} (hlo : 1 ≤ lo) (hn : 1 ≤ n) : 0 < ((List.range n).filterMap fun i => if Mt.Lm d (lo + i) = Mt.Lm d (lo + (n - 1)) then some (StV d p (lo + i)) else none).length := by
  apply List.length_pos_of_mem (a := StV d p (lo + (n - 1)))
  refine List.mem_filterMap.mpr ⟨n - 1, List.mem_range.mpr (by omega), ?_⟩
  rw [if_pos rfl]
theorem Lm_up (d : Nat → Int) {r : Nat} : ∀ k, Mt.Lm d r ≤ Mt.Lm d (r + k)
  | 0 => Int.le_refl _
  | k + 1 => Int.le_trans (Lm_up d k) (Mt.Lm_mono d (r + k))
theorem en_lo {ds : List Int} (hb : ∀ x ∈ ds, 0 ≤ x ∧ x ≤ 1000) {p : Nat} (hp : p < ds.length) (b r : Nat) (h1 : max p 1 ≤ r) (h2 : r ≤ tN ds.length) : Mt.Fv (dd ds) r b p ≤ Mt.En (dd ds) (ds.length - 1) b p := by
  by_cases e : ds.length = 1
  · have eT : tN ds.length = 1 := by unfold tN; omega
    have e1 : r = 1 := by omega
    have e0 : p = 0 := by omega
    subst e1 e0
    have := end_is hb hp (b := b) (m := Mt.Fv (dd ds) 1 b 0) (by rw [eT]; simp) (by rw [eT]; simp)
    omega
  · have eT : tN ds.length = ds.length - 1 := by unfold tN; omega
    exact Mt.Fv_le (dd ds) (ds.length - 1) b p r (by omega) (by omega) (by omega) (by omega)
theorem en_ex {ds : List Int} (hb : ∀ x ∈ ds, 0 ≤ x ∧ x ≤ 1000) {p : Nat} (hp : p < ds.length) (b : Nat) : ∃ r, max p 1 ≤ r ∧ r ≤ tN ds.length ∧ Mt.Fv (dd ds) r b p = Mt.En (dd ds) (ds.length - 1) b p := by
  by_cases e : ds.length = 1
  · have eT : tN ds.length = 1 := by unfold tN; omega
    have e0 : p = 0 := by omega
    subst e0
    refine ⟨1, by omega, by omega, ?_⟩
    exact end_is hb hp (b := b) (m := Mt.Fv (dd ds) 1 b 0) (by rw [eT]; simp) (by rw [eT]; simp)
  · have eT : tN ds.length = ds.length - 1 := by unfold tN; omega
    obtain ⟨r, h1, h2, h3, e1⟩ := Mt.Fv_is (dd ds) (ds.length - 1) (fun i _ => (dd_bd hb i).1) (by omega) b p (by omega)
    exact ⟨r, by omega, by omega, e1⟩
theorem Wy_bd {d : Nat → Int} (h : ∀ i, 0 ≤ d i ∧ d i ≤ 1000) : ∀ p : Nat, 0 ≤ Mt.Wy d p ∧ Mt.Wy d p ≤ 1000 * (p : Int) + 1000
  | 0 => by
    have := h 0
    simp only [Mt.Wy]
    omega
  | p + 1 => by
    have := h (p + 1)
    have := Wy_bd h p
    simp only [Mt.Wy]
    omega
theorem Ls_bd {d : Nat → Int} (h : ∀ i, 0 ≤ d i ∧ d i ≤ 1000) {L : Int} (hL : 0 ≤ L ∧ L ≤ 2000) : ∀ (k p : Nat), -(2000 * (k : Int)) ≤ Mt.Ls d L p k ∧ Mt.Ls d L p k ≤ 2000 * (k : Int)
  | 0, p => by simp [Mt.Ls]
  | k + 1, p => by
    have a := h p
    have b := h (p + 1)
    have := Ls_bd h hL k (p + 1)
    simp only [Mt.Ls, Mt.tn]
    omega
theorem St_bd {d : Nat → Int} (h : ∀ i, 0 ≤ d i ∧ d i ≤ 1000) {p r : Nat} (hp : p ≤ 20) (hr : r ≤ 20) : -100000 ≤ StV d p r ∧ StV d p r ≤ 100000 := by
  have a := Wy_bd h p
  have b := Ls_bd h (Lm_bd h r) (r - p) p
  unfold StV
  omega
def Steady (ds : List Int) (p : Nat) (B : Int) : Prop := 0 ≤ B ∧ B ≤ 1000000 ∧ ∀ k : Nat, B ≤ (k : Int) ↔ Mt.En (dd ds) (ds.length - 1) (k + 1) p = Mt.En (dd ds) (ds.length - 1) k p + Mt.Lm (dd ds) (tN ds.length)
theorem steady_is {ds : List Int} (hb : ∀ x ∈ ds, 0 ≤ x ∧ x ≤ 1000) {p : Nat} (hp : p < ds.length) (h12 : ds.length ≤ 12) {m B : Int}
    (hm : m ∈ (List.range (tN ds.length + 1 - max p 1)).filterMap fun i => if Mt.Lm (dd ds) (max p 1 + i) = Mt.Lm (dd ds) (tN ds.length) then some (StV (dd ds) p (max p 1 + i)) else none)
    (hml : ∀ y, (y ∈ (List.range (tN ds.length + 1 - max p 1)).filterMap fun i => if Mt.Lm (dd ds) (max p 1 + i) = Mt.Lm (dd ds) (tN ds.length) then some (StV (dd ds) p (max p 1 + i)) else none) → y ≤ m)
    (hB : B ∈ (0 : Int) :: (List.range (tN ds.length + 1 - max p 1)).filterMap fun i => if Mt.Lm (dd ds) (max p 1 + i) < Mt.Lm (dd ds) (tN ds.length) then some (-((m - StV (dd ds) p (max p 1 + i)) / (Mt.Lm (dd ds) (tN ds.length) - Mt.Lm (dd ds) (max p 1 + i)))) else none)
    (hBl : ∀ y, (y ∈ (0 : Int) :: (List.range (tN ds.length + 1 - max p 1)).filterMap fun i => if Mt.Lm (dd ds) (max p 1 + i) < Mt.Lm (dd ds) (tN ds.length) then some (-((m - StV (dd ds) p (max p 1 + i)) / (Mt.Lm (dd ds) (tN ds.length) - Mt.Lm (dd ds) (max p 1 + i)))) else none) → y ≤ B) : Steady ds p B := by
  have hd := dd_bd hb
  generalize hP : Mt.Lm (dd ds) (tN ds.length) = P at *
  have ht : tN ds.length ≤ 12 ∧ max p 1 ≤ tN ds.length := by unfold tN; omega
  have hg : ∀ r, max p 1 ≤ r → r ≤ tN ds.length → Mt.Lm (dd ds) r ≤ P := fun r _ h => by
    have := Lm_up (dd ds) (r := r) (tN ds.length - r)
    rw [show r + (tN ds.length - r) = tN ds.length by omega, hP] at this
    exact this
  have mem1 : ∀ r, max p 1 ≤ r → r ≤ tN ds.length → Mt.Lm (dd ds) r = P → StV (dd ds) p r ≤ m := fun r h1 h2 h3 => hml _ (List.mem_filterMap.mpr ⟨r - max p 1, List.mem_range.mpr (by omega), by rw [show max p 1 + (r - max p 1) = r by omega, if_pos h3]⟩)
  have mem2 : ∃ r, max p 1 ≤ r ∧ r ≤ tN ds.length ∧ Mt.Lm (dd ds) r = P ∧ StV (dd ds) p r = m := by
    obtain ⟨i, hi, e⟩ := List.mem_filterMap.mp hm
    have hi := List.mem_range.mp hi
    split at e
    · rename_i h1
      exact ⟨max p 1 + i, by omega, by omega, h1, Option.some.inj e⟩
    · cases e
  have bm : -100000 ≤ m ∧ m ≤ 100000 := by
    obtain ⟨r, h1, h2, h3, h4⟩ := mem2
    have := St_bd hd (p := p) (r := r) (by omega) (by omega)
    omega
  have key : ∀ k : Int, 0 ≤ k → (B ≤ k ↔ ∀ r, max p 1 ≤ r → r ≤ tN ds.length → Mt.Lm (dd ds) r < P → StV (dd ds) p r + Mt.Lm (dd ds) r * k ≤ m + P * k) := by
    intro k hk
    have one : ∀ r, Mt.Lm (dd ds) r < P → (-((m - StV (dd ds) p r) / (P - Mt.Lm (dd ds) r)) ≤ k ↔ StV (dd ds) p r + Mt.Lm (dd ds) r * k ≤ m + P * k) := fun r hr => by
      rw [reach_iff (by omega), Int.sub_mul]
      omega
    constructor
    · intro h r h1 h2 h3
      rw [← one r h3]
      have := hBl (-((m - StV (dd ds) p r) / (P - Mt.Lm (dd ds) r))) (List.mem_cons_of_mem _ (List.mem_filterMap.mpr ⟨r - max p 1, List.mem_range.mpr (by omega), by rw [show max p 1 + (r - max p 1) = r by omega, if_pos h3]⟩))
      omega
    · intro h
      rcases List.mem_cons.mp hB with e | hB
      · omega
      · obtain ⟨i, hi, e⟩ := List.mem_filterMap.mp hB
        have hi := List.mem_range.mp hi
        split at e
        · rename_i h1
          rw [← Option.some.inj e, one _ h1]
          exact h _ (by omega) (by omega) h1
        · cases e
  refine ⟨hBl 0 (by simp), ?_, fun k => ?_⟩
  · rw [key 1000000 (by omega)]
    intro r h1 h2 h3
    have := St_bd hd (p := p) (r := r) (by omega) (by omega)
    omega
  · rw [key k (by omega), hP]
    symm
    refine steady_abs (F := fun k => Mt.En (dd ds) (ds.length - 1) k p) (s := StV (dd ds) p) (g := Mt.Lm (dd ds)) (lo := max p 1) (hi := tN ds.length) ?_ ?_ hg mem2 mem1 k
    · intro k r h1 h2
      have := en_lo hb hp k r h1 h2
      rw [Fv_St] at this
      exact this
    · intro k
      obtain ⟨r, h1, h2, h3⟩ := en_ex hb hp k
      rw [Fv_St] at h3
      exact ⟨r, h1, h2, h3⟩
def spSteadyAt (K : PySem.W.Frag) : Sp := fun vs H Q _ => ∃ (a : Addr) (ds : List Int) (p : Nat), vs = [.ref a, .int p, .int (Mt.Lm (dd ds) (tN ds.length))] ∧ SqT K H a (ds.map V.int) ∧ (∀ x ∈ ds, 0 ≤ x ∧ x ≤ 1000) ∧ ds.length ≤ 12 ∧ p < ds.length ∧ ∀ B H', Same H H' → Steady ds p B → Q (.int B) H'
def SteadyAll (ds : List Int) (B : Int) : Prop := 0 ≤ B ∧ B ≤ 1000000 ∧ ∀ k : Nat, B ≤ (k : Int) ↔ ∀ p, p < ds.length → Mt.En (dd ds) (ds.length - 1) (k + 1) p = Mt.En (dd ds) (ds.length - 1) k p + Mt.Lm (dd ds) (tN ds.length)
theorem steady_all {ds : List Int} {ys : List Int} {B : Int} (hl : ys.length = ds.length) (h : ∀ (i : Nat) (y : Int), ys[i]? = some y → Steady ds i y) (hB : B ∈ ys) (hBl : ∀ y, y ∈ ys → y ≤ B) : SteadyAll ds B := by
  obtain ⟨j, hj, ej⟩ := List.mem_iff_getElem.mp hB
  have sj := h j B (by rw [← ej]; simp [hj])
  refine ⟨sj.1, sj.2.1, fun k => ⟨fun hk p hp => ?_, fun ha => ?_⟩⟩
  · have sp := h p (ys[p]'(by omega)) (by simp [show p < ys.length by omega])
    have le := hBl (ys[p]'(by omega)) (List.getElem_mem _)
    exact (sp.2.2 k).mp (by omega)
  · exact (sj.2.2 k).mpr (ha j (by omega))
def spSteadyFrom (K : PySem.W.Frag) : Sp := fun vs H Q _ => ∃ (N : Addr → Prop) (o dx tp tn td : Addr) (rs : List Addr) (ps : List Pr), vs = [.ref o] ∧ LineF K N H o dx tp tn td rs ps ∧ Good ps ∧ ∀ B H', Same H H' → SteadyAll (dsOf ps) B → Q (.int B) H'
end
end K
namespace K
open PySem PySem.Spec PyProof.Rows L2 Bk
local macro_rules | `(tactic| walk_at "go1") => `(tactic| (first
  | ((with_reducible show tVar _ _ _ _); refine go_var rfl ?_)
  | (with_reducible first | refine go_c ?_ | refine go_op ?_ | refine go_cons ?_ | refine go_nil ?_ | refine go_cb ?_ | refine go_cl ?_ | refine go_seq ?_ | refine go_asg ?_ | refine go_name ?_ | refine go_ifS ?_ | refine go_test ?_ | refine go_bl ?_)
  | (with_reducible first | refine go_rI0 ?_ | refine go_rU ?_ | refine go_ret ?_ | refine go_next ?_ | refine go_B ?_ | refine go_and ?_ | refine go_or ?_ | refine go_not ?_ | refine go_if ?_ | refine go_andV ?_ | refine go_orV ?_ | refine go_notV ?_)
  | ((with_reducible show rEq _ _ _ _); refine go_rEq rfl ?_)
  | ((with_reducible show rNe _ _ _ _); refine go_rNe rfl ?_)
  | (with_reducible first | refine go_un ?_ | refine go_chain ?_ | refine go_drop ?_ | refine go_retN ?_ | refine go_isN ?_ | refine go_notN ?_ | refine go_cont ?_ | refine go_break ?_ | refine go_par ?_ | refine go_two ?_ | refine go_part ?_ | refine go_noPart ?_ | refine go_int ?_ | refine go_sl ?_ | refine go_yes ?_ | refine go_tup ?_ | refine go_lst ?_)
  | (with_reducible first | refine go_gCons ?_ | refine go_gNil ?_ | refine go_for ?_ | refine go_iEnT ?_ | refine go_iEnum ?_ | refine go_iList ?_ | refine go_iTup ?_ | refine go_iStr ?_ | refine go_iRng1 ?_ | refine go_iRng2 ?_ | refine go_iZip ?_ | refine go_lc ?_ | refine go_mkR ?_ | refine go_mkS ?_ | refine go_clO ?_ | refine go_pr ?_ | refine go_sfld ?_ | refine go_bm ?_ | refine go_ref ?_)))
local macro_rules | `(tactic| walk_at "go") => `(tactic| ((repeat (walk_at "go1")); try dsimp only))
local macro_rules | `(tactic| walk_at "so") => `(tactic| first | omega | (simp; done) | (simp; omega) | (simp at *; omega))
section
variable {P : Program} {w : World} {K : PySem.W.Frag} {mg : Str → Option Value} {base : Heap} [PFa P FILE]
/-! the law's own drawing -/
theorem vals_of {xs : List V} {us : List Value} (h : xs.length = us.length) (g : ∀ (i : Nat) (u : Value), us[i]? = some u → ∃ x, xs[i]? = some x ∧ RelV x u) : Vals xs us := by
  induction us generalizing xs with
  | nil =>
    have : xs = [] := List.eq_nil_of_length_eq_zero h
    subst this
    exact .nil
  | cons u us ih =>
    match xs, h with
    | x :: xs, h =>
      obtain ⟨y, e, r⟩ := g 0 u rfl
      have e2 : x = y := Option.some.inj e
      subst e2
      exact .cons r (ih (by simpa using h) fun i w q => by simpa using g (i + 1) w (by simpa using q))
theorem call_list_strS {X : Cx} (hc : X.calm = true) : CallR X (.type "list") (fun xs H Q => ∃ z : Str, xs = [.str z] ∧ z.cps.size ≤ sizeLine ∧ ∀ l, H l = Option.none → Q (.ref l) (upd H l (.lst (z.cps.toList.map fun c => V.str ⟨#[c]⟩)))) := by
  intro pins s σ H xs us Q I r h
  obtain ⟨z, rfl, hz, q⟩ := h
  obtain ⟨u, rfl, t, rfl⟩ := vals1 r
  refine call_list_str (hn := hz) (I.ok.hd hc) z t fun h' tk acc' c' hk hS' hacc => ?_
  refine ⟨.ref s.heap.objs.size, _, I.laid (t' := tk) hk (Nat.le_refl _) (show ObjOk X.prog X.w _ h' _ (.lst (z.cps.toList.map fun c => V.str ⟨#[c]⟩)) from ⟨by simpa using hz, acc'.toList, c', vals_of (by simp [hacc.1]) fun i u e => ?_, by simpa using hS'⟩), rfl, q _ (I.hok.fresh (Nat.le_refl _))⟩
  obtain ⟨c, u', hc', rfl⟩ := hacc.2 i u (by simpa using e)
  exact ⟨.str ⟨#[c]⟩, by simp [hc'], ⟨_, rfl⟩⟩
theorem at_nat {α : Type} {xs : List α} {i : Nat} {x : α} (h : xs[i]? = some x) : atI xs (i : Int) = some x := by
  have hi := (List.getElem?_eq_some_iff.mp h).1
  unfold atI ixN
  rw [if_pos (by omega), if_pos (by omega)]
  simpa using h
theorem at_int {α : Type} {xs : List α} {z : Int} {x : α} (h0 : 0 ≤ z) (h : xs[z.toNat]? = some x) : atI xs z = some x := by
  have := at_nat h
  rw [show ((z.toNat : Nat) : Int) = z by omega] at this
  exact this
theorem seq_int {z : Int} {n : Nat} (h0 : 0 ≤ z) (h1 : z < n) : seqIndex? z n = some z.toNat := by
  unfold seqIndex?
  simp only [show ¬ z < 0 by omega, if_false]
  simp [h0, h1]
theorem frd_l {K : PySem.W.Frag} {D : Addr} {H H' : Hp} {a : Addr} {xs : List V} (f : FrD D H H') (n : a ≠ D) (h : SqL K H a xs) : SqL K H' a xs := by
  rcases h with (h | ⟨o, h⟩) | h
  · exact .inl (.inl (f _ _ n h))
  · exact .inl (.inr ⟨o, f _ _ n h⟩)
  · exact .inr h
theorem go_gsub {to ti : TE} {t : TSet} {v : V} {σ : L2.St} {H : Hp} {Q : L2.St → Hp → Prop} (h : to σ H fun o H1 => ti σ H1 fun i H2 => t o i v H2 fun H3 => Q σ H3) : gSub to ti t v σ H Q := h
theorem go_setL {p : Addr} {xs : List V} {k : Int} {j : Nat} {v : V} {H : Hp} {Q : Hp → Prop} (hp : H p = some (.lst xs)) (hj : ixN xs.length k = some j) (q : Q (upd H p (.lst (xs.set j v)))) : rSetL (.ref p) (.int k) v H Q := ⟨p, xs, k, j, rfl, rfl, hp, hj, q⟩
def Kst (K : PySem.W.Frag) (a : Addr) (xs : List V) : Prop := ∃ (o : Obj) (its : Array Value) (n : Nat), K.lookup a = some o ∧ o.cls = .type "list" ∧ o.dict = none ∧ o.data = .seq its n ∧ its.size ≤ sizeLine ∧ Vals xs its.toList
/-- the script: in the heap (z), or in the written part -/
def ScAt (z : Prop) (K : PySem.W.Frag) (H : Hp) (sc : Addr) (ns : List Int) : Prop := (z → Rd H sc (.lst (ns.map V.int))) ∧ (¬ z → Kst K sc (ns.map V.int))
theorem ScAt.sq {z : Prop} {K : PySem.W.Frag} {H : Hp} {sc : Addr} {ns : List Int} (h : ScAt z K H sc ns) : SqL K H sc (ns.map V.int) := by
  by_cases c : z
  · exact .inl (h.1 c)
  · exact .inr (h.2 c)
theorem ScAt.frd {z : Prop} {K : PySem.W.Frag} {H H' : Hp} {D sc : Addr} {ns : List Int} (f : FrD D H H') (n : z → sc ≠ D) (h : ScAt z K H sc ns) : ScAt z K H' sc ns := ⟨fun c => by
  rcases h.1 c with e | ⟨o, e⟩
  · exact .inl (f _ _ (n c) e)
  · exact .inr ⟨o, f _ _ (n c) e⟩, h.2⟩
theorem ScAt.keep {z : Prop} {K : PySem.W.Frag} {H H' : Hp} {sc : Addr} {ns : List Int} (f : Same H H') (h : ScAt z K H sc ns) : ScAt z K H' sc ns := ⟨fun c => by
  rcases h.1 c with e | ⟨o, e⟩
  · exact .inl (f _ _ e)
  · exact .inr ⟨o, f _ _ e⟩, h.2⟩
theorem ScAt.ne {z : Prop} {K : PySem.W.Frag} {H : Hp} {D sc : Addr} {ns : List Int} (h : ScAt z K H sc ns) (hD : H D = Option.none) : z → sc ≠ D := fun c e => by
  subst e
  rcases h.1 c with e | ⟨o, e⟩ <;> rw [hD] at e <;> cases e
def StAt (z : Prop) (K : PySem.W.Frag) (H : Hp) (s sc : Addr) (ns : List Int) : Prop := ∃ c1 c2 c3 : Int, H s = some (.lst [.ref sc, .int c1, .int c2, .int c3]) ∧ ScAt z K H sc ns ∧ (z → sc ≠ s) ∧ 0 ≤ c1 ∧ ns.length ≤ 63
def spStart (K : PySem.W.Frag) : Sp := fun vs H Q _ => ∃ (z : Prop) (sc : Addr) (ns : List Int), vs = [.ref sc] ∧ ScAt z K H sc ns ∧ ns.length ≤ 63 ∧ ∀ s H', Same H H' → H s = Option.none → StAt z K H' s sc ns → Q (.ref s) H'
def spDrawn (K : PySem.W.Frag) : Sp := fun vs H Q _ => ∃ (z : Prop) (s sc : Addr) (ns : List Int) (n : Int), vs = [.ref s, .int n] ∧ 0 < n ∧ n < 2 ^ 100 ∧ StAt z K H s sc ns ∧ ∀ (y : Int) H', FrD s H H' → StAt z K H' s sc ns → 0 ≤ y → y < n → Q (.int y) H'
/-! the law's own defs -/
def spSame : Sp := fun vs H Q _ => ∃ a b : Int, vs = [.int a, .int b] ∧ ∀ H', Same H H' → Q (.bl (decide (a = b))) H'
def spLDurs (K : PySem.W.Frag) : Sp := fun vs H Q _ => ∃ (N : Addr → Prop) (D : Addr) (rs : List Addr) (ps : List Pr), vs = [.ref D] ∧ H D = some (.lst (rs.map V.ref)) ∧ Rows N H rs ps ∧ 1 ≤ ps.length ∧ ps.length ≤ 1000 ∧ ∀ x H', Same H H' → H x = Option.none → H' x = some (.lst ((dsOf ps).map V.int)) → Q (.ref x) H'
def rowL (ds : List Int) (b : Nat) : List Int := (List.range ds.length).map fun p => Mt.En (dd ds) (ds.length - 1) b p
def TabAt (H : Hp) (x : Addr) (ds : List Int) (n : Nat) : Prop := ∃ ts : List Addr, H x = some (.lst (ts.map V.ref)) ∧ ts.length = n ∧ ∀ (i : Nat) (t : Addr), ts[i]? = some t → t ≠ x ∧ H t = some (.lst ((rowL ds i).map V.int))
def spEnds (K : PySem.W.Frag) : Sp := fun vs H Q _ => ∃ (a : Addr) (ds : List Int) (n : Nat), vs = [.ref a, .int n] ∧ H a = some (.lst (ds.map V.int)) ∧ (∀ x ∈ ds, 0 ≤ x ∧ x ≤ 1000) ∧ 1 ≤ ds.length ∧ ds.length ≤ 1000 ∧ n ≤ 1000 ∧ ∀ x H', Same H H' → H x = Option.none → TabAt H' x ds n → Q (.ref x) H'
theorem En_nn {d : Nat → Int} {M : Nat} (h : ∀ i, 0 ≤ d i ∧ d i ≤ 1000) (b : Nat) : ∀ p, 0 ≤ Mt.En d M b p := by
  induction b with
  | zero =>
    intro p
    rw [Mt.En_0]
    exact (Wy_bd h p).1
  | succ b ih =>
    intro p
    cases p with
    | zero =>
      have := ih (min 1 M)
      have := h 0
      rw [Mt.En_s0]
      omega
    | succ p =>
      have := ih (min (p + 2) M)
      have := h (p + 1)
      rw [Mt.En_ss]
      omega
theorem app_at {ys zs : List V} {j : Nat} {y : V} {z : V} (h : (ys ++ [z])[j]? = some y) : (j < ys.length ∧ ys[j]? = some y) ∨ (j = ys.length ∧ y = z) := by
  by_cases hj : j < ys.length
  · rw [List.getElem?_append_left hj] at h
    exact .inl ⟨hj, h⟩
  · have hl : j < (ys ++ [z]).length := (List.getElem?_eq_some_iff.mp h).1
    have e : j = ys.length := by simp at hl; omega
    subst e
    rw [List.getElem?_append_right (Nat.le_refl _)] at h
    simp at h
    exact .inr ⟨rfl, h.symm⟩
end
end K
namespace K
open PySem PySem.Spec PyProof.Rows L2 Bk
local macro_rules | `(tactic| walk_at "go1") => `(tactic| (first
  | ((with_reducible show tVar _ _ _ _); refine go_var rfl ?_)
  | (with_reducible first | refine go_c ?_ | refine go_op ?_ | refine go_cons ?_ | refine go_nil ?_ | refine go_cb ?_ | refine go_cl ?_ | refine go_seq ?_ | refine go_asg ?_ | refine go_name ?_ | refine go_ifS ?_ | refine go_test ?_ | refine go_bl ?_)
  | (with_reducible first | refine go_rI0 ?_ | refine go_rU ?_ | refine go_ret ?_ | refine go_next ?_ | refine go_B ?_ | refine go_and ?_ | refine go_or ?_ | refine go_not ?_ | refine go_if ?_ | refine go_andV ?_ | refine go_orV ?_ | refine go_notV ?_)
  | ((with_reducible show rEq _ _ _ _); refine go_rEq rfl ?_)
  | ((with_reducible show rNe _ _ _ _); refine go_rNe rfl ?_)
  | (with_reducible first | refine go_un ?_ | refine go_chain ?_ | refine go_drop ?_ | refine go_retN ?_ | refine go_isN ?_ | refine go_notN ?_ | refine go_cont ?_ | refine go_break ?_ | refine go_par ?_ | refine go_two ?_ | refine go_part ?_ | refine go_noPart ?_ | refine go_int ?_ | refine go_sl ?_ | refine go_yes ?_ | refine go_tup ?_ | refine go_lst ?_)
  | (with_reducible first | refine go_gCons ?_ | refine go_gNil ?_ | refine go_for ?_ | refine go_iEnT ?_ | refine go_iEnum ?_ | refine go_iList ?_ | refine go_iTup ?_ | refine go_iStr ?_ | refine go_iRng1 ?_ | refine go_iRng2 ?_ | refine go_iZip ?_ | refine go_lc ?_ | refine go_mkR ?_ | refine go_mkS ?_ | refine go_clO ?_ | refine go_pr ?_ | refine go_sfld ?_ | refine go_bm ?_ | refine go_ref ?_)))
local macro_rules | `(tactic| walk_at "go") => `(tactic| ((repeat (walk_at "go1")); try dsimp only))
local macro_rules | `(tactic| walk_at "so") => `(tactic| first | omega | (simp; done) | (simp; omega) | (simp at *; omega))
section
variable {P : Program} {w : World} {K : PySem.W.Frag} {mg : Str → Option Value} {base : Heap} [PFa P FILE]
/-! people, drawn -/
def lets : List Str := letters.map fun c => ⟨#[c]⟩
theorem lets_ok : ∀ z ∈ lets, nmB z = true ∧ z ≠ ("extra" : Str) := by decide +kernel
theorem lets_nd : lets.Nodup := by decide +kernel
theorem lets_len : lets.length = 26 := by decide +kernel
theorem abc_ok : ((("abcdefghijklmnopqrstuvwxyz" : Str).cps.toList.map fun c => V.str ⟨#[c]⟩)) = lets.map V.str := by decide +kernel
def NoX (ps : List Pr) : Prop := ∀ p ∈ ps, p.1 ≠ ("extra" : Str)
def spPeople (K : PySem.W.Frag) : Sp := fun vs H Q _ => ∃ (z : Prop) (s sc : Addr) (ns : List Int) (most high : Int), vs = [.ref s, .int most, .int high] ∧ 2 ≤ most ∧ most ≤ 12 ∧ 1 ≤ high ∧ high ≤ 1000 ∧ StAt z K H s sc ns ∧
  ∀ D H' rs ps, FrD s H H' → StAt z K H' s sc ns → H D = Option.none → H' D = some (.lst (rs.map V.ref)) → Rows (fun b => b ≠ s) H' rs ps → Good ps → NoX ps → Q (.ref D) H'
theorem StAt.keep {z : Prop} {K : PySem.W.Frag} {H H' : Hp} {s sc : Addr} {ns : List Int} (e : Same H H') (h : StAt z K H s sc ns) : StAt z K H' s sc ns := by
  obtain ⟨c1, c2, c3, a, b, c⟩ := h
  exact ⟨c1, c2, c3, e _ _ a, b.keep e, c⟩
theorem StAt.at {z : Prop} {K : PySem.W.Frag} {H : Hp} {s sc : Addr} {ns : List Int} (h : StAt z K H s sc ns) : ∃ o, H s = some o := by
  obtain ⟨c1, c2, c3, a, _⟩ := h
  exact ⟨_, a⟩
theorem StAt.ne {z : Prop} {K : PySem.W.Frag} {H : Hp} {D s sc : Addr} {ns : List Int} (h : StAt z K H s sc ns) (hD : H D = Option.none) : s ≠ D ∧ (z → sc ≠ D) := by
  obtain ⟨c1, c2, c3, a, b, _⟩ := h
  exact ⟨fun e => (by rw [e, hD] at a; cases a), b.ne hD⟩
theorem StAt.frd {z : Prop} {K : PySem.W.Frag} {H H' : Hp} {D s sc : Addr} {ns : List Int} (f : FrD D H H') (n : s ≠ D ∧ (z → sc ≠ D)) (h : StAt z K H s sc ns) : StAt z K H' s sc ns := by
  obtain ⟨c1, c2, c3, a, b, c⟩ := h
  exact ⟨c1, c2, c3, f _ _ n.1 a, b.frd f n.2, c⟩
theorem erase_map {α β : Type} (f : α → β) (l : List α) (k : Nat) : (l.map f).eraseIdx k = (l.eraseIdx k).map f := by
  rw [List.eraseIdx_eq_take_drop_succ, List.eraseIdx_eq_take_drop_succ, List.map_append, List.map_take, List.map_drop]
theorem erase_perm {α : Type} {l : List α} {k : Nat} {x : α} (h : l[k]? = some x) : (x :: l.eraseIdx k).Perm l := by
  obtain ⟨hk, e⟩ := List.getElem?_eq_some_iff.mp h
  rw [List.eraseIdx_eq_take_drop_succ]
  refine List.perm_middle.symm.trans ?_
  rw [← e, ← List.drop_eq_getElem_cons hk, List.take_append_drop]
theorem perm_draw {a l m : List Str} {k : Nat} {x : Str} (h : (a ++ l).Perm m) (e : l[k]? = some x) : ((a ++ [x]) ++ l.eraseIdx k).Perm m := by
  rw [List.append_assoc]
  exact ((erase_perm e).append_left a).trans h
theorem people_ok {ps : List Pr} {ls : List Str} (h : (ps.map (·.1) ++ ls).Perm lets) (h2 : 2 ≤ ps.length) (h3 : ps.length ≤ 12) (hp : ∀ p ∈ ps, 1 ≤ p.2 ∧ p.2 ≤ 1000) : Good ps ∧ NoX ps := by
  have mem : ∀ p ∈ ps, p.1 ∈ lets := fun p q => h.mem_iff.mp (List.mem_append_left _ (List.mem_map.mpr ⟨p, q, rfl⟩))
  refine ⟨⟨h2, h3, fun p q => (lets_ok _ (mem p q)).1, hp, ?_⟩, fun p q => (lets_ok _ (mem p q)).2⟩
  exact (List.nodup_append.mp (h.nodup_iff.mpr lets_nd)).1
/-! the line of people; far buckets -/
theorem Good.sub {ps qs : List Pr} (h : Good ps) (s : qs.Sublist ps) (h2 : 2 ≤ qs.length) : Good qs := ⟨h2, Nat.le_trans s.length_le h.most, fun p hp => h.nm p (s.subset hp), fun p hp => h.pc p (s.subset hp), List.Nodup.sublist (s.map _) h.nd⟩
def spLine (K : PySem.W.Frag) : Sp := fun vs H Q _ => ∃ (N M : Addr → Prop) (D : Addr) (rs : List Addr) (ps : List Pr), vs = [.ref D] ∧ H D = some (.lst (rs.map V.ref)) ∧ Rows M H rs ps ∧ Good ps ∧ NoX ps ∧ (∀ p, H p = Option.none → N p) ∧ ∀ x H', Same H H' → H x = Option.none → LineAt K N H' x ps → Q (.ref x) H'
def spFar (K : PySem.W.Frag) : Sp := fun vs H Q _ => ∃ (N : Addr → Prop) (o dx tp tn td a : Addr) (rs : List Addr) (ps : List Pr) (b : Nat), vs = [.ref o, .ref a, .int (b + 1 : Nat)] ∧ LineF K N H o dx tp tn td rs ps ∧ Good ps ∧ H a = some (.lst ((dsOf ps).map V.int)) ∧ b + 1 ≤ 10 ^ 18 ∧ ∀ H', Same H H' → Q (.bl true) H'
theorem mk_ok2 {K : PySem.W.Frag} {N M : Addr → Prop} {H : Hp} {vs : List V} {rs : List Addr} {ps : List Pr} {Q : Addr → Hp → Prop} {E : XK} (hN : ∀ p, H p = Option.none → N p) (ev : vs = rs.map V.ref) (hR : Rows M H rs ps) (hG : Good ps)
    (k : ∀ x H2, Same H H2 → H x = Option.none → LineAt K N H2 x ps → Q x H2) :
    ∀ x dx, H x = Option.none → H dx = Option.none → dx ≠ x → StSp 1 (spInit K) (V.ref x :: vs) (upd (upd H dx (.own x)) x (.ins (He.ga K "Line") dx [])) (fun v H2 => v = .non ∧ Q x H2) E :=
  mk_ok (Q := fun v H2 => match v with | .ref x => Q x H2 | _ => False) hN ev hR hG k
theorem go_iRng3 {ta : TA} {σ : L2.St} {H : Hp} {R : It → Hp → Prop} (h : ta σ H fun vs H1 => ∃ (i j c : Int) (n : Nat), vs = [.int i, .int j, .int c] ∧ RgC i j c n ∧ R (Itc i c n) H1) : iRng3 ta σ H R := h
theorem len3 {α : Type} : ∀ {l : List α}, l.length = 3 → ∃ a b c, l = [a, b, c]
  | [a, b, c], _ => ⟨a, b, c, rfl⟩
theorem LineF.keep {K : PySem.W.Frag} {N : Addr → Prop} {H H' : Hp} {o dx tp tn td : Addr} {rs : List Addr} {ps : List Pr} (e : Same H H') (h : LineF K N H o dx tp tn td rs ps) : LineF K N H' o dx tp tn td rs ps := ⟨h.no, h.np, h.nn, h.nd, e _ _ h.obj, e _ _ h.pp, h.rows.mono (frn_same e), e _ _ h.nm, e _ _ h.ds⟩
def tClI (C : Addr) (sp : Sp) (E : XK) (te : TE) (t : TA) : TE := fun σ H Q => te σ H fun y H1 => ∃ a, y = V.ref a ∧ t σ H1 fun vs H2 => (∃ dx fs, H2 a = some (.ins C dx fs)) ∧ sp (V.ref a :: vs) H2 Q E
theorem go_clI {C : Addr} {sp : Sp} {E : XK} {te : TE} {t : TA} {σ : L2.St} {H : Hp} {Q : VK} (h : te σ H fun y H1 => ∃ a, y = V.ref a ∧ t σ H1 fun vs H2 => (∃ dx fs, H2 a = some (.ins C dx fs)) ∧ sp (V.ref a :: vs) H2 Q E) : tClI C sp E te t σ H Q := h
/-- an instance called, without the context -/
theorem _root_.Bk.pe_clI {X : Cx} {CX : CXT} {k j : Nat} {C g : Addr} {sp : Sp} {E : XK} {pos : Pos} {e fe : Expr} {es : List Expr} {t : TA} {te : TE} (hf : PE X fe te) (c : StX.CallO X.K C g) (F : FnR X.prog X.w X.K X.mg X.base CX k g sp) (hr : Room j X.A) (hx : Passes CX X E) (ha : PA X (e :: es) t) (hj : k ≤ j := by decide)
    (h1 : eval (.Call fe (e :: es) [] pos) X.env = (do callWith pos (← eval fe X.env) [] (backTo pos (starEach (e :: es) X.env)) (backToKw pos (keywordEach [] X.env))) := by rfl) (h2 : starEach (e :: es) X.env = (false, eval e X.env) :: starEach es X.env := by rfl) (h3 : (backTo pos (starEach es X.env)).any (·.1) = false := by rfl) : PE X (.Call fe (e :: es) [] pos) (tClI C sp E te t) := ⟨fun pins s σ H Q I h => by
  refine Call_ (thn (hf.run pins s σ H _ I h) ?_) h1
  rintro u s1 ⟨y, H1, I1, ry, a, rfl, q⟩
  cases (show u = Value.ref a from ry)
  refine StX.callO_with (thn (ha.run pos pins s1 σ H1 _ I1 q) ?_) h2 h3
  rintro us s2 ⟨vs, H2, I2, r, hi, q2⟩
  obtain ⟨ox, od, J, hd⟩ := StX.insC_at I2 (.inr hi)
  exact ⟨⟨C, ox, od, J, hd⟩, StX.run_callO c F (hr.mono hj) hx I2 (.inr hi) r q2⟩⟩
theorem iteNe {x y : Int} {A B : Prop} (e : x = y) (h : B) : if (!decide (V.int x = V.int y)) = true then A else B := by
  subst e
  simpa using h
theorem rg2 : ∀ L : Nat, L ≤ 10 → RgC 0 ((L : Int) - 1) 2 (L / 2) := by
  unfold RgC
  decide +kernel
theorem two_at {α : Type} {l : List α} {i : Nat} {a b : α} (h1 : l[i]? = some a) (h2 : l[i + 1]? = some b) : (l.drop i).take 2 = [a, b] := by
  obtain ⟨k1, rfl⟩ := List.getElem?_eq_some_iff.mp h1
  obtain ⟨k2, rfl⟩ := List.getElem?_eq_some_iff.mp h2
  rw [List.drop_eq_getElem_cons k1, List.drop_eq_getElem_cons k2]
  rfl
theorem at_last {α : Type} {xs : List α} {x : α} (h : xs[xs.length - 1]? = some x) : atI xs (0 - 1) = some x := by
  have hi := (List.getElem?_eq_some_iff.mp h).1
  unfold atI ixN
  rw [if_neg (by omega), if_pos (by omega)]
  rw [show ((0 : Int) - 1 + (xs.length : Int)).toNat = xs.length - 1 by omega]
  exact h
theorem nmX : nmB ("extra" : Str) = true := by decide +kernel
theorem goodX {ps : List Pr} (h : Good ps) (hX : NoX ps) (h11 : ps.length ≤ 11) : Good (ps ++ [(("extra" : Str), (1 : Int))]) := by
  refine ⟨by have := h.two; simp; omega, by simp; omega, fun p hp => ?_, fun p hp => ?_, ?_⟩
  · rcases List.mem_append.mp hp with q | q
    · exact h.nm p q
    · rw [List.mem_singleton.mp q]
      exact nmX
  · rcases List.mem_append.mp hp with q | q
    · exact h.pc p q
    · rw [List.mem_singleton.mp q]
      exact ⟨by decide, by decide⟩
  · rw [List.map_append, List.nodup_append]
    refine ⟨h.nd, by simp, fun a ha b hb => ?_⟩
    obtain ⟨p, q, rfl⟩ := List.mem_map.mp ha
    simp at hb
    rw [hb]
    exact hX p q
end
end K
namespace K
open PySem PySem.Spec PyProof.Rows L2 Bk
local macro_rules | `(tactic| walk_at "go1") => `(tactic| (first
  | ((with_reducible show tVar _ _ _ _); refine go_var rfl ?_)
  | (with_reducible first | refine go_c ?_ | refine go_op ?_ | refine go_cons ?_ | refine go_nil ?_ | refine go_cb ?_ | refine go_cl ?_ | refine go_seq ?_ | refine go_asg ?_ | refine go_name ?_ | refine go_ifS ?_ | refine go_test ?_ | refine go_bl ?_)
  | (with_reducible first | refine go_rI0 ?_ | refine go_rU ?_ | refine go_ret ?_ | refine go_next ?_ | refine go_B ?_ | refine go_and ?_ | refine go_or ?_ | refine go_not ?_ | refine go_if ?_ | refine go_andV ?_ | refine go_orV ?_ | refine go_notV ?_)
  | ((with_reducible show rEq _ _ _ _); refine go_rEq rfl ?_)
  | ((with_reducible show rNe _ _ _ _); refine go_rNe rfl ?_)
  | (with_reducible first | refine go_un ?_ | refine go_chain ?_ | refine go_drop ?_ | refine go_retN ?_ | refine go_isN ?_ | refine go_notN ?_ | refine go_cont ?_ | refine go_break ?_ | refine go_par ?_ | refine go_two ?_ | refine go_part ?_ | refine go_noPart ?_ | refine go_int ?_ | refine go_sl ?_ | refine go_yes ?_ | refine go_tup ?_ | refine go_lst ?_)
  | (with_reducible first | refine go_gCons ?_ | refine go_gNil ?_ | refine go_for ?_ | refine go_iEnT ?_ | refine go_iEnum ?_ | refine go_iList ?_ | refine go_iTup ?_ | refine go_iStr ?_ | refine go_iRng1 ?_ | refine go_iRng2 ?_ | refine go_iZip ?_ | refine go_lc ?_ | refine go_mkR ?_ | refine go_mkS ?_ | refine go_clO ?_ | refine go_pr ?_ | refine go_sfld ?_ | refine go_bm ?_ | refine go_ref ?_)))
local macro_rules | `(tactic| walk_at "go") => `(tactic| ((repeat (walk_at "go1")); try dsimp only))
local macro_rules | `(tactic| walk_at "so") => `(tactic| first | omega | (simp; done) | (simp; omega) | (simp at *; omega))
section
variable {P : Program} {w : World} {K : PySem.W.Frag} {mg : Str → Option Value} {base : Heap} [PFa P FILE]
/-! a line with one pace changed -/
theorem _root_.Bk.inK (K0 : PySem.W.Frag) {X : Cx} (h : X.K = K0 := by rfl) : OpR X (compareOp .In) (rIn K0 false) := h ▸ op_in_seq
theorem _root_.Bk.pe_fldK (K0 : PySem.W.Frag) {X : Cx} {e : Expr} {f : Str} {ta : TE} {pos : Pos} (he : PE X e ta) (hb : attributeBase e f X.env (eval e X.env) = eval e X.env) (h : X.K = K0 := by rfl) : PE X (.Attribute e f pos) (tFld K0 ta f) := h ▸ pe_fld he hb
theorem go_methR {C : Addr} {m : Str} {sp : Sp} {E : XK} {ta : TE} {t : TA} {σ : L2.St} {H : Hp} {Q : VK} (h : ta σ H fun x H1 => ∃ a dx fs, x = .ref a ∧ H1 a = some (.ins C dx fs) ∧ fs.lookup m = none ∧ t σ H1 fun vs H2 => sp (x :: vs) H2 Q E) : tMethR C m sp E ta t σ H Q := h
def spCheckPerson (K : PySem.W.Frag) : Sp := fun vs H Q _ => ∃ (a : Addr) (ns : List Str) (z : Str), vs = [.ref a, .str z] ∧ SqT K H a (ns.map V.str) ∧ z ∈ ns ∧ Q .non H
def setP (ps : List Pr) (h : Nat) (v : Int) : List Pr := (List.range ps.length).map fun i => ((ps.map (·.1)).getD i ("" : Str), if i = h then v else (ps.map (·.2)).getD i 0)
theorem setP_len (ps : List Pr) (h : Nat) (v : Int) : (setP ps h v).length = ps.length := by simp [setP]
theorem setP_at {ps : List Pr} {h i : Nat} {v : Int} {p : Pr} (e : ps[i]? = some p) : (setP ps h v)[i]? = some (p.1, if i = h then v else p.2) := by
  have hi := (List.getElem?_eq_some_iff.mp e).1
  unfold setP
  rw [List.getElem?_map, List.getElem?_range hi]
  simp [List.getD, e]
theorem setP_names (ps : List Pr) (h : Nat) (v : Int) : (setP ps h v).map (·.1) = ps.map (·.1) := by
  unfold setP
  rw [List.map_map]
  exact (range_map (n := ps.length) (ps.map (·.1)) id ("" : Str) (by simp)).trans (List.map_id _)
theorem Good.setP {ps : List Pr} (g : Good ps) (h : Nat) {v : Int} (h1 : 1 ≤ v) (h2 : v ≤ 1000) : Good (setP ps h v) := by
  have at_ : ∀ q ∈ K.setP ps h v, ∃ p ∈ ps, q.1 = p.1 ∧ (q.2 = v ∨ q.2 = p.2) := fun q hq => by
    obtain ⟨i, hi, e⟩ := List.mem_iff_getElem.mp hq
    rw [setP_len] at hi
    have := setP_at (h := h) (v := v) (show ps[i]? = some ps[i] by simp [hi])
    rw [List.getElem?_eq_getElem (by rw [setP_len]; exact hi)] at this
    have e2 := Option.some.inj this
    rw [e] at e2
    refine ⟨ps[i], List.getElem_mem _, by rw [e2], ?_⟩
    rw [e2]
    by_cases c : i = h
    · exact .inl (if_pos c)
    · exact .inr (if_neg c)
  refine ⟨by rw [setP_len]; exact g.two, by rw [setP_len]; exact g.most, fun q hq => ?_, fun q hq => ?_, by rw [setP_names]; exact g.nd⟩
  · obtain ⟨p, hp, e, _⟩ := at_ q hq
    rw [e]
    exact g.nm p hp
  · obtain ⟨p, hp, _, e | e⟩ := at_ q hq
    · rw [e]
      exact ⟨h1, h2⟩
    · rw [e]
      exact g.pc p hp
theorem setP_self {ps : List Pr} {h : Nat} {p : Pr} (e : ps[h]? = some p) : setP ps h p.2 = ps := by
  apply List.ext_getElem?
  intro i
  by_cases hi : i < ps.length
  · rw [setP_at (show ps[i]? = some ps[i] by simp [hi])]
    by_cases c : i = h
    · subst c
      rw [e]
      have := (List.getElem?_eq_some_iff.mp e).2
      simp [this]
    · simp [c, hi]
  · rw [List.getElem?_eq_none (by rw [setP_len]; omega), List.getElem?_eq_none (by omega)]
/-! more time for one is never less for anybody -/
theorem En_mono {d e : Nat → Int} {M : Nat} (h : ∀ i, d i ≤ e i) (b : Nat) : ∀ p, Mt.En d M b p ≤ Mt.En e M b p := by
  induction b with
  | zero =>
    intro p
    induction p with
    | zero => rw [Mt.En_00, Mt.En_00]; exact h 0
    | succ p ih =>
      have := h (p + 1)
      rw [Mt.En_0s, Mt.En_0s]
      omega
  | succ b ihb =>
    intro p
    induction p with
    | zero =>
      have := h 0
      have := ihb (min 1 M)
      rw [Mt.En_s0, Mt.En_s0]
      omega
    | succ p ih =>
      have := h (p + 1)
      have := ihb (min (p + 2) M)
      rw [Mt.En_ss, Mt.En_ss]
      omega
theorem Lm_mono_d {d e : Nat → Int} (h : ∀ i, d i ≤ e i) : ∀ r, Mt.Lm d r ≤ Mt.Lm e r
  | 0 => by
    have := h 0
    have := h (0 + 1)
    simp only [Mt.Lm, Mt.tn]
    omega
  | r + 1 => by
    have := h r
    have := h (r + 1)
    have := Lm_mono_d h r
    simp only [Mt.Lm, Mt.tn]
    omega
theorem dd_set {ps : List Pr} {h : Nat} {u v : Int} (huv : u ≤ v) (i : Nat) : dd (dsOf (setP ps h u)) i ≤ dd (dsOf (setP ps h v)) i := by
  unfold dd
  by_cases hi : i + 1 < ps.length
  · have a1 := setP_at (h := h) (v := u) (show ps[i]? = some ps[i] by simp [show i < ps.length by omega])
    have a2 := setP_at (h := h) (v := u) (show ps[i + 1]? = some ps[i + 1] by simp [hi])
    have b1 := setP_at (h := h) (v := v) (show ps[i]? = some ps[i] by simp [show i < ps.length by omega])
    have b2 := setP_at (h := h) (v := v) (show ps[i + 1]? = some ps[i + 1] by simp [hi])
    rw [List.getD, dsOf_at _ i _ _ a1 a2, List.getD, dsOf_at _ i _ _ b1 b2]
    simp only [Option.getD_some]
    split <;> split <;> omega
  · rw [List.getD, List.getElem?_eq_none (by rw [dsOf_len, setP_len]; omega), List.getD, List.getElem?_eq_none (by rw [dsOf_len, setP_len]; omega)]
    simp
theorem Cm_mono {ps : List Pr} {h : Nat} {u v : Int} (huv : u ≤ v) (b i : Nat) : Cm (dsOf (setP ps h u)) b i ≤ Cm (dsOf (setP ps h v)) b i := by
  unfold Cm
  have l : (dsOf (setP ps h u)).length = (dsOf (setP ps h v)).length := by rw [dsOf_len, dsOf_len, setP_len, setP_len]
  rw [l]
  split
  · split
    · omega
    · exact En_mono (dd_set huv) _ _
  · exact En_mono (dd_set huv) _ _
theorem inV_ints {z : Int} {l : List Int} : inV (.int z) (l.map V.int) = decide (z ∈ l) := by
  unfold inV
  rw [List.any_map, Bool.eq_iff_iff, List.any_eq_true, decide_eq_true_iff]
  constructor
  · rintro ⟨x, hx, e⟩
    have e2 : (x == z) = true := e
    rw [← eq_of_beq e2]
    exact hx
  · intro h
    exact ⟨z, h, by show (z == z) = true; simp⟩
theorem go_inI {K : PySem.W.Frag} {H : Hp} {a : Addr} {z : Int} {l : List Int} {Q : VK} (h : SqL K H a (l.map V.int)) (q : Q (.bl (decide (z ∈ l))) H) : rIn K false (.int z) (.ref a) H Q := by
  refine ⟨a, _, rfl, .inl h, rfl, ?_, ?_⟩
  · rw [List.all_eq_true]
    intro x hx
    obtain ⟨z, _, rfl⟩ := List.mem_map.mp hx
    rfl
  · rw [inV_ints]
    exact q
/-- rows out of a list of new pairs -/
theorem rows_of {H : Hp} {D : Addr} {ys : List V} {ps : List Pr} (hl : ys.length = ps.length) (h : ∀ (i : Nat) (y : V), ys[i]? = some y → ∃ p t, ps[i]? = some p ∧ y = V.ref t ∧ t ≠ D ∧ H t = some (.tup [.str p.1, .int p.2])) : ∃ rs : List Addr, ys = rs.map V.ref ∧ Rows (fun _ => True) H rs ps := by
  refine ⟨ys.map fun y => match y with | .ref t => t | _ => 0, ?_, by simp [hl], fun i p hp => ?_⟩
  · rw [List.map_map]
    symm
    apply List.ext_getElem?
    intro i
    rw [List.getElem?_map]
    cases ei : ys[i]? with
    | none => rfl
    | some y =>
      obtain ⟨p, t, _, rfl, _⟩ := h i y ei
      rfl
  · have hi : i < ys.length := by
      have := (List.getElem?_eq_some_iff.mp hp).1
      omega
    obtain ⟨p', t, a1, a2, a3, a4⟩ := h i ys[i] (by simp [hi])
    rw [hp] at a1
    cases a1
    refine ⟨t, ?_, trivial, a4⟩
    rw [List.getElem?_map, show ys[i]? = some ys[i] by simp [hi], a2]
    rfl
def spTrained (K : PySem.W.Frag) : Sp := fun vs H Q _ => ∃ (N N1 : Addr → Prop) (o dx tp tn td a : Addr) (rs : List Addr) (ps : List Pr) (i : Nat) (v : Int) (z : Str), vs = [.ref o, .int v, .ref a] ∧ H a = some (.tup [.str z]) ∧ LineF K N1 H o dx tp tn td rs ps ∧ Good ps ∧ 1 ≤ v ∧ v ≤ 1000 ∧ (ps.map (·.1))[i]? = some z ∧ (∀ p, H p = Option.none → N p) ∧
  ∀ x H', Same H H' → H x = Option.none → LineAt K N H' x (setP ps i v) → Q (.ref x) H'
/-! an observer -/
structure ObF (n : Nat) (fs : List (Str × V)) (ln : Addr) (z : Str) (lo hi : Int) (sl : Addr) : Prop where
  l : fs.lookup ("_line" : Str) = some (.ref ln)
  h : fs.lookup ("_hidden" : Str) = some (.str z)
  lo : fs.lookup ("_least" : Str) = some (.int lo)
  gr : fs.lookup ("_greatest" : Str) = some (.int hi)
  se : fs.lookup ("_seen" : Str) = some (.ref sl)
  m1 : fs.lookup ("see" : Str) = none
  m2 : fs.lookup ("_first_pace" : Str) = none
  m3 : fs.lookup ("_held_from" : Str) = none
  m4 : fs.lookup ("telling_bucket" : Str) = none
  len : fs.length ≤ n
theorem lk_ne {f g : Str} {v : V} {fs : List (Str × V)} {o : Option V} (h : ¬ (g = f)) (e : fs.lookup g = o) : (putF f v fs).lookup g = o := by
  rw [lookup_putF, if_neg h]
  exact e
theorem lk_eq {f : Str} {v : V} {fs : List (Str × V)} : (putF f v fs).lookup f = some v := by
  rw [lookup_putF, if_pos rfl]
def obf (ln : Addr) (z : Str) (sl : Addr) : List (Str × V) := putF "_seen" (.ref sl) (putF "_greatest" (.int 1000) (putF "_least" (.int 1) (putF "_hidden" (.str z) (putF "_line" (.ref ln) []))))
theorem obf_ok (ln : Addr) (z : Str) (sl : Addr) : ObF 5 (obf ln z sl) ln z 1 1000 sl where
  l := lk_ne (by decide +kernel) (lk_ne (by decide +kernel) (lk_ne (by decide +kernel) (lk_ne (by decide +kernel) lk_eq)))
  h := lk_ne (by decide +kernel) (lk_ne (by decide +kernel) (lk_ne (by decide +kernel) lk_eq))
  lo := lk_ne (by decide +kernel) (lk_ne (by decide +kernel) lk_eq)
  gr := lk_ne (by decide +kernel) lk_eq
  se := lk_eq
  m1 := lk_ne (by decide +kernel) (lk_ne (by decide +kernel) (lk_ne (by decide +kernel) (lk_ne (by decide +kernel) (lk_ne (by decide +kernel) rfl))))
  m2 := lk_ne (by decide +kernel) (lk_ne (by decide +kernel) (lk_ne (by decide +kernel) (lk_ne (by decide +kernel) (lk_ne (by decide +kernel) rfl))))
  m3 := lk_ne (by decide +kernel) (lk_ne (by decide +kernel) (lk_ne (by decide +kernel) (lk_ne (by decide +kernel) (lk_ne (by decide +kernel) rfl))))
  m4 := lk_ne (by decide +kernel) (lk_ne (by decide +kernel) (lk_ne (by decide +kernel) (lk_ne (by decide +kernel) (lk_ne (by decide +kernel) rfl))))
  len := by
    unfold obf
    have h1 := putF_len "_seen" (.ref sl) (putF "_greatest" (.int 1000) (putF "_least" (.int 1) (putF "_hidden" (.str z) (putF "_line" (.ref ln) []))))
    have h2 := putF_len "_greatest" (.int 1000) (putF "_least" (.int 1) (putF "_hidden" (.str z) (putF "_line" (.ref ln) [])))
    have h3 := putF_len "_least" (.int 1) (putF "_hidden" (.str z) (putF "_line" (.ref ln) []))
    have h4 := putF_len "_hidden" (.str z) (putF "_line" (.ref ln) [])
    have h5 := putF_len "_line" (.ref ln) []
    simp only [List.length_nil] at h5
    omega
theorem ObF.least {n : Nat} {fs : List (Str × V)} {ln : Addr} {z : Str} {lo hi : Int} {sl : Addr} (h : ObF n fs ln z lo hi sl) (v : Int) : ObF (n + 1) (putF "_least" (.int v) fs) ln z v hi sl :=
  ⟨lk_ne (by decide +kernel) h.l, lk_ne (by decide +kernel) h.h, lk_eq, lk_ne (by decide +kernel) h.gr, lk_ne (by decide +kernel) h.se, lk_ne (by decide +kernel) h.m1, lk_ne (by decide +kernel) h.m2, lk_ne (by decide +kernel) h.m3, lk_ne (by decide +kernel) h.m4, Nat.le_trans (putF_len _ _ _) (Nat.succ_le_succ h.len)⟩
theorem ObF.greatest {n : Nat} {fs : List (Str × V)} {ln : Addr} {z : Str} {lo hi : Int} {sl : Addr} (h : ObF n fs ln z lo hi sl) (v : Int) : ObF (n + 1) (putF "_greatest" (.int v) fs) ln z lo v sl :=
  ⟨lk_ne (by decide +kernel) h.l, lk_ne (by decide +kernel) h.h, lk_ne (by decide +kernel) h.lo, lk_eq, lk_ne (by decide +kernel) h.se, lk_ne (by decide +kernel) h.m1, lk_ne (by decide +kernel) h.m2, lk_ne (by decide +kernel) h.m3, lk_ne (by decide +kernel) h.m4, Nat.le_trans (putF_len _ _ _) (Nat.succ_le_succ h.len)⟩
theorem lf_tr (tp tn td : Addr) : (lf tp tn td).lookup ("trained" : Str) = none := by
  unfold lf
  exact lk_ne (by decide +kernel) (lk_ne (by decide +kernel) (lk_ne (by decide +kernel) rfl))
def spObInit (K : PySem.W.Frag) : Sp := fun vs H Q _ => ∃ (N : Addr → Prop) (o dx0 ln dx tp tn td : Addr) (rs : List Addr) (ps : List Pr) (z : Str), vs = [.ref o, .ref ln, .str z] ∧ H o = some (.ins (He.ga K "PaceObserver") dx0 []) ∧ LineF K N H ln dx tp tn td rs ps ∧ z ∈ ps.map (·.1) ∧
  ∀ sl H', FrD o H H' → H sl = Option.none → H' o = some (.ins (He.ga K "PaceObserver") dx0 (obf ln z sl)) → H' sl = some (.lst []) → sl ≠ o → Q .non H'
def spPoss (K : PySem.W.Frag) : Sp := fun vs H Q _ => ∃ (n : Nat) (o dx0 ln sl : Addr) (fs : List (Str × V)) (z : Str) (lo hi : Int), vs = [.ref o] ∧ H o = some (.ins (He.ga K "PaceObserver") dx0 fs) ∧ ObF n fs ln z lo hi sl ∧ ∀ t H', Same H H' → H t = Option.none → H' t = some (.tup [.int lo, .int hi]) → Q (.ref t) H'
/-- an observer, its line, the place of the hidden one, the place of another -/
structure ObAt (K : PySem.W.Frag) (H : Hp) (n : Nat) (o dx0 ln sl : Addr) (fs : List (Str × V)) (z : Str) (lo hi : Int) (N : Addr → Prop) (dx tp tn td : Addr) (rs : List Addr) (ps : List Pr) (hI : Nat) : Prop where
  ob : H o = some (.ins (He.ga K "PaceObserver") dx0 fs)
  f : ObF n fs ln z lo hi sl
  L : LineF K N H ln dx tp tn td rs ps
  g : Good ps
  hz : (ps.map (·.1))[hI]? = some z
  lo1 : 1 ≤ lo
  hi1 : hi ≤ 1000
theorem ObAt.keep {K : PySem.W.Frag} {H H' : Hp} {n : Nat} {o dx0 ln sl : Addr} {fs : List (Str × V)} {z : Str} {lo hi : Int} {N : Addr → Prop} {dx tp tn td : Addr} {rs : List Addr} {ps : List Pr} {hI : Nat} (e : Same H H') (h : ObAt K H n o dx0 ln sl fs z lo hi N dx tp tn td rs ps hI) : ObAt K H' n o dx0 ln sl fs z lo hi N dx tp tn td rs ps hI :=
  ⟨e _ _ h.ob, h.f, h.L.keep e, h.g, h.hz, h.lo1, h.hi1⟩
def fP (ps : List Pr) (hI b i : Nat) (x : Int) : Int := Cm (dsOf (setP ps hI x)) b i
def spHeld (K : PySem.W.Frag) : Sp := fun vs H Q _ => ∃ (n : Nat) (o dx0 ln sl : Addr) (fs : List (Str × V)) (z : Str) (lo hi : Int) (N : Addr → Prop) (dx tp tn td : Addr) (rs : List Addr) (ps : List Pr) (hI b i : Nat) (v : Int) (y : Str), vs = [.ref o, .int v, .int b, .str y] ∧ ObAt K H n o dx0 ln sl fs z lo hi N dx tp tn td rs ps hI ∧
  1 ≤ v ∧ v ≤ 1000 ∧ b ≤ 10 ^ 18 ∧ (ps.map (·.1))[i]? = some y ∧ ∀ H', Same H H' → Q (.int (fP ps hI b i v)) H'
def spFirst (K : PySem.W.Frag) : Sp := fun vs H Q _ => ∃ (n : Nat) (o dx0 ln sl : Addr) (fs : List (Str × V)) (z : Str) (lo hi : Int) (N : Addr → Prop) (dx tp tn td : Addr) (rs : List Addr) (ps : List Pr) (hI b i : Nat) (tick : Int) (y : Str), vs = [.ref o, .int b, .str y, .int tick] ∧ ObAt K H n o dx0 ln sl fs z lo hi N dx tp tn td rs ps hI ∧
  lo ≤ hi ∧ b ≤ 10 ^ 18 ∧ (ps.map (·.1))[i]? = some y ∧ ∀ r H', Same H H' → lo ≤ r → r ≤ hi + 1 → (∀ x, lo ≤ x → x < r → fP ps hI b i x < tick) → (∀ x, r ≤ x → x ≤ hi → tick ≤ fP ps hI b i x) → Q (.int r) H'
def spSee (K : PySem.W.Frag) : Sp := fun vs H Q _ => ∃ (n : Nat) (o dx0 ln sl : Addr) (fs : List (Str × V)) (z : Str) (lo hi : Int) (N : Addr → Prop) (dx tp tn td : Addr) (rs : List Addr) (ps : List Pr) (hI b i : Nat) (tick v0 : Int) (y : Str) (xs : List V), vs = [.ref o, .int b, .str y, .int tick] ∧ ObAt K H n o dx0 ln sl fs z lo hi N dx tp tn td rs ps hI ∧
  n ≤ 100 ∧ H sl = some (.lst xs) ∧ sl ≠ o ∧ xs.length ≤ 100 ∧ lo ≤ v0 ∧ v0 ≤ hi ∧ fP ps hI b i v0 = tick ∧ b ≤ 10 ^ 18 ∧ (ps.map (·.1))[i]? = some y ∧ ∀ l g fs' H', (∀ a u, a ≠ o → a ≠ sl → H a = some u → H' a = some u) → H' o = some (.ins (He.ga K "PaceObserver") dx0 fs') → ObF (n + 2) fs' ln z l g sl →
  lo ≤ l → l ≤ v0 → v0 ≤ g → g ≤ hi → (∀ x, l ≤ x → x ≤ g → fP ps hI b i x = tick) → (∀ x, lo ≤ x → x < l → fP ps hI b i x < tick) → (∀ x, g < x → x ≤ hi → tick < fP ps hI b i x) → Q (.int (g - l + 1)) H'
end
end K
namespace K
open PySem PySem.Spec PyProof.Rows L2 Bk
local macro_rules | `(tactic| walk_at "go1") => `(tactic| (first
  | ((with_reducible show tVar _ _ _ _); refine go_var rfl ?_)
  | (with_reducible first | refine go_c ?_ | refine go_op ?_ | refine go_cons ?_ | refine go_nil ?_ | refine go_cb ?_ | refine go_cl ?_ | refine go_seq ?_ | refine go_asg ?_ | refine go_name ?_ | refine go_ifS ?_ | refine go_test ?_ | refine go_bl ?_)
  | (with_reducible first | refine go_rI0 ?_ | refine go_rU ?_ | refine go_ret ?_ | refine go_next ?_ | refine go_B ?_ | refine go_and ?_ | refine go_or ?_ | refine go_not ?_ | refine go_if ?_ | refine go_andV ?_ | refine go_orV ?_ | refine go_notV ?_)
  | ((with_reducible show rEq _ _ _ _); refine go_rEq rfl ?_)
  | ((with_reducible show rNe _ _ _ _); refine go_rNe rfl ?_)
  | (with_reducible first | refine go_un ?_ | refine go_chain ?_ | refine go_drop ?_ | refine go_retN ?_ | refine go_isN ?_ | refine go_notN ?_ | refine go_cont ?_ | refine go_break ?_ | refine go_par ?_ | refine go_two ?_ | refine go_part ?_ | refine go_noPart ?_ | refine go_int ?_ | refine go_sl ?_ | refine go_yes ?_ | refine go_tup ?_ | refine go_lst ?_)
  | (with_reducible first | refine go_gCons ?_ | refine go_gNil ?_ | refine go_for ?_ | refine go_iEnT ?_ | refine go_iEnum ?_ | refine go_iList ?_ | refine go_iTup ?_ | refine go_iStr ?_ | refine go_iRng1 ?_ | refine go_iRng2 ?_ | refine go_iZip ?_ | refine go_lc ?_ | refine go_mkR ?_ | refine go_mkS ?_ | refine go_clO ?_ | refine go_pr ?_ | refine go_sfld ?_ | refine go_bm ?_ | refine go_ref ?_)))
local macro_rules | `(tactic| walk_at "go") => `(tactic| ((repeat (walk_at "go1")); try dsimp only))
local macro_rules | `(tactic| walk_at "so") => `(tactic| first | omega | (simp; done) | (simp; omega) | (simp at *; omega))
section
variable {P : Program} {w : World} {K : PySem.W.Frag} {mg : Str → Option Value} {base : Heap} [PFa P FILE]
/-! people of a line; the line turned round; the good order -/
def enc_is (p : Int × Str) : PyData := .tuple [.int p.1, .str p.2]
def enc_si (p : Str × Int) : PyData := .tuple [.str p.1, .int p.2]
theorem al_is (b b' : Int × Str) : PySem.W.alike (enc_is b) (enc_is b') = true := by simp [enc_is, PySem.W.alike, PySem.W.alikeAll]
theorem al_si (b b' : Str × Int) : PySem.W.alike (enc_si b) (enc_si b') = true := by simp [enc_si, PySem.W.alike, PySem.W.alikeAll]
theorem tu_is (b : Int × Str) : ∃ x r, enc_is b = .tuple (x :: r) := ⟨_, _, rfl⟩
theorem tu_si (b : Str × Int) : ∃ x r, enc_si b = .tuple (x :: r) := ⟨_, _, rfl⟩
theorem dp_is (b : Int × Str) : (enc_is b).depth ≤ 5 := by simp [enc_is, PyData.depth, PyData.depthAll]
theorem dp_si (b : Str × Int) : (enc_si b).depth ≤ 5 := by simp [enc_si, PyData.depth, PyData.depthAll]
/-- people, by pace and name -/
def srt (ps : List Pr) : List Pr := ((ps.map fun p => (p.2, p.1)).mergeSort (PySem.W.dataLe false enc_is)).map fun q => (q.2, q.1)
def goodL {α : Type} (q : List α) : List α := (q.drop (q.length - 1)) ++ ((q.take (q.length - 2)).take 2 ++ ((q.take (q.length - 2)).drop 4 ++ (((q.take (q.length - 2)).take 4).drop 2 ++ (q.drop (q.length - 2)).take 1)))
theorem srt_perm (ps : List Pr) : (srt ps).Perm ps := by
  have h := (List.mergeSort_perm (ps.map fun p => (p.2, p.1)) (PySem.W.dataLe false enc_is)).map fun q => (q.2, q.1)
  unfold srt
  refine h.trans ?_
  rw [List.map_map]
  show (ps.map id).Perm ps
  rw [List.map_id]
theorem goodL_perm {α : Type} {q : List α} (h : 2 ≤ q.length) : (goodL q).Perm q := by
  generalize hb : q.take (q.length - 2) = b
  have e1 : q.drop (q.length - 2) = (q.drop (q.length - 2)).take 1 ++ q.drop (q.length - 1) := by
    have := List.take_append_drop 1 (q.drop (q.length - 2))
    rw [List.drop_drop, show q.length - 2 + 1 = q.length - 1 by omega] at this
    exact this.symm
  have e2 : b = b.take 2 ++ ((b.take 4).drop 2 ++ b.drop 4) := by
    have h1 := List.take_append_drop 2 b
    have h2 := List.take_append_drop 2 (b.drop 2)
    rw [List.drop_drop, List.take_drop] at h2
    rw [h2, h1]
  unfold goodL
  rw [hb]
  have e3 : q = b ++ ((q.drop (q.length - 2)).take 1 ++ q.drop (q.length - 1)) := by
    rw [← e1, ← hb, List.take_append_drop]
  generalize (q.drop (q.length - 2)).take 1 = y at *
  generalize q.drop (q.length - 1) = x at *
  rw [e3]
  refine List.perm_append_comm.trans ?_
  rw [List.append_assoc, List.append_assoc, List.append_assoc]
  conv => rhs; rw [e2]
  rw [List.append_assoc, List.append_assoc]
  refine List.Perm.append_left _ ?_
  have : (b.drop 4 ++ (b.take 4).drop 2 ++ (y ++ x)).Perm ((b.take 4).drop 2 ++ b.drop 4 ++ (y ++ x)) := List.Perm.append_right _ List.perm_append_comm
  rw [List.append_assoc, List.append_assoc] at this
  exact this
theorem Good.perm {ps qs : List Pr} (h : Good ps) (e : qs.Perm ps) : Good qs := ⟨by rw [e.length_eq]; exact h.two, by rw [e.length_eq]; exact h.most, fun p hp => h.nm p (e.mem_iff.mp hp), fun p hp => h.pc p (e.mem_iff.mp hp), (e.map _).nodup_iff.mpr h.nd⟩
theorem cut_takeN (xs : List V) (k : Nat) (h0 : 0 < k) (h : k ≤ xs.length) : cutV xs none (some (-(k : Int))) = xs.take (xs.length - k) := by
  have e : HT.sIx xs.length xs.length (some (-(k : Int))) = xs.length - k := by
    show (if (-(k : Int)) < 0 then (-(k : Int) + (xs.length : Int)).toNat else _) = _
    rw [if_pos (by omega)]
    omega
  unfold cutV
  rw [HT.sIx_none, e]
  simp
theorem cut_dropN (xs : List V) (k : Nat) (h0 : 0 < k) : cutV xs (some (-(k : Int))) none = xs.drop (xs.length - k) := by
  have e : HT.sIx xs.length 0 (some (-(k : Int))) = xs.length - k := by
    show (if (-(k : Int)) < 0 then (-(k : Int) + (xs.length : Int)).toNat else _) = _
    rw [if_pos (by omega)]
    omega
  unfold cutV
  rw [HT.sIx_none, e]
  exact List.take_of_length_le (by simp)
theorem at_neg {α : Type} {xs : List α} {k : Nat} {x : α} (h0 : 0 < k) (hk : k ≤ xs.length) (h : xs[xs.length - k]? = some x) : atI xs (-(k : Int)) = some x := by
  unfold atI ixN
  rw [if_neg (by omega), if_pos (by omega)]
  rw [show (-(k : Int) + (xs.length : Int)).toNat = xs.length - k by omega]
  exact h
theorem srt_len (ps : List Pr) : (srt ps).length = ps.length := (srt_perm ps).length_eq
theorem last1 {α : Type} {l : List α} {x : α} (h : l[l.length - 1]? = some x) : l.drop (l.length - 1) = [x] := by
  obtain ⟨k, e⟩ := List.getElem?_eq_some_iff.mp h
  rw [List.drop_eq_getElem_cons k, e, List.drop_of_length_le (by omega)]
theorem last2 {α : Type} {l : List α} {x : α} (h : l[l.length - 2]? = some x) : (l.drop (l.length - 2)).take 1 = [x] := by
  obtain ⟨k, e⟩ := List.getElem?_eq_some_iff.mp h
  rw [List.drop_eq_getElem_cons k, e]
  rfl
theorem Rows.good {N : Addr → Prop} {H : Hp} {r : List Addr} {p : List Pr} (h : Rows N H r p) : Rows N H (goodL r) (goodL p) := by
  unfold goodL
  rw [h.1]
  exact (h.drop _).app (((h.take _).take 2).app (((h.take _).drop 4).app ((((h.take _).take 4).drop 2).app ((h.drop _).take 1))))
def spPeopleOf (K : PySem.W.Frag) : Sp := fun vs H Q _ => ∃ (N : Addr → Prop) (o dx tp tn td : Addr) (rs : List Addr) (ps : List Pr), vs = [.ref o] ∧ LineF K N H o dx tp tn td rs ps ∧ Q (.ref tp) H
def spNeg (K : PySem.W.Frag) : Sp := fun vs H Q _ => ∃ (N N1 : Addr → Prop) (o dx tp tn td : Addr) (rs : List Addr) (ps : List Pr), vs = [.ref o] ∧ LineF K N1 H o dx tp tn td rs ps ∧ Good ps ∧ (∀ p, H p = Option.none → N p) ∧ ∀ x H', Same H H' → H x = Option.none → LineAt K N H' x ps.reverse → Q (.ref x) H'
def spGood (K : PySem.W.Frag) : Sp := fun vs H Q _ => ∃ (N N1 : Addr → Prop) (o dx tp tn td : Addr) (rs : List Addr) (ps : List Pr), vs = [.ref o] ∧ LineF K N1 H o dx tp tn td rs ps ∧ Good ps ∧ (∀ p, H p = Option.none → N p) ∧ ∀ x H', Same H H' → H x = Option.none → LineAt K N H' x (goodL (srt ps)) → Q (.ref x) H'
theorem Rows.rev {N : Addr → Prop} {H : Hp} {r : List Addr} {p : List Pr} (h : Rows N H r p) : Rows N H r.reverse p.reverse := by
  refine ⟨by simp [h.1], fun i q hq => ?_⟩
  have hi : i < p.length := by
    have := (List.getElem?_eq_some_iff.mp hq).1
    simpa using this
  rw [List.getElem?_reverse hi] at hq
  obtain ⟨t, a, b, c⟩ := h.2 _ q hq
  refine ⟨t, ?_, b, c⟩
  rw [List.getElem?_reverse (by rw [h.1]; exact hi), h.1]
  exact a

/-! the first order -/
def paceOf (ps : List Pr) : Int := Mt.Lm (dd (dsOf ps)) (tN (ps.length - 1))
def okStep (l : List Pr) (v : Int) : Prop := (dsOf (l.drop (l.length - 3))).sum ≤ v
def compl (order rest : List Pr) (v : Int) : Prop := ∀ k, order.length < k → k ≤ (order ++ rest).length → okStep ((order ++ rest).take k) v
theorem compl_nil (order : List Pr) (v : Int) : compl order [] v := fun k h1 h2 => by simp at h2; omega
theorem compl_cons (order : List Pr) (x : Pr) (rest : List Pr) (v : Int) : compl order (x :: rest) v ↔ okStep (order ++ [x]) v ∧ compl (order ++ [x]) rest v := by
  have e : order ++ x :: rest = (order ++ [x]) ++ rest := by simp
  unfold compl
  rw [e]
  constructor
  · intro h
    refine ⟨?_, fun k h1 h2 => h k (by simp at h1; omega) h2⟩
    have := h (order.length + 1) (by omega) (by simp)
    rw [List.take_append_of_le_length (by simp), List.take_of_length_le (by simp)] at this
    exact this
  · rintro ⟨h1, h2⟩ k k1 k2
    by_cases c : k = order.length + 1
    · subst c
      rw [List.take_append_of_le_length (by simp), List.take_of_length_le (by simp)]
      exact h1
    · exact h2 k (by simp; omega) k2
theorem tk_perm {α : Type} {l : List α} {k : Nat} {x : α} (h : l[k]? = some x) : (x :: (l.take k ++ l.drop (k + 1))).Perm l := by
  have := erase_perm h
  rw [List.eraseIdx_eq_take_drop_succ] at this
  exact this
def NoWay (p1 p2 : List Pr) (v : Int) (j : Nat) : Prop := ∀ x, p2[j]? = some x → ∀ p : List Pr, p.Perm (p2.take j ++ p2.drop (j + 1)) → ¬ compl p1 (x :: p) v
def FO : List Pr → List Pr → Int → List Pr → Prop
  | _, _, _, [] => True
  | p1, p2, v, x :: p => ∃ j, p2[j]? = some x ∧ (∀ i, i < j → NoWay p1 p2 v i) ∧ FO (p1 ++ [x]) (p2.take j ++ p2.drop (j + 1)) v p
theorem no_all {p1 p2 : List Pr} {v : Int} (hne : p2 ≠ []) (h : ∀ j, j < p2.length → NoWay p1 p2 v j) (p : List Pr) (hp : p.Perm p2) : ¬ compl p1 p v := by
  match p, hp with
  | [], hp => exact absurd hp.symm.eq_nil hne
  | x :: p, hp =>
    intro hc
    have hx : x ∈ p2 := hp.mem_iff.mp (by simp)
    obtain ⟨j, hj, e⟩ := List.mem_iff_getElem.mp hx
    have ex : p2[j]? = some x := by rw [← e]; simp [hj]
    exact h j hj x ex p (List.Perm.cons_inv (hp.trans (tk_perm ex).symm)) hc
def spDurationsOfL (K : PySem.W.Frag) : Sp := fun vs H Q _ => ∃ (N : Addr → Prop) (a : Addr) (rs : List Addr) (ps : List Pr), vs = [.ref a] ∧ SqL K H a (rs.map V.ref) ∧ Rows N H rs ps ∧ ps.length ≤ 1000 ∧ ∀ p H', Same H H' → H p = Option.none → H' p = some (.tup ((dsOf ps).map V.int)) → Q (.ref p) H'
def spLeast (K : PySem.W.Frag) : Sp := fun vs H Q _ => ∃ (N1 : Addr → Prop) (o dx tp tn td : Addr) (rs : List Addr) (ps : List Pr), vs = [.ref o] ∧ LineF K N1 H o dx tp tn td rs ps ∧ Good ps ∧ ∀ H', Same H H' → Q (.int (paceOf (goodL (srt ps)))) H'
def spFirstO (K : PySem.W.Frag) (n : Nat) : Sp := fun vs H Q _ => ∃ (D1 D2 : Addr) (r1 r2 : List Addr) (p1 p2 : List Pr) (v : Int), vs = [.ref D1, .ref D2, .int v] ∧ p2.length < n ∧ H D1 = some (.lst (r1.map V.ref)) ∧ H D2 = some (.lst (r2.map V.ref)) ∧ Rows (fun _ => True) H r1 p1 ∧ Rows (fun _ => True) H r2 p2 ∧ p1.length + p2.length ≤ 100 ∧
  (∀ H', Same H H' → (∀ p : List Pr, p.Perm p2 → ¬ compl p1 p v) → Q .non H') ∧
  ∀ (x : Addr) (rx : List Addr) (p : List Pr) H', Same H H' → H' x = some (.lst (rx.map V.ref)) → Rows (fun _ => True) H' rx (p1 ++ p) → p.Perm p2 → compl p1 p v → FO p1 p2 v p → Q (.ref x) H'
theorem ok_durations_ofL (T : Tx K mg) : Fx P w K mg base 1 (He.ga K "durations_of") (spDurationsOfL K) := by
  obtain ⟨fd, F⟩ := T.F_durations_of
  have nd := sc_durations_of.nd
  refine fx_of F sc_durations_of (fun vs H Q E h => ?_) (fun _ _ _ _ _ _ us hl => match us, hl with | [_], _ => rfl) fun cdv A outer s H vs Q E hr h => ?_
  · obtain ⟨N, a, rs, ps, rfl, _⟩ := h
    rfl
  obtain ⟨N, a, rs, ps, rfl, hS, hR, hG, h⟩ := h
  refine ⟨_, (pss_cons (ps_setLc (i := 1) (own := [("_", 2), ("pace", 3)]) (g := (gTup K 2 (gCons (gName 2) (gCons (gName 3) gNil)))) rfl nd rfl rfl (sw_true rfl rfl rfl (by decide +kernel)) (pi_list (pv 0)) (blkOk_by (N := ["people", "paces", "_", "pace", "ahead", "behind"]) (sc := defScope s_durations_of) (own := [("_", 2), ("pace", 3)]) (by decide +kernel)) (fun _ _ _ _ _ => (pg_tup (by rfl) (pgs_cons (pg_name (i := 2) nd rfl (Or.inl rfl)) (pgs_cons (pg_name (i := 3) nd rfl (Or.inl rfl)) pgs_nil)))) (fun _ _ _ _ _ => pts_nil) (fun _ _ _ _ _ => (pv 3))) (pss_one (ps_ret (cT call_tuple_of T.m_tuple (pa_cons (pe_lc (own := [("ahead", 4), ("behind", 5)]) (g := (gTup K 2 (gCons (gName 4) (gCons (gName 5) gNil)))) rfl nd (RZ.pi_zipA rfl T.m_zip (pa_cons (pv 1) (pa_cons (pe_slice sl_list (pv 1) (po_some pe_int) po_none) pa_nil))) (blkOk_by (N := ["people", "paces", "_", "pace", "ahead", "behind"]) (sc := defScope s_durations_of) (own := [("ahead", 4), ("behind", 5)]) (by decide +kernel)) (fun _ _ _ _ _ => (pg_tup (by rfl) (pgs_cons (pg_name (i := 4) nd rfl (Or.inl rfl)) (pgs_cons (pg_name (i := 5) nd rfl (Or.inl rfl)) pgs_nil)))) (fun _ _ _ _ _ => pts_nil) (fun _ _ _ _ _ => (cB (call_max2 rfl) T.m_max (pa_cons (pv 4) (pa_cons (pv 5) pa_nil))))) pa_nil))))), ?_⟩
  have hlen := hR.1
  walk_at "go"
  refine ⟨⟨_, hS⟩, ?_⟩
  refine lc_fun (walk_list (xs := rs.map V.ref)) (fun H2 s2 => same_l s2 hS) (fun i => .int ((ps.map (·.2)).getD i 0)) (by simp; omega) ?_ ?_
  · rintro i x H2 H3 k hi s2 ⟨rfl, hx⟩ hk
    obtain ⟨p, t, hp, rfl, _, ht⟩ := (hR.mono (frn_same s2)).at hx
    refine go_gTup (.inl (.inl ht)) rfl ?_
    walk_at "go"
    refine ⟨rfl, ?_⟩
    walk_at "go"
    have q := hk _ (Same.refl _)
    have e1 : (ps.map (·.2)).getD i 0 = p.2 := by simp [List.getD, hp]
    rw [e1] at q
    exact q
  · intro D H2 hD s2 e2
    have e3 : H2 D = some (.lst ((ps.map (·.2)).map V.int)) := by
      rw [e2]
      congr 2
      exact range_map (n := (rs.map V.ref).length) (ps.map (·.2)) V.int 0 (by simp; exact hlen)
    walk_at "go"
    refine go_slL (.inl (.inl e3)) fun q H3 s3 hq e4 => ?_
    walk_at "go"
    rw [show (1 : Int) = ((1 : Nat) : Int) from rfl, cut_drop, ← List.map_drop] at e4
    refine ⟨D, q, _, _, rfl, .inl ⟨.inl (.inl (s3 _ _ e3)), .inl (.inl e4), ?_⟩⟩
    refine lc_fun (walk_zip (n := ps.length - 1) (xs := (ps.map (·.2)).map V.int) (ys := ((ps.map (·.2)).drop 1).map V.int) (by walk_at "so")) (fun H4 s4 => ⟨.inl (.inl (s4 _ _ (s3 _ _ e3))), .inl (.inl (s4 _ _ e4))⟩) (fun i => .int (max ((ps.map (·.2)).getD i 0) ((ps.map (·.2)).getD (i + 1) 0))) (by omega) ?_ ?_
    · rintro i x H4 H5 k hi s4 ⟨T', y1, y2, rfl, hT, rfl, f1, f2⟩ hk
      obtain ⟨z1, g1, rfl⟩ := map_at f1
      obtain ⟨z2, g2, rfl⟩ := map_at f2
      refine go_gTup (.inl (.inl upd_same)) rfl ?_
      walk_at "go"
      refine ⟨rfl, ?_⟩
      walk_at "go"
      refine ⟨z1, z2, rfl, ?_⟩
      have q := hk _ (same_upd (o := .tup [V.int z1, V.int z2]) hT)
      have g3 : (ps.map (·.2)).getD i 0 = z1 := by rw [List.getD, g1]; rfl
      have g4 : (ps.map (·.2)).getD (i + 1) 0 = z2 := by
        rw [List.getElem?_drop, Nat.add_comm] at g2
        rw [List.getD, g2]
        rfl
      rw [g3, g4] at q
      have e5 : (if z2 > z1 then z2 else z1) = max z1 z2 := by omega
      rw [e5]
      exact q
    · intro D2 H4 hD2 s4 e5
      walk_at "go"
      refine ⟨D2, _, rfl, .inl ⟨.inl (.inl e5), fun l hl => ?_⟩⟩
      refine h l _ (s2.trans (s3.trans (s4.trans (same_upd hl)))) ((s2.trans (s3.trans s4)).free hl) ?_
      rw [upd_same, dsOf_eq, List.map_map]
      rfl

end
end K
namespace K
open PySem PySem.Spec PyProof.Rows L2 Bk
local macro_rules | `(tactic| walk_at "go1") => `(tactic| (first
  | ((with_reducible show tVar _ _ _ _); refine go_var rfl ?_)
  | (with_reducible first | refine go_c ?_ | refine go_op ?_ | refine go_cons ?_ | refine go_nil ?_ | refine go_cb ?_ | refine go_cl ?_ | refine go_seq ?_ | refine go_asg ?_ | refine go_name ?_ | refine go_ifS ?_ | refine go_test ?_ | refine go_bl ?_)
  | (with_reducible first | refine go_rI0 ?_ | refine go_rU ?_ | refine go_ret ?_ | refine go_next ?_ | refine go_B ?_ | refine go_and ?_ | refine go_or ?_ | refine go_not ?_ | refine go_if ?_ | refine go_andV ?_ | refine go_orV ?_ | refine go_notV ?_)
  | ((with_reducible show rEq _ _ _ _); refine go_rEq rfl ?_)
  | ((with_reducible show rNe _ _ _ _); refine go_rNe rfl ?_)
  | (with_reducible first | refine go_un ?_ | refine go_chain ?_ | refine go_drop ?_ | refine go_retN ?_ | refine go_isN ?_ | refine go_notN ?_ | refine go_cont ?_ | refine go_break ?_ | refine go_par ?_ | refine go_two ?_ | refine go_part ?_ | refine go_noPart ?_ | refine go_int ?_ | refine go_sl ?_ | refine go_yes ?_ | refine go_tup ?_ | refine go_lst ?_)
  | (with_reducible first | refine go_gCons ?_ | refine go_gNil ?_ | refine go_for ?_ | refine go_iEnT ?_ | refine go_iEnum ?_ | refine go_iList ?_ | refine go_iTup ?_ | refine go_iStr ?_ | refine go_iRng1 ?_ | refine go_iRng2 ?_ | refine go_iZip ?_ | refine go_lc ?_ | refine go_mkR ?_ | refine go_mkS ?_ | refine go_clO ?_ | refine go_pr ?_ | refine go_sfld ?_ | refine go_bm ?_ | refine go_ref ?_)))
local macro_rules | `(tactic| walk_at "go") => `(tactic| ((repeat (walk_at "go1")); try dsimp only))
local macro_rules | `(tactic| walk_at "so") => `(tactic| first | omega | (simp; done) | (simp; omega) | (simp at *; omega))
section
variable {P : Program} {w : World} {K : PySem.W.Frag} {mg : Str → Option Value} {base : Heap} [PFa P FILE]
/-! the mathematics of the good order, over people -/
theorem ord_trans (a b c : PyData) (h1 : PySem.W.dataLt b a = false) (h2 : PySem.W.dataLt c b = false) : PySem.W.dataLt c a = false := by
  cases e : PySem.W.dataLt c a with
  | false => rfl
  | true =>
    rcases PyProof.Rows.lex_negTrans (O := PyProof.Rows.itemOrd) _ (PySem.W.keyToks b) _ e with q | q
    · exact absurd (q.symm.trans h2) (by decide)
    · exact absurd (q.symm.trans h1) (by decide)
theorem ord_total (a b : PyData) : (!PySem.W.dataLt b a || !PySem.W.dataLt a b) = true := by
  cases e : PySem.W.dataLt b a with
  | false => rfl
  | true =>
    cases e2 : PySem.W.dataLt a b with
    | false => rfl
    | true =>
      have := PyProof.Rows.lex_trans (O := PyProof.Rows.itemOrd) _ _ _ e e2
      rw [PyProof.Rows.lex_irrefl] at this
      cases this
theorem sort_pw {β : Type} (enc : β → PyData) (l : List β) : (l.mergeSort (PySem.W.dataLe false enc)).Pairwise fun a b => PySem.W.dataLt (enc b) (enc a) = false := by
  have h := List.pairwise_mergeSort (le := PySem.W.dataLe false enc) (fun a b c h1 h2 => ?_) (fun a b => ?_) l
  · refine h.imp fun {a b} q => ?_
    rw [PySem.W.dataLe_eq] at q
    simpa using q
  · rw [PySem.W.dataLe_eq] at h1 h2 ⊢
    simp at h1 h2 ⊢
    exact ord_trans _ _ _ h1 h2
  · rw [PySem.W.dataLe_eq]
    exact ord_total (enc a) (enc b)
theorem is_le {p q : Int × Str} (h : PySem.W.dataLt (enc_is q) (enc_is p) = false) : p.1 ≤ q.1 := by
  unfold enc_is at h
  rw [PySem.W.dataLt_pair (by simp [PySem.W.alike]) (by simp [PySem.W.alike])] at h
  by_cases e : q.1 = p.1
  · omega
  · have : PyData.eqv (.int q.1) (.int p.1) = false := by
      show (q.1 == p.1) = false
      simpa using e
    rw [this, PySem.W.dataLt_int] at h
    simp at h
    exact h
theorem srt_up (ps : List Pr) : ∀ (i j : Nat) (a b : Pr), i ≤ j → (srt ps)[i]? = some a → (srt ps)[j]? = some b → a.2 ≤ b.2 := by
  intro i j a b hij ha hb
  unfold srt at ha hb
  obtain ⟨x, hx, rfl⟩ := map_at ha
  obtain ⟨y, hy, rfl⟩ := map_at hb
  by_cases e : i = j
  · subst e
    rw [hx] at hy
    cases hy
    exact Int.le_refl _
  · have pw := sort_pw enc_is (ps.map fun p => (p.2, p.1))
    obtain ⟨h1, e1⟩ := List.getElem?_eq_some_iff.mp hx
    obtain ⟨h2, e2⟩ := List.getElem?_eq_some_iff.mp hy
    have := List.pairwise_iff_getElem.mp pw i j h1 h2 (by omega)
    rw [e1, e2] at this
    exact is_le this
def pc (ps : List Pr) (i : Nat) : Int := (ps.map (·.2)).getD i 0
theorem pc_at {ps : List Pr} {i : Nat} {p : Pr} (h : ps[i]? = some p) : pc ps i = p.2 := by simp [pc, List.getD, h]
theorem dd_pc (ps : List Pr) {i : Nat} (h : i + 1 < ps.length) : dd (dsOf ps) i = max (pc ps i) (pc ps (i + 1)) := by
  have a1 : ps[i]? = some ps[i] := by simp [show i < ps.length by omega]
  have a2 : ps[i + 1]? = some ps[i + 1] := by simp [h]
  unfold dd
  rw [List.getD, dsOf_at ps i _ _ a1 a2, pc_at a1, pc_at a2]
  rfl
theorem tn_vl (ps : List Pr) {i : Nat} (h : i + 2 < ps.length) : Mt.tn (dd (dsOf ps)) i = Od.vl (pc ps) i := by
  unfold Mt.tn Od.vl
  rw [dd_pc ps (by omega), dd_pc ps (by omega)]
theorem pm_of {ps qs : List Pr} (h : ps.Perm qs) (up : ∀ (i j : Nat) (a b : Pr), i ≤ j → qs[i]? = some a → qs[j]? = some b → a.2 ≤ b.2) : ∃ f g, Od.Pm ps.length (pc ps) (pc qs) f g := by
  obtain ⟨f, g, h1, h2⟩ := Od.perm_ix h
  have hl := h.length_eq
  refine ⟨f, g, ⟨fun i hi => ?_, h2, fun i j hij hj => ?_⟩⟩
  · obtain ⟨a, b, c⟩ := h1 i hi
    refine ⟨a, b, ?_⟩
    unfold pc
    simp only [List.getD, List.getElem?_map, c]
  · have e1 : qs[i]? = some (qs[i]'(by omega)) := by simp [show i < qs.length by omega]
    have e2 : qs[j]? = some (qs[j]'(by omega)) := by simp [show j < qs.length by omega]
    rw [pc_at e1, pc_at e2]
    exact up i j _ _ hij e1 e2
theorem pc_eq {p q : List Pr} {i j : Nat} (h : p[i]? = q[j]?) : pc p i = pc q j := by
  unfold pc
  simp only [List.getD, List.getElem?_map, h]
theorem gd_of {q : List Pr} (h : 3 ≤ q.length) : Od.Gd q.length (pc q) (pc (goodL q)) where
  b0 := pc_eq (by
    unfold goodL
    simp only [List.getElem?_append, List.getElem?_drop, List.getElem?_take, List.length_drop, List.length_take]
    repeat (first | rw [if_pos (by omega)] | rw [if_neg (by omega)])
    congr 1 <;> omega)
  few h5 i hi := pc_eq (by
    rcases (show i = 0 ∨ i = 1 ∨ i = 2 ∨ i = 3 by omega) with rfl | rfl | rfl | rfl
    all_goals
      unfold goodL
      simp only [List.getElem?_append, List.getElem?_drop, List.getElem?_take, List.length_drop, List.length_take]
      rcases (show q.length = 3 ∨ q.length = 4 ∨ q.length = 5 by omega) with e | e | e
      all_goals
        simp only [e] at hi ⊢
        first
          | omega
          | rfl
          | simp)
  b1 h6 := pc_eq (by
    unfold goodL
    simp only [List.getElem?_append, List.getElem?_drop, List.getElem?_take, List.length_drop, List.length_take]
    repeat (first | rw [if_pos (by omega)] | rw [if_neg (by omega)])
    congr 1 <;> omega)
  b2 h6 := pc_eq (by
    unfold goodL
    simp only [List.getElem?_append, List.getElem?_drop, List.getElem?_take, List.length_drop, List.length_take]
    repeat (first | rw [if_pos (by omega)] | rw [if_neg (by omega)])
    congr 1 <;> omega)
  bm h6 i h3 hi := pc_eq (by
    unfold goodL
    simp only [List.getElem?_append, List.getElem?_drop, List.getElem?_take, List.length_drop, List.length_take]
    repeat (first | rw [if_pos (by omega)] | rw [if_neg (by omega)])
    congr 1 <;> omega)
  b3 h6 := pc_eq (by
    unfold goodL
    simp only [List.getElem?_append, List.getElem?_drop, List.getElem?_take, List.length_drop, List.length_take]
    repeat (first | rw [if_pos (by omega)] | rw [if_neg (by omega)])
    congr 1 <;> omega)
  b4 h6 := pc_eq (by
    unfold goodL
    simp only [List.getElem?_append, List.getElem?_drop, List.getElem?_take, List.length_drop, List.length_take]
    repeat (first | rw [if_pos (by omega)] | rw [if_neg (by omega)])
    congr 1 <;> omega)
  b5 h6 := pc_eq (by
    unfold goodL
    simp only [List.getElem?_append, List.getElem?_drop, List.getElem?_take, List.length_drop, List.length_take]
    repeat (first | rw [if_pos (by omega)] | rw [if_neg (by omega)])
    congr 1 <;> omega)
theorem len_pos {ps : List Pr} {i : Nat} (h : i < ps.length) : ps[i]? = some ps[i] := by simp [h]
theorem pc_bd {ps : List Pr} (hG : Good ps) (i : Nat) : 0 ≤ pc ps i := by
  by_cases h : i < ps.length
  · rw [pc_at (len_pos h)]
    have := hG.pc ps[i] (List.getElem_mem _)
    omega
  · simp [pc, List.getD, h]
/-- the greatest turn is at no smaller place than any -/
theorem pace_ge {ps : List Pr} {i : Nat} (h : i + 2 < ps.length) : Od.vl (pc ps) i ≤ paceOf ps := by
  rw [← tn_vl ps h]
  exact Mt.Lm_le _ (by unfold tN; omega)
theorem pace_at {ps : List Pr} (h : 3 ≤ ps.length) : ∃ i, i + 2 < ps.length ∧ paceOf ps = Od.vl (pc ps) i := by
  obtain ⟨i, hi, e⟩ := Lm_mem (dd (dsOf ps)) (tN (ps.length - 1)) (by unfold tN; omega)
  have hi2 : i + 2 < ps.length := by unfold tN at hi; omega
  exact ⟨i, hi2, by rw [← tn_vl ps hi2]; exact e⟩
theorem pace_two {a b : Pr} : paceOf [a, b] = max a.2 b.2 := by
  show Mt.Lm (dd [max a.2 b.2]) 1 = _
  rw [Mt.Lm_1]
  simp [Mt.tn, dd]
/-- no order has less than the good one -/
theorem least_le {ps qs : List Pr} (h : qs.Perm ps) (h2 : 2 ≤ ps.length) : paceOf (goodL (srt ps)) ≤ paceOf qs := by
  have hs := srt_perm ps
  have hsl := srt_len ps
  have hgl : (goodL (srt ps)).length = ps.length := by rw [(goodL_perm (by omega)).length_eq, hsl]
  have hql := h.length_eq
  by_cases h3 : 3 ≤ ps.length
  · obtain ⟨i, hi, e⟩ := pace_at (ps := goodL (srt ps)) (by omega)
    obtain ⟨f, g, P⟩ := pm_of (h.trans hs.symm) (srt_up ps)
    have G := gd_of (q := srt ps) (by omega)
    rw [hsl] at G
    rw [hql] at P
    obtain ⟨j, hj, lj⟩ := Od.good_least P G h3 (i := i) (by omega)
    rw [e]
    exact Int.le_trans lj (pace_ge (by omega))
  · have e2 : ps.length = 2 := by omega
    have two : ∀ l : List Pr, l.length = 2 → ∃ a b, l = [a, b] := fun l hl => match l, hl with
      | [a, b], _ => ⟨a, b, rfl⟩
    have hp := ((goodL_perm (q := srt ps) (by omega)).trans hs).trans h.symm
    obtain ⟨a, b, ea⟩ := two (goodL (srt ps)) (by omega)
    obtain ⟨c, d, ec⟩ := two qs (by omega)
    rw [ea, ec] at hp ⊢
    rw [pace_two, pace_two]
    have ma : a = c ∨ a = d := by simpa using hp.mem_iff.mp (show a ∈ [a, b] by simp)
    have mb : b = c ∨ b = d := by simpa using hp.mem_iff.mp (show b ∈ [a, b] by simp)
    rcases ma with rfl | rfl <;> rcases mb with rfl | rfl <;> omega
theorem least_eq {ps qs : List Pr} (h : qs.Perm ps) (h2 : 2 ≤ ps.length) : paceOf (goodL (srt qs)) = paceOf (goodL (srt ps)) := by
  have e := h.length_eq
  have p1 := (goodL_perm (q := srt ps) (by rw [srt_len]; exact h2)).trans (srt_perm ps)
  have p2 := (goodL_perm (q := srt qs) (by rw [srt_len]; omega)).trans (srt_perm qs)
  have a := least_le (p2.trans h) h2
  have b := least_le (p1.trans h.symm) (by omega)
  omega
theorem pace_nn {ps : List Pr} (hG : Good ps) : 0 ≤ paceOf ps := (Lm_bd (dd_bd hG.ds) _).1
/-- the steps of a whole order -/
theorem compl_of {l : List Pr} (hG : Good l) {v : Int} (hv : paceOf l ≤ v) : compl [] l v := by
  have h2 := hG.two
  have nn := pace_nn hG
  intro k k1 k2
  simp only [List.nil_append, List.length_nil] at k1 k2 ⊢
  unfold okStep
  have lk : (l.take k).length = k := by simp; omega
  rw [lk]
  by_cases c1 : k = 1
  · subst c1
    obtain ⟨x, r, e⟩ : ∃ x r, l = x :: r := by
      match l, h2 with
      | x :: r, _ => exact ⟨x, r, rfl⟩
    subst e
    show (dsOf [x]).sum ≤ v
    show (0 : Int) ≤ v
    omega
  · by_cases c2 : k = 2
    · subst c2
      obtain ⟨x, y, r, e⟩ : ∃ x y r, l = x :: y :: r := by
        match l, h2 with
        | x :: y :: r, _ => exact ⟨x, y, r, rfl⟩
      have e0 : max x.2 y.2 ≤ paceOf l := by
        by_cases c3 : 3 ≤ l.length
        · have := pace_ge (ps := l) (i := 0) (by omega)
          have nb := pc_bd hG 2
          have p0 : pc l 0 = x.2 := by subst e; rfl
          have p1 : pc l 1 = y.2 := by subst e; rfl
          have nb1 := pc_bd hG 1
          unfold Od.vl at this
          simp only [Nat.zero_add] at this
          omega
        · have : r = [] := by
            subst e
            cases r with
            | nil => rfl
            | cons z r => exact absurd (by simp) c3
          subst e this
          rw [pace_two]
          exact Int.le_refl _
      subst e
      show (max x.2 y.2 + 0 : Int) ≤ v
      omega
    · have h3 : 3 ≤ k := by omega
      have e : (l.take k).drop (k - 3) = [l[k - 3]'(by omega), l[k - 2]'(by omega), l[k - 1]'(by omega)] := by
        apply List.ext_getElem?
        intro i
        rw [List.getElem?_drop, List.getElem?_take]
        match i with
        | 0 => rw [if_pos (by omega)]; simp [show k - 3 < l.length by omega]
        | 1 => rw [if_pos (by omega), show k - 3 + 1 = k - 2 by omega]; simp [show k - 2 < l.length by omega]
        | 2 => rw [if_pos (by omega), show k - 3 + 2 = k - 1 by omega]; simp [show k - 1 < l.length by omega]
        | i + 3 => rw [if_neg (by omega)]; simp
      rw [e]
      have := pace_ge (ps := l) (i := k - 3) (by omega)
      unfold Od.vl at this
      rw [show k - 3 + 1 = k - 2 by omega, show k - 3 + 2 = k - 1 by omega, pc_at (len_pos (show k - 3 < l.length by omega)), pc_at (len_pos (show k - 2 < l.length by omega)), pc_at (len_pos (show k - 1 < l.length by omega))] at this
      show (max (l[k - 3]'_).2 (l[k - 2]'_).2 + (max (l[k - 2]'_).2 (l[k - 1]'_).2 + 0) : Int) ≤ v
      omega
theorem of_compl {l : List Pr} (h2 : 2 ≤ l.length) {v : Int} (hc : compl [] l v) : paceOf l ≤ v := by
  by_cases h3 : 3 ≤ l.length
  · obtain ⟨i, hi, e⟩ := pace_at h3
    have := hc (i + 3) (by simp) (by simp; omega)
    simp only [List.nil_append] at this
    unfold okStep at this
    rw [show (l.take (i + 3)).length = i + 3 by simp; omega] at this
    have e3 : (l.take (i + 3)).drop (i + 3 - 3) = [l[i]'(by omega), l[i + 1]'(by omega), l[i + 2]'(by omega)] := by
      apply List.ext_getElem?
      intro j
      rw [List.getElem?_drop, List.getElem?_take, Nat.add_sub_cancel]
      match j with
      | 0 => rw [if_pos (by omega)]; simp [show i < l.length by omega]
      | 1 => rw [if_pos (by omega)]; simp [show i + 1 < l.length by omega]
      | 2 => rw [if_pos (by omega)]; simp [show i + 2 < l.length by omega]
      | j + 3 => rw [if_neg (by omega)]; simp
    rw [e3] at this
    have t2 : (max (l[i]'(by omega)).2 (l[i + 1]'(by omega)).2 + (max (l[i + 1]'(by omega)).2 (l[i + 2]'(by omega)).2 + 0) : Int) ≤ v := this
    rw [e]
    unfold Od.vl
    rw [pc_at (len_pos (show i < l.length by omega)), pc_at (len_pos (show i + 1 < l.length by omega)), pc_at (len_pos (show i + 2 < l.length by omega))]
    omega
  · obtain ⟨x, y, e⟩ : ∃ x y, l = [x, y] := by
      match l, h2, h3 with
      | [x, y], _, _ => exact ⟨x, y, rfl⟩
      | x :: y :: z :: r, _, h3 => exact absurd (by simp) h3
    subst e
    have := hc 2 (by simp) (by simp)
    rw [pace_two]
    have t : (max x.2 y.2 + 0 : Int) ≤ v := this
    omega

/-! the best order; people mixed -/
theorem Rows.frdL {N : Addr → Prop} {H H' : Hp} {x : Addr} {l : List V} {r : List Addr} {p : List Pr} (h : Rows N H r p) (f : FrD x H H') (e : H x = some (.lst l)) : Rows N H' r p := ⟨h.1, fun i q hq => by
  obtain ⟨t, a, b, c⟩ := h.2 i q hq
  exact ⟨t, a, b, f _ _ (ne_of c e (fun z => by cases z)) c⟩⟩
theorem ins_perm {α : Type} {qs l : List α} {p : α} (k : Nat) (h : qs.Perm l) : (qs.take k ++ [p] ++ qs.drop k).Perm (l ++ [p]) := by
  have e : (qs.take k ++ [p] ++ qs.drop k).Perm (p :: qs) := by
    rw [List.append_assoc]
    have h1 : (qs.take k ++ p :: qs.drop k).Perm (p :: (qs.take k ++ qs.drop k)) := List.perm_middle
    rw [List.take_append_drop] at h1
    exact h1
  exact e.trans ((h.cons p).trans (List.perm_append_comm (l₁ := [p]) (l₂ := l)))
def spBest (K : PySem.W.Frag) : Sp := fun vs H Q _ => ∃ (N N1 : Addr → Prop) (o dx tp tn td : Addr) (rs : List Addr) (ps : List Pr), vs = [.ref o] ∧ LineF K N1 H o dx tp tn td rs ps ∧ Good ps ∧ ps.length ≤ 7 ∧ (∀ p, H p = Option.none → N p) ∧
  ∀ x qs H', Same H H' → H x = Option.none → qs.Perm ps → paceOf qs = paceOf (goodL (srt ps)) → FO [] ps (paceOf (goodL (srt ps))) qs → LineAt K N H' x qs → Q (.ref x) H'
def spMixed (K : PySem.W.Frag) : Sp := fun vs H Q _ => ∃ (z : Prop) (s sc D : Addr) (ns : List Int) (rs : List Addr) (ps : List Pr), vs = [.ref s, .ref D] ∧ StAt z K H s sc ns ∧ H D = some (.lst (rs.map V.ref)) ∧ D ≠ s ∧ Rows (fun b => b ≠ s) H rs ps ∧ ps.length ≤ 100 ∧
  ∀ x rx qs H', FrD s H H' → StAt z K H' s sc ns → H x = Option.none → H' x = some (.lst (rx.map V.ref)) → Rows (fun b => b ≠ s) H' rx qs → qs.Perm ps → Q (.ref x) H'
end
end K
namespace K
open PySem PySem.Spec PyProof.Rows L2 Bk
local macro_rules | `(tactic| walk_at "go1") => `(tactic| (first
  | ((with_reducible show tVar _ _ _ _); refine go_var rfl ?_)
  | (with_reducible first | refine go_c ?_ | refine go_op ?_ | refine go_cons ?_ | refine go_nil ?_ | refine go_cb ?_ | refine go_cl ?_ | refine go_seq ?_ | refine go_asg ?_ | refine go_name ?_ | refine go_ifS ?_ | refine go_test ?_ | refine go_bl ?_)
  | (with_reducible first | refine go_rI0 ?_ | refine go_rU ?_ | refine go_ret ?_ | refine go_next ?_ | refine go_B ?_ | refine go_and ?_ | refine go_or ?_ | refine go_not ?_ | refine go_if ?_ | refine go_andV ?_ | refine go_orV ?_ | refine go_notV ?_)
  | ((with_reducible show rEq _ _ _ _); refine go_rEq rfl ?_)
  | ((with_reducible show rNe _ _ _ _); refine go_rNe rfl ?_)
  | (with_reducible first | refine go_un ?_ | refine go_chain ?_ | refine go_drop ?_ | refine go_retN ?_ | refine go_isN ?_ | refine go_notN ?_ | refine go_cont ?_ | refine go_break ?_ | refine go_par ?_ | refine go_two ?_ | refine go_part ?_ | refine go_noPart ?_ | refine go_int ?_ | refine go_sl ?_ | refine go_yes ?_ | refine go_tup ?_ | refine go_lst ?_)
  | (with_reducible first | refine go_gCons ?_ | refine go_gNil ?_ | refine go_for ?_ | refine go_iEnT ?_ | refine go_iEnum ?_ | refine go_iList ?_ | refine go_iTup ?_ | refine go_iStr ?_ | refine go_iRng1 ?_ | refine go_iRng2 ?_ | refine go_iZip ?_ | refine go_lc ?_ | refine go_mkR ?_ | refine go_mkS ?_ | refine go_clO ?_ | refine go_pr ?_ | refine go_sfld ?_ | refine go_bm ?_ | refine go_ref ?_)))
local macro_rules | `(tactic| walk_at "go") => `(tactic| ((repeat (walk_at "go1")); try dsimp only))
local macro_rules | `(tactic| walk_at "so") => `(tactic| first | omega | (simp; done) | (simp; omega) | (simp at *; omega))
section
variable {P : Program} {w : World} {K : PySem.W.Frag} {mg : Str → Option Value} {base : Heap} [PFa P FILE]
/-! the last hand-over, what it waits for; buckets by a tick; the latest begin -/
theorem pace_pos {ps : List Pr} (hG : Good ps) : 0 < paceOf ps := by
  have h2 := hG.two
  have l0 := Mt.Lm_le (dd (dsOf ps)) (r := tN (ps.length - 1)) (i := 0) (by unfold tN; omega)
  have e := dd_pc ps (i := 0) (by omega)
  have p0 := hG.pc ps[0] (List.getElem_mem _)
  have q0 := pc_at (len_pos (show 0 < ps.length by omega))
  have nn := (dd_bd hG.ds 1).1
  have t0 : Mt.tn (dd (dsOf ps)) 0 = dd (dsOf ps) 0 + dd (dsOf ps) 1 := rfl
  unfold paceOf
  omega
def optP (x : Option (Nat × Nat)) (H : Hp) (v : V) : Prop := match x with
  | some p => ∃ t, v = .ref t ∧ H t = some (.tup [.int p.1, .int p.2])
  | none => v = .non
def lastH (b i : Nat) : Option (Nat × Nat) := if 0 < i then some (b, i - 1) else if 0 < b then some (b - 1, 0) else none
def waitF (ds : List Int) (b p : Nat) : Option (Nat × Nat) := if b = 0 then (if 0 < p then some (0, p - 1) else none) else if p = 0 then some (b - 1, min (p + 1) (ds.length - 1)) else
  if Cm ds (b - 1) (min (p + 1) (ds.length - 1) + 1) ≤ Cm ds b p then some (b, p - 1) else some (b - 1, min (p + 1) (ds.length - 1))
def spLast : Sp := fun vs H Q _ => ∃ b i : Nat, vs = [.int b, .int i] ∧ ∀ v H', Same H H' → optP (lastH b i) H' v → Q v H'
def spWait (K : PySem.W.Frag) : Sp := fun vs H Q _ => ∃ (N : Addr → Prop) (o dx tp tn td a : Addr) (rs : List Addr) (ps : List Pr) (b p : Nat), vs = [.ref o, .ref a] ∧ LineF K N H o dx tp tn td rs ps ∧ Good ps ∧ H a = some (.tup [.int b, .int p]) ∧ b ≤ 1000 ∧ p + 1 < ps.length ∧ ∀ v H', Same H H' → optP (waitF (dsOf ps) b p) H' v → Q v H'
def spBy (K : PySem.W.Frag) : Sp := fun vs H Q _ => ∃ (N : Addr → Prop) (o dx tp tn td : Addr) (rs : List Addr) (ps : List Pr) (t : Int), vs = [.ref o, .int t] ∧ LineF K N H o dx tp tn td rs ps ∧ Good ps ∧ 0 ≤ t ∧ t ≤ 10 ^ 18 ∧ ∀ H', Same H H' → Q (.int (max 0 ((t - (dsOf ps).sum) / paceOf ps + 1))) H'
def spBegin (K : PySem.W.Frag) : Sp := fun vs H Q _ => ∃ (N : Addr → Prop) (o dx tp tn td : Addr) (rs : List Addr) (ps : List Pr) (c : Nat) (t : Int), vs = [.ref o, .int (c + 1 : Nat), .int t] ∧ LineF K N H o dx tp tn td rs ps ∧ Good ps ∧ c + 1 ≤ 10 ^ 18 ∧ 0 ≤ t ∧ t ≤ 10 ^ 24 ∧
  ∀ H', Same H H' → Q (if 0 ≤ t - Cm (dsOf ps) c (ps.length - 1) then .int (t - Cm (dsOf ps) c (ps.length - 1)) else .non) H'
/-! a chain of waits; the slowest part -/
def msr : Option (Nat × Nat) → Nat
  | none => 0
  | some c => c.1 * 20 + c.2 + 1
def chainF (ds : List Int) : Nat → Option (Nat × Nat) → List (Nat × Nat)
  | 0, _ => []
  | _ + 1, none => []
  | n + 1, some c => c :: chainF ds n (waitF ds c.1 c.2)
theorem wait_less {ds : List Int} (hd : ds.length ≤ 11) (h1 : 1 ≤ ds.length) {b p : Nat} (hp : p < ds.length) : msr (waitF ds b p) < msr (some (b, p)) ∧ ∀ c, waitF ds b p = some c → c.1 ≤ b ∧ c.2 < ds.length := by
  unfold waitF
  split
  · split
    · exact ⟨by simp [msr]; omega, fun c e => by cases e; exact ⟨by simp, by simp; omega⟩⟩
    · exact ⟨by simp [msr], fun c e => by cases e⟩
  · split
    · exact ⟨by simp [msr]; omega, fun c e => by cases e; exact ⟨by simp, by simp; omega⟩⟩
    · split
      · exact ⟨by simp [msr]; omega, fun c e => by cases e; exact ⟨by simp, by simp; omega⟩⟩
      · exact ⟨by simp [msr]; omega, fun c e => by cases e; exact ⟨by simp, by simp; omega⟩⟩
theorem chain_fuel {ds : List Int} (hd : ds.length ≤ 11) (h1 : 1 ≤ ds.length) : ∀ (n m : Nat) (x : Option (Nat × Nat)), msr x ≤ n → msr x ≤ m → (∀ c, x = some c → c.2 < ds.length) → chainF ds n x = chainF ds m x
  | 0, m, none, _, _, _ => by cases m <;> rfl
  | 0, _, some c, h, _, _ => by simp [msr] at h
  | n + 1, 0, none, _, _, _ => rfl
  | n + 1, 0, some c, _, h, _ => by simp [msr] at h
  | n + 1, m + 1, none, _, _, _ => rfl
  | n + 1, m + 1, some c, h, h', hc => by
    have w := wait_less hd h1 (b := c.1) (hc c rfl)
    show c :: chainF ds n (waitF ds c.1 c.2) = c :: chainF ds m (waitF ds c.1 c.2)
    have e : msr (some (c.1, c.2)) = msr (some c) := rfl
    rw [chain_fuel hd h1 n m _ (by omega) (by omega) fun d e => (w.2 d e).2]
def chainW (ds : List Int) (x : Option (Nat × Nat)) : List (Nat × Nat) := chainF ds (msr x) x
theorem chainW_some {ds : List Int} (hd : ds.length ≤ 11) (h1 : 1 ≤ ds.length) {c : Nat × Nat} (hc : c.2 < ds.length) : chainW ds (some c) = c :: chainW ds (waitF ds c.1 c.2) := by
  have w := wait_less hd h1 (b := c.1) hc
  have e : msr (some (c.1, c.2)) = msr (some c) := rfl
  show c :: chainF ds (c.1 * 20 + c.2) (waitF ds c.1 c.2) = _
  rw [chain_fuel hd h1 (c.1 * 20 + c.2) (msr (waitF ds c.1 c.2)) _ (by simp only [msr] at w ⊢; omega) (Nat.le_refl _) fun d e => (w.2 d e).2]
  rfl
theorem chainW_none (ds : List Int) : chainW ds none = [] := rfl
/-- rows of a chain: bucket and name -/
def RowsC (H : Hp) (rs : List Addr) (cs : List (Nat × Nat)) (ns : List Str) : Prop := rs.length = cs.length ∧ ∀ (j : Nat) (c : Nat × Nat), cs[j]? = some c → ∃ t z, rs[j]? = some t ∧ ns[c.2]? = some z ∧ H t = some (.tup [.int c.1, .str z])
theorem go_bm0 {K : PySem.W.Frag} {T : String} {r : V → List V → Hp → VK → Prop} {to : TE} {σ : L2.St} {H : Hp} {Q : VK} (h : to σ H fun x H1 => tyV K T x H1 ∧ r x [] H1 Q) : tBM0 K T r to σ H Q := h
theorem RowsC.frdL {H H' : Hp} {x : Addr} {l : List V} {r : List Addr} {c : List (Nat × Nat)} {ns : List Str} (h : RowsC H r c ns) (f : FrD x H H') (e : H x = some (.lst l)) : RowsC H' r c ns := ⟨h.1, fun j d hd => by
  obtain ⟨t, z, a, b, k⟩ := h.2 j d hd
  exact ⟨t, z, a, b, f _ _ (ne_of k e (fun z => by cases z)) k⟩⟩
theorem RowsC.keep {H H' : Hp} {r : List Addr} {c : List (Nat × Nat)} {ns : List Str} (h : RowsC H r c ns) (f : Same H H') : RowsC H' r c ns := ⟨h.1, fun j d hd => by
  obtain ⟨t, z, a, b, k⟩ := h.2 j d hd
  exact ⟨t, z, a, b, f _ _ k⟩⟩
theorem RowsC.rev {H : Hp} {r : List Addr} {c : List (Nat × Nat)} {ns : List Str} (h : RowsC H r c ns) : RowsC H r.reverse c.reverse ns := ⟨by simp [h.1], fun j d hd => by
  have hj : j < c.length := by
    have := (List.getElem?_eq_some_iff.mp hd).1
    simpa using this
  rw [List.getElem?_reverse hj] at hd
  obtain ⟨t, z, a, b, k⟩ := h.2 _ d hd
  exact ⟨t, z, by rw [List.getElem?_reverse (by rw [h.1]; exact hj), h.1]; exact a, b, k⟩⟩
theorem RowsC.snoc {H : Hp} {r : List Addr} {c : List (Nat × Nat)} {ns : List Str} {t : Addr} {d : Nat × Nat} {z : Str} (h : RowsC H r c ns) (hz : ns[d.2]? = some z) (ht : H t = some (.tup [.int d.1, .str z])) : RowsC H (r ++ [t]) (c ++ [d]) ns := ⟨by simp [h.1], fun j e he => by
  by_cases hj : j < c.length
  · rw [List.getElem?_append_left hj] at he
    obtain ⟨t', z', a, b, k⟩ := h.2 j e he
    exact ⟨t', z', by rw [List.getElem?_append_left (by rw [h.1]; exact hj)]; exact a, b, k⟩
  · have hl : j < (c ++ [d]).length := (List.getElem?_eq_some_iff.mp he).1
    have ej : j = c.length := by simp at hl; omega
    subst ej
    rw [List.getElem?_append_right (Nat.le_refl _)] at he
    simp at he
    subst he
    exact ⟨t, z, by rw [List.getElem?_append_right (by rw [h.1]; exact Nat.le_refl _), h.1]; simp, hz, ht⟩⟩
theorem optP.keep {H H' : Hp} {x : Option (Nat × Nat)} {v : V} (h : optP x H v) (f : Same H H') : optP x H' v := by
  cases x with
  | none => exact h
  | some p =>
    obtain ⟨t, e, k⟩ := h
    exact ⟨t, e, f _ _ k⟩
def spChain (K : PySem.W.Frag) : Sp := fun vs H Q _ => ∃ (N : Addr → Prop) (o dx tp tn td : Addr) (rs : List Addr) (ps : List Pr) (b i : Nat) (z : Str), vs = [.ref o, .int b, .str z] ∧ LineF K N H o dx tp tn td rs ps ∧ Good ps ∧ b ≤ 500 ∧ (ps.map (·.1))[i]? = some z ∧
  ∀ x rx H', Same H H' → H x = Option.none → H' x = some (.lst (rx.map V.ref)) → RowsC H' rx (chainW (dsOf ps) (lastH b i)).reverse (ps.map (·.1)) → Q (.ref x) H'
/-! the slowest part -/
def firstMax (ds : List Int) (j : Nat) : Prop := j < tN ds.length ∧ Mt.tn (dd ds) j = Mt.Lm (dd ds) (tN ds.length) ∧ ∀ m, m < j → Mt.tn (dd ds) m ≠ Mt.Lm (dd ds) (tN ds.length)
def spSlow (K : PySem.W.Frag) : Sp := fun vs H Q _ => ∃ (N : Addr → Prop) (o dx tp tn td : Addr) (rs : List Addr) (ps : List Pr), vs = [.ref o] ∧ LineF K N H o dx tp tn td rs ps ∧ Good ps ∧ ∀ x H' j, Same H H' → H x = Option.none → firstMax (dsOf ps) j → H' x = some (.lst ((((ps.map (·.1)).take (j + 3)).drop j).map V.str)) → Q (.ref x) H'
theorem first_ex {ds : List Int} (h1 : 1 ≤ ds.length) : ∃ j, firstMax ds j := by
  obtain ⟨i, hi, e⟩ := Lm_mem (dd ds) (tN ds.length) (by unfold tN; omega)
  have : ∀ n, (∃ i, i < n ∧ i < tN ds.length ∧ Mt.tn (dd ds) i = Mt.Lm (dd ds) (tN ds.length)) → ∃ j, firstMax ds j := by
    intro n
    induction n with
    | zero => rintro ⟨i, h, _⟩; omega
    | succ n ih =>
      rintro ⟨i, h, h2, h3⟩
      by_cases c : ∃ i, i < n ∧ i < tN ds.length ∧ Mt.tn (dd ds) i = Mt.Lm (dd ds) (tN ds.length)
      · exact ih c
      · have ei : i = n := by
          apply Classical.byContradiction
          intro z
          exact c ⟨i, by omega, h2, h3⟩
        subst ei
        exact ⟨i, h2, h3, fun m hm e2 => c ⟨m, hm, by omega, e2⟩⟩
  exact this (i + 1) ⟨i, by omega, hi, e.symm⟩
end
end K
namespace K
open PySem PySem.Spec PyProof.Rows L2 Bk
local macro_rules | `(tactic| walk_at "go1") => `(tactic| (first
  | ((with_reducible show tVar _ _ _ _); refine go_var rfl ?_)
  | (with_reducible first | refine go_c ?_ | refine go_op ?_ | refine go_cons ?_ | refine go_nil ?_ | refine go_cb ?_ | refine go_cl ?_ | refine go_seq ?_ | refine go_asg ?_ | refine go_name ?_ | refine go_ifS ?_ | refine go_test ?_ | refine go_bl ?_)
  | (with_reducible first | refine go_rI0 ?_ | refine go_rU ?_ | refine go_ret ?_ | refine go_next ?_ | refine go_B ?_ | refine go_and ?_ | refine go_or ?_ | refine go_not ?_ | refine go_if ?_ | refine go_andV ?_ | refine go_orV ?_ | refine go_notV ?_)
  | ((with_reducible show rEq _ _ _ _); refine go_rEq rfl ?_)
  | ((with_reducible show rNe _ _ _ _); refine go_rNe rfl ?_)
  | (with_reducible first | refine go_un ?_ | refine go_chain ?_ | refine go_drop ?_ | refine go_retN ?_ | refine go_isN ?_ | refine go_notN ?_ | refine go_cont ?_ | refine go_break ?_ | refine go_par ?_ | refine go_two ?_ | refine go_part ?_ | refine go_noPart ?_ | refine go_int ?_ | refine go_sl ?_ | refine go_yes ?_ | refine go_tup ?_ | refine go_lst ?_)
  | (with_reducible first | refine go_gCons ?_ | refine go_gNil ?_ | refine go_for ?_ | refine go_iEnT ?_ | refine go_iEnum ?_ | refine go_iList ?_ | refine go_iTup ?_ | refine go_iStr ?_ | refine go_iRng1 ?_ | refine go_iRng2 ?_ | refine go_iZip ?_ | refine go_lc ?_ | refine go_mkR ?_ | refine go_mkS ?_ | refine go_clO ?_ | refine go_pr ?_ | refine go_sfld ?_ | refine go_bm ?_ | refine go_ref ?_)))
local macro_rules | `(tactic| walk_at "go") => `(tactic| ((repeat (walk_at "go1")); try dsimp only))
local macro_rules | `(tactic| walk_at "so") => `(tactic| first | omega | (simp; done) | (simp; omega) | (simp at *; omega))
section
variable {P : Program} {w : World} {K : PySem.W.Frag} {mg : Str → Option Value} {base : Heap} [PFa P FILE]
/-! trained, any number of names; all choices of so many names -/
def setN (ps : List Pr) (is : List Nat) (v : Int) : List Pr := (List.range ps.length).map fun i => ((ps.map (·.1)).getD i ("" : Str), if i ∈ is then v else (ps.map (·.2)).getD i 0)
theorem setN_len (ps : List Pr) (is : List Nat) (v : Int) : (setN ps is v).length = ps.length := by simp [setN]
theorem setN_at {ps : List Pr} {is : List Nat} {i : Nat} {v : Int} {p : Pr} (e : ps[i]? = some p) : (setN ps is v)[i]? = some (p.1, if i ∈ is then v else p.2) := by
  have hi := (List.getElem?_eq_some_iff.mp e).1
  unfold setN
  rw [List.getElem?_map, List.getElem?_range hi]
  simp [List.getD, e]
theorem setN_names (ps : List Pr) (is : List Nat) (v : Int) : (setN ps is v).map (·.1) = ps.map (·.1) := by
  unfold setN
  rw [List.map_map]
  exact (range_map (n := ps.length) (ps.map (·.1)) id ("" : Str) (by simp)).trans (List.map_id _)
theorem Good.setN {ps : List Pr} (g : Good ps) (is : List Nat) {v : Int} (h1 : 1 ≤ v) (h2 : v ≤ 1000) : Good (setN ps is v) := by
  have at_ : ∀ q ∈ K.setN ps is v, ∃ p ∈ ps, q.1 = p.1 ∧ (q.2 = v ∨ q.2 = p.2) := fun q hq => by
    obtain ⟨i, hi, e⟩ := List.mem_iff_getElem.mp hq
    rw [setN_len] at hi
    have := setN_at (is := is) (v := v) (show ps[i]? = some ps[i] by simp [hi])
    rw [List.getElem?_eq_getElem (by rw [setN_len]; exact hi)] at this
    have e2 := Option.some.inj this
    rw [e] at e2
    refine ⟨ps[i], List.getElem_mem _, by rw [e2], ?_⟩
    rw [e2]
    by_cases c : i ∈ is
    · exact .inl (if_pos c)
    · exact .inr (if_neg c)
  refine ⟨by rw [setN_len]; exact g.two, by rw [setN_len]; exact g.most, fun q hq => ?_, fun q hq => ?_, by rw [setN_names]; exact g.nd⟩
  · obtain ⟨p, hp, e, _⟩ := at_ q hq
    rw [e]
    exact g.nm p hp
  · obtain ⟨p, hp, _, e | e⟩ := at_ q hq
    · rw [e]
      exact ⟨h1, h2⟩
    · rw [e]
      exact g.pc p hp
theorem go_inN {K : PySem.W.Frag} {H : Hp} {a : Addr} {j : Nat} {is : List Nat} {Q : VK} (h : SqL K H a (is.map fun (i : Nat) => V.int i)) (q : Q (.bl (decide (j ∈ is))) H) : rIn K false (.int j) (.ref a) H Q := by
  have e : (is.map fun (i : Nat) => V.int i) = (is.map fun (i : Nat) => (i : Int)).map V.int := by rw [List.map_map]; rfl
  rw [e] at h
  refine go_inI h ?_
  have d : decide ((j : Int) ∈ is.map fun (i : Nat) => (i : Int)) = decide (j ∈ is) := by
    apply decide_eq_decide.mpr
    simp only [List.mem_map]
    constructor
    · rintro ⟨a, h, e⟩
      have ee : a = j := by omega
      subst ee
      exact h
    · exact fun h => ⟨j, h, rfl⟩
  rw [d]
  exact q
def spTrainedN (K : PySem.W.Frag) : Sp := fun vs H Q _ => ∃ (N N1 : Addr → Prop) (o dx tp tn td a : Addr) (rs : List Addr) (ps : List Pr) (is : List Nat) (v : Int) (zs : List Str), vs = [.ref o, .int v, .ref a] ∧ H a = some (.tup (zs.map V.str)) ∧ LineF K N1 H o dx tp tn td rs ps ∧ Good ps ∧ 1 ≤ v ∧ v ≤ 1000 ∧ zs.length = is.length ∧ zs.length ≤ 100 ∧
  (∀ (k i : Nat), is[k]? = some i → ∃ z, zs[k]? = some z ∧ (ps.map (·.1))[i]? = some z) ∧ (∀ p, H p = Option.none → N p) ∧ ∀ x H', Same H H' → H x = Option.none → LineAt K N H' x (setN ps is v) → Q (.ref x) H'
end
end K
namespace K
open PySem PySem.Spec PyProof.Rows L2 Bk
local macro_rules | `(tactic| walk_at "go1") => `(tactic| (first
  | ((with_reducible show tVar _ _ _ _); refine go_var rfl ?_)
  | (with_reducible first | refine go_c ?_ | refine go_op ?_ | refine go_cons ?_ | refine go_nil ?_ | refine go_cb ?_ | refine go_cl ?_ | refine go_seq ?_ | refine go_asg ?_ | refine go_name ?_ | refine go_ifS ?_ | refine go_test ?_ | refine go_bl ?_)
  | (with_reducible first | refine go_rI0 ?_ | refine go_rU ?_ | refine go_ret ?_ | refine go_next ?_ | refine go_B ?_ | refine go_and ?_ | refine go_or ?_ | refine go_not ?_ | refine go_if ?_ | refine go_andV ?_ | refine go_orV ?_ | refine go_notV ?_)
  | ((with_reducible show rEq _ _ _ _); refine go_rEq rfl ?_)
  | ((with_reducible show rNe _ _ _ _); refine go_rNe rfl ?_)
  | (with_reducible first | refine go_un ?_ | refine go_chain ?_ | refine go_drop ?_ | refine go_retN ?_ | refine go_isN ?_ | refine go_notN ?_ | refine go_cont ?_ | refine go_break ?_ | refine go_par ?_ | refine go_two ?_ | refine go_part ?_ | refine go_noPart ?_ | refine go_int ?_ | refine go_sl ?_ | refine go_yes ?_ | refine go_tup ?_ | refine go_lst ?_)
  | (with_reducible first | refine go_gCons ?_ | refine go_gNil ?_ | refine go_for ?_ | refine go_iEnT ?_ | refine go_iEnum ?_ | refine go_iList ?_ | refine go_iTup ?_ | refine go_iStr ?_ | refine go_iRng1 ?_ | refine go_iRng2 ?_ | refine go_iZip ?_ | refine go_lc ?_ | refine go_mkR ?_ | refine go_mkS ?_ | refine go_clO ?_ | refine go_pr ?_ | refine go_sfld ?_ | refine go_bm ?_ | refine go_ref ?_)))
local macro_rules | `(tactic| walk_at "go") => `(tactic| ((repeat (walk_at "go1")); try dsimp only))
local macro_rules | `(tactic| walk_at "so") => `(tactic| first | omega | (simp; done) | (simp; omega) | (simp at *; omega))
section
variable {P : Program} {w : World} {K : PySem.W.Frag} {mg : Str → Option Value} {base : Heap} [PFa P FILE]
/-! all choices of so many names; the fewest who are trained -/
def chs : Nat → List Str → List (List Str)
  | 0, _ => [[]]
  | k + 1, ns => (List.range ns.length).flatMap fun i => (chs k (ns.drop (i + 1))).map fun r => ns.getD i ("" : Str) :: r
def pre (k : Nat) (ns : List Str) (i : Nat) : List (List Str) := (List.range i).flatMap fun i => (chs k (ns.drop (i + 1))).map fun r => ns.getD i ("" : Str) :: r
theorem pre_succ (k : Nat) (ns : List Str) (i : Nat) : pre k ns (i + 1) = pre k ns i ++ (chs k (ns.drop (i + 1))).map fun r => ns.getD i ("" : Str) :: r := by
  unfold pre
  rw [List.range_succ, List.flatMap_append]
  simp
theorem pre_len {k : Nat} {ns : List Str} (h : ∀ l : List Str, (chs k l).length ≤ 2 ^ l.length) : ∀ i, i ≤ ns.length → (pre k ns i).length + 2 ^ (ns.length - i) ≤ 2 ^ ns.length
  | 0, _ => by simp [pre]
  | i + 1, hi => by
    have ih := pre_len h (k := k) (ns := ns) i (by omega)
    have a := h (ns.drop (i + 1))
    rw [List.length_drop] at a
    rw [pre_succ, List.length_append, List.length_map]
    have e : 2 ^ (ns.length - i) = 2 ^ (ns.length - (i + 1)) + 2 ^ (ns.length - (i + 1)) := by
      rw [show ns.length - i = (ns.length - (i + 1)) + 1 by omega, Nat.pow_succ]
      omega
    omega
theorem chs_len : ∀ (k : Nat) (l : List Str), (chs k l).length ≤ 2 ^ l.length
  | 0, l => by
    show 1 ≤ _
    exact Nat.one_le_two_pow
  | k + 1, l => by
    have := pre_len (k := k) (ns := l) (chs_len k) l.length (Nat.le_refl _)
    exact Nat.le_trans (Nat.le_add_right _ _) this
theorem chs_at : ∀ (k : Nat) (ns : List Str) (zs : List Str), zs ∈ chs k ns → zs.length = k ∧ ∀ z ∈ zs, z ∈ ns
  | 0, ns, zs, h => by
    have : zs = [] := by simpa [chs] using h
    subst this
    simp
  | k + 1, ns, zs, h => by
    unfold chs at h
    obtain ⟨i, hi, h⟩ := List.mem_flatMap.mp h
    obtain ⟨r, hr, rfl⟩ := List.mem_map.mp h
    obtain ⟨h1, h2⟩ := chs_at k _ r hr
    have hi2 := List.mem_range.mp hi
    refine ⟨by simp [h1], fun z hz => ?_⟩
    rcases List.mem_cons.mp hz with rfl | hz
    · simp [List.getD, hi2]
    · exact List.mem_of_mem_drop (h2 z hz)
def LLs (N : Addr → Prop) (H : Hp) (rx : List Addr) (zss : List (List Str)) : Prop := rx.length = zss.length ∧ ∀ (i : Nat) (zs : List Str), zss[i]? = some zs → ∃ t, rx[i]? = some t ∧ N t ∧ H t = some (.lst (zs.map V.str))
theorem LLs.mono {N : Addr → Prop} {H H' : Hp} {rx : List Addr} {zss : List (List Str)} (e : FrN N H H') (h : LLs N H rx zss) : LLs N H' rx zss := ⟨h.1, fun i p q => by
  obtain ⟨t, h1, h2, h3⟩ := h.2 i p q
  exact ⟨t, h1, h2, e _ _ h2 h3⟩⟩
theorem LLs.weak {N M : Addr → Prop} {H : Hp} {rx : List Addr} {zss : List (List Str)} (e : ∀ a, N a → M a) (h : LLs N H rx zss) : LLs M H rx zss := ⟨h.1, fun i p q => by
  obtain ⟨t, h1, h2, h3⟩ := h.2 i p q
  exact ⟨t, h1, e _ h2, h3⟩⟩
theorem LLs.snoc {N : Addr → Prop} {H : Hp} {rx : List Addr} {zss : List (List Str)} (h : LLs N H rx zss) {t : Addr} {zs : List Str} (n : N t) (e : H t = some (.lst (zs.map V.str))) : LLs N H (rx ++ [t]) (zss ++ [zs]) := ⟨by simp [h.1], fun j z he => by
  by_cases hj : j < zss.length
  · rw [List.getElem?_append_left hj] at he
    obtain ⟨t', a, b, c⟩ := h.2 j z he
    exact ⟨t', by rw [List.getElem?_append_left (by rw [h.1]; exact hj)]; exact a, b, c⟩
  · have hl : j < (zss ++ [zs]).length := (List.getElem?_eq_some_iff.mp he).1
    have ej : j = zss.length := by simp at hl; omega
    subst ej
    rw [List.getElem?_append_right (Nat.le_refl _)] at he
    simp at he
    subst he
    exact ⟨t, by rw [List.getElem?_append_right (by rw [h.1]; exact Nat.le_refl _), h.1]; simp, n, e⟩⟩
theorem LLs.at {N : Addr → Prop} {H : Hp} {rx : List Addr} {zss : List (List Str)} (h : LLs N H rx zss) {i : Nat} {y : V} (e : (rx.map V.ref)[i]? = some y) : ∃ zs t, zss[i]? = some zs ∧ y = .ref t ∧ N t ∧ H t = some (.lst (zs.map V.str)) := by
  obtain ⟨t, ht, rfl⟩ := map_at e
  have hi : i < zss.length := by
    have := (List.getElem?_eq_some_iff.mp ht).1
    rw [h.1] at this
    exact this
  obtain ⟨t', h1, h2, h3⟩ := h.2 i zss[i] (by simp [hi])
  rw [ht] at h1
  cases h1
  exact ⟨zss[i], t, by simp [hi], rfl, h2, h3⟩
def spLen (K : PySem.W.Frag) : Sp := fun vs H Q _ => ∃ (N : Addr → Prop) (o dx tp tn td : Addr) (rs : List Addr) (ps : List Pr), vs = [.ref o] ∧ LineF K N H o dx tp tn td rs ps ∧ Q (.int ps.length) H
def spChoices (K : PySem.W.Frag) (n : Nat) : Sp := fun vs H Q _ => ∃ (a : Addr) (ns : List Str) (k : Nat), vs = [.ref a, .int k] ∧ k < n ∧ SqT K H a (ns.map V.str) ∧ ns.length ≤ 12 ∧ k ≤ 100 ∧ ∀ x rx H', Same H H' → H x = Option.none → H' x = some (.lst (rx.map V.ref)) → LLs (fun t => H t = Option.none) H' rx (chs k ns) → Q (.ref x) H'
def okT (ps : List Pr) (v g : Int) (zs : List Str) : Prop := paceOf (setN ps (zs.map fun z => (ps.map (·.1)).idxOf z) v) ≤ g
def spFew (K : PySem.W.Frag) : Sp := fun vs H Q _ => ∃ (N : Addr → Prop) (o dx tp tn td : Addr) (rs : List Addr) (ps : List Pr) (v g : Int), vs = [.ref o, .int v, .int g] ∧ LineF K N H o dx tp tn td rs ps ∧ Good ps ∧ 1 ≤ v ∧ v ≤ 1000 ∧ 1 ≤ g ∧ g ≤ 2000 ∧
  (∀ H', Same H H' → (∀ j, j ≤ ps.length → ∀ z ∈ chs j (ps.map (·.1)), ¬ okT ps v g z) → Q .non H') ∧
  ∀ (a : Addr) (zs : List Str) (k m : Nat) (H' : Hp), Same H H' → H a = Option.none → k ≤ ps.length → (chs k (ps.map (·.1)))[m]? = some zs → (∀ j : Nat, j < k → ∀ z ∈ chs j (ps.map (·.1)), ¬ okT ps v g z) → (∀ m' : Nat, m' < m → ∀ z, (chs k (ps.map (·.1)))[m']? = some z → ¬ okT ps v g z) → okT ps v g zs → H' a = some (.lst (zs.map V.str)) → Q (.ref a) H'
end
end K
namespace K
open PySem PySem.Spec PyProof.Rows L2 Bk
local macro_rules | `(tactic| walk_at "go1") => `(tactic| (first
  | ((with_reducible show tVar _ _ _ _); refine go_var rfl ?_)
  | (with_reducible first | refine go_c ?_ | refine go_op ?_ | refine go_cons ?_ | refine go_nil ?_ | refine go_cb ?_ | refine go_cl ?_ | refine go_seq ?_ | refine go_asg ?_ | refine go_name ?_ | refine go_ifS ?_ | refine go_test ?_ | refine go_bl ?_)
  | (with_reducible first | refine go_rI0 ?_ | refine go_rU ?_ | refine go_ret ?_ | refine go_next ?_ | refine go_B ?_ | refine go_and ?_ | refine go_or ?_ | refine go_not ?_ | refine go_if ?_ | refine go_andV ?_ | refine go_orV ?_ | refine go_notV ?_)
  | ((with_reducible show rEq _ _ _ _); refine go_rEq rfl ?_)
  | ((with_reducible show rNe _ _ _ _); refine go_rNe rfl ?_)
  | (with_reducible first | refine go_un ?_ | refine go_chain ?_ | refine go_drop ?_ | refine go_retN ?_ | refine go_isN ?_ | refine go_notN ?_ | refine go_cont ?_ | refine go_break ?_ | refine go_par ?_ | refine go_two ?_ | refine go_part ?_ | refine go_noPart ?_ | refine go_int ?_ | refine go_sl ?_ | refine go_yes ?_ | refine go_tup ?_ | refine go_lst ?_)
  | (with_reducible first | refine go_gCons ?_ | refine go_gNil ?_ | refine go_for ?_ | refine go_iEnT ?_ | refine go_iEnum ?_ | refine go_iList ?_ | refine go_iTup ?_ | refine go_iStr ?_ | refine go_iRng1 ?_ | refine go_iRng2 ?_ | refine go_iZip ?_ | refine go_lc ?_ | refine go_mkR ?_ | refine go_mkS ?_ | refine go_clO ?_ | refine go_pr ?_ | refine go_sfld ?_ | refine go_bm ?_ | refine go_ref ?_)))
local macro_rules | `(tactic| walk_at "go") => `(tactic| ((repeat (walk_at "go1")); try dsimp only))
local macro_rules | `(tactic| walk_at "so") => `(tactic| first | omega | (simp; done) | (simp; omega) | (simp at *; omega))
section
variable {P : Program} {w : World} {K : PySem.W.Frag} {mg : Str → Option Value} {base : Heap} [PFa P FILE]
/-! lines of one pace; comparisons of texts and pairs -/
theorem _root_.Bk.eqD (K0 : PySem.W.Frag) {X : Cx} (hu : X.A.units + 64 < cLine) (h : X.K = K0 := by rfl) : OpR X (compareOp .Eq) (rEqD K0) := h ▸ op_eqD hu
theorem _root_.Bk.neD (K0 : PySem.W.Frag) {X : Cx} (hu : X.A.units + 64 < cLine) (h : X.K = K0 := by rfl) : OpR X (compareOp .NotEq) (rNeD K0) := h ▸ op_neD hu
theorem _root_.Bk.pi_listI (K0 : PySem.W.Frag) {X : Cx} {tg e : Expr} {tl : TE} (he : PE X e tl) (h : X.K = K0 := by rfl) : PI X tg e (iList K0 tl) := h ▸ pi_list he
theorem dpI {K : PySem.W.Frag} {H : Hp} : ∀ xs : List Int, DpAll K H (xs.map V.int) (xs.map PyData.int)
  | [] => .nil
  | x :: xs => .cons (.int x) (dpI xs)
theorem eqvI (ns ms : List Int) : PyData.eqvAll (ns.map PyData.int) (ms.map PyData.int) = decide (ns = ms) := PySem.W.ked_eqvAll ns ms
theorem shI (xs : List Int) : SeqAt.shaped (.list (xs.map PyData.int)) = true := PySem.W.ke_shaped_ints xs
theorem go_eqI {K : PySem.W.Frag} {H : Hp} {a b : Addr} {xs ys : List Int} {Q : VK} (h : SqL K H a (xs.map V.int)) (h' : SqL K H b (ys.map V.int)) (q : Q (.bl (decide (xs = ys))) H) : rEqD K (.ref a) (.ref b) H Q :=
  ⟨_, _, .lst h (dpI xs), .lst h' (dpI ys), shI xs, shI ys, by show Q (.bl (PyData.eqvAll _ _)) H; rw [eqvI]; exact q⟩
theorem go_neI {K : PySem.W.Frag} {H : Hp} {a b : Addr} {xs ys : List Int} {Q : VK} (h : SqL K H a (xs.map V.int)) (h' : SqL K H b (ys.map V.int)) (q : Q (.bl (!decide (xs = ys))) H) : rNeD K (.ref a) (.ref b) H Q :=
  ⟨_, _, .lst h (dpI xs), .lst h' (dpI ys), shI xs, shI ys, by show Q (.bl (!PyData.eqvAll _ _)) H; rw [eqvI]; exact q⟩
section
variable {P : Program} {w : World} {K : PySem.W.Frag} {mg : Str → Option Value} {base : Heap} {x qual : Str} {params : Arguments} {body : List Stmt} {scope : Scope} {kws : List (Str × V)} {f : Addr} {fd : FuncData} {N ps : List Str} {k : Nat} {sp : Sp}
theorem fo_of (F : FunD K x qual params body scope [] kws f fd) (S : FnScope N ps scope) (len : ∀ vs H Q E, sp vs H Q E → vs.length = ps.length)
    (h : ∀ (cdv : Value) (A : Around) (outer : List Env) (s : Shared) (H : Hp) (vs : List V) (Q : VK) (E : XK), Room k (A.deeper (envOfC qual scope s.heap.objs.size f cdv)) → sp vs H Q E →
      ∃ t, PSs (Cb P w K mg base N qual scope f cdv A outer s H E).nox body t ∧ t { nx := fun _ H' => Q .non H', rt := Q } (start N vs) H) : FnOk P w K mg base (L2.CX P w) (k + 1) f fd ps sp :=
  F.ok S len fun cdv A outer s H vs Q E hr hs => by
    obtain ⟨t, h1, h2⟩ := h cdv A outer s H vs Q E hr hs
    exact ⟨t, h1.nox, h2⟩
end
theorem letters_small : ∀ c ∈ letters, c < 0x110000 := by decide +kernel
theorem nm_ok {z : Str} (h : nmB z = true) : PyData.strOk z = true := by
  unfold nmB at h
  rw [Bool.and_eq_true] at h
  unfold PyData.strOk
  rw [← Array.all_toList, List.all_eq_true]
  intro c hc
  have := List.all_eq_true.mp h.2 c hc
  exact decide_eq_true (letters_small c (of_decide_eq_true this))

theorem eqvS : ∀ l : List Str, PyData.eqvAll (l.map PyData.str) (l.map PyData.str) = true
  | [] => rfl
  | x :: l => by
    have := eqvS l
    simp only [List.map_cons, PyData.eqvAll, this, Bool.and_true]
    simp [PyData.eqv]
theorem layS : ∀ l : List Str, (∀ z ∈ l, PyData.strOk z = true) → PyData.canLayAll0 (l.map PyData.str) = true ∧ PyData.depthAll (l.map PyData.str) ≤ 0
  | [], _ => ⟨rfl, by simp [PyData.depthAll]⟩
  | x :: l, h => by
    obtain ⟨a, b⟩ := layS l fun q hq => h q (by simp [hq])
    refine ⟨by simp [PyData.canLayAll0, PyData.canLay0, a, h x (by simp)], ?_⟩
    simp only [List.map_cons, PyData.depthAll, PyData.depth]
    omega
theorem shS {l : List Str} (h : ∀ z ∈ l, PyData.strOk z = true) : SeqAt.shaped (.list (l.map PyData.str)) = true ∧ SeqAt.shaped (.tuple (l.map PyData.str)) = true := by
  obtain ⟨a, b⟩ := layS l h
  unfold SeqAt.shaped
  rw [Bool.and_eq_true, decide_eq_true_iff, Bool.and_eq_true, decide_eq_true_iff]
  refine ⟨⟨by simpa [PyData.canLay0] using a, ?_⟩, ⟨by simpa [PyData.canLay0] using a, ?_⟩⟩ <;>
  · simp only [PyData.depth]
    omega
theorem dpS {K : PySem.W.Frag} {H : Hp} : ∀ xs : List Str, DpAll K H (xs.map V.str) (xs.map PyData.str)
  | [] => .nil
  | x :: xs => .cons (.str x) (dpS xs)
theorem go_neS {K : PySem.W.Frag} {H : Hp} {a b : Addr} {xs : List Str} {Q : VK} (hx : ∀ z ∈ xs, PyData.strOk z = true) (h : SqL K H a (xs.map V.str)) (h' : SqL K H b (xs.map V.str)) (q : Q (.bl false) H) : rNeD K (.ref a) (.ref b) H Q :=
  ⟨_, _, .lst h (dpS xs), .lst h' (dpS xs), (shS hx).1, (shS hx).1, by show Q (.bl (!PyData.eqvAll _ _)) H; rw [eqvS]; exact q⟩
theorem go_neT {K : PySem.W.Frag} {H : Hp} {a b : Addr} {xs : List Str} {Q : VK} (hx : ∀ z ∈ xs, PyData.strOk z = true) (h : SqT K H a (xs.map V.str)) (h' : SqT K H b (xs.map V.str)) (q : Q (.bl false) H) : rNeD K (.ref a) (.ref b) H Q :=
  ⟨_, _, .tup h (dpS xs), .tup h' (dpS xs), (shS hx).2, (shS hx).2, by show Q (.bl (!PyData.eqvAll _ _)) H; rw [eqvS]; exact q⟩
/-! rows of pairs (int, text) -/
def RowsI (H : Hp) (rx : List Addr) (l : List (Int × Str)) : Prop := rx.length = l.length ∧ ∀ (i : Nat) (p : Int × Str), l[i]? = some p → ∃ t, rx[i]? = some t ∧ H t = some (.tup [.int p.1, .str p.2])
theorem RowsI.keep {H H' : Hp} {rx : List Addr} {l : List (Int × Str)} (h : RowsI H rx l) (e : Same H H') : RowsI H' rx l := ⟨h.1, fun i p q => by
  obtain ⟨t, h1, h2⟩ := h.2 i p q
  exact ⟨t, h1, e _ _ h2⟩⟩
theorem RowsI.app {H : Hp} {r1 r2 : List Addr} {l1 l2 : List (Int × Str)} (h : RowsI H r1 l1) (h' : RowsI H r2 l2) : RowsI H (r1 ++ r2) (l1 ++ l2) := ⟨by simp [h.1, h'.1], fun i p e => by
  by_cases hi : i < l1.length
  · rw [List.getElem?_append_left hi] at e
    obtain ⟨t, a, b⟩ := h.2 i p e
    exact ⟨t, by rw [List.getElem?_append_left (by rw [h.1]; exact hi)]; exact a, b⟩
  · rw [List.getElem?_append_right (by omega)] at e
    obtain ⟨t, a, b⟩ := h'.2 _ p e
    exact ⟨t, by rw [List.getElem?_append_right (by rw [h.1]; omega), h.1]; exact a, b⟩⟩
theorem RowsI.nil {H : Hp} : RowsI H [] [] := ⟨rfl, fun i p e => by simp at e⟩
theorem RowsI.one {H : Hp} {t : Addr} {p : Int × Str} (e : H t = some (.tup [.int p.1, .str p.2])) : RowsI H [t] [p] := ⟨rfl, fun i q h => by
  match i, h with
  | 0, h => cases h; exact ⟨t, rfl, e⟩
  | i + 1, h => simp at h⟩
theorem eqv_is : ∀ S : List (Int × Str), PyData.eqvAll (S.map enc_is) (S.map enc_is) = true
  | [] => rfl
  | p :: S => by
    have := eqv_is S
    simp only [List.map_cons, PyData.eqvAll, this, Bool.and_true]
    simp [enc_is, PyData.eqv, PyData.eqvAll]
theorem lay_is : ∀ S : List (Int × Str), (∀ p ∈ S, PyData.strOk p.2 = true) → PyData.canLayAll0 (S.map enc_is) = true ∧ PyData.depthAll (S.map enc_is) ≤ 1
  | [], _ => ⟨rfl, by simp [PyData.depthAll]⟩
  | p :: S, h => by
    obtain ⟨a, b⟩ := lay_is S fun q hq => h q (by simp [hq])
    have c := h p (by simp)
    refine ⟨by simp [PyData.canLayAll0, PyData.canLay0, enc_is, a, c], ?_⟩
    simp only [List.map_cons, PyData.depthAll, enc_is, PyData.depth]
    omega
theorem sh_is (S : List (Int × Str)) (h : ∀ p ∈ S, PyData.strOk p.2 = true) : SeqAt.shaped (.list (S.map enc_is)) = true := by
  obtain ⟨a, b⟩ := lay_is S h
  unfold SeqAt.shaped
  rw [Bool.and_eq_true, decide_eq_true_iff]
  refine ⟨by simpa [PyData.canLay0] using a, ?_⟩
  simp only [PyData.depth]
  omega
theorem dp_isR {K : PySem.W.Frag} {H : Hp} : ∀ (rx : List Addr) (S : List (Int × Str)), RowsI H rx S → DpAll K H (rx.map V.ref) (S.map enc_is)
  | [], [], _ => .nil
  | [], _ :: _, h => by have := h.1; simp at this
  | _ :: _, [], h => by have := h.1; simp at this
  | t :: rx, p :: S, h => by
    obtain ⟨t', e, b⟩ := h.2 0 p rfl
    cases e
    exact .cons (.tup (.inl (.inl b)) (.cons (.int _) (.cons (.str _) .nil))) (dp_isR rx S ⟨by have := h.1; simpa using this, fun i q hq => h.2 (i + 1) q (by simpa using hq)⟩)
theorem go_eqIS {K : PySem.W.Frag} {H : Hp} {a b : Addr} {r1 r2 : List Addr} {S : List (Int × Str)} {Q : VK} (hx : ∀ p ∈ S, PyData.strOk p.2 = true) (h : H a = some (.lst (r1.map V.ref))) (h1 : RowsI H r1 S) (h' : H b = some (.lst (r2.map V.ref))) (h2 : RowsI H r2 S) (q : Q (.bl true) H) : rEqD K (.ref a) (.ref b) H Q :=
  ⟨_, _, .lst (.inl (.inl h)) (dp_isR r1 S h1), .lst (.inl (.inl h')) (dp_isR r2 S h2), sh_is S hx, sh_is S hx, by show Q (.bl (PyData.eqvAll _ _)) H; rw [eqv_is]; exact q⟩
theorem go_neIS {K : PySem.W.Frag} {H : Hp} {a b : Addr} {r1 r2 : List Addr} {S : List (Int × Str)} {Q : VK} (hx : ∀ p ∈ S, PyData.strOk p.2 = true) (h : H a = some (.lst (r1.map V.ref))) (h1 : RowsI H r1 S) (h' : H b = some (.lst (r2.map V.ref))) (h2 : RowsI H r2 S) (q : Q (.bl false) H) : rNeD K (.ref a) (.ref b) H Q :=
  ⟨_, _, .lst (.inl (.inl h)) (dp_isR r1 S h1), .lst (.inl (.inl h')) (dp_isR r2 S h2), sh_is S hx, sh_is S hx, by show Q (.bl (!PyData.eqvAll _ _)) H; rw [eqv_is]; exact q⟩
theorem RowsC.toI {H : Hp} {rx : List Addr} {done : List (Nat × Nat)} {nms : List Str} (h : RowsC H rx done nms) {S : List (Int × Str)} (e : done.map (fun c => ((c.1 : Int), nms.getD c.2 ("" : Str))) = S) : RowsI H rx S := by
  subst e
  refine ⟨by simp [h.1], fun i p hp => ?_⟩
  obtain ⟨c, hc, rfl⟩ := map_at hp
  obtain ⟨t, z, a, hz, ht⟩ := h.2 i c hc
  refine ⟨t, a, ?_⟩
  rw [ht]
  simp [List.getD, hz]
/-! one pace -/
theorem mulS (c : Int) (n : Nat) : c * ((n + 1 : Nat) : Int) = c * (n : Int) + c := by rw [Int.natCast_add, Int.mul_add]; simp
theorem cst_en {d : Nat → Int} {M : Nat} {c : Int} (h0 : 0 ≤ c) (hM : 1 ≤ M) (hd : ∀ i, i ≤ M → d i = c) : ∀ b p, p ≤ M → Mt.En d M b p = c * ((p + 1 + 2 * b : Nat) : Int) := by
  intro b
  induction b with
  | zero =>
    intro p
    induction p with
    | zero =>
      intro _
      rw [Mt.En_00, hd 0 (by omega)]
      simp
    | succ p ih =>
      intro hp
      rw [Mt.En_0s, ih (by omega), hd _ hp, ← mulS]
  | succ b ih =>
    intro p
    induction p with
    | zero =>
      intro _
      rw [Mt.En_s0, Nat.min_eq_left hM, ih 1 hM, hd 0 (by omega), ← mulS]
      congr 2
      omega
    | succ p ihp =>
      intro hp
      rw [Mt.En_ss, ihp (by omega), ih _ (Nat.min_le_right _ _), hd _ hp, Int.max_eq_left (Int.mul_le_mul_of_nonneg_left (by omega) h0), ← mulS]
      congr 2
      omega
def PP (zs : List Str) (c : Int) : List Pr := zs.map fun z => (z, c)
theorem PP_len (zs : List Str) (c : Int) : (PP zs c).length = zs.length := by simp [PP]
theorem PP_names (zs : List Str) (c : Int) : (PP zs c).map (·.1) = zs := by
  unfold PP
  rw [List.map_map]
  exact List.map_id _
theorem PP_app (a b : List Str) (c : Int) : PP (a ++ b) c = PP a c ++ PP b c := by simp [PP]
/-- all durations are c -/
structure Cst (ps : List Pr) (c : Int) : Prop where
  h0 : 0 ≤ c
  h3 : 3 ≤ ps.length
  d : ∀ i, i + 1 < ps.length → dd (dsOf ps) i = c
theorem PP_cst {zs : List Str} {c : Int} (h0 : 0 ≤ c) (h3 : 3 ≤ zs.length) : Cst (PP zs c) c := by
  refine ⟨h0, by rw [PP_len]; exact h3, fun i hi => ?_⟩
  rw [PP_len] at hi
  have at_ : ∀ j, j < zs.length → pc (PP zs c) j = c := fun j hj => pc_at (show (PP zs c)[j]? = some (zs[j], c) by simp [PP, hj])
  rw [dd_pc _ (by rw [PP_len]; exact hi), at_ i (by omega), at_ (i + 1) hi]
  omega
theorem Cst.pace {ps : List Pr} {c : Int} (h : Cst ps c) : paceOf ps = 2 * c := by
  obtain ⟨i, hi, e⟩ := pace_at h.h3
  have h1 := h.d i (by omega)
  have h2 := h.d (i + 1) hi
  rw [e, ← tn_vl ps hi]
  unfold Mt.tn
  omega
theorem Cst.at {ps : List Pr} {c : Int} (h : Cst ps c) {i : Nat} (h1 : 1 ≤ i) (h2 : i < ps.length) (b : Nat) : Cm (dsOf ps) b i = c * ((i + 2 * b : Nat) : Int) := by
  have hl := dsOf_len ps
  have h3 := h.h3
  unfold Cm
  rw [if_neg (by omega), cst_en h.h0 (by omega) (fun i hi => h.d i (by omega)) b (i - 1) (by omega)]
  congr 2
  omega
theorem Cst.steady {ps : List Pr} {c B : Int} (h : Cst ps c) (hB : SteadyAll (dsOf ps) B) : B = 0 := by
  have hl := dsOf_len ps
  have h3 := h.h3
  have e1 : Mt.Lm (dd (dsOf ps)) (tN (dsOf ps).length) = 2 * c := by rw [hl]; exact h.pace
  have := (hB.2.2 0).mpr fun p hp => by
    rw [e1, cst_en h.h0 (by omega) (fun i hi => h.d i (by omega)) _ p (by omega), cst_en h.h0 (by omega) (fun i hi => h.d i (by omega)) _ p (by omega), show p + 1 + 2 * (0 + 1) = (p + 1 + 2 * 0) + 1 + 1 by omega, mulS, mulS]
    exact (fun x : Int => (by omega : x + c + c = x + 2 * c)) _
  have := hB.1
  omega
theorem PP_perm {zs : List Str} {c : Int} {qs : List Pr} (h : qs.Perm (PP zs c)) : ∃ ys, qs = PP ys c ∧ ys.length = zs.length := by
  refine ⟨qs.map (·.1), ?_, by rw [List.length_map, h.length_eq, PP_len]⟩
  unfold PP
  rw [List.map_map]
  have : ∀ q ∈ qs, (((fun z => (z, c)) ∘ fun x : Pr => x.fst) q) = id q := fun q hq => by
    obtain ⟨z, _, rfl⟩ := List.mem_map.mp (h.mem_iff.mp hq)
    rfl
  rw [List.map_congr_left this, List.map_id]
/-- where the order as it stands will do, it is the first -/
theorem FO_id {v : Int} : ∀ (p2 p1 p : List Pr), FO p1 p2 v p → p.Perm p2 → compl p1 p2 v → p = p2
  | [], p1, p, _, hp, _ => hp.eq_nil
  | x :: r, p1, [], _, hp, _ => absurd hp.symm.eq_nil (by simp)
  | x :: r, p1, y :: p, h, hp, hc => by
    obtain ⟨j, hj, hn, hf⟩ := h
    by_cases c : j = 0
    · subst c
      have : x = y := by simpa using hj
      subst this
      have := FO_id r (p1 ++ [x]) p (by simpa using hf) (List.Perm.cons_inv hp) ((compl_cons _ _ _ _).mp hc).2
      rw [this]
    · exact absurd hc (hn 0 (by omega) x rfl r (by simp))
def L12 : List Str := ["a", "b", "c", "d", "e", "f", "g", "h", "i", "j", "k", "l"]
theorem good_LZ {c : Int} (h1 : 1 ≤ c) (h2 : c ≤ 1000) : Good (PP (L12.take 11 ++ [("z" : Str)]) c) := by
  refine ⟨by rw [PP_len]; decide, by rw [PP_len]; decide, fun p hp => ?_, fun p hp => ?_, by rw [PP_names]; decide +kernel⟩
  · obtain ⟨z, hz, rfl⟩ := List.mem_map.mp hp
    exact (by decide +kernel : ∀ z ∈ L12.take 11 ++ [("z" : Str)], nmB z = true) z hz
  · obtain ⟨z, hz, rfl⟩ := List.mem_map.mp hp
    exact ⟨h1, h2⟩
theorem good_L {c : Int} (h1 : 1 ≤ c) (h2 : c ≤ 1000) {k : Nat} (k2 : 2 ≤ k) (k1 : k ≤ 11) : Good (PP (L12.take k) c) :=
  (good_LZ h1 h2).sub (List.Sublist.map _ ((by
    have : L12.take k = (L12.take 11).take k := by rw [List.take_take, Nat.min_eq_left k1]
    rw [this]
    exact (List.take_sublist _ _).trans (List.sublist_append_left _ _)))) (by rw [PP_len, List.length_take]; show 2 ≤ min k 12; omega)
theorem good_Lz {c : Int} (h1 : 1 ≤ c) (h2 : c ≤ 1000) {k : Nat} (k2 : 1 ≤ k) (k1 : k ≤ 11) : Good (PP (L12.take k ++ [("z" : Str)]) c) :=
  (good_LZ h1 h2).sub (List.Sublist.map _ (by
    have : L12.take k = (L12.take 11).take k := by rw [List.take_take, Nat.min_eq_left k1]
    rw [this]
    exact (List.take_sublist _ _).append (List.Sublist.refl _))) (by rw [PP_len, List.length_append, List.length_take]; show 2 ≤ min k 12 + 1; omega)

end
end K
namespace K
open PySem PySem.Spec PyProof.Rows L2 Bk
local macro_rules | `(tactic| walk_at "go1") => `(tactic| (first
  | ((with_reducible show tVar _ _ _ _); refine go_var rfl ?_)
  | (with_reducible first | refine go_c ?_ | refine go_op ?_ | refine go_cons ?_ | refine go_nil ?_ | refine go_cb ?_ | refine go_cl ?_ | refine go_seq ?_ | refine go_asg ?_ | refine go_name ?_ | refine go_ifS ?_ | refine go_test ?_ | refine go_bl ?_)
  | (with_reducible first | refine go_rI0 ?_ | refine go_rU ?_ | refine go_ret ?_ | refine go_next ?_ | refine go_B ?_ | refine go_and ?_ | refine go_or ?_ | refine go_not ?_ | refine go_if ?_ | refine go_andV ?_ | refine go_orV ?_ | refine go_notV ?_)
  | ((with_reducible show rEq _ _ _ _); refine go_rEq rfl ?_)
  | ((with_reducible show rNe _ _ _ _); refine go_rNe rfl ?_)
  | (with_reducible first | refine go_un ?_ | refine go_chain ?_ | refine go_drop ?_ | refine go_retN ?_ | refine go_isN ?_ | refine go_notN ?_ | refine go_cont ?_ | refine go_break ?_ | refine go_par ?_ | refine go_two ?_ | refine go_part ?_ | refine go_noPart ?_ | refine go_int ?_ | refine go_sl ?_ | refine go_yes ?_ | refine go_tup ?_ | refine go_lst ?_)
  | (with_reducible first | refine go_gCons ?_ | refine go_gNil ?_ | refine go_for ?_ | refine go_iEnT ?_ | refine go_iEnum ?_ | refine go_iList ?_ | refine go_iTup ?_ | refine go_iStr ?_ | refine go_iRng1 ?_ | refine go_iRng2 ?_ | refine go_iZip ?_ | refine go_lc ?_ | refine go_mkR ?_ | refine go_mkS ?_ | refine go_clO ?_ | refine go_pr ?_ | refine go_sfld ?_ | refine go_bm ?_ | refine go_ref ?_)))
local macro_rules | `(tactic| walk_at "go") => `(tactic| ((repeat (walk_at "go1")); try dsimp only))
local macro_rules | `(tactic| walk_at "so") => `(tactic| first | omega | (simp; done) | (simp; omega) | (simp at *; omega))
section
variable {P : Program} {w : World} {K : PySem.W.Frag} {mg : Str → Option Value} {base : Heap} [PFa P FILE]
/-! texts of lines -/
open TL
def pw (n : Int) : Str := Str.ofString (toString n)
def rowT (p : Pr) : Str := p.1 ++ (" " : Str) ++ pw p.2
def textOf (ps : List Pr) : Str := Txt.join ("\n" : Str) (ps.map rowT)
theorem pw_nat (n : Nat) : tl (pw (n : Int)) = (Nat.toDigits 10 n).map Char.toNat := PySem.W.KIN.signs_num n
theorem pw_dig {n : Int} (h0 : 0 ≤ n) : ∀ c ∈ tl (pw n), 48 ≤ c ∧ c ≤ 57 := by
  obtain ⟨m, rfl⟩ := Int.eq_ofNat_of_zero_le h0
  intro c hc
  rw [pw_nat] at hc
  obtain ⟨ch, hch, rfl⟩ := List.mem_map.mp hc
  have h := Nat.isDigit_of_mem_toDigits (by decide) (by decide) hch
  unfold Char.isDigit at h
  simp only [ge_iff_le, Bool.and_eq_true, decide_eq_true_eq] at h
  exact ⟨h.1, h.2⟩
theorem dg_len : ∀ n : Nat, n ≤ 1000 → (Nat.toDigits 10 n).length ≤ 4 ∧ 1 ≤ (Nat.toDigits 10 n).length := by decide +kernel
theorem pw_len {n : Int} (h0 : 0 ≤ n) (h1 : n ≤ 1000) : (pw n).length ≤ 4 ∧ 1 ≤ (pw n).length := by
  obtain ⟨m, rfl⟩ := Int.eq_ofNat_of_zero_le h0
  have := dg_len m (by omega)
  rw [len_tl, pw_nat, List.length_map]
  exact this
theorem pw_reads {n : Int} (h0 : 0 ≤ n) (h1 : n ≤ 1000) : PySem.intText? (pw n) = some n := PySem.W.KIN.num_reads h0 (by omega)
theorem lt_bd : ∀ c ∈ letters, 97 ≤ c ∧ c ≤ 122 := by decide +kernel
theorem nm_bd {z : Str} (h : nmB z = true) : ∀ c ∈ tl z, 97 ≤ c ∧ c ≤ 122 := fun c hc => by
  unfold nmB at h
  rw [Bool.and_eq_true] at h
  exact lt_bd c (of_decide_eq_true (List.all_eq_true.mp h.2 c hc))
theorem nm_len {z : Str} (h : nmB z = true) : 1 ≤ z.length ∧ z.length ≤ 8 := by
  unfold nmB at h
  rw [Bool.and_eq_true] at h
  exact of_decide_eq_true h.1
theorem tl_sp : tl (" " : Str) = [32] := by decide +kernel
theorem tl_nl : tl ("\n" : Str) = [10] := by decide +kernel
theorem rowT_tl (p : Pr) : tl (rowT p) = tl p.1 ++ [32] ++ tl (pw p.2) := by
  unfold rowT
  rw [tl_append, tl_append, tl_sp]
theorem rowT_join (p : Pr) : rowT p = Txt.join (" " : Str) [p.1, pw p.2] := by
  rw [join_eq]
  rfl
theorem split_row {p : Pr} (hn : nmB p.1 = true) (h0 : 0 ≤ p.2) : Txt.split (rowT p) (" " : Str) = [p.1, pw p.2] := by
  rw [rowT_join]
  refine split_join (s := 32) (S := []) tl_sp (by decide +kernel) (by simp) fun q hq => ?_
  have : q = p.1 ∨ q = pw p.2 := by simpa using hq
  rcases this with rfl | rfl
  · intro hc
    have := nm_bd hn 32 hc
    omega
  · intro hc
    have := pw_dig h0 32 hc
    omega
theorem split_text {ps : List Pr} (hne : ps ≠ []) (hn : ∀ p ∈ ps, nmB p.1 = true ∧ 0 ≤ p.2) : Txt.split (textOf ps) ("\n" : Str) = ps.map rowT := by
  refine split_join (s := 10) (S := []) tl_nl (by decide +kernel) (by simpa using hne) fun q hq => ?_
  obtain ⟨p, hp, rfl⟩ := List.mem_map.mp hq
  obtain ⟨h1, h2⟩ := hn p hp
  rw [rowT_tl]
  intro hc
  rcases List.mem_append.mp hc with hc | hc
  · rcases List.mem_append.mp hc with hc | hc
    · have := nm_bd h1 10 hc
      omega
    · simp at hc
  · have := pw_dig h2 10 hc
    omega
theorem rowT_len {p : Pr} (hn : nmB p.1 = true) (h0 : 0 ≤ p.2) (h1 : p.2 ≤ 1000) : (rowT p).length ≤ 13 := by
  have a := nm_len hn
  have b := pw_len h0 h1
  rw [len_tl] at a b ⊢
  rw [rowT_tl, List.length_append, List.length_append]
  simp only [List.length_cons, List.length_nil]
  omega
theorem text_len {ps : List Pr} (hn : ∀ p ∈ ps, nmB p.1 = true ∧ 0 ≤ p.2 ∧ p.2 ≤ 1000) : (textOf ps).length ≤ 14 * ps.length ∧ ((ps.map rowT).map (·.length)).sum ≤ 13 * ps.length := by
  have h1 : ((ps.map rowT).map (·.length)).sum ≤ 13 * ps.length := by
    have := PySem.StrLaws.sumLen_le (B := 13) (ps.map rowT) fun y hy => by
      obtain ⟨p, hp, rfl⟩ := List.mem_map.mp hy
      obtain ⟨a, b, c⟩ := hn p hp
      exact rowT_len a b c
    rw [List.length_map] at this
    omega
  refine ⟨?_, h1⟩
  have := PySem.StrLaws.join_length_le ("\n" : Str) (ps.map rowT)
  unfold textOf
  rw [join_eq]
  have e : ("\n" : Str).length = 1 := by decide +kernel
  rw [e, List.length_map] at this
  omega
theorem go_m1 {r : V → List V → Hp → VK → Prop} {to te : TE} {σ : L2.St} {H : Hp} {Q : VK} (h : to σ H fun x H1 => (∃ a, x = .str a) ∧ te σ H1 fun y H2 => r x [y] H2 Q) : tM1 r to te σ H Q := h
def spDigits : Sp := fun vs H Q _ => ∃ n : Int, vs = [.str (pw n)] ∧ 0 ≤ n ∧ n ≤ 1000 ∧ ∀ H', Same H H' → Q (.bl true) H'
def spWrong (K : PySem.W.Frag) : Sp := fun vs H Q _ => ∃ (a : Addr) (z : Str) (n : Int), vs = [.ref a] ∧ H a = some (.lst [.str z, .str (pw n)]) ∧ nmB z = true ∧ 0 ≤ n ∧ n ≤ 1000 ∧ ∀ H', Same H H' → Q .non H'
def spParse (K : PySem.W.Frag) : Sp := fun vs H Q _ => ∃ (N : Addr → Prop) (ps : List Pr), vs = [.str (textOf ps)] ∧ Good ps ∧ (∀ p, H p = Option.none → N p) ∧ ∀ x H', Same H H' → H x = Option.none → LineAt K N H' x ps → Q (.ref x) H'

end
end K
namespace K
open PySem PySem.Spec PyProof.Rows L2 Bk
local macro_rules | `(tactic| walk_at "go1") => `(tactic| (first
  | ((with_reducible show tVar _ _ _ _); refine go_var rfl ?_)
  | (with_reducible first | refine go_c ?_ | refine go_op ?_ | refine go_cons ?_ | refine go_nil ?_ | refine go_cb ?_ | refine go_cl ?_ | refine go_seq ?_ | refine go_asg ?_ | refine go_name ?_ | refine go_ifS ?_ | refine go_test ?_ | refine go_bl ?_)
  | (with_reducible first | refine go_rI0 ?_ | refine go_rU ?_ | refine go_ret ?_ | refine go_next ?_ | refine go_B ?_ | refine go_and ?_ | refine go_or ?_ | refine go_not ?_ | refine go_if ?_ | refine go_andV ?_ | refine go_orV ?_ | refine go_notV ?_)
  | ((with_reducible show rEq _ _ _ _); refine go_rEq rfl ?_)
  | ((with_reducible show rNe _ _ _ _); refine go_rNe rfl ?_)
  | (with_reducible first | refine go_un ?_ | refine go_chain ?_ | refine go_drop ?_ | refine go_retN ?_ | refine go_isN ?_ | refine go_notN ?_ | refine go_cont ?_ | refine go_break ?_ | refine go_par ?_ | refine go_two ?_ | refine go_part ?_ | refine go_noPart ?_ | refine go_int ?_ | refine go_sl ?_ | refine go_yes ?_ | refine go_tup ?_ | refine go_lst ?_)
  | (with_reducible first | refine go_gCons ?_ | refine go_gNil ?_ | refine go_for ?_ | refine go_iEnT ?_ | refine go_iEnum ?_ | refine go_iList ?_ | refine go_iTup ?_ | refine go_iStr ?_ | refine go_iRng1 ?_ | refine go_iRng2 ?_ | refine go_iZip ?_ | refine go_lc ?_ | refine go_mkR ?_ | refine go_mkS ?_ | refine go_clO ?_ | refine go_pr ?_ | refine go_sfld ?_ | refine go_bm ?_ | refine go_ref ?_)))
local macro_rules | `(tactic| walk_at "go") => `(tactic| ((repeat (walk_at "go1")); try dsimp only))
local macro_rules | `(tactic| walk_at "so") => `(tactic| first | omega | (simp; done) | (simp; omega) | (simp at *; omega))
section
variable {P : Program} {w : World} {K : PySem.W.Frag} {mg : Str → Option Value} {base : Heap} [PFa P FILE]
/-! numbers and people, drawn from a list of one's own -/
abbrev NN (s L : Addr) : Addr → Prop := fun b => b ≠ s ∧ b ≠ L
def HSt (H : Hp) (s L : Addr) : Prop := ∃ (c0 c2 : Int) (cs : List Int), H s = some (.lst [.int c0, .ref L, .int c2]) ∧ H L = some (.lst (cs.map V.int)) ∧ L ≠ s ∧ 0 ≤ c2 ∧ cs.length ≤ 63
theorem HSt.keep {H H' : Hp} {s L : Addr} (h : HSt H s L) (e : Same H H') : HSt H' s L := by
  obtain ⟨c0, c2, cs, a, b, c⟩ := h
  exact ⟨c0, c2, cs, e _ _ a, e _ _ b, c⟩
theorem HSt.ne {H : Hp} {s L D : Addr} (h : HSt H s L) (hD : H D = Option.none) : NN s L D := by
  obtain ⟨c0, c2, cs, a, b, c⟩ := h
  refine ⟨fun z => ?_, fun z => ?_⟩
  · rw [z, a] at hD
    cases hD
  · rw [z, b] at hD
    cases hD
theorem HSt.frd {H H' : Hp} {s L D : Addr} (h : HSt H s L) (f : FrD D H H') (n : NN s L D) : HSt H' s L := by
  obtain ⟨c0, c2, cs, a, b, c⟩ := h
  exact ⟨c0, c2, cs, f _ _ n.1.symm a, f _ _ n.2.symm b, c⟩
theorem ixN_int {n : Nat} {k : Int} (h0 : 0 ≤ k) (h1 : k < (n : Int)) : ixN n k = some k.toNat := by
  unfold ixN
  rw [if_pos (by omega), if_pos (by omega)]
def spMix (K : PySem.W.Frag) : Sp := fun vs H Q _ => ∃ (z : Prop) (sc : Addr) (ns : List Int) (seed : Int), vs = [.ref sc, .int seed] ∧ ScAt z K H sc ns ∧ ns.length ≤ 63 ∧ ∀ s L H', Same H H' → H s = Option.none → H L = Option.none → HSt H' s L → Q (.ref s) H'
def spNext (K : PySem.W.Frag) : Sp := fun vs H Q _ => ∃ (s L : Addr) (n : Int), vs = [.ref s, .int n] ∧ 0 < n ∧ n < 2 ^ 100 ∧ HSt H s L ∧ ∀ (y : Int) H', FrN (NN s L) H H' → HSt H' s L → 0 ≤ y → y < n → Q (.int y) H'
def nm9 : List Str := ["ann", "bo", "cy", "dot", "eve", "fay", "gus", "hal", "ida"]
theorem nm9_ok : ∀ z ∈ nm9, nmB z = true := by decide +kernel
theorem nm9_nd : nm9.Nodup := by decide +kernel
theorem people9 {ps : List Pr} {ls : List Str} (h : (ps.map (·.1) ++ ls).Perm nm9) (h2 : 2 ≤ ps.length) (h3 : ps.length ≤ 12) (hp : ∀ p ∈ ps, 1 ≤ p.2 ∧ p.2 ≤ 1000) : Good ps := by
  have mem : ∀ p ∈ ps, p.1 ∈ nm9 := fun p q => h.mem_iff.mp (List.mem_append_left _ (List.mem_map.mpr ⟨p, q, rfl⟩))
  refine ⟨h2, h3, fun p q => nm9_ok _ (mem p q), hp, ?_⟩
  exact (List.nodup_append.mp (h.nodup_iff.mpr nm9_nd)).1
def spPeople9 (K : PySem.W.Frag) : Sp := fun vs H Q _ => ∃ (s L : Addr) (most high : Int), vs = [.ref s, .int most, .int high] ∧ 2 ≤ most ∧ most ≤ 9 ∧ 1 ≤ high ∧ high ≤ 1000 ∧ HSt H s L ∧
  ∀ D H' rs ps, FrN (NN s L) H H' → HSt H' s L → H D = Option.none → H' D = some (.lst (rs.map V.ref)) → Rows (NN s L) H' rs ps → Good ps → (ps.length : Int) ≤ most → (∀ p ∈ ps, p.2 ≤ high) → Q (.ref D) H'
theorem nth_app {cs : List Int} {k : Nat} (h : k < max 1 cs.length) : ∃ v : Int, (cs.map V.int ++ [V.int 0])[k]? = some (.int v) ∧ (cs = [] → v = 0) := by
  by_cases hk : k < cs.length
  · exact ⟨cs[k], by rw [List.getElem?_append_left (by simpa using hk)]; simp [hk], fun z => by subst z; simp at hk⟩
  · have e : cs = [] := List.eq_nil_of_length_eq_zero (by omega)
    subst e
    have : k = 0 := by simp at h; omega
    subst this
    exact ⟨0, rfl, fun _ => rfl⟩

end
end K
namespace K
open PySem PySem.Spec PyProof.Rows L2 Bk
local macro_rules | `(tactic| walk_at "go1") => `(tactic| (first
  | ((with_reducible show tVar _ _ _ _); refine go_var rfl ?_)
  | (with_reducible first | refine go_c ?_ | refine go_op ?_ | refine go_cons ?_ | refine go_nil ?_ | refine go_cb ?_ | refine go_cl ?_ | refine go_seq ?_ | refine go_asg ?_ | refine go_name ?_ | refine go_ifS ?_ | refine go_test ?_ | refine go_bl ?_)
  | (with_reducible first | refine go_rI0 ?_ | refine go_rU ?_ | refine go_ret ?_ | refine go_next ?_ | refine go_B ?_ | refine go_and ?_ | refine go_or ?_ | refine go_not ?_ | refine go_if ?_ | refine go_andV ?_ | refine go_orV ?_ | refine go_notV ?_)
  | ((with_reducible show rEq _ _ _ _); refine go_rEq rfl ?_)
  | ((with_reducible show rNe _ _ _ _); refine go_rNe rfl ?_)
  | (with_reducible first | refine go_un ?_ | refine go_chain ?_ | refine go_drop ?_ | refine go_retN ?_ | refine go_isN ?_ | refine go_notN ?_ | refine go_cont ?_ | refine go_break ?_ | refine go_par ?_ | refine go_two ?_ | refine go_part ?_ | refine go_noPart ?_ | refine go_int ?_ | refine go_sl ?_ | refine go_yes ?_ | refine go_tup ?_ | refine go_lst ?_)
  | (with_reducible first | refine go_gCons ?_ | refine go_gNil ?_ | refine go_for ?_ | refine go_iEnT ?_ | refine go_iEnum ?_ | refine go_iList ?_ | refine go_iTup ?_ | refine go_iStr ?_ | refine go_iRng1 ?_ | refine go_iRng2 ?_ | refine go_iZip ?_ | refine go_lc ?_ | refine go_mkR ?_ | refine go_mkS ?_ | refine go_clO ?_ | refine go_pr ?_ | refine go_sfld ?_ | refine go_bm ?_ | refine go_ref ?_)))
local macro_rules | `(tactic| walk_at "go") => `(tactic| ((repeat (walk_at "go1")); try dsimp only))
local macro_rules | `(tactic| walk_at "so") => `(tactic| first | omega | (simp; done) | (simp; omega) | (simp at *; omega))
section
variable {P : Program} {w : World} {K : PySem.W.Frag} {mg : Str → Option Value} {base : Heap} [PFa P FILE]
/-! the text of people, the pace of people, all choices, two things alike -/
open TL
theorem fil_none (l : List Nat) : (l.filterMap fun _ => (none : Option Int)) = [] := by
  induction l with
  | nil => rfl
  | cons x l ih => simpa using ih

def Bdd (ps : List Pr) : Prop := ∀ p ∈ ps, nmB p.1 = true ∧ 0 ≤ p.2 ∧ p.2 ≤ 1000
theorem Good.bdd {ps : List Pr} (h : Good ps) : Bdd ps := fun p hp => ⟨h.nm p hp, by have := h.pc p hp; omega, (h.pc p hp).2⟩
def spText (K : PySem.W.Frag) : Sp := fun vs H Q _ => ∃ (N : Addr → Prop) (D : Addr) (rs : List Addr) (ps : List Pr), vs = [.ref D] ∧ H D = some (.lst (rs.map V.ref)) ∧ Rows N H rs ps ∧ Bdd ps ∧ ps.length ≤ 12 ∧ ∀ H', Same H H' → Q (.str (textOf ps)) H'
def spLPace (K : PySem.W.Frag) : Sp := fun vs H Q _ => ∃ (N : Addr → Prop) (D : Addr) (rs : List Addr) (ps : List Pr), vs = [.ref D] ∧ H D = some (.lst (rs.map V.ref)) ∧ Rows N H rs ps ∧ (∀ p ∈ ps, 1 ≤ p.2 ∧ p.2 ≤ 1000) ∧ 2 ≤ ps.length ∧ ps.length ≤ 12 ∧ ∀ H', Same H H' → Q (.int (paceOf ps)) H'
def spLChoices (K : PySem.W.Frag) (n : Nat) : Sp := fun vs H Q _ => ∃ (a : Addr) (ns : List Str) (k : Nat), vs = [.ref a, .int k] ∧ k < n ∧ SqL K H a (ns.map V.str) ∧ ns.length ≤ 12 ∧ k ≤ 100 ∧ ∀ x rx H', Same H H' → H x = Option.none → H' x = some (.lst (rx.map V.ref)) → LLs (fun t => H t = Option.none) H' rx (chs k ns) → Q (.ref x) H'
def Alk (n : Nat) (H : Hp) (x y : V) : Prop := (1 ≤ n ∧ x = .non ∧ y = .non) ∨ (1 ≤ n ∧ ∃ z : Str, PyData.strOk z = true ∧ x = .str z ∧ y = .str z) ∨ (2 ≤ n ∧ ∃ (a b : Addr) (zs : List Str), x = .ref a ∧ y = .ref b ∧ (∀ z ∈ zs, PyData.strOk z = true) ∧ zs.length ≤ 1000 ∧ H a = some (.lst (zs.map V.str)) ∧ H b = some (.lst (zs.map V.str)))
def spAlk (K : PySem.W.Frag) (n : Nat) : Sp := fun vs H Q _ => ∃ x y : V, vs = [x, y] ∧ Alk n H x y ∧ ∀ H', Same H H' → Q (.bl true) H'
theorem sh_str {z : Str} (h : PyData.strOk z = true) : SeqAt.shaped (.str z) = true := by
  unfold SeqAt.shaped
  rw [Bool.and_eq_true, decide_eq_true_iff]
  refine ⟨by simpa [PyData.canLay0] using h, ?_⟩
  simp only [PyData.depth]
  omega
theorem LLs.ofgen {N : Addr → Prop} {H : Hp} {ys : List V} {zss : List (List Str)} (hl : ys.length = zss.length) (h : ∀ (i : Nat) (y : V), ys[i]? = some y → ∃ (zs : List Str) (t : Addr), zss[i]? = some zs ∧ y = V.ref t ∧ N t ∧ H t = some (.lst (zs.map V.str))) : ∃ rx : List Addr, ys = rx.map V.ref ∧ LLs N H rx zss := by
  refine ⟨ys.map fun y => match y with | .ref t => t | _ => 0, ?_, by simp [hl], fun i zs hz => ?_⟩
  · rw [List.map_map]
    symm
    apply List.ext_getElem?
    intro i
    rw [List.getElem?_map]
    cases ei : ys[i]? with
    | none => rfl
    | some y =>
      obtain ⟨zs, t, _, rfl, _⟩ := h i y ei
      rfl
  · have hi : i < ys.length := by
      have := (List.getElem?_eq_some_iff.mp hz).1
      omega
    obtain ⟨zs', t, e1, e2, e3, e4⟩ := h i ys[i] (by simp [hi])
    rw [hz] at e1
    cases e1
    refine ⟨t, ?_, e3, e4⟩
    rw [List.getElem?_map, List.getElem?_eq_getElem hi, e2]
    rfl
theorem LLs.app {N : Addr → Prop} {H : Hp} {r1 r2 : List Addr} {z1 z2 : List (List Str)} (h : LLs N H r1 z1) (h' : LLs N H r2 z2) : LLs N H (r1 ++ r2) (z1 ++ z2) := ⟨by simp [h.1, h'.1], fun i p e => by
  by_cases hi : i < z1.length
  · rw [List.getElem?_append_left hi] at e
    obtain ⟨t, a, b⟩ := h.2 i p e
    exact ⟨t, by rw [List.getElem?_append_left (by rw [h.1]; exact hi)]; exact a, b⟩
  · rw [List.getElem?_append_right (by omega)] at e
    obtain ⟨t, a, b⟩ := h'.2 _ p e
    exact ⟨t, by rw [List.getElem?_append_right (by rw [h.1]; omega), h.1]; exact a, b⟩⟩

end
end K
namespace K
open PySem PySem.Spec PyProof.Rows L2 Bk
local macro_rules | `(tactic| walk_at "go1") => `(tactic| (first
  | ((with_reducible show tVar _ _ _ _); refine go_var rfl ?_)
  | (with_reducible first | refine go_c ?_ | refine go_op ?_ | refine go_cons ?_ | refine go_nil ?_ | refine go_cb ?_ | refine go_cl ?_ | refine go_seq ?_ | refine go_asg ?_ | refine go_name ?_ | refine go_ifS ?_ | refine go_test ?_ | refine go_bl ?_)
  | (with_reducible first | refine go_rI0 ?_ | refine go_rU ?_ | refine go_ret ?_ | refine go_next ?_ | refine go_B ?_ | refine go_and ?_ | refine go_or ?_ | refine go_not ?_ | refine go_if ?_ | refine go_andV ?_ | refine go_orV ?_ | refine go_notV ?_)
  | ((with_reducible show rEq _ _ _ _); refine go_rEq rfl ?_)
  | ((with_reducible show rNe _ _ _ _); refine go_rNe rfl ?_)
  | (with_reducible first | refine go_un ?_ | refine go_chain ?_ | refine go_drop ?_ | refine go_retN ?_ | refine go_isN ?_ | refine go_notN ?_ | refine go_cont ?_ | refine go_break ?_ | refine go_par ?_ | refine go_two ?_ | refine go_part ?_ | refine go_noPart ?_ | refine go_int ?_ | refine go_sl ?_ | refine go_yes ?_ | refine go_tup ?_ | refine go_lst ?_)
  | (with_reducible first | refine go_gCons ?_ | refine go_gNil ?_ | refine go_for ?_ | refine go_iEnT ?_ | refine go_iEnum ?_ | refine go_iList ?_ | refine go_iTup ?_ | refine go_iStr ?_ | refine go_iRng1 ?_ | refine go_iRng2 ?_ | refine go_iZip ?_ | refine go_lc ?_ | refine go_mkR ?_ | refine go_mkS ?_ | refine go_clO ?_ | refine go_pr ?_ | refine go_sfld ?_ | refine go_bm ?_ | refine go_ref ?_)))
local macro_rules | `(tactic| walk_at "go") => `(tactic| ((repeat (walk_at "go1")); try dsimp only))
local macro_rules | `(tactic| walk_at "so") => `(tactic| first | omega | (simp; done) | (simp; omega) | (simp at *; omega))
section
variable {P : Program} {w : World} {K : PySem.W.Frag} {mg : Str → Option Value} {base : Heap} [PFa P FILE]
/-! the table of all that stands in the hands -/

def rowC (ds : List Int) (b : Nat) : List Int := (List.range (ds.length + 1)).map (Cm ds b)
def TabR (N : Addr → Prop) (H : Hp) (x : Addr) (ds : List Int) (n : Nat) : Prop := ∃ ts : List Addr, H x = some (.lst (ts.map V.ref)) ∧ ts.length = n ∧ N x ∧ ∀ (i : Nat) (t : Addr), ts[i]? = some t → t ≠ x ∧ N t ∧ H t = some (.lst ((rowC ds i).map V.int))
theorem TabR.mono {N : Addr → Prop} {H H' : Hp} {x : Addr} {ds : List Int} {n : Nat} (f : FrN N H H') (h : TabR N H x ds n) : TabR N H' x ds n := by
  obtain ⟨ts, a, b, c, d⟩ := h
  exact ⟨ts, f _ _ c a, b, c, fun i t e => by
    obtain ⟨p, q, r⟩ := d i t e
    exact ⟨p, q, f _ _ q r⟩⟩
theorem eqv_nilL (l : List PyData) : PyData.eqv (.list l) (.list []) = decide (l.length = 0) := by
  cases l with
  | nil => rfl
  | cons x l => rfl
theorem layI : ∀ xs : List Int, PyData.canLayAll0 (xs.map PyData.int) = true ∧ PyData.depthAll (xs.map PyData.int) = 0
  | [] => ⟨rfl, rfl⟩
  | x :: xs => by
    obtain ⟨a, b⟩ := layI xs
    refine ⟨by simp [PyData.canLayAll0, PyData.canLay0, a], by simp [PyData.depthAll, PyData.depth, b]⟩
theorem layII : ∀ xs : List (List Int), PyData.canLayAll0 (xs.map fun x => PyData.list (x.map PyData.int)) = true ∧ PyData.depthAll (xs.map fun x => PyData.list (x.map PyData.int)) ≤ 1
  | [] => ⟨rfl, by simp [PyData.depthAll]⟩
  | x :: xs => by
    obtain ⟨a, b⟩ := layII xs
    obtain ⟨c, d⟩ := layI x
    refine ⟨by simp [PyData.canLayAll0, PyData.canLay0, a, c], ?_⟩
    simp only [List.map_cons, PyData.depthAll, PyData.depth, d]
    omega
theorem shII (xs : List (List Int)) : SeqAt.shaped (.list (xs.map fun x => PyData.list (x.map PyData.int))) = true := by
  obtain ⟨a, b⟩ := layII xs
  unfold SeqAt.shaped
  rw [Bool.and_eq_true, decide_eq_true_iff]
  refine ⟨by simpa [PyData.canLay0] using a, ?_⟩
  simp only [PyData.depth]
  omega
theorem dpII {K : PySem.W.Frag} {H : Hp} : ∀ (ts : List Addr) (xs : List (List Int)), ts.length = xs.length → (∀ (i : Nat) (t : Addr), ts[i]? = some t → H t = some (.lst ((xs.getD i []).map V.int))) → DpAll K H (ts.map V.ref) (xs.map fun x => PyData.list (x.map PyData.int))
  | [], [], _, _ => .nil
  | [], _ :: _, h, _ => by simp at h
  | _ :: _, [], h, _ => by simp at h
  | t :: ts, x :: xs, h, f => .cons (.lst (.inl (.inl (f 0 t rfl))) (dpI x)) (dpII ts xs (by simpa using h) fun i u e => by
    have := f (i + 1) u (by simpa using e)
    simpa using this)
theorem TabR.dp {K : PySem.W.Frag} {N : Addr → Prop} {H : Hp} {x : Addr} {ds : List Int} {n : Nat} (h : TabR N H x ds n) : Dp K H (.ref x) (.list (((List.range n).map (rowC ds)).map fun x => PyData.list (x.map PyData.int))) := by
  obtain ⟨ts, a, b, c, d⟩ := h
  refine .lst (.inl (.inl a)) (dpII ts _ (by simp [b]) fun i t e => ?_)
  have hi : i < n := by rw [← b]; exact (List.getElem?_eq_some_iff.mp e).1
  rw [(d i t e).2.2]
  simp [List.getD, hi]
theorem go_eqTab {K : PySem.W.Frag} {N : Addr → Prop} {H : Hp} {x e : Addr} {ds : List Int} {n : Nat} {Q : VK} (h : TabR N H x ds n) (h' : SqL K H e []) (q : Q (.bl (decide (n = 0))) H) : rEqD K (.ref x) (.ref e) H Q :=
  ⟨_, _, h.dp, .lst h' .nil, shII _, shI [], by show Q (.bl (PyData.eqv _ (.list []))) H; rw [eqv_nilL]; simpa using q⟩
theorem go_neTab {K : PySem.W.Frag} {N : Addr → Prop} {H : Hp} {x e : Addr} {ds : List Int} {n : Nat} {Q : VK} (h : TabR N H x ds n) (h' : SqL K H e []) (q : Q (.bl (!decide (n = 0))) H) : rNeD K (.ref x) (.ref e) H Q :=
  ⟨_, _, h.dp, .lst h' .nil, shII _, shI [], by show Q (.bl (!PyData.eqv _ (.list []))) H; rw [eqv_nilL]; simpa using q⟩
theorem Cm_0 (ds : List Int) (b : Nat) : Cm ds (b + 1) 0 = Cm ds b 1 := by simp [Cm]
theorem Cm_00 (ds : List Int) : Cm ds 0 0 = 0 := by simp [Cm]
theorem held_0 (ds : List Int) (k : Nat) : Cm ds 0 k + dd ds k = Cm ds 0 (k + 1) := by
  cases k with
  | zero => simp [Cm, Mt.En_00]
  | succ k => simp [Cm, Mt.En_0s]
theorem held_s {ds : List Int} (hd : ∀ i, 0 ≤ dd ds i ∧ dd ds i ≤ 1000) (b k : Nat) (hk : k + 1 < ds.length) : max (Cm ds (b + 1) k) (Cm ds b (k + 2)) + dd ds k = Cm ds (b + 1) (k + 1) := by
  cases k with
  | zero =>
    have h1 := Mt.En_ge_left (dd ds) (ds.length - 1) b 0
    have h2 := hd 1
    simp only [Nat.zero_add] at h1
    have e1 : Cm ds (b + 1) 0 = Mt.En (dd ds) (ds.length - 1) b 0 := by simp [Cm]
    have e2 : Cm ds b (0 + 2) = Mt.En (dd ds) (ds.length - 1) b 1 := by simp [Cm]
    have e3 : Cm ds (b + 1) (0 + 1) = Mt.En (dd ds) (ds.length - 1) (b + 1) 0 := by simp [Cm]
    rw [e1, e2, e3, Mt.En_s0, show min 1 (ds.length - 1) = 1 by omega]
    omega
  | succ k =>
    have e1 : Cm ds (b + 1) (k + 1) = Mt.En (dd ds) (ds.length - 1) (b + 1) k := by simp [Cm]
    have e2 : Cm ds b (k + 1 + 2) = Mt.En (dd ds) (ds.length - 1) b (k + 2) := by simp [Cm]
    have e3 : Cm ds (b + 1) (k + 1 + 1) = Mt.En (dd ds) (ds.length - 1) (b + 1) (k + 1) := by simp [Cm]
    rw [e1, e2, e3, Mt.En_ss, show min (k + 2) (ds.length - 1) = k + 2 by omega]
theorem held_l {ds : List Int} (hd : ∀ i, 0 ≤ dd ds i ∧ dd ds i ≤ 1000) (b k : Nat) (hk : k + 1 = ds.length) : Cm ds (b + 1) k + dd ds k = Cm ds (b + 1) (k + 1) := by
  cases k with
  | zero =>
    have e1 : Cm ds (b + 1) 0 = Mt.En (dd ds) (ds.length - 1) b 0 := by simp [Cm]
    have e3 : Cm ds (b + 1) (0 + 1) = Mt.En (dd ds) (ds.length - 1) (b + 1) 0 := by simp [Cm]
    rw [e1, e3, Mt.En_s0, show min 1 (ds.length - 1) = 0 by omega]
  | succ k =>
    have e1 : Cm ds (b + 1) (k + 1) = Mt.En (dd ds) (ds.length - 1) (b + 1) k := by simp [Cm]
    have e3 : Cm ds (b + 1) (k + 1 + 1) = Mt.En (dd ds) (ds.length - 1) (b + 1) (k + 1) := by simp [Cm]
    have h1 := Mt.En_ge_next (dd ds) (ds.length - 1) b k
    have h2 := hd k
    rw [show min (k + 1) (ds.length - 1) = k + 1 by omega] at h1
    rw [e1, e3, Mt.En_ss, show min (k + 2) (ds.length - 1) = k + 1 by omega]
    omega
theorem map_rng {β : Type} (l : List Int) (g : Int → β) : (List.range l.length).map (fun i => g (l.getD i 0)) = l.map g := by
  apply List.ext_getElem?
  intro i
  by_cases h : i < l.length
  · simp [List.getD, h]
  · simp [h]
theorem rowC_at (ds : List Int) (b : Nat) {k : Nat} (h : k ≤ ds.length) : (rowC ds b)[k]? = some (Cm ds b k) := by
  unfold rowC
  rw [List.getElem?_map, List.getElem?_range (by omega)]
  rfl
theorem rowC_len (ds : List Int) (b : Nat) : (rowC ds b).length = ds.length + 1 := by simp [rowC]
theorem pick_v {c : Prop} [Decidable c] {A B : TE} {σ : L2.St} {H : Hp} {K : VK} (v : V) (hA : c → ∀ K' : VK, K' v H → A σ H K') (hB : ¬ c → ∀ K' : VK, K' v H → B σ H K') (k : K v H) : if decide c = true then A σ H K else B σ H K := by
  by_cases h : c
  · rw [decide_eq_true h]
    exact iteT (hA h K k)
  · rw [decide_eq_false h]
    exact iteF (hB h K k)
def spHeldT (K : PySem.W.Frag) : Sp := fun vs H Q _ => ∃ (N : Addr → Prop) (D : Addr) (rs : List Addr) (ps : List Pr) (n : Nat), vs = [.ref D, .int n] ∧ H D = some (.lst (rs.map V.ref)) ∧ Rows N H rs ps ∧ (∀ p ∈ ps, 1 ≤ p.2 ∧ p.2 ≤ 1000) ∧ 2 ≤ ps.length ∧ ps.length ≤ 12 ∧ n ≤ 1000 ∧ ∀ x H', Same H H' → H x = Option.none → TabR (fun b => H b = Option.none) H' x (dsOf ps) n → Q (.ref x) H'
def spNextRow (K : PySem.W.Frag) : Sp := fun vs H Q _ => ∃ (N : Addr → Prop) (x : Addr) (ds : List Int) (n b : Nat) (pc : Int), vs = [.ref x, .int b, .int pc] ∧ TabR N H x ds n ∧ b < n ∧ ds.length ≤ 100 ∧ ∀ D H', Same H H' → H D = Option.none → H' D = some (.lst (((rowC ds b).tail.map (· + pc)).map V.int)) → Q (.ref D) H'

end
end K
namespace K
open PySem PySem.Spec PyProof.Rows L2 Bk
local macro_rules | `(tactic| walk_at "go1") => `(tactic| (first
  | ((with_reducible show tVar _ _ _ _); refine go_var rfl ?_)
  | (with_reducible first | refine go_c ?_ | refine go_op ?_ | refine go_cons ?_ | refine go_nil ?_ | refine go_cb ?_ | refine go_cl ?_ | refine go_seq ?_ | refine go_asg ?_ | refine go_name ?_ | refine go_ifS ?_ | refine go_test ?_ | refine go_bl ?_)
  | (with_reducible first | refine go_rI0 ?_ | refine go_rU ?_ | refine go_ret ?_ | refine go_next ?_ | refine go_B ?_ | refine go_and ?_ | refine go_or ?_ | refine go_not ?_ | refine go_if ?_ | refine go_andV ?_ | refine go_orV ?_ | refine go_notV ?_)
  | ((with_reducible show rEq _ _ _ _); refine go_rEq rfl ?_)
  | ((with_reducible show rNe _ _ _ _); refine go_rNe rfl ?_)
  | (with_reducible first | refine go_un ?_ | refine go_chain ?_ | refine go_drop ?_ | refine go_retN ?_ | refine go_isN ?_ | refine go_notN ?_ | refine go_cont ?_ | refine go_break ?_ | refine go_par ?_ | refine go_two ?_ | refine go_part ?_ | refine go_noPart ?_ | refine go_int ?_ | refine go_sl ?_ | refine go_yes ?_ | refine go_tup ?_ | refine go_lst ?_)
  | (with_reducible first | refine go_gCons ?_ | refine go_gNil ?_ | refine go_for ?_ | refine go_iEnT ?_ | refine go_iEnum ?_ | refine go_iList ?_ | refine go_iTup ?_ | refine go_iStr ?_ | refine go_iRng1 ?_ | refine go_iRng2 ?_ | refine go_iZip ?_ | refine go_lc ?_ | refine go_mkR ?_ | refine go_mkS ?_ | refine go_clO ?_ | refine go_pr ?_ | refine go_sfld ?_ | refine go_bm ?_ | refine go_ref ?_)))
local macro_rules | `(tactic| walk_at "go") => `(tactic| ((repeat (walk_at "go1")); try dsimp only))
local macro_rules | `(tactic| walk_at "so") => `(tactic| first | omega | (simp; done) | (simp; omega) | (simp at *; omega))
section
variable {P : Program} {w : World} {K : PySem.W.Frag} {mg : Str → Option Value} {base : Heap} [PFa P FILE]
/-! numbers drawn: the other way -/
def DSt (H : Hp) (d : Addr) : Prop := ∃ (c0 c1 : Int) (cs : List Int), H d = some (.lst ((c0 :: c1 :: cs).map V.int)) ∧ 0 ≤ c1 ∧ (∀ c ∈ cs, 0 ≤ c) ∧ cs.length ≤ 63
theorem DSt.keep {H H' : Hp} {d : Addr} (h : DSt H d) (e : Same H H') : DSt H' d := by
  obtain ⟨c0, c1, cs, a, b⟩ := h
  exact ⟨c0, c1, cs, e _ _ a, b⟩
def spRandom (K : PySem.W.Frag) : Sp := fun vs H Q _ => ∃ (z : Prop) (sc : Addr) (ns : List Int) (salt : Int), vs = [.ref sc, .int salt] ∧ ScAt z K H sc ns ∧ ns.length ≤ 63 ∧ ∀ d H', Same H H' → H d = Option.none → DSt H' d → Q (.ref d) H'
theorem seq_mid {t u : TS} {D : Ends} {σ : L2.St} {H : Hp} (M : L2.St → Hp → Prop) (h1 : ∀ NX : L2.St → Hp → Prop, (∀ σ' H', M σ' H' → NX σ' H') → t { D with nx := NX } σ H) (h2 : ∀ σ' H', M σ' H' → u D σ' H') : tSeq t u D σ H := h1 (u D) h2
def spBelow (K : PySem.W.Frag) : Sp := fun vs H Q _ => ∃ (d : Addr) (n : Int), vs = [.ref d, .int n] ∧ 0 < n ∧ n < 2 ^ 100 ∧ DSt H d ∧ ∀ (y : Int) H', FrD d H H' → DSt H' d → 0 ≤ y → y < n → Q (.int y) H'

theorem sc__law_random : FnScope ["_law_script", "_law_salt", "_law_seed", "_law_cell"] ["_law_script", "_law_salt"] (defScope s__law_random) := ⟨rfl, rfl, rfl, by decide +kernel, rfl, by decide +kernel, by decide +kernel⟩
theorem ok__law_random (T : Tx K mg) : Fx P w K mg base 1 (He.ga K "_law_random") (spRandom K) := by
  obtain ⟨fd, F⟩ := T.F__law_random
  have nd := sc__law_random.nd
  refine fx_of F sc__law_random (fun vs H Q E h => ?_) (fun _ _ _ _ _ _ us hl => match us, hl with | [_, _], _ => rfl) fun cdv A outer s H vs Q E hr h => ?_
  · obtain ⟨zz, sc, ns, salt, rfl, _⟩ := h
    rfl
  obtain ⟨zz, sc, ns, salt, rfl, hS, hn, h⟩ := h
  refine ⟨_, (pss_cons (ps_set (i := 2) nd rfl (Or.inl rfl) (pv 1)) (pss_cons (ps_for PassesOwn.never rfl (pi_list (pv 0)) (pg_name (i := 3) nd rfl (Or.inl rfl)) (pss_one (ps_set (i := 2) nd rfl (Or.inl rfl) (pe_op op_mod (pe_op op_add (pe_op op_mul (pv 2) pe_int) (cB call_abs T.m_abs (pa_cons (pv 3) pa_nil))) pe_int)))) (pss_one (ps_ret (pe_op op_cat (pe_lst (pa_cons (pv 2) (pa_cons pe_int pa_nil))) (pe_lc (own := [("_law_cell", 3)]) (g := (gName 3)) rfl nd (pi_list (pv 0)) (blkOk_by (N := ["_law_script", "_law_salt", "_law_seed", "_law_cell"]) (sc := defScope s__law_random) (own := [("_law_cell", 3)]) (by decide +kernel)) (fun _ _ _ _ _ => (pg_name (i := 3) nd rfl (Or.inl rfl))) (fun _ _ _ _ _ => pts_one (pt_cmpR op_ge (pv 3) (pe_op op_pow pe_int pe_int) (nomark _))) (fun _ _ _ _ _ => (pv 3)))))))), ?_⟩
  walk_at "go"
  refine ⟨⟨_, hS.sq⟩, ?_⟩
  refine for_w (walk_list (xs := ns.map V.int)) (fun i σ H' => Same H H' ∧ ∃ (m : Int) (u : Option V), σ = [some (.ref sc), some (.int salt), some (.int m), u]) ⟨Same.refl _, _, _, rfl⟩ (fun i σ H' _ p => same_l p.1 hS.sq) ?_ ?_
  · rintro i x σ H1 H2 hi ⟨s1, m, u, rfl⟩ ⟨rfl, hx⟩
    obtain ⟨z, hz, rfl⟩ := map_at hx
    walk_at "go"
    refine go_rI (.inr ⟨by omega, by omega⟩) ?_
    walk_at "go"
    refine ⟨_, rfl, ?_⟩
    walk_at "go"
    refine go_rI (show (0 : Int) < 2147483647 by omega) ?_
    walk_at "go"
    exact ⟨s1, _, _, rfl⟩
  · rintro σ H1 ⟨s1, m, u, rfl⟩
    walk_at "go"
    refine ⟨show 2 ≤ sizeLine by decide, fun p hp => ?_⟩
    have sp := same_upd (o := .lst [V.int m, V.int 0]) hp
    have ep : (upd H1 p (.lst [V.int m, V.int 0])) p = some (.lst ([m, 0].map V.int)) := upd_same
    have s2 := s1.trans sp
    generalize upd H1 p (.lst [V.int m, V.int 0]) = H2 at sp ep s2 ⊢
    walk_at "go"
    refine ⟨⟨_, same_l s2 hS.sq⟩, ?_⟩
    refine lc_fil (walk_list (xs := ns.map V.int)) (fun H3 s3 => same_l (s2.trans s3) hS.sq) (fun i => if 10 ^ 18 ≤ ns.getD i 0 then some (ns.getD i 0) else none) (by simp; omega) ?_ ?_
    · rintro j x Ha Hb kk k0 hj sa ⟨rfl, hx⟩ hkk hk0
      obtain ⟨z, hz, rfl⟩ := map_at hx
      have ez : ns.getD j 0 = z := by simp only [List.getD, hz]; rfl
      walk_at "go"
      refine ⟨rfl, ?_⟩
      walk_at "go"
      refine go_rI (show CPow 10 18 from ⟨by omega, by omega, by decide⟩) ?_
      walk_at "go"
      refine iteD (fun hb => ?_) fun hb => ?_
      · walk_at "go"
        exact hkk z _ (by rw [ez]; exact if_pos hb) (Same.refl _)
      · exact hk0 (by rw [ez]; exact if_neg hb) _ (Same.refl _)
    · intro D H3 hD s3 e3
      have fl : ((List.range (ns.map V.int).length).filterMap (fun i => if 10 ^ 18 ≤ ns.getD i 0 then some (ns.getD i 0) else none)).length ≤ ns.length := by
        have := List.length_filterMap_le (fun i => if 10 ^ 18 ≤ ns.getD i 0 then some (ns.getD i 0) else none) (List.range (ns.map V.int).length)
        simpa only [List.length_range, List.length_map] using this
      have fp : ∀ c ∈ (List.range (ns.map V.int).length).filterMap (fun i => if 10 ^ 18 ≤ ns.getD i 0 then some (ns.getD i 0) else none), 0 ≤ c := fun c hc => by
        obtain ⟨i, _, hi⟩ := List.mem_filterMap.mp hc
        by_cases hb : 10 ^ 18 ≤ ns.getD i 0
        · rw [if_pos hb] at hi
          cases hi
          omega
        · rw [if_neg hb] at hi
          cases hi
      generalize (List.range (ns.map V.int).length).filterMap (fun i => if 10 ^ 18 ≤ ns.getD i 0 then some (ns.getD i 0) else none) = fs at e3 fl fp
      refine go_catL (s3 _ _ ep) e3 (by rw [List.length_map, List.length_map]; simp; omega) fun q H4 s4 hq e4 => ?_
      exact h q H4 (s2.trans (s3.trans s4)) ((s2.trans s3).free hq) ⟨m, 0, fs, by rw [e4, ← List.map_append]; rfl, by omega, fp, by omega⟩

theorem sc__law_below : FnScope ["_law_d", "_law_limit", "_law_result"] ["_law_d", "_law_limit"] (defScope s__law_below) := ⟨rfl, rfl, rfl, by decide +kernel, rfl, by decide +kernel, by decide +kernel⟩
theorem ok__law_below (T : Tx K mg) : Fx P w K mg base 1 (He.ga K "_law_below") (spBelow K) := by
  obtain ⟨fd, F⟩ := T.F__law_below
  have nd := sc__law_below.nd
  refine fx_of F sc__law_below (fun vs H Q E h => ?_) (fun _ _ _ _ _ _ us hl => match us, hl with | [_, _], _ => rfl) fun cdv A outer s H vs Q E hr h => ?_
  · obtain ⟨d, n, rfl, _⟩ := h
    rfl
  obtain ⟨d, n, rfl, h0, h1, ⟨c0, c1, cs, e0, hc1, hcs, hcl⟩, h⟩ := h
  refine ⟨_, (pss_cons (ps_if (PW.pt (pw_and (pt_cmpR op_eq (pe_ix (ixL K) (pv 0) pe_int (fun _ _ => rfl)) pe_int (nomark _)) (pw_and1 (pt_cmpR op_gt (cB call_len_seq T.m_len (pa_cons (pv 0) pa_nil)) pe_int (nomark _))))) (pss_one (ps_asg (pe_bm PySem.F.plainAttrs_list PySem.F.slot_list_pop PySem.F.type_list_pop mt_popAt (pv 0) (pa_cons pe_int pa_nil)) (pg_sub (pv 0) pe_int set_list))) pss_nil) (pss_cons (ps_if (pt_cmpR op_gt (pe_ix (ixL K) (pv 0) pe_int (fun _ _ => rfl)) pe_int (nomark _)) (pss_cons (ps_set (i := 2) nd rfl (Or.inl rfl) (pe_op op_mod (pe_ix (ixL K) (pv 0) pe_int (fun _ _ => rfl)) (pv 1))) (pss_cons (ps_asg (pe_op op_fdivW (pe_ix (ixL K) (pv 0) pe_int (fun _ _ => rfl)) (pv 1)) (pg_sub (pv 0) pe_int set_list)) (pss_one (ps_ret (pv 2))))) pss_nil) (pss_cons (ps_asg (pe_op op_mod (pe_op op_add (pe_op op_mul (pe_ix (ixL K) (pv 0) pe_int (fun _ _ => rfl)) pe_int) pe_int) pe_int) (pg_sub (pv 0) pe_int set_list)) (pss_one (ps_ret (pe_op op_mod (pe_op op_fdivW (pe_ix (ixL K) (pv 0) pe_int (fun _ _ => rfl)) pe_int) (pv 1))))))), ?_⟩
  have big : ∀ x : Int, CDivW x n := fun x => wide_div (b := 100) h0 (by omega) (by decide) (by decide)
  refine seq_mid (fun σ' H' => FrD d H H' ∧ (∃ (b1 : Int) (bs : List Int), H' d = some (.lst ((c0 :: b1 :: bs).map V.int)) ∧ 0 ≤ b1 ∧ (∀ c ∈ bs, 0 ≤ c) ∧ bs.length ≤ 63) ∧ σ' = [some (.ref d), some (.int n), none]) (fun NX hNX => ?_) ?_
  · walk_at "go"
    refine go_ixL (n := ((1 : Nat) : Int)) (v := .int c1) (.inl (.inl e0)) (at_nat rfl) ?_
    walk_at "go"
    refine iteD (fun hz => ?_) fun hz => ?_
    · walk_at "go"
      refine ⟨_, _, rfl, .inl (.inl (.inl e0)), ?_⟩
      walk_at "go"
      refine iteD (fun hl => ?_) fun hl => ?_
      · walk_at "go"
        refine ⟨ty_lst e0, ?_⟩
        walk_at "go"
        obtain ⟨b, bs, rfl⟩ : ∃ b bs, cs = b :: bs := by
          cases cs with
          | nil => simp at hl
          | cons b bs => exact ⟨b, bs, rfl⟩
        refine ⟨d, _, 2, 2, .int b, rfl, rfl, e0, by omega, by omega, seq_int (by omega) (by simp; omega), rfl, ?_⟩
        generalize hU : upd H d (.lst (((c0 :: c1 :: b :: bs).map V.int).eraseIdx 2)) = U
        have fU : FrD d H U := hU ▸ frd_upd
        have eU : U d = some (.lst ((c0 :: c1 :: bs).map V.int)) := hU ▸ upd_same
        walk_at "go"
        refine go_gsub ?_
        walk_at "go"
        refine go_setL (j := 1) eU (by simp [ixN]; omega) ?_
        refine hNX _ _ ⟨fU.trans frd_upd, ⟨b, bs, upd_same, hcs b List.mem_cons_self, fun c hc => hcs c (List.mem_cons_of_mem _ hc), by simp at hcl; omega⟩, rfl⟩
      · walk_at "go"
        exact hNX _ _ ⟨fun b o _ e => e, ⟨c1, cs, e0, hc1, hcs, hcl⟩, rfl⟩
    · walk_at "go"
      exact hNX _ _ ⟨fun b o _ e => e, ⟨c1, cs, e0, hc1, hcs, hcl⟩, rfl⟩
  rintro σ' H1 ⟨f1, ⟨b1, bs, e1, hb1, hbs, hbl⟩, rfl⟩
  walk_at "go"
  refine go_ixL (n := ((1 : Nat) : Int)) (v := .int b1) (.inl (.inl e1)) (at_nat rfl) ?_
  walk_at "go"
  refine iteD (fun hp => ?_) fun hp => ?_
  · walk_at "go"
    refine go_ixL (n := ((1 : Nat) : Int)) (v := .int b1) (.inl (.inl e1)) (at_nat rfl) ?_
    walk_at "go"
    refine go_rI h0 ?_
    walk_at "go"
    refine go_ixL (n := ((1 : Nat) : Int)) (v := .int b1) (.inl (.inl e1)) (at_nat rfl) ?_
    walk_at "go"
    refine go_rI (big _) ?_
    walk_at "go"
    refine go_gsub ?_
    walk_at "go"
    refine go_setL (j := 1) e1 (by simp [ixN]; omega) ?_
    generalize hU : upd H1 d (.lst (((c0 :: b1 :: bs).map V.int).set 1 (V.int (b1 / n)))) = U
    have fU : FrD d H1 U := hU ▸ frd_upd
    have eU : U d = some (.lst ((c0 :: b1 / n :: bs).map V.int)) := hU ▸ upd_same
    walk_at "go"
    exact h _ U (f1.trans fU) ⟨c0, b1 / n, bs, eU, Int.ediv_nonneg (by omega) (by omega), hbs, hbl⟩ (Int.emod_nonneg _ (by omega)) (Int.emod_lt_of_pos _ h0)
  · walk_at "go"
    refine go_ixL (n := ((0 : Nat) : Int)) (v := .int c0) (.inl (.inl e1)) (at_nat rfl) ?_
    walk_at "go"
    refine go_rI (.inr ⟨by omega, by omega⟩) ?_
    walk_at "go"
    refine go_rI (show (0 : Int) < 2147483647 by omega) ?_
    walk_at "go"
    refine go_gsub ?_
    walk_at "go"
    refine go_setL (j := 0) e1 (by simp [ixN]; omega) ?_
    generalize hU : upd H1 d (.lst (((c0 :: b1 :: bs).map V.int).set 0 (V.int ((c0 * 48271 + 11) % 2147483647)))) = U
    have fU : FrD d H1 U := hU ▸ frd_upd
    have eU : U d = some (.lst (((c0 * 48271 + 11) % 2147483647 :: b1 :: bs).map V.int)) := hU ▸ upd_same
    walk_at "go"
    refine go_ixL (n := ((0 : Nat) : Int)) (v := .int ((c0 * 48271 + 11) % 2147483647)) (.inl (.inl eU)) (at_nat rfl) ?_
    walk_at "go"
    refine go_rI (wide_div (b := 10) (by omega) (by omega) (by decide) (by decide)) ?_
    walk_at "go"
    refine go_rI h0 ?_
    exact h _ U (f1.trans fU) ⟨_, b1, bs, eU, hb1, hbs, hbl⟩ (Int.emod_nonneg _ (by omega)) (Int.emod_lt_of_pos _ h0)

end
end K
namespace K
open PySem PySem.Spec PyProof.Rows L2 Bk
local macro_rules | `(tactic| walk_at "go1") => `(tactic| (first
  | ((with_reducible show tVar _ _ _ _); refine go_var rfl ?_)
  | (with_reducible first | refine go_c ?_ | refine go_op ?_ | refine go_cons ?_ | refine go_nil ?_ | refine go_cb ?_ | refine go_cl ?_ | refine go_seq ?_ | refine go_asg ?_ | refine go_name ?_ | refine go_ifS ?_ | refine go_test ?_ | refine go_bl ?_)
  | (with_reducible first | refine go_rI0 ?_ | refine go_rU ?_ | refine go_ret ?_ | refine go_next ?_ | refine go_B ?_ | refine go_and ?_ | refine go_or ?_ | refine go_not ?_ | refine go_if ?_ | refine go_andV ?_ | refine go_orV ?_ | refine go_notV ?_)
  | ((with_reducible show rEq _ _ _ _); refine go_rEq rfl ?_)
  | ((with_reducible show rNe _ _ _ _); refine go_rNe rfl ?_)
  | (with_reducible first | refine go_un ?_ | refine go_chain ?_ | refine go_drop ?_ | refine go_retN ?_ | refine go_isN ?_ | refine go_notN ?_ | refine go_cont ?_ | refine go_break ?_ | refine go_par ?_ | refine go_two ?_ | refine go_part ?_ | refine go_noPart ?_ | refine go_int ?_ | refine go_sl ?_ | refine go_yes ?_ | refine go_tup ?_ | refine go_lst ?_)
  | (with_reducible first | refine go_gCons ?_ | refine go_gNil ?_ | refine go_for ?_ | refine go_iEnT ?_ | refine go_iEnum ?_ | refine go_iList ?_ | refine go_iTup ?_ | refine go_iStr ?_ | refine go_iRng1 ?_ | refine go_iRng2 ?_ | refine go_iZip ?_ | refine go_lc ?_ | refine go_mkR ?_ | refine go_mkS ?_ | refine go_clO ?_ | refine go_pr ?_ | refine go_sfld ?_ | refine go_bm ?_ | refine go_ref ?_)))
local macro_rules | `(tactic| walk_at "go") => `(tactic| ((repeat (walk_at "go1")); try dsimp only))
local macro_rules | `(tactic| walk_at "so") => `(tactic| first | omega | (simp; done) | (simp; omega) | (simp at *; omega))
section
variable {P : Program} {w : World} {K : PySem.W.Frag} {mg : Str → Option Value} {base : Heap} [PFa P FILE]
/-! shuffled names -/
theorem go_neS0 {K : PySem.W.Frag} {H : Hp} {a b : Addr} {xs : List Str} {Q : VK} (hx : ∀ z ∈ xs, PyData.strOk z = true) (h : SqL K H a (xs.map V.str)) (h' : SqL K H b []) (q : Q (.bl (!decide (xs.length = 0))) H) : rNeD K (.ref a) (.ref b) H Q :=
  ⟨_, _, .lst h (dpS xs), .lst h' .nil, (shS hx).1, (shS (l := []) (fun z hz => by cases hz)).1, by
    show Q (.bl (!PyData.eqv (.list (xs.map PyData.str)) (.list []))) H
    cases xs with
    | nil => exact q
    | cons x r => exact q⟩
def spShuf (K : PySem.W.Frag) : Sp := fun vs H Q _ => ∃ (d a : Addr) (zs : List Str), vs = [.ref d, .ref a] ∧ DSt H d ∧ H a = some (.lst (zs.map V.str)) ∧ (∀ z ∈ zs, PyData.strOk z = true) ∧ zs.length ≤ 12 ∧ ∀ (r : Addr) (H' : Hp) (ws : List Str), FrD d H H' → DSt H' d → H r = Option.none → H' r = some (.lst (ws.map V.str)) → ws.Perm zs → Q (.ref r) H'

theorem sc__law_shuffled : FnScope ["_law_d", "_law_items", "_law_pool", "_law_result"] ["_law_d", "_law_items"] (defScope s__law_shuffled) := ⟨rfl, rfl, rfl, by decide +kernel, rfl, by decide +kernel, by decide +kernel⟩
theorem ok__law_shuffled (T : Tx K mg) (D__law_below : Fx P w K mg base 1 (He.ga K "_law_below") (spBelow K)) : Fx P w K mg base 2 (He.ga K "_law_shuffled") (spShuf K) := by
  have K__law_below : PySem.W.keepIn K (.ref (He.ga K "_law_below")) = true := T.F__law_below.elim fun _ q => q.kp
  obtain ⟨fd, F⟩ := T.F__law_shuffled
  have nd := sc__law_shuffled.nd
  refine fx_of F sc__law_shuffled (fun vs H Q E h => ?_) (fun _ _ _ _ _ _ us hl => match us, hl with | [_, _], _ => rfl) fun cdv A outer s H vs Q E hr h => ?_
  · obtain ⟨d, a, zs, rfl, _⟩ := h
    rfl
  obtain ⟨d, a, zs, rfl, hD, ea, hok, h12, h⟩ := h
  refine ⟨_, (pss_cons (ps_set (i := 2) nd rfl (Or.inl rfl) (cT call_list_of T.m_list (pa_cons (pv 1) pa_nil))) (pss_cons (ps_set (i := 3) nd rfl (Or.inl rfl) (pe_lst pa_nil)) (pss_cons (ps_while PassesOwn.never (pt_cmpR (Bk.neD K hr.units) (pv 2) (pe_lst pa_nil) (nomark _)) (pss_one (ps_expr (pe_bm PySem.F.plainAttrs_list PySem.F.slot_list_append PySem.F.type_list_append mt_append (pv 3) (pa_cons (pe_bm PySem.F.plainAttrs_list PySem.F.slot_list_pop PySem.F.type_list_pop mt_popAt (pv 2) (pa_cons (pe_cl D__law_below hr K__law_below T.g__law_below passL (pa_cons (pv 0) (pa_cons (cB call_len_seq T.m_len (pa_cons (pv 2) pa_nil)) pa_nil))) pa_nil)) pa_nil))))) (pss_one (ps_ret (pv 3)))))), ?_⟩
  walk_at "go"
  refine ⟨_, _, rfl, .inl (.inl (.inl ea)), fun p hp => ?_⟩
  have sp := same_upd (o := .lst (zs.map V.str)) hp
  have ep : (upd H p (.lst (zs.map V.str))) p = some (.lst (zs.map V.str)) := upd_same
  generalize upd H p (.lst (zs.map V.str)) = H1 at sp ep ⊢
  walk_at "go"
  refine ⟨Nat.zero_le _, fun r hr => ?_⟩
  have sr := same_upd (o := .lst []) hr
  have er : (upd H1 r (.lst [])) r = some (.lst (([] : List Str).map V.str)) := upd_same
  have hpr : p ≠ r := ne_of_none ep hr
  have hrH := sp.free hr
  have s2 := sp.trans sr
  have ep2 := sr _ _ ep
  generalize upd H1 r (.lst []) = H2 at sr er s2 ep2 ⊢
  walk_at "go"
  unfold tWhile
  have hdp : p ≠ d := fun z => by
    obtain ⟨c0, c1, cs, e, _⟩ := hD
    rw [z, e] at hp
    cases hp
  have hdr : r ≠ d := fun z => by
    obtain ⟨c0, c1, cs, e, _⟩ := hD
    rw [z, e] at hrH
    cases hrH
  refine ⟨fun m σ H' => FrD d H H' ∧ DSt H' d ∧ (∃ pool res : List Str, pool.length = m ∧ H' p = some (.lst (pool.map V.str)) ∧ H' r = some (.lst (res.map V.str)) ∧ (res ++ pool).Perm zs) ∧ σ = [some (.ref d), some (.ref a), some (.ref p), some (.ref r)], ⟨zs.length, fun b o _ e => s2 _ _ e, hD.keep s2, ⟨zs, [], rfl, ep2, er, .refl _⟩, rfl⟩, ?_⟩
  rintro m σ H3 ⟨f3, hD3, ⟨pool, res, hm, ep3, er3, hpm⟩, rfl⟩
  have hpl := hpm.length_eq
  rw [List.length_append] at hpl
  walk_at "go"
  refine ⟨Nat.zero_le _, fun e0 he0 => ?_⟩
  have s4 := same_upd (o := .lst []) he0
  have ee0 : (upd H3 e0 (.lst [])) e0 = some (.lst []) := upd_same
  generalize upd H3 e0 (.lst []) = H4 at s4 ee0 ⊢
  refine go_neS0 (fun z hz => hok z (hpm.mem_iff.mp (List.mem_append_right _ hz))) (.inl (.inl (s4 _ _ ep3))) (.inl (.inl ee0)) ?_
  walk_at "go"
  have f4 : FrD d H H4 := fun b o n e => s4 _ _ (f3 _ _ n e)
  by_cases h0 : pool.length = 0
  · rw [decide_eq_true h0]
    refine iteF ?_
    walk_at "go"
    have e : pool = [] := List.length_eq_zero_iff.mp h0
    subst e
    rw [List.append_nil] at hpm
    exact h r H4 res f4 (hD3.keep s4) hrH (s4 _ _ er3) hpm
  rw [decide_eq_false h0]
  refine iteT ?_
  refine ⟨_, fun σ' H' hN => ⟨m - 1, by omega, hN⟩, ?_⟩
  walk_at "go"
  refine ⟨ty_lst (s4 _ _ er3), ?_⟩
  walk_at "go"
  refine ⟨ty_lst (s4 _ _ ep3), ?_⟩
  walk_at "go"
  refine ⟨_, _, rfl, .inl (.inl (.inl (s4 _ _ ep3))), ?_⟩
  walk_at "go"
  refine ⟨d, _, rfl, by rw [List.length_map]; omega, by rw [List.length_map]; omega, hD3.keep s4, fun y H5 f5 hD5 hy0 hy1 => ?_⟩
  rw [List.length_map] at hy1
  walk_at "go"
  have hk : y.toNat < pool.length := by omega
  have ek : pool[y.toNat]? = some pool[y.toNat] := by simp [hk]
  refine ⟨p, _, y, y.toNat, .str pool[y.toNat], rfl, rfl, f5 _ _ hdp (s4 _ _ ep3), by omega, by omega, seq_int hy0 (by simp; omega), at_map ek, ?_⟩
  rw [erase_map]
  generalize hU : upd H5 p (.lst ((pool.eraseIdx y.toNat).map V.str)) = U
  have fU : FrD p H5 U := hU ▸ frd_upd
  have eU : U p = some (.lst ((pool.eraseIdx y.toNat).map V.str)) := hU ▸ upd_same
  walk_at "go"
  have erU := fU _ _ hpr.symm (f5 _ _ hdr (s4 _ _ er3))
  refine ⟨r, _, _, rfl, rfl, erU, by simp; exact Nat.lt_of_lt_of_le (show res.length < 2000 by omega) (by decide), ?_⟩
  walk_at "go"
  refine ⟨fun b o n e => ?_, ?_, ⟨pool.eraseIdx y.toNat, res ++ [pool[y.toNat]], ?_, ?_, by rw [upd_same, List.map_append]; rfl, perm_draw hpm ek⟩, rfl⟩
  · rw [upd_ne (ne_of_none e hrH)]
    exact fU _ _ (ne_of_none e hp) (f5 _ _ n (f4 _ _ n e))
  · obtain ⟨c0, c1, cs, e, q⟩ := hD5
    refine ⟨c0, c1, cs, ?_, q⟩
    rw [upd_ne hdr.symm]
    exact fU _ _ hdp.symm e
  · rw [List.length_eraseIdx, if_pos hk]
    omega
  · rw [upd_ne hpr]
    exact eU

end
end K
/-! errors with fields: what their __init__ keeps, their making, defs that raise, calls of those -/
namespace Bk
open PySem PySem.Spec PyProof.Rows L2
def spErr (C : Addr) (ks : List Str) (ok : List V → Prop) : Sp := fun vs H Q _ => ∃ a zs, vs = .ref a :: zs ∧ zs.length = ks.length ∧ ok zs ∧ H a = some (exo a C none) ∧ ∀ d, H d = none → d ≠ a → Q .non (upd (upd H d (exd d (ks.zip zs).reverse)) a (exo a C (some d)))
/-- the wish of making it: the fields stand in the error's dict -/
def GErr (C : Addr) (ks : List Str) (ok : List V → Prop) (zs : List V) (H1 : Hp) (Q : XK) : Prop := zs.length = ks.length ∧ ok zs ∧ ∀ d, H1 d = none → Q (.ref C) (some d) (upd H1 d (.xd (ks.zip zs).reverse))
theorem gerr {C : Addr} {ks : List Str} {ok : List V → Prop} (zs : List V) (H1 : Hp) (Q : XK) (h : GErr C ks ok zs H1 Q) : MkX C ks.length (spErr C ks ok) zs H1 Q := by
  obtain ⟨hl, ho, h⟩ := h
  refine ⟨hl, fun a na => ⟨a, zs, rfl, hl, ho, upd_same, fun d nd dn => ?_⟩⟩
  have d1 : H1 d = none := by
    rw [upd_ne dn] at nd
    exact nd
  refine ⟨rfl, d, (ks.zip zs).reverse, upd_same, (upd_ne dn).trans upd_same, d1, ?_⟩
  have e : upd (del (upd (upd (upd H1 a (exo a C none)) d (exd d (ks.zip zs).reverse)) a (exo a C (some d))) a) d (.xd (ks.zip zs).reverse) = upd H1 d (.xd (ks.zip zs).reverse) := by
    funext b
    by_cases hb : b = d
    · rw [hb, upd_same, upd_same]
    · rw [upd_ne hb, upd_ne hb]
      by_cases hc : b = a
      · rw [hc, del_same, na]
      · rw [del_ne hc, upd_ne hc, upd_ne hb, upd_ne hc]
  rw [e]
  exact h d d1
section
variable {X : Cx} {x : Str} {C fI : Addr} {k j : Nat} {ks : List Str} {file qual : Str} {params : Arguments} {body : List Stmt} {scope : Scope} {kws : List Keyword} {p pos : Pos} {tk : TA} {ok : List V → Prop}
/-- C(k = v, ..) of an error of the text, to be raised -/
theorem pmk_err (T : ErrOf X.K file C fI qual params body scope ks) (F : KFx X.prog X.w X.K X.mg X.base k fI 1 ks (spErr C ks ok)) (hr : Room j X.A) (hm : X.mg x = some (.ref C)) (hkw : PK X kws tk) (hj : k + 1 ≤ j := by decide) (hg : Gl X x := by rfl)
    (hall : (backToKw pos (keywordEach kws X.env)).all (·.1.isSome) = true := by rfl) (hks : (backToKw pos (keywordEach kws X.env)).filterMap (·.1) = ks := by rfl) (hdb : (x == ("__debug__" : Str)) = false := by decide)
    (hpl : ((backTo pos (starEach [] X.env)).any (·.1) || (backToKw pos (keywordEach kws X.env)).any (·.1.isNone)) = false := by rfl) : PMk X (.Call (.Name x p) [] kws pos) (tMkX (GErr C ks ok) tk) := by
  obtain ⟨fd, ps, F1, b⟩ := F.ex
  exact pmk_kw T.ox T.iC T.tI F1 (hr.mono hj) b gerr passL hg hm hkw hall hks hdb hpl
end
section
variable {P : Program} {w : World} {K : PySem.W.Frag} {mg : Str → Option Value} {base : Heap} {x qual : Str} {params : Arguments} {body : List Stmt} {scope : Scope} {kws : List (Str × V)} {f : Addr} {fd : FuncData} {N ps : List Str} {k : Nat} {sp : Sp}
/-- a def that may raise -/
theorem fxr_of (F : FunD K x qual params body scope [] kws f fd) (S : FnScope N ps scope) (len : ∀ vs H Q E, sp vs H Q E → vs.length = ps.length)
    (hb : ∀ (kV doc pm : Value) (an : Option Addr) (cdv ct : Value) (us : List Value), us.length = ps.length → bindArgs (PySem.W.fnOf x qual params body scope .none kV doc pm an cdv ct) ⟨us, []⟩ = pure (ps.zip us))
    (h : ∀ (cdv : Value) (A : Around) (outer : List Env) (s : Shared) (H : Hp) (vs : List V) (Q : VK) (E : XK), Room k (A.deeper (envOfC qual scope s.heap.objs.size f cdv)) → sp vs H Q E →
      ∃ t, PSs (Cb P w K mg base N qual scope f cdv A outer s H E) body t ∧ t { nx := fun _ H' => Q .non H', rt := Q } (start N vs) H) : Fx P w K mg base (k + 1) f sp := by
  have G : FnOk P w K mg base (L2.CX P w) (k + 1) f fd ps sp := F.ok S len h
  have R := G.raw (F.bindsN hb) .nil
  exact R.imp fun vs H Q E q => by rw [List.append_nil]; exact q
theorem takesE {cdv : Value} {A : Around} {outer : List Env} {s : Shared} {H : Hp} {E : XK} : Takes (Cb P w K mg base N qual scope f cdv A outer s H E) (fun cls d _ H' => E cls d H') := takes_of rfl rfl rfl rfl
end
section
variable {X : Cx} {k j : Nat} {f : Addr} {sp : Sp} {W : WX} {x : Str} {p pos : Pos} {e : Expr} {es : List Expr} {t : TA}
/-- f(e, ..) of a def that may raise: what it lets out is in our air -/
def tClW (sp : Sp) (W : WX) (t : TA) : TE := fun σ H Q => t σ H fun vs H1 => sp vs H1 Q fun cls d H' => W cls d σ H'
theorem pe_clW (F : FnR X.prog X.w X.K X.mg X.base (L2.CX X.prog X.w) k f sp) (hr : Room j X.A) (hk : PySem.W.keepIn X.K (.ref f) = true) (hm : X.mg x = some (.ref f)) (tk : Takes X W) (ha : PA X (e :: es) t) (hj : k ≤ j := by decide) (hg : Gl X x := by rfl)
    (hd : (x == ("__debug__" : Str)) = false := by decide) (he : starEach (e :: es) X.env = (false, eval e X.env) :: starEach es X.env := by rfl) (hp : (backTo pos (starEach es X.env)).any (·.1) = false := by rfl) :
    PE X (.Call (.Name x p) (e :: es) [] pos) (tClW sp W t) := by
  constructor
  intro pins s σ H Q I h
  apply wpAny_Call_Name_kw
  apply ld_glob I hg hm _ hd
  refine PySem.W.callWith_K (h₀ := X.base) I.ok.mod.kin hk ?_ he hp
  refine thn (ha.run pos pins s σ H _ I h) ?_
  rintro us s1 ⟨vs, H1, I1, r, q⟩
  refine ⟨I1.kIn, wpAny_call (codeAny_mono (F X.A X.stack s1 H1 us vs Q _ (hr.mono hj) I1.env0 r q) fun r s' y => ?_)⟩
  cases r with
  | error u => exact tk u s' (XE.of_call I1 (fun _ _ _ z => z) y)
  | ok fl =>
    cases fl
    case ret u => exact I1.after y
    all_goals exact False.elim y
end
/-! an f-string of short texts and ints -/
section
variable {ts : List TE} {acc z : Str} {σ : L2.St} {H : Hp} {Q : Str → Hp → Prop} {j : Nat} {i : Int}
theorem app_len (a b : Str) : (a ++ b).length = a.length + b.length := by
  show (a.cps ++ b.cps).size = a.cps.size + b.cps.size
  exact Array.size_append
theorem js_nil (r : Q acc H) : tJs [] acc σ H Q := r
theorem js_str (ha : acc.length ≤ 100000) (hz : z.length ≤ 1000) (r : ∀ out : Str, out.length ≤ acc.length + 1000 → tJs ts out σ H Q) : tJs (tC (.str z) :: ts) acc σ H Q := by
  have e := app_len acc z
  exact ⟨z, rfl, by rw [sizeLine_eq]; omega, r _ (by omega)⟩
theorem js_int (hv : σ[j]? = some (some (.int i))) (hi : i.natAbs.log2 < 1920) (ha : acc.length ≤ 100000) (r : ∀ out : Str, out.length ≤ acc.length + 5000 → tJs ts out σ H Q) : tJs (tFmt (tVar j) :: ts) acc σ H Q := by
  have e1 := int_text_length_le (k := 1920) (by decide) hi
  have e2 : (Str.ofString (toString i)).length = _ := PySem.ofString_length _
  have e := app_len acc (Str.ofString (toString i))
  refine ⟨_, hv, .inr ⟨i, rfl, hi, Str.ofString (toString i), rfl, by rw [sizeLine_eq]; omega, r _ (by omega)⟩⟩
end
end Bk
/-! a dict comprehension over any walk; the dict of places -/
namespace Bk
open PySem PySem.Spec PyProof.Rows L2
theorem _root_.L2.Room.units1 {k : Nat} {A : Around} (r : Room k A) : A.units + 1 < cLine := by
  have := r.un
  omega
section
variable {J : It} {n : Nat} {G : Hp → Prop} {Y : Nat → Hp → V → Hp → Prop} {g : TG} {tk tv : TE} {vs : List Nat} {σ : L2.St} {H1 : Hp} {D : Addr} {Qd : Hp → Prop}
theorem dc_w (w : Walk J n G Y) (Pv : Nat → Hp → Prop) (h0 : Pv 0 (upd H1 D (.dK []))) (hG : ∀ i H, i ≤ n → Pv i H → G H)
    (hs : ∀ i x H H', i < n → Pv i H → Y i H x H' → g x (wipe σ vs) H' fun σ2 H2 => wipe σ2 vs = wipe σ vs ∧ tk σ2 H2 fun y H4 => tv σ2 H4 fun z H5 => ∃ kvs k, y = kV k ∧ H5 D = some (.dK kvs) ∧ kvs.length < sizeLine ∧ Pv (i + 1) (upd H5 D (.dK (putK kvs k z))))
    (hd : ∀ H, Pv n H → Qd H) :
    ∃ W : Nat → Nat → Hp → Prop, (∃ m, W 0 m (upd H1 D (.dK []))) ∧ ∀ i m H, W i m H →
      (J.stop i H ∧ Qd H) ∨ (J.go i H ∧ ∃ Nx : Hp → Prop, (∀ H', Nx H' → ∃ m', m' < m ∧ W (i + 1) m' H') ∧ ∀ x H', J.yld i H x H' → g x (wipe σ vs) H' fun σ2 H2 => wipe σ2 vs = wipe σ vs ∧ tYes σ2 H2 fun b H3 =>
        if b = true then tk σ2 H3 fun y H4 => tv σ2 H4 fun z H5 => ∃ kvs k, y = kV k ∧ H5 D = some (.dK kvs) ∧ kvs.length < sizeLine ∧ Nx (upd H5 D (.dK (putK kvs k z))) else Nx H3) := by
  refine ⟨fun i m H => m = n - i ∧ i ≤ n ∧ Pv i H, ⟨n, rfl, Nat.zero_le _, h0⟩, ?_⟩
  rintro i m H ⟨rfl, hi, p⟩
  have q := hG i H hi p
  by_cases hlt : i < n
  · refine .inr ⟨w.goes i H hlt q, Pv (i + 1), fun H' p' => ⟨n - (i + 1), by omega, rfl, hlt, p'⟩, fun x H' y => ?_⟩
    exact hs i x H H' hlt p (w.yields i H x H' hlt q y)
  · obtain rfl : i = n := by omega
    exact .inl ⟨w.stops H q, hd H p⟩
end
/-- names and their places -/
def plK (l : List Str) : List (Key × V) := l.zipIdx.map fun p => (Sum.inr p.1, V.int (p.2 : Nat))
theorem plK_len (l : List Str) : (plK l).length = l.length := by simp [plK]
theorem plK_snoc (l : List Str) (z : Str) : plK (l ++ [z]) = plK l ++ [(Sum.inr z, V.int (l.length : Nat))] := by
  unfold plK
  rw [List.zipIdx_append, List.map_append]
  simp
theorem find_pl (z : Str) : ∀ (l : List Str) (n : Nat), valV ((l.zipIdx n).map fun p => ((Sum.inr p.1 : Key), V.int (p.2 : Nat))) (Sum.inr z) = if z ∈ l then some (.int ((n + l.idxOf z : Nat) : Int)) else none
  | [], _ => by simp [valV]
  | x :: l, n => by
    rw [List.zipIdx_cons, List.map_cons]
    by_cases e : x = z
    · subst e
      rw [valV_pos rfl, if_pos (by simp)]
      simp
    · rw [valV_neg (by intro c; exact e (Sum.inr.inj c)), find_pl z l (n + 1), show (x :: l).idxOf z = l.idxOf z + 1 by rw [List.idxOf_cons, show (x == z) = false by simpa using e]; rfl]
      by_cases m : z ∈ l
      · rw [if_pos m, if_pos (List.mem_cons_of_mem _ m)]
        congr 3
        omega
      · rw [if_neg m, if_neg (fun c => by
          rcases List.mem_cons.mp c with c | c
          · exact e c.symm
          · exact m c)]
theorem plK_at (l : List Str) (z : Str) : valV (plK l) (Sum.inr z) = if z ∈ l then some (.int (l.idxOf z : Nat)) else none := by
  have := find_pl z l 0
  rw [Nat.zero_add] at this
  exact this
theorem plK_put (l : List Str) (z : Str) (h : z ∉ l) : putK (plK l) (Sum.inr z) (.int (l.length : Nat)) = plK (l ++ [z]) := by
  rw [plK_snoc]
  exact putK_new _ (by rw [plK_at, if_neg h])
/-! x = {k: v for ..} on one line, x a local -/
section
variable {X : Cx} {i : Nat} {y : Str} {py pq ps' : Pos} {kx vx tgt src : Expr} {cs : List Expr} {sc : Scope} {nm : List (Str × Nat)} {wi : TI} {g : TG} {tt : TT} {ta tb : TE}
theorem swD_true {l : Nat} {env : Env} {gs : List Comprehension} (hk : env.scope.kind = .function) (hy : env.scope.names.lookup y = some .local) (hl : (py.line == pq.line) = true)
    (ha : (sc.names.any fun (a, b) => a == y && (b == .local || b == .cell)) = false) : swapsWith (.DictComp kx vx gs sc pq) (some (.Name y py)) l env = pure true := by
  have e1 : env.kindOf y = some .local := hy
  have e2 : env.blockKind = .function := by
    unfold Env.blockKind
    rw [hk]
    rfl
  unfold swapsWith
  simp only [e2, e1, ha, Expr.pos, hl]
  rfl
theorem ps_setDc (hN : X.N.Nodup) (hy : X.N[i]? = some y) (hc : X.calm = true) (hyl : X.env.scope.names.lookup y = some .local) (hsw : swapsWith (.DictComp kx vx [⟨tgt, src, cs, 0⟩] sc pq) (some (.Name y py)) ps'.line X.env = pure true) (hi : PI X tgt src wi)
    (ok : BlkOk X.N X.env.scope sc nm)
    (h1 : ∀ (s : Shared) (H : Hp) (b : Addr) (cl : List (Str × Addr)) (fp : List Addr), PG (X.blk s H sc (compEnvC sc cl b X.env) fp) tgt g)
    (h2 : ∀ (s : Shared) (H : Hp) (b : Addr) (cl : List (Str × Addr)) (fp : List Addr), PTs (X.blk s H sc (compEnvC sc cl b X.env) fp) cs tt)
    (h3 : ∀ (s : Shared) (H : Hp) (b : Addr) (cl : List (Str × Addr)) (fp : List Addr), PE (X.blk s H sc (compEnvC sc cl b X.env) fp) kx ta)
    (h4 : ∀ (s : Shared) (H : Hp) (b : Addr) (cl : List (Str × Addr)) (fp : List Addr), PE (X.blk s H sc (compEnvC sc cl b X.env) fp) vx tb)
    (hs : ∀ x, foldedSetIterable src X.env x = pure x := by intro _; rfl) : PS X (.Assign [.Name y py] (.DictComp kx vx [⟨tgt, src, cs, 0⟩] sc pq) ps') (tAsg (tDc wi g tt ta tb (nm.map (·.2))) (gName i)) := by
  constructor
  intro pins s σ H D I h
  rw [exec_Assign_Name_used _ _ _ _ hsw]
  refine wpAny_bind (wpAny_standAt (wpAny_bind ?_))
  show wpAny _ X.A (do
    let _ ← comprehension (.DictComp kx vx [⟨tgt, src, cs, 0⟩] sc pq) sc X.env (firstIterPos [⟨tgt, src, cs, 0⟩] pq) newDict false (eval src X.env) (some (assign (.Name y py) X.env))
    _) _ _ s
  have h : tDc wi g tt ta tb (nm.map (·.2)) σ H (fun x H1 => gName i x σ H1 D.nx) := h
  refine wpAny_bind (thn (dc_core (Qf := fun _ s' => SP X pins D .next s') hc hN I hi ok h1 h2 h3 h4 hs h fun d b s' m H' J q ns f => ?_) fun _ s' z => wpAny_pure (wpAny_pure z))
  show wpAny _ _ (assign (.Name y py) X.env (.ref d)) _ _ _
  refine wpAny_assign_Name (store_ok2 (v := V.ref d) J hN hy (.inl hyl) rfl (fun s2 J2 ⟨a, sb, ha⟩ => ?_) (.inr hyl))
  obtain ⟨f0, f1, f2, f3, f4, f5⟩ := f
  have na : b ≠ a := by
    rcases ha with z | z
    · rw [z]
      exact f1
    · exact fun e => f4 y a z e.symm
  refine ⟨m, ns.sameBut sb na, fun h3 sb3 => ?_⟩
  exact ⟨_, H', J2.turned (t' := s2.toks) (fun c o hb e => (sb3.2 c hb).trans e) f0 f1 f3 f4 f5, q⟩
end
theorem go_dc {wi : TI} {g : TG} {tt : TT} {tk tv : TE} {vs : List Nat} {σ : L2.St} {H : Hp} {Q : VK}
    (h : wi σ H fun J H1 => ∀ D, H1 D = none → ∃ W : Nat → Nat → Hp → Prop, (∃ m, W 0 m (upd H1 D (.dK []))) ∧ ∀ i m H, W i m H →
      (J.stop i H ∧ Q (.ref D) H) ∨ (J.go i H ∧ ∃ Nx : Hp → Prop, (∀ H', Nx H' → ∃ m', m' < m ∧ W (i + 1) m' H') ∧ ∀ x H', J.yld i H x H' → g x (wipe σ vs) H' fun σ2 H2 => wipe σ2 vs = wipe σ vs ∧ tt σ2 H2 fun b H3 =>
        if b = true then tk σ2 H3 fun y H4 => tv σ2 H4 fun z H5 => ∃ kvs k, y = kV k ∧ H5 D = some (.dK kvs) ∧ kvs.length < sizeLine ∧ Nx (upd H5 D (.dK (putK kvs k z))) else Nx H3)) : tDc wi g tt tk tv vs σ H Q := h
theorem go_mkx {G : List V → Hp → XK → Prop} {tk : TA} {σ : L2.St} {H : Hp} {Q : XK} (h : tk σ H fun zs H1 => G zs H1 Q) : tMkX G tk σ H Q := h
theorem go_dget {td ty : TE} {σ : L2.St} {H : Hp} {Q : VK} (h : td σ H fun x H1 => ty σ H1 fun y H2 => ∃ a v, x = .ref a ∧ DGet H2 a y (some v) ∧ Q v H2) : tDGet td ty σ H Q := h
theorem go_dnotin {td ty : TE} {σ : L2.St} {H : Hp} {Q : VK} (h : ty σ H fun y H1 => td σ H1 fun x H2 => ∃ a o, x = .ref a ∧ DGet H2 a y o ∧ Q (.bl (!o.isSome)) H2) : tDNotIn ty td σ H Q := h
theorem dget_pl {H : Hp} {a : Addr} {l : List Str} {z : Str} (e : H a = some (.dK (plK l))) : DGet H a (.str z) (if z ∈ l then some (.int (l.idxOf z : Nat)) else none) := by
  have := DGet.k (k := Sum.inr z) e
  rw [plK_at] at this
  exact this
theorem go_clW {sp : Sp} {W : WX} {t : TA} {σ : L2.St} {H : Hp} {Q : VK} (h : t σ H fun vs H1 => sp vs H1 Q fun cls d H' => W cls d σ H') : tClW sp W t σ H Q := h
theorem go_xf {a C : Addr} {cls : Value} {d : Option Addr} {f : Str} {te : TE} {σ : L2.St} {H : Hp} {Q : VK} (h : te σ H fun x H1 => x = .ref a ∧ cls = .ref C ∧ ∃ (dd : Addr) (fs : List (Str × V)) (v : V), d = some dd ∧ H1 dd = some (.xd fs) ∧ fs.lookup f = some v ∧ Q v H1) : tXf a cls d C f te σ H Q := h
end Bk
namespace K
open PySem PySem.Spec PyProof.Rows L2 Bk
local macro_rules | `(tactic| walk_at "go1") => `(tactic| (first
  | ((with_reducible show tVar _ _ _ _); refine go_var rfl ?_)
  | (with_reducible first | refine go_c ?_ | refine go_op ?_ | refine go_cons ?_ | refine go_nil ?_ | refine go_cb ?_ | refine go_cl ?_ | refine go_seq ?_ | refine go_asg ?_ | refine go_name ?_ | refine go_ifS ?_ | refine go_test ?_ | refine go_bl ?_)
  | (with_reducible first | refine go_rI0 ?_ | refine go_rU ?_ | refine go_ret ?_ | refine go_next ?_ | refine go_B ?_ | refine go_and ?_ | refine go_or ?_ | refine go_not ?_ | refine go_if ?_ | refine go_andV ?_ | refine go_orV ?_ | refine go_notV ?_)
  | ((with_reducible show rEq _ _ _ _); refine go_rEq rfl ?_)
  | ((with_reducible show rNe _ _ _ _); refine go_rNe rfl ?_)
  | (with_reducible first | refine go_un ?_ | refine go_chain ?_ | refine go_drop ?_ | refine go_retN ?_ | refine go_isN ?_ | refine go_notN ?_ | refine go_cont ?_ | refine go_break ?_ | refine go_par ?_ | refine go_two ?_ | refine go_part ?_ | refine go_noPart ?_ | refine go_int ?_ | refine go_sl ?_ | refine go_yes ?_ | refine go_tup ?_ | refine go_lst ?_)
  | (with_reducible first | refine go_gCons ?_ | refine go_gNil ?_ | refine go_for ?_ | refine go_iEnT ?_ | refine go_iEnum ?_ | refine go_iList ?_ | refine go_iTup ?_ | refine go_iStr ?_ | refine go_iRng1 ?_ | refine go_iRng2 ?_ | refine go_iZip ?_ | refine go_lc ?_ | refine go_mkR ?_ | refine go_mkS ?_ | refine go_clO ?_ | refine go_pr ?_ | refine go_sfld ?_ | refine go_bm ?_ | refine go_ref ?_)))
local macro_rules | `(tactic| walk_at "go") => `(tactic| ((repeat (walk_at "go1")); try dsimp only))
local macro_rules | `(tactic| walk_at "so") => `(tactic| first | omega | (simp; done) | (simp; omega) | (simp at *; omega))
section
variable {P : Program} {w : World} {K : PySem.W.Frag} {mg : Str → Option Value} {base : Heap} [PFa P FILE]
/-! people, drawn the other way -/
def nm12 : List Str := ["a", "bo", "carl", "dora", "ella", "f", "gustav", "hannah", "iris", "jo", "k", "lllllllz"]
theorem nm12_ok : ∀ z ∈ nm12, nmB z = true := by decide +kernel
theorem nm12_nd : nm12.Nodup := by decide +kernel
def spPeopleD (K : PySem.W.Frag) : Sp := fun vs H Q _ => ∃ (d : Addr) (most : Int), vs = [.ref d, .int most] ∧ 2 ≤ most ∧ most ≤ 12 ∧ DSt H d ∧
  ∀ (D : Addr) (H' : Hp) (rs : List Addr) (ps : List Pr), FrD d H H' → DSt H' d → H D = Option.none → H' D = some (.lst (rs.map V.ref)) → Rows (fun b => b ≠ d) H' rs ps → Good ps → (ps.length : Int) ≤ most → Q (.ref D) H'

theorem sc__law_people : FnScope ["_law_d", "_law_most", "_law_names", "_law_top", "_law_found", "_law_k"] ["_law_d", "_law_most"] (defScope s__law_people) := ⟨rfl, rfl, rfl, by decide +kernel, rfl, by decide +kernel, by decide +kernel⟩
theorem ok__law_people (T : Tx K mg) (D__law_shuffled : Fx P w K mg base 2 (He.ga K "_law_shuffled") (spShuf K)) (D__law_below : Fx P w K mg base 1 (He.ga K "_law_below") (spBelow K)) : Fx P w K mg base 3 (He.ga K "_law_people") (spPeopleD K) := by
  have K__law_shuffled : PySem.W.keepIn K (.ref (He.ga K "_law_shuffled")) = true := T.F__law_shuffled.elim fun _ q => q.kp
  have K__law_below : PySem.W.keepIn K (.ref (He.ga K "_law_below")) = true := T.F__law_below.elim fun _ q => q.kp
  obtain ⟨fd, F⟩ := T.F__law_people
  have nd := sc__law_people.nd
  refine fx_of F sc__law_people (fun vs H Q E h => ?_) (fun _ _ _ _ _ _ us hl => match us, hl with | [_, _], _ => rfl) fun cdv A outer s H vs Q E hr h => ?_
  · obtain ⟨d, most, rfl, _⟩ := h
    rfl
  obtain ⟨d, most, rfl, hm2, hm12, hD, h⟩ := h
  refine ⟨_, (pss_cons (ps_set (i := 2) nd rfl (Or.inl rfl) (pe_lst (pa_cons pe_str (pa_cons pe_str (pa_cons pe_str (pa_cons pe_str (pa_cons pe_str (pa_cons pe_str (pa_cons pe_str (pa_cons pe_str (pa_cons pe_str (pa_cons pe_str (pa_cons pe_str (pa_cons pe_str pa_nil)))))))))))))) (pss_cons (ps_set (i := 2) nd rfl (Or.inl rfl) (pe_cl D__law_shuffled hr K__law_shuffled T.g__law_shuffled passL (pa_cons (pv 0) (pa_cons (pv 2) pa_nil)))) (pss_cons (ps_par (i := 3) (j := 4) rfl nd rfl rfl (by decide) rfl rfl (pa_cons (pe_ix (ixL K) (pe_lst (pa_cons pe_int (pa_cons pe_int (pa_cons pe_int pa_nil)))) (pe_cl D__law_below hr K__law_below T.g__law_below passL (pa_cons (pv 0) (pa_cons pe_int pa_nil))) (fun _ _ => rfl)) (pa_cons (pe_lst pa_nil) pa_nil)) rfl) (pss_cons (ps_for PassesOwn.never rfl (pi_range1 rfl T.m_range (pa_cons (pe_op op_add pe_int (pe_cl D__law_below hr K__law_below T.g__law_below passL (pa_cons (pv 0) (pa_cons (pe_op op_sub (pv 1) pe_int) pa_nil)))) pa_nil)) (pg_name (i := 5) nd rfl (Or.inl rfl)) (pss_one (ps_expr (pe_bm PySem.F.plainAttrs_list PySem.F.slot_list_append PySem.F.type_list_append mt_append (pv 4) (pa_cons (pe_tup (pa_cons (pe_ix (ixL K) (pv 2) (pv 5) (fun _ _ => rfl)) (pa_cons (pe_op op_add pe_int (pe_cl D__law_below hr K__law_below T.g__law_below passL (pa_cons (pv 0) (pa_cons (pv 3) pa_nil)))) pa_nil))) pa_nil))))) (pss_one (ps_ret (pv 4))))))), ?_⟩
  walk_at "go"
  refine ⟨show 12 ≤ sizeLine by decide, fun l1 hl1 => ?_⟩
  have s1 := same_upd (o := .lst (nm12.map V.str)) hl1
  have e1 : (upd H l1 (.lst (nm12.map V.str))) l1 = some (.lst (nm12.map V.str)) := upd_same
  change gName _ _ _ (upd H l1 (.lst (nm12.map V.str))) _
  generalize upd H l1 (.lst (nm12.map V.str)) = H1 at s1 e1 ⊢
  walk_at "go"
  refine ⟨d, l1, nm12, rfl, hD.keep s1, e1, fun z hz => nm_ok (nm12_ok z hz), by decide, fun l2 H2 ws f2 hD2 hl2 e2 hpm => ?_⟩
  walk_at "go"
  have hwl : ws.length = 12 := hpm.length_eq
  have ne2 : ∀ {H' : Hp} {b : Addr}, DSt H' d → H' b = Option.none → b ≠ d := fun {H' b} ⟨_, _, _, e, _⟩ hb z => by
    rw [z, e] at hb
    cases hb
  have hl2d : l2 ≠ d := ne2 (hD.keep s1) hl2
  refine ⟨show 3 ≤ sizeLine by decide, fun l3 hl3 => ?_⟩
  have s3 := same_upd (o := .lst [V.int 3, V.int 9, V.int 1000]) hl3
  walk_at "go"
  refine ⟨d, 3, rfl, by omega, by omega, hD2.keep s3, fun y4 H4 f4 hD4 hy0 hy1 => ?_⟩
  obtain ⟨tp, etp, htp1, htp2⟩ : ∃ m : Int, atI [V.int 3, V.int 9, V.int 1000] y4 = some (.int m) ∧ 1 ≤ m ∧ m ≤ 1000 := by
    rcases (show y4 = 0 ∨ y4 = 1 ∨ y4 = 2 by omega) with rfl | rfl | rfl
    · exact ⟨3, rfl, by omega, by omega⟩
    · exact ⟨9, rfl, by omega, by omega⟩
    · exact ⟨1000, rfl, by omega, by omega⟩
  refine go_ixL (.inl (.inl (f4 _ _ (ne2 hD2 hl3) upd_same))) etp ?_
  walk_at "go"
  refine ⟨Nat.zero_le _, fun F hF => ?_⟩
  have s5 := same_upd (o := .lst []) hF
  have eF : (upd H4 F (.lst [])) F = some (.lst (([] : List Addr).map V.ref)) := upd_same
  have e24 := f4 _ _ hl2d (s3 _ _ e2)
  have hFd : F ≠ d := ne2 hD4 hF
  have h2F : l2 ≠ F := ne_of_none e24 hF
  have f04 : FrD d H H4 := fun b o n e => f4 _ _ n (s3 _ _ (f2 _ _ n (s1 _ _ e)))
  have hFH : H F = Option.none := by
    cases e : H F with
    | none => rfl
    | some o => rw [f04 _ _ hFd e] at hF; cases hF
  have e25 := s5 _ _ e24
  generalize upd H4 F (.lst []) = H5 at s5 eF e25 ⊢
  walk_at "go"
  refine ⟨d, _, rfl, by omega, by omega, hD4.keep s5, fun y6 H6 f6 hD6 hy60 hy61 => ?_⟩
  walk_at "go"
  refine ⟨_, rfl, by omega, by omega, ?_⟩
  obtain ⟨c, hc⟩ : ∃ c : Nat, (2 + y6).toNat = c := ⟨_, rfl⟩
  rw [hc]
  refine for_w (walk_range (lo := 0) (n := c)) (fun i σ H' => FrD d H H' ∧ DSt H' d ∧ H' l2 = some (.lst (ws.map V.str)) ∧ (∃ (rs : List Addr) (ps : List Pr), H' F = some (.lst (rs.map V.ref)) ∧ Rows (fun b => b ≠ d ∧ b ≠ F) H' rs ps ∧ ps.length = i ∧ ps.map (·.1) = ws.take i ∧ ∀ p ∈ ps, 1 ≤ p.2 ∧ p.2 ≤ 1000) ∧ ∃ u, σ = [some (.ref d), some (.int most), some (.ref l2), some (.int tp), some (.ref F), u]) ⟨fun b o n e => f6 _ _ n (s5 _ _ (f04 _ _ n e)), hD6, f6 _ _ hl2d e25, ⟨[], [], f6 _ _ hFd eF, ⟨rfl, fun i p e => by simp at e⟩, rfl, rfl, fun p hp => by cases hp⟩, _, rfl⟩ (fun _ _ _ _ _ => trivial) ?_ ?_
  · rintro i y σ Ha Hb hi ⟨f7, hD7, e7, ⟨rs, ps, eF7, R7, hl7, hn7, hp7⟩, u, rfl⟩ ⟨rfl, rfl⟩
    dsimp only
    rw [Int.zero_add]
    have hrl := R7.1
    have hiw : i < ws.length := by omega
    have hzw : ws[i]? = some ws[i] := by simp [hiw]
    walk_at "go"
    refine ⟨ty_lst eF7, ?_⟩
    walk_at "go"
    refine go_ixL (.inl (.inl e7)) (at_nat (at_map hzw)) ?_
    walk_at "go"
    refine ⟨d, tp, rfl, by omega, by omega, hD7, fun y8 H8 f8 hD8 hy80 hy81 => ?_⟩
    walk_at "go"
    refine ⟨show 2 ≤ sizeLine by decide, fun t ht => ?_⟩
    have s9 := same_upd (o := .tup [V.str ws[i], V.int (1 + y8)]) ht
    have e9 : (upd H8 t (.tup [V.str ws[i], V.int (1 + y8)])) t = some (.tup [V.str ws[i], V.int (1 + y8)]) := upd_same
    have eF8 := f8 _ _ hFd eF7
    have htd : t ≠ d := ne2 hD8 ht
    have htF : t ≠ F := fun z => by rw [z, eF8] at ht; cases ht
    generalize upd H8 t (.tup [V.str ws[i], V.int (1 + y8)]) = H9 at s9 e9 ⊢
    walk_at "go"
    refine ⟨F, _, _, rfl, rfl, s9 _ _ eF8, by rw [List.length_map]; exact Nat.lt_of_lt_of_le (show rs.length < 2000 by omega) (by decide), ?_⟩
    walk_at "go"
    have fin : ∀ b o, b ≠ d → b ≠ F → Hb b = some o → (upd H9 F (.lst (rs.map V.ref ++ [V.ref t]))) b = some o := fun b o n1 n2 e => by
      rw [upd_ne n2]
      exact s9 _ _ (f8 _ _ n1 e)
    refine ⟨fun b o n e => fin b o n (ne_of_none e hFH) (f7 _ _ n e), ?_, fin _ _ hl2d h2F e7, ⟨rs ++ [t], ps ++ [(ws[i], 1 + y8)], by rw [upd_same, List.map_append]; rfl, ⟨by simp [hrl], fun j p ej => ?_⟩, by simp [hl7], ?_, fun p hp => ?_⟩, _, rfl⟩
    · obtain ⟨c0, c1, cs, e, q⟩ := hD8
      exact ⟨c0, c1, cs, by rw [upd_ne hFd.symm]; exact s9 _ _ e, q⟩
    · by_cases hj : j < ps.length
      · rw [List.getElem?_append_left hj] at ej
        obtain ⟨t', a1, a2, a3⟩ := R7.2 j p ej
        exact ⟨t', by rw [List.getElem?_append_left (by omega)]; exact a1, a2, fin _ _ a2.1 a2.2 a3⟩
      · have hlj : j < (ps ++ [(ws[i], 1 + y8)]).length := (List.getElem?_eq_some_iff.mp ej).1
        have ejj : j = ps.length := by simp at hlj; omega
        subst ejj
        rw [List.getElem?_append_right (Nat.le_refl _)] at ej
        simp at ej
        subst ej
        refine ⟨t, by rw [← hrl, List.getElem?_append_right (Nat.le_refl _)]; simp, ⟨htd, htF⟩, ?_⟩
        rw [upd_ne htF]
        exact e9
    · rw [List.map_append, hn7, List.take_succ_eq_append_getElem hiw]
      rfl
    · rcases List.mem_append.mp hp with z | z
      · exact hp7 p z
      · rw [List.mem_singleton.mp z]
        exact ⟨by show 1 ≤ 1 + y8; omega, by show 1 + y8 ≤ 1000; omega⟩
  · rintro σ Ha ⟨f7, hD7, e7, ⟨rs, ps, eF7, R7, hl7, hn7, hp7⟩, u, rfl⟩
    walk_at "go"
    have hsub : ∀ p ∈ ps, p.1 ∈ nm12 := fun p hp => hpm.mem_iff.mp (List.mem_of_mem_take (by rw [← hn7]; exact List.mem_map.mpr ⟨p, hp, rfl⟩))
    have hnd : (ps.map (·.1)).Nodup := by
      rw [hn7]
      exact (hpm.nodup_iff.mpr nm12_nd).sublist (List.take_sublist _ _)
    refine h F Ha rs ps f7 hD7 hFH eF7 ⟨R7.1, fun i p e => ?_⟩ ⟨by omega, by omega, fun p hp => nm12_ok _ (hsub p hp), hp7, hnd⟩ (by omega)
    obtain ⟨t, a1, a2, a3⟩ := R7.2 i p e
    exact ⟨t, a1, a2.1, a3⟩

end
end K
namespace K
open PySem PySem.Spec PyProof.Rows L2 Bk
local macro_rules | `(tactic| walk_at "go1") => `(tactic| (first
  | ((with_reducible show tVar _ _ _ _); refine go_var rfl ?_)
  | (with_reducible first | refine go_c ?_ | refine go_op ?_ | refine go_cons ?_ | refine go_nil ?_ | refine go_cb ?_ | refine go_cl ?_ | refine go_seq ?_ | refine go_asg ?_ | refine go_name ?_ | refine go_ifS ?_ | refine go_test ?_ | refine go_bl ?_)
  | (with_reducible first | refine go_rI0 ?_ | refine go_rU ?_ | refine go_ret ?_ | refine go_next ?_ | refine go_B ?_ | refine go_and ?_ | refine go_or ?_ | refine go_not ?_ | refine go_if ?_ | refine go_andV ?_ | refine go_orV ?_ | refine go_notV ?_)
  | ((with_reducible show rEq _ _ _ _); refine go_rEq rfl ?_)
  | ((with_reducible show rNe _ _ _ _); refine go_rNe rfl ?_)
  | (with_reducible first | refine go_un ?_ | refine go_chain ?_ | refine go_drop ?_ | refine go_retN ?_ | refine go_isN ?_ | refine go_notN ?_ | refine go_cont ?_ | refine go_break ?_ | refine go_par ?_ | refine go_two ?_ | refine go_part ?_ | refine go_noPart ?_ | refine go_int ?_ | refine go_sl ?_ | refine go_yes ?_ | refine go_tup ?_ | refine go_lst ?_)
  | (with_reducible first | refine go_gCons ?_ | refine go_gNil ?_ | refine go_for ?_ | refine go_iEnT ?_ | refine go_iEnum ?_ | refine go_iList ?_ | refine go_iTup ?_ | refine go_iStr ?_ | refine go_iRng1 ?_ | refine go_iRng2 ?_ | refine go_iZip ?_ | refine go_lc ?_ | refine go_mkR ?_ | refine go_mkS ?_ | refine go_clO ?_ | refine go_pr ?_ | refine go_sfld ?_ | refine go_bm ?_ | refine go_ref ?_)))
local macro_rules | `(tactic| walk_at "go") => `(tactic| ((repeat (walk_at "go1")); try dsimp only))
local macro_rules | `(tactic| walk_at "so") => `(tactic| first | omega | (simp; done) | (simp; omega) | (simp at *; omega))
section
variable {P : Program} {w : World} {K : PySem.W.Frag} {mg : Str → Option Value} {base : Heap} [PFa P FILE]
/-! what is equal by kinds, lists and tuples within -/
def Sc (x : V) : Prop := x = .non ∨ (∃ b : Bool, x = .bl b) ∨ (∃ i : Int, x = .int i) ∨ ∃ z : Str, PyData.strOk z = true ∧ x = .str z
def EqD (H : Hp) : Nat → V → V → Prop
  | 0, _, _ => False
  | n + 1, x, y => (x = y ∧ Sc x) ∨ (∃ (a b : Addr) (xs ys : List V), x = .ref a ∧ y = .ref b ∧ H a = some (.lst xs) ∧ H b = some (.lst ys) ∧ xs.length = ys.length ∧ xs.length ≤ 100000 ∧ ∀ (i : Nat) (u w : V), xs[i]? = some u → ys[i]? = some w → EqD H n u w) ∨
    (∃ (a b : Addr) (xs ys : List V), x = .ref a ∧ y = .ref b ∧ H a = some (.tup xs) ∧ H b = some (.tup ys) ∧ xs.length = ys.length ∧ xs.length ≤ 100000 ∧ ∀ (i : Nat) (u w : V), xs[i]? = some u → ys[i]? = some w → EqD H n u w)
theorem EqD.keep {H H' : Hp} (e : Same H H') : ∀ {n : Nat} {x y : V}, EqD H n x y → EqD H' n x y
  | 0, _, _, h => h.elim
  | n + 1, x, y, h => by
    rcases h with h | ⟨a, b, xs, ys, h1, h2, h3, h4, h5, h6, h7⟩ | ⟨a, b, xs, ys, h1, h2, h3, h4, h5, h6, h7⟩
    · exact .inl h
    · exact .inr (.inl ⟨a, b, xs, ys, h1, h2, e _ _ h3, e _ _ h4, h5, h6, fun i u w e1 e2 => (h7 i u w e1 e2).keep e⟩)
    · exact .inr (.inr ⟨a, b, xs, ys, h1, h2, e _ _ h3, e _ _ h4, h5, h6, fun i u w e1 e2 => (h7 i u w e1 e2).keep e⟩)
theorem EqD.up {H : Hp} : ∀ {n : Nat} {x y : V}, EqD H n x y → EqD H (n + 1) x y
  | 0, _, _, h => h.elim
  | n + 1, x, y, h => by
    rcases h with h | ⟨a, b, xs, ys, h1, h2, h3, h4, h5, h6, h7⟩ | ⟨a, b, xs, ys, h1, h2, h3, h4, h5, h6, h7⟩
    · exact .inl h
    · exact .inr (.inl ⟨a, b, xs, ys, h1, h2, h3, h4, h5, h6, fun i u w e1 e2 => (h7 i u w e1 e2).up⟩)
    · exact .inr (.inr ⟨a, b, xs, ys, h1, h2, h3, h4, h5, h6, fun i u w e1 e2 => (h7 i u w e1 e2).up⟩)
theorem sh_i (i : Int) : SeqAt.shaped (.int i) = true := by
  unfold SeqAt.shaped
  rw [Bool.and_eq_true, decide_eq_true_iff]
  refine ⟨by simp [PyData.canLay0], ?_⟩
  simp only [PyData.depth]
  omega
theorem sh_b (i : Bool) : SeqAt.shaped (.bool i) = true := by
  unfold SeqAt.shaped
  rw [Bool.and_eq_true, decide_eq_true_iff]
  refine ⟨by simp [PyData.canLay0], ?_⟩
  simp only [PyData.depth]
  omega
theorem go_eqi {K : PySem.W.Frag} {H : Hp} {i : Int} {Q : VK} (q : Q (.bl true) H) : rEqD K (.int i) (.int i) H Q :=
  ⟨_, _, .int i, .int i, sh_i i, sh_i i, by rw [show PyData.eqv (PyData.int i) (PyData.int i) = true by show (i == i) = true; simp]; exact q⟩
theorem go_eqb {K : PySem.W.Frag} {H : Hp} {i : Bool} {Q : VK} (q : Q (.bl true) H) : rEqD K (.bl i) (.bl i) H Q :=
  ⟨_, _, .bl i, .bl i, sh_b i, sh_b i, by rw [show PyData.eqv (PyData.bool i) (PyData.bool i) = true by cases i <;> rfl]; exact q⟩
theorem sh_s {z : Str} (hz : PyData.strOk z = true) : SeqAt.shaped (.str z) = true := by
  unfold SeqAt.shaped
  rw [Bool.and_eq_true, decide_eq_true_iff]
  refine ⟨by simpa [PyData.canLay0] using hz, ?_⟩
  simp only [PyData.depth]
  omega
theorem go_eqs {K : PySem.W.Frag} {H : Hp} {z : Str} {Q : VK} (hz : PyData.strOk z = true) (q : Q (.bl true) H) : rEqD K (.str z) (.str z) H Q :=
  ⟨_, _, .str z, .str z, sh_s hz, sh_s hz, by rw [show PyData.eqv (PyData.str z) (PyData.str z) = true by show (z == z) = true; simp]; exact q⟩
theorem go_ixAL {K : PySem.W.Frag} {H : Hp} {a : Addr} {xs : List V} {n : Int} {v : V} {Q : VK} (h : H a = some (.lst xs)) (e : atI xs n = some v) (q : Q v H) : rIxA K (.ref a) (.int n) H Q := .inl ⟨a, xs, n, v, rfl, rfl, .inl (.inl h), e, q⟩
theorem go_ixAT {K : PySem.W.Frag} {H : Hp} {a : Addr} {xs : List V} {n : Int} {v : V} {Q : VK} (h : H a = some (.tup xs)) (e : atI xs n = some v) (q : Q v H) : rIxA K (.ref a) (.int n) H Q := .inr ⟨a, xs, n, v, rfl, rfl, .inl (.inl h), e, q⟩
def spEqD (K : PySem.W.Frag) (n : Nat) : Sp := fun vs H Q _ => ∃ x y : V, vs = [x, y] ∧ EqD H n x y ∧ ∀ H', Same H H' → Q (.bl true) H'

theorem sc__law_equal : FnScope ["_law_actual", "_law_expected", "_law_k"] ["_law_actual", "_law_expected"] (defScope s__law_equal) := ⟨rfl, rfl, rfl, by decide +kernel, rfl, by decide +kernel, by decide +kernel⟩
theorem ok__law_equal (T : Tx K mg) : ∀ n : Nat, Fx P w K mg base (n + 1) (He.ga K "_law_equal") (spEqD K n)
  | 0 => fun A outer s H us vs Q E hr e0 r h => by
    obtain ⟨x, y, rfl, hA, _⟩ := h
    exact hA.elim
  | n + 1 => by
    have D__law_equal := ok__law_equal T n
    have K__law_equal : PySem.W.keepIn K (.ref (He.ga K "_law_equal")) = true := T.F__law_equal.elim fun _ q => q.kp
    obtain ⟨fd, F⟩ := T.F__law_equal
    have nd := sc__law_equal.nd
    refine fx_of F sc__law_equal (fun vs H Q E h => ?_) (fun _ _ _ _ _ _ us hl => match us, hl with | [_, _], _ => rfl) fun cdv A outer s H vs Q E hr h => ?_
    · obtain ⟨x, y, rfl, _⟩ := h
      rfl
    obtain ⟨x, y, rfl, hA, h⟩ := h
    refine ⟨_, (pss_cons (ps_if (pt_cmpR op_isN (pv 1) pe_non (nomark _)) (pss_one (ps_ret (pe_cmpR op_isN (pv 0) pe_non (nomark _)))) pss_nil) (pss_cons (ps_if (pt_val (cB call_isi T.m_isinstance (pa_cons (pv 1) (pa_cons (pe_bty "bool" T.m_bool) pa_nil)))) (pss_one (ps_ret (pe_and (cB call_isi T.m_isinstance (pa_cons (pv 0) (pa_cons (pe_bty "bool" T.m_bool) pa_nil))) (pe_one (pe_cmpR (Bk.eqD K hr.units) (pv 0) (pv 1) (nomark _)))))) pss_nil) (pss_cons (ps_if (pt_val (cB call_isi T.m_isinstance (pa_cons (pv 1) (pa_cons (pe_bty "int" T.m_int) pa_nil)))) (pss_one (ps_ret (pe_and (cB call_isi T.m_isinstance (pa_cons (pv 0) (pa_cons (pe_bty "int" T.m_int) pa_nil))) (pe_and (pe_not (cB call_isi T.m_isinstance (pa_cons (pv 0) (pa_cons (pe_bty "bool" T.m_bool) pa_nil)))) (pe_one (pe_cmpR (Bk.eqD K hr.units) (pv 0) (pv 1) (nomark _))))))) pss_nil) (pss_cons (ps_if (pt_val (cB call_isi T.m_isinstance (pa_cons (pv 1) (pa_cons (pe_bty "str" T.m_str) pa_nil)))) (pss_one (ps_ret (pe_and (cB call_isi T.m_isinstance (pa_cons (pv 0) (pa_cons (pe_bty "str" T.m_str) pa_nil))) (pe_one (pe_cmpR (Bk.eqD K hr.units) (pv 0) (pv 1) (nomark _)))))) pss_nil) (pss_cons (ps_if (pt_cmpR op_ne (cB call_isi T.m_isinstance (pa_cons (pv 1) (pa_cons (pe_bty "tuple" T.m_tuple) pa_nil))) (cB call_isi T.m_isinstance (pa_cons (pv 0) (pa_cons (pe_bty "tuple" T.m_tuple) pa_nil))) (nomark _)) (pss_one (ps_ret pe_bl)) pss_nil) (pss_cons (ps_if (pt_cmpR op_ne (cB call_isi T.m_isinstance (pa_cons (pv 1) (pa_cons (pe_bty "list" T.m_list) pa_nil))) (cB call_isi T.m_isinstance (pa_cons (pv 0) (pa_cons (pe_bty "list" T.m_list) pa_nil))) (nomark _)) (pss_one (ps_ret pe_bl)) pss_nil) (pss_cons (ps_if (pt_cmpR op_ne (cB (Bk.lenK K) T.m_len (pa_cons (pv 0) pa_nil)) (cB (Bk.lenK K) T.m_len (pa_cons (pv 1) pa_nil)) (nomark _)) (pss_one (ps_ret pe_bl)) pss_nil) (pss_one (ps_ret (cB (cr_all rfl) T.m_all (pa_cons (pe_lc (own := [("_law_k", 2)]) (g := (gName 2)) rfl nd (pi_range1 rfl T.m_range (pa_cons (cB (Bk.lenK K) T.m_len (pa_cons (pv 1) pa_nil)) pa_nil)) (blkOk_by (N := ["_law_actual", "_law_expected", "_law_k"]) (sc := defScope s__law_equal) (own := [("_law_k", 2)]) (by decide +kernel)) (fun _ _ _ _ _ => (pg_name (i := 2) nd rfl (Or.inl rfl))) (fun _ _ _ _ _ => pts_nil) (fun _ _ _ _ _ => (pe_cl D__law_equal hr K__law_equal T.g__law_equal passL (pa_cons (pe_ix (Bk.ixA K) (pv 0) (pv 2) (fun _ _ => rfl)) (pa_cons (pe_ix (Bk.ixA K) (pv 1) (pv 2) (fun _ _ => rfl)) pa_nil)) (by omega)))) pa_nil))))))))))), ?_⟩
    rcases hA with ⟨rfl, rfl | ⟨b, rfl⟩ | ⟨i, rfl⟩ | ⟨z, hz, rfl⟩⟩ | ⟨a, b, xs, ys, rfl, rfl, ea, eb, hlen, hle, hall⟩ | ⟨a, b, xs, ys, rfl, rfl, ea, eb, hlen, hle, hall⟩
    · walk_at "go"
      refine ⟨rfl, _, rfl, ?_⟩
      rw [decide_eq_true (rfl : V.non = V.non)]
      refine iteT ?_
      walk_at "go"
      refine ⟨rfl, ?_⟩
      rw [decide_eq_true (rfl : V.non = V.non)]
      exact h _ (Same.refl _)
    · walk_at "go"
      refine ⟨rfl, _, rfl, ?_⟩
      rw [decide_eq_false (show ¬ (V.bl b = V.non) from fun z => nomatch z)]
      refine iteF ?_
      walk_at "go"
      refine isi_b (.bl b) (kit_ty (b := "bool") (r := true) (by decide +kernel)) ?_
      walk_at "go"
      refine iteT ?_
      walk_at "go"
      refine isi_b (.bl b) (kit_ty (b := "bool") (r := true) (by decide +kernel)) ?_
      walk_at "go"
      refine iteT ?_
      walk_at "go"
      exact go_eqb (h _ (Same.refl _))
    · walk_at "go"
      refine ⟨rfl, _, rfl, ?_⟩
      rw [decide_eq_false (show ¬ (V.int i = V.non) from fun z => nomatch z)]
      refine iteF ?_
      walk_at "go"
      refine isi_b (.int i) (kit_ty (b := "bool") (r := false) (by decide +kernel)) ?_
      walk_at "go"
      refine iteF ?_
      walk_at "go"
      refine isi_b (.int i) (kit_ty (b := "int") (r := true) (by decide +kernel)) ?_
      walk_at "go"
      refine iteT ?_
      walk_at "go"
      refine isi_b (.int i) (kit_ty (b := "int") (r := true) (by decide +kernel)) ?_
      walk_at "go"
      refine iteT ?_
      walk_at "go"
      refine isi_b (.int i) (kit_ty (b := "bool") (r := false) (by decide +kernel)) ?_
      walk_at "go"
      refine iteT ?_
      walk_at "go"
      exact go_eqi (h _ (Same.refl _))
    · walk_at "go"
      refine ⟨rfl, _, rfl, ?_⟩
      rw [decide_eq_false (show ¬ (V.str z = V.non) from fun z => nomatch z)]
      refine iteF ?_
      walk_at "go"
      refine isi_b (.str z) (kit_ty (b := "bool") (r := false) (by decide +kernel)) ?_
      walk_at "go"
      refine iteF ?_
      walk_at "go"
      refine isi_b (.str z) (kit_ty (b := "int") (r := false) (by decide +kernel)) ?_
      walk_at "go"
      refine iteF ?_
      walk_at "go"
      refine isi_b (.str z) (kit_ty (b := "str") (r := true) (by decide +kernel)) ?_
      walk_at "go"
      refine iteT ?_
      walk_at "go"
      refine isi_b (.str z) (kit_ty (b := "str") (r := true) (by decide +kernel)) ?_
      walk_at "go"
      refine iteT ?_
      walk_at "go"
      exact go_eqs hz (h _ (Same.refl _))
    · walk_at "go"
      refine ⟨rfl, _, rfl, ?_⟩
      rw [decide_eq_false (show ¬ (V.ref b = V.non) from fun z => nomatch z)]
      refine iteF ?_
      walk_at "go"
      refine isi_b (.lst eb) (kit_ty (b := "bool") (r := false) (by decide +kernel)) ?_
      walk_at "go"
      refine iteF ?_
      walk_at "go"
      refine isi_b (.lst eb) (kit_ty (b := "int") (r := false) (by decide +kernel)) ?_
      walk_at "go"
      refine iteF ?_
      walk_at "go"
      refine isi_b (.lst eb) (kit_ty (b := "str") (r := false) (by decide +kernel)) ?_
      walk_at "go"
      refine iteF ?_
      walk_at "go"
      refine isi_b (.lst eb) (kit_ty (b := "tuple") (r := false) (by decide +kernel)) ?_
      walk_at "go"
      refine isi_b (.lst ea) (kit_ty (b := "tuple") (r := false) (by decide +kernel)) ?_
      walk_at "go"
      refine iteF ?_
      walk_at "go"
      refine isi_b (.lst eb) (kit_ty (b := "list") (r := true) (by decide +kernel)) ?_
      walk_at "go"
      refine isi_b (.lst ea) (kit_ty (b := "list") (r := true) (by decide +kernel)) ?_
      walk_at "go"
      refine iteF ?_
      walk_at "go"
      refine ⟨_, _, rfl, .inl (.inl (.inl ea)), ?_⟩
      walk_at "go"
      refine ⟨_, _, rfl, .inl (.inl (.inl eb)), ?_⟩
      walk_at "go"
      refine iteNe (by rw [hlen]) ?_
      walk_at "go"
      refine ⟨_, _, rfl, .inl (.inl (.inl eb)), ?_⟩
      walk_at "go"
      refine ⟨_, rfl, by omega, by omega, ?_⟩
      rw [show ((ys.length : Int)).toNat = ys.length by omega]
      refine lc_fun (walk_range (lo := 0) (n := ys.length)) (fun _ _ => trivial) (fun _ => .bl true) (by omega) ?_ ?_
      · rintro j x Ha Hb kk hj sa ⟨rfl, rfl⟩ hkk
        dsimp only
        rw [Int.zero_add]
        have hx : xs[j]? = some (xs[j]'(by omega)) := by simp [show j < xs.length by omega]
        have hy : ys[j]? = some (ys[j]'(by omega)) := by simp [show j < ys.length by omega]
        walk_at "go"
        refine ⟨rfl, ?_⟩
        walk_at "go"
        refine go_ixAL (sa _ _ ea) (at_nat hx) ?_
        walk_at "go"
        refine go_ixAL (sa _ _ eb) (at_nat hy) ?_
        walk_at "go"
        exact ⟨_, _, rfl, (hall j _ _ hx hy).keep sa, fun Hc s3 => hkk _ s3⟩
      · intro D H3 hD s3 e3
        walk_at "go"
        refine ⟨D, (List.range ys.length).map (fun _ => true), rfl, .inl (.inl (by rw [e3, List.map_map]; rfl)), ?_⟩
        rw [show ((List.range ys.length).map (fun _ => true)).all id = true by simp]
        exact h _ s3
    · walk_at "go"
      refine ⟨rfl, _, rfl, ?_⟩
      rw [decide_eq_false (show ¬ (V.ref b = V.non) from fun z => nomatch z)]
      refine iteF ?_
      walk_at "go"
      refine isi_b (.tup eb) (kit_ty (b := "bool") (r := false) (by decide +kernel)) ?_
      walk_at "go"
      refine iteF ?_
      walk_at "go"
      refine isi_b (.tup eb) (kit_ty (b := "int") (r := false) (by decide +kernel)) ?_
      walk_at "go"
      refine iteF ?_
      walk_at "go"
      refine isi_b (.tup eb) (kit_ty (b := "str") (r := false) (by decide +kernel)) ?_
      walk_at "go"
      refine iteF ?_
      walk_at "go"
      refine isi_b (.tup eb) (kit_ty (b := "tuple") (r := true) (by decide +kernel)) ?_
      walk_at "go"
      refine isi_b (.tup ea) (kit_ty (b := "tuple") (r := true) (by decide +kernel)) ?_
      walk_at "go"
      refine iteF ?_
      walk_at "go"
      refine isi_b (.tup eb) (kit_ty (b := "list") (r := false) (by decide +kernel)) ?_
      walk_at "go"
      refine isi_b (.tup ea) (kit_ty (b := "list") (r := false) (by decide +kernel)) ?_
      walk_at "go"
      refine iteF ?_
      walk_at "go"
      refine ⟨_, _, rfl, .inr (.inl (.inl ea)), ?_⟩
      walk_at "go"
      refine ⟨_, _, rfl, .inr (.inl (.inl eb)), ?_⟩
      walk_at "go"
      refine iteNe (by rw [hlen]) ?_
      walk_at "go"
      refine ⟨_, _, rfl, .inr (.inl (.inl eb)), ?_⟩
      walk_at "go"
      refine ⟨_, rfl, by omega, by omega, ?_⟩
      rw [show ((ys.length : Int)).toNat = ys.length by omega]
      refine lc_fun (walk_range (lo := 0) (n := ys.length)) (fun _ _ => trivial) (fun _ => .bl true) (by omega) ?_ ?_
      · rintro j x Ha Hb kk hj sa ⟨rfl, rfl⟩ hkk
        dsimp only
        rw [Int.zero_add]
        have hx : xs[j]? = some (xs[j]'(by omega)) := by simp [show j < xs.length by omega]
        have hy : ys[j]? = some (ys[j]'(by omega)) := by simp [show j < ys.length by omega]
        walk_at "go"
        refine ⟨rfl, ?_⟩
        walk_at "go"
        refine go_ixAT (sa _ _ ea) (at_nat hx) ?_
        walk_at "go"
        refine go_ixAT (sa _ _ eb) (at_nat hy) ?_
        walk_at "go"
        exact ⟨_, _, rfl, (hall j _ _ hx hy).keep sa, fun Hc s3 => hkk _ s3⟩
      · intro D H3 hD s3 e3
        walk_at "go"
        refine ⟨D, (List.range ys.length).map (fun _ => true), rfl, .inl (.inl (by rw [e3, List.map_map]; rfl)), ?_⟩
        rw [show ((List.range ys.length).map (fun _ => true)).all id = true by simp]
        exact h _ s3

end
end K
/-! list(f(..)) of a generator def; a method of one of four classes -/
namespace L2
open PySem PySem.Spec PyProof.Rows GenW
section
variable {X : Cx}
theorem pe_or4 {e : Expr} {a b c d : TE} (ha : PE X e a) (hb : PE X e b) (hc : PE X e c) (hd : PE X e d) : PE X e (fun σ H Q => a σ H Q ∨ b σ H Q ∨ c σ H Q ∨ d σ H Q) :=
  ⟨fun pins s σ H Q I h => h.elim (ha.run pins s σ H Q I) fun h => h.elim (hb.run pins s σ H Q I) fun h => h.elim (hc.run pins s σ H Q I) (hd.run pins s σ H Q I)⟩
/-- list(f(e, ..)) of a generator def that lets nothing out -/
def tGenF (sp : SpG) (t : TA) : TE := fun σ H Q => t σ H fun vs H2 => sp vs H2 (fun out H3 => ∀ q, H3 q = none → Q (.ref q) (upd H3 q (.lst out))) E0
theorem pe_genF {k j : Nat} {f : Addr} {x : Str} {sp : SpG} {e : Expr} {es : List Expr} {t : TA} {p p2 pos pos' : Pos} (F : GFx X.prog X.w X.K X.mg X.base k f sp) (hr : Room j X.A) (hk : PySem.W.keepIn X.K (.ref f) = true) (hm : X.mg x = some (.ref f)) (ha : PA X (e :: es) t) (hgl : Gl X "list") (hmg : X.mg "list" = none) (hg : Gl X x := by rfl) (hj : k + 3 ≤ j := by decide)
    (hdb : (x == ("__debug__" : Str)) = false := by decide) (hst : starEach (e :: es) X.env = (false, eval e X.env) :: starEach es X.env := by rfl) (hpl : (backTo pos' (starEach es X.env)).any (·.1) = false := by rfl)
    (hs2 : starEach [.Call (.Name x p2) (e :: es) [] pos'] X.env = (false, eval (.Call (.Name x p2) (e :: es) [] pos') X.env) :: starEach [] X.env := by rfl) :
    PE X (.Call (.Name "list" p) [.Call (.Name x p2) (e :: es) [] pos'] [] pos) (tGenF sp t) := by
  obtain ⟨fd, ps, G, b⟩ := F.ex
  have h := pe_listG (p := p) (pos := pos) (pgen_call (p := p2) (E := E0) G (hr.mono (by omega)) hg hm hk b .nil ha hdb hst hpl) passL (fun _ _ _ z => False.elim z) (hr.mono hj) hgl hmg (by first | rfl | decide +kernel) (by decide) (by decide) hs2
  refine ⟨fun pins s σ H Q I hq => h.run pins s σ H Q I ?_⟩
  unfold tGenF at hq
  unfold tListG tCallG
  simpa only [List.append_nil] using hq
end
end L2
/-! o.m() of a method by its positional promise -/
namespace Bk
open PySem PySem.Spec PyProof.Rows L2
theorem pe_methR0 {X : Cx} {CX : CXT} {k : Nat} {C f : Addr} {m : Str} {sp : Sp} {E : XK} {o : Expr} {ta : TE} {ap pos : Pos} {pl : Sem Bool} (he : PE X o ta) (c : Cls X.K C) (hm : Meth X.K C m f) (F : FnR X.prog X.w X.K X.mg X.base CX k f sp) (hr : Room k X.A) (hx : Passes CX X E)
    (ht : eval (.Call (.Attribute o m ap) [] [] pos) X.env = (do
      let v ← eval o X.env
      standAt ap.atName
      let (g, one) ← holding [v] (getMethod v m pl)
      callWith pos g one (backTo pos (starEach [] X.env)) (backToKw pos (keywordEach [] X.env))) := by rfl) : PE X (.Call (.Attribute o m ap) [] [] pos) (tMethR C m sp E ta tNil) := by
  constructor
  intro pins s σ H Q I h
  refine PySem.W.methodCall_KW (pl := pl) (thn (he.run pins s σ H _ I h) ?_) ht
  rintro u s1 ⟨x, H1, I1, rx, a, dx, fs, ex, ea, l, q⟩
  subst ex
  cases (show u = Value.ref a from rx)
  refine getmeth_ok I1 ea c hm l ?_
  exact PySem.W.callWith_K0 (first := [.ref a]) I1.kIn hm.kp (wpAny_call (run_fnR (us := [.ref a]) (vs := [.ref a]) F hr hx I1 (.cons rfl .nil) q))
end Bk
/-! o.m(e, ..) of a method that may raise; list(d.items()) -/
namespace Bk
open PySem PySem.Spec PyProof.Rows L2
/-- o.m(e, ..): what the method lets out is in our air -/
def tMethW (C : Addr) (m : Str) (sp : Sp) (W : WX) (ta : TE) (t : TA) : TE := fun σ H Q => ta σ H fun x G1 => ∃ a dx fs, x = .ref a ∧ G1 a = some (.ins C dx fs) ∧ fs.lookup m = none ∧ t σ G1 fun vs G2 => sp (x :: vs) G2 Q fun cls d H' => W cls d σ H'
theorem go_methW {C : Addr} {m : Str} {sp : Sp} {W : WX} {ta : TE} {t : TA} {σ : L2.St} {H : Hp} {Q : VK} (h : ta σ H fun x G1 => ∃ a dx fs, x = .ref a ∧ G1 a = some (.ins C dx fs) ∧ fs.lookup m = none ∧ t σ G1 fun vs G2 => sp (x :: vs) G2 Q fun cls d H' => W cls d σ H') : tMethW C m sp W ta t σ H Q := h
theorem pe_methW {X : Cx} {k j : Nat} {C f : Addr} {m : Str} {sp : Sp} {W : WX} {o e : Expr} {es : List Expr} {ta : TE} {t : TA} {ap pos : Pos} {pl : Sem Bool} (he : PE X o ta) (c : Cls X.K C) (hm : Meth X.K C m f)
    (F : FnR X.prog X.w X.K X.mg X.base (L2.CX X.prog X.w) k f sp) (hr : Room j X.A) (tk : Takes X W) (ha : PA X (e :: es) t) (hj : k ≤ j := by decide)
    (hs : starEach (e :: es) X.env = (false, eval e X.env) :: starEach es X.env := by rfl) (hp : (backTo pos (starEach es X.env)).any (·.1) = false := by rfl)
    (ht : eval (.Call (.Attribute o m ap) (e :: es) [] pos) X.env = (do
      let w0 ← eval o X.env
      standAt ap.atName
      let (g, fst) ← holding [w0] (getMethod w0 m pl)
      callWith pos g fst (backTo pos (starEach (e :: es) X.env)) (backToKw pos (keywordEach [] X.env))) := by rfl) :
    PE X (.Call (.Attribute o m ap) (e :: es) [] pos) (tMethW C m sp W ta t) := by
  refine ⟨fun pn s σ H Q I h => ?_⟩
  refine PySem.W.methodCall_KW (pl := pl) (thn (he.run pn s σ H _ I h) fun u t1 ⟨x, G1, J1, rx, a, dx, fs, ex, ha1, l, q⟩ => ?_) ht
  subst ex
  cases (show u = Value.ref a from rx)
  refine (getmeth_ok J1 ha1 c hm l ?_)
  refine PySem.W.callWith_K (first := [.ref a]) (h₀ := X.base) I.ok.mod.kin hm.kp (thn (ha.run pos pn t1 σ G1 _ J1 q) fun us t2 ⟨vs, G2, J2, r, q2⟩ => ⟨J2.kIn, ?_⟩) hs hp
  refine wpAny_call (codeAny_mono (F X.A X.stack t2 G2 (.ref a :: us) (.ref a :: vs) Q _ (hr.mono hj) J2.env0 (.cons rfl r) q2) fun r s' y => ?_)
  cases r with
  | error u => exact tk u s' (XE.of_call J2 (fun _ _ _ z => z) y)
  | ok fl =>
    cases fl
    case ret u => exact J2.after y
    all_goals exact False.elim y
theorem go_listItems {te : TE} {σ : L2.St} {H : Hp} {Q : VK} (h : te σ H fun x G1 => LiI.rItemsL x G1 Q) : LiI.tListItems te σ H Q := h
end Bk
namespace Bk
open PySem PySem.Spec PyProof.Rows L2
def rListOf (K : PySem.W.Frag) : List V → Hp → VK → Prop := fun xs H Q => ∃ p ys, xs = [.ref p] ∧ (SqL K H p ys ∨ SqT K H p ys) ∧ ∀ l, H l = none → Q (.ref l) (upd H l (.lst ys))
theorem listK (K0 : PySem.W.Frag) {X : Cx} (h : X.K = K0 := by rfl) : CallR X (.type "list") (rListOf K0) := h ▸ call_list_of
theorem go_gLst {K : PySem.W.Frag} {n : Nat} {gs : TGs} {a : Addr} {xs : List V} {σ : L2.St} {H : Hp} {QS : L2.St → Hp → Prop} (h : SqL K H a xs) (hl : xs.length = n) (q : gs xs σ H QS) : gLst K n gs (.ref a) σ H QS := ⟨a, xs, rfl, h, hl, q⟩
end Bk
namespace K
open PySem PySem.Spec PyProof.Rows L2 Bk
local macro_rules | `(tactic| walk_at "go1") => `(tactic| (first
  | ((with_reducible show tVar _ _ _ _); refine go_var rfl ?_)
  | (with_reducible first | refine go_c ?_ | refine go_op ?_ | refine go_cons ?_ | refine go_nil ?_ | refine go_cb ?_ | refine go_cl ?_ | refine go_seq ?_ | refine go_asg ?_ | refine go_name ?_ | refine go_ifS ?_ | refine go_test ?_ | refine go_bl ?_)
  | (with_reducible first | refine go_rI0 ?_ | refine go_rU ?_ | refine go_ret ?_ | refine go_next ?_ | refine go_B ?_ | refine go_and ?_ | refine go_or ?_ | refine go_not ?_ | refine go_if ?_ | refine go_andV ?_ | refine go_orV ?_ | refine go_notV ?_)
  | ((with_reducible show rEq _ _ _ _); refine go_rEq rfl ?_)
  | ((with_reducible show rNe _ _ _ _); refine go_rNe rfl ?_)
  | (with_reducible first | refine go_un ?_ | refine go_chain ?_ | refine go_drop ?_ | refine go_retN ?_ | refine go_isN ?_ | refine go_notN ?_ | refine go_cont ?_ | refine go_break ?_ | refine go_par ?_ | refine go_two ?_ | refine go_part ?_ | refine go_noPart ?_ | refine go_int ?_ | refine go_sl ?_ | refine go_yes ?_ | refine go_tup ?_ | refine go_lst ?_)
  | (with_reducible first | refine go_gCons ?_ | refine go_gNil ?_ | refine go_for ?_ | refine go_iEnT ?_ | refine go_iEnum ?_ | refine go_iList ?_ | refine go_iTup ?_ | refine go_iStr ?_ | refine go_iRng1 ?_ | refine go_iRng2 ?_ | refine go_iZip ?_ | refine go_lc ?_ | refine go_mkR ?_ | refine go_mkS ?_ | refine go_clO ?_ | refine go_pr ?_ | refine go_sfld ?_ | refine go_bm ?_ | refine go_ref ?_)))
local macro_rules | `(tactic| walk_at "go") => `(tactic| ((repeat (walk_at "go1")); try dsimp only))
local macro_rules | `(tactic| walk_at "so") => `(tactic| first | omega | (simp; done) | (simp; omega) | (simp at *; omega))
section
variable {P : Program} {w : World} {K : PySem.W.Frag} {mg : Str → Option Value} {base : Heap} [PFa P FILE]
/-! people whose pace can change -/
/-- a worker: its kind, name, pace, two more numbers -/
structure Wk where
  k : Nat
  nm : Str
  pc : Int
  a : Int
  b : Int
def Wk.tk (W : Wk) (x : Int) : Int := if W.k = 1 then (if (1000 : Int) < W.pc + x / W.a * W.b then 1000 else W.pc + x / W.a * W.b) else if W.k = 2 then (if W.pc - x < W.a then W.a else W.pc - x) else if W.k = 3 then (if (x + 1) % W.a = 0 then W.pc + W.b else W.pc) else W.pc
structure Wk.Ok (W : Wk) : Prop where
  k3 : W.k ≤ 3
  nm : nmB W.nm = true
  p1 : 1 ≤ W.pc
  p2 : W.pc ≤ 1000
  a1 : 1 ≤ W.a
  a2 : W.a ≤ 1000
  b1 : 0 ≤ W.b
  b2 : W.b ≤ 1000
def clsW (K : PySem.W.Frag) (k : Nat) : Addr := if k = 1 then He.ga K "Tiring" else if k = 2 then He.ga K "Learning" else if k = 3 then He.ga K "Resting" else He.ga K "Worker"
def wf0 (z : Str) (p : Int) : List (Str × V) := putF "_pace" (.int p) (putF "name" (.str z) [])
def wf (W : Wk) : List (Str × V) := if W.k = 1 then putF "_extra" (.int W.b) (putF "_after" (.int W.a) (wf0 W.nm W.pc)) else if W.k = 2 then putF "_best" (.int W.a) (wf0 W.nm W.pc) else if W.k = 3 then putF "_rest" (.int W.b) (putF "_after" (.int W.a) (wf0 W.nm W.pc)) else wf0 W.nm W.pc
def WkAt (K : PySem.W.Frag) (H : Hp) (o : Addr) (W : Wk) : Prop := ∃ dx, H o = some (.ins (clsW K W.k) dx (wf W))
theorem WkAt.keep {K : PySem.W.Frag} {H H' : Hp} {o : Addr} {W : Wk} (h : WkAt K H o W) (s : Same H H') : WkAt K H' o W := h.imp fun _ e => s _ _ e
theorem tkW_3 (z : Str) (p a b x : Int) : Wk.tk ⟨3, z, p, a, b⟩ x = if (x + 1) % a = 0 then p + b else p := rfl
theorem wf0_n (z : Str) (p : Int) : (wf0 z p).lookup ("name" : Str) = some (.str z) := lk_ne (by decide +kernel) lk_eq
theorem wf0_p (z : Str) (p : Int) : (wf0 z p).lookup ("_pace" : Str) = some (.int p) := lk_eq
theorem wf0_t (z : Str) (p : Int) : (wf0 z p).lookup ("ticks_for" : Str) = none := lk_ne (by decide +kernel) (lk_ne (by decide +kernel) rfl)
theorem wf0_len (z : Str) (p : Int) : (wf0 z p).length ≤ 2 := by
  have h1 := putF_len "_pace" (.int p) (putF "name" (.str z) [])
  have h2 := putF_len "name" (.str z) []
  simp only [List.length_nil] at h2
  unfold wf0
  omega
theorem wf_n (W : Wk) : (wf W).lookup ("name" : Str) = some (.str W.nm) := by
  unfold wf
  split
  · exact lk_ne (by decide +kernel) (lk_ne (by decide +kernel) (wf0_n _ _))
  · split
    · exact lk_ne (by decide +kernel) (wf0_n _ _)
    · split
      · exact lk_ne (by decide +kernel) (lk_ne (by decide +kernel) (wf0_n _ _))
      · exact wf0_n _ _
theorem wf_p (W : Wk) : (wf W).lookup ("_pace" : Str) = some (.int W.pc) := by
  unfold wf
  split
  · exact lk_ne (by decide +kernel) (lk_ne (by decide +kernel) (wf0_p _ _))
  · split
    · exact lk_ne (by decide +kernel) (wf0_p _ _)
    · split
      · exact lk_ne (by decide +kernel) (lk_ne (by decide +kernel) (wf0_p _ _))
      · exact wf0_p _ _
theorem wf_t (W : Wk) : (wf W).lookup ("ticks_for" : Str) = none := by
  unfold wf
  split
  · exact lk_ne (by decide +kernel) (lk_ne (by decide +kernel) (wf0_t _ _))
  · split
    · exact lk_ne (by decide +kernel) (wf0_t _ _)
    · split
      · exact lk_ne (by decide +kernel) (lk_ne (by decide +kernel) (wf0_t _ _))
      · exact wf0_t _ _
def Crew (K : PySem.W.Frag) (H : Hp) (os : List Addr) (ws : List Wk) : Prop := os.length = ws.length ∧ ∀ (i : Nat) (o : Addr), os[i]? = some o → ∃ W, ws[i]? = some W ∧ WkAt K H o W
theorem Crew.keep {K : PySem.W.Frag} {H H' : Hp} {os : List Addr} {ws : List Wk} (h : Crew K H os ws) (s : Same H H') : Crew K H' os ws := ⟨h.1, fun i o e => (h.2 i o e).imp fun _ q => ⟨q.1, q.2.keep s⟩⟩
structure CrewOk (ws : List Wk) : Prop where
  ok : ∀ W ∈ ws, W.Ok
  nd : (ws.map Wk.nm).Nodup
  two : 2 ≤ ws.length
  most : ws.length ≤ 12
def spPart (K : PySem.W.Frag) : Sp := fun vs H Q _ => ∃ z : Str, vs = [.str z, .bl true] ∧ Q .non H
def spWInit (K : PySem.W.Frag) : Sp := fun vs H Q _ => ∃ (o C dx : Addr) (z : Str) (p : Int), vs = [.ref o, .str z, .int p] ∧ H o = some (.ins C dx []) ∧ Cls K C ∧ NoAttr K C "name" ∧ NoAttr K C "_pace" ∧ nmB z = true ∧ 1 ≤ p ∧ p ≤ 1000 ∧ ∀ H', FrD o H H' → H' o = some (.ins C dx (wf0 z p)) → Q .non H'
def spSubW (K : PySem.W.Frag) (k : Nat) : Sp := fun vs H Q _ => ∃ (o dx : Addr) (W : Wk), vs = (if k = 2 then [.ref o, .str W.nm, .int W.pc, .int W.a] else [.ref o, .str W.nm, .int W.pc, .int W.a, .int W.b]) ∧ H o = some (.ins (clsW K k) dx []) ∧ W.k = k ∧ W.Ok ∧ (k = 2 → W.a ≤ W.pc) ∧ ∀ H', FrD o H H' → WkAt K H' o W → Q .non H'
def spTks (K : PySem.W.Frag) (k : Nat) : Sp := fun vs H Q _ => ∃ (o : Addr) (W : Wk) (x : Int), vs = [.ref o, .int x] ∧ WkAt K H o W ∧ W.k = k ∧ W.Ok ∧ 0 ≤ x ∧ x ≤ 10 ^ 18 ∧ Q (.int (W.tk x)) H

theorem sc_check_part : FnScope ["part", "fits"] ["part", "fits"] (defScope s_check_part) := ⟨rfl, rfl, rfl, by decide +kernel, rfl, by decide +kernel, by decide +kernel⟩
theorem ok_check_part (T : Tx K mg) : Fx P w K mg base 1 (He.ga K "check_part") (spPart K) := by
  obtain ⟨fd, F⟩ := T.F_check_part
  have nd := sc_check_part.nd
  refine fx_of F sc_check_part (fun vs H Q E h => ?_) (fun _ _ _ _ _ _ us hl => match us, hl with | [_, _], _ => rfl) fun cdv A outer s H vs Q E hr h => ?_
  · obtain ⟨z, rfl, _⟩ := h
    rfl
  obtain ⟨z, rfl, h⟩ := h
  refine ⟨_, (pss_one (ps_if (pt_not (pt_val (pv 1))) (pss_one ps_never) pss_nil)), ?_⟩
  walk_at "go"
  refine iteF ?_
  walk_at "go"
  exact h

theorem sc_Workeru_initu : FnScope ["self", "name", "pace"] ["self", "name", "pace"] (defScope s_Workeru_initu) := ⟨rfl, rfl, rfl, by decide +kernel, rfl, by decide +kernel, by decide +kernel⟩
theorem ok_Workeru_initu (T : Tx K mg) (D_check_part : Fx P w K mg base 1 (He.ga K "check_part") (spPart K)) (D_is_name : Fx P w K mg base 1 (He.ga K "is_name") spIsName) (D_in_range : Fx P w K mg base 2 (He.ga K "in_range") spInRange) : Fx P w K mg base 5 (He.ma K (He.ga K "Worker") "__init__") (spWInit K) := by
  have K_check_part : PySem.W.keepIn K (.ref (He.ga K "check_part")) = true := T.F_check_part.elim fun _ q => q.kp
  have K_is_name : PySem.W.keepIn K (.ref (He.ga K "is_name")) = true := T.F_is_name.elim fun _ q => q.kp
  have K_in_range : PySem.W.keepIn K (.ref (He.ga K "in_range")) = true := T.F_in_range.elim fun _ q => q.kp
  obtain ⟨fd, F⟩ := T.F_Workeru_initu
  have nd := sc_Workeru_initu.nd
  refine fx_of F sc_Workeru_initu (fun vs H Q E h => ?_) (fun _ _ _ _ _ _ us hl => match us, hl with | [_, _, _], _ => rfl) fun cdv A outer s H vs Q E hr h => ?_
  · obtain ⟨o, C, dx, z, p, rfl, _⟩ := h
    rfl
  obtain ⟨o, C, dx, z, p, rfl, hO, cC, nN, nP, hz, hp1, hp2, h⟩ := h
  refine ⟨_, (pss_cons (ps_expr (pe_cl D_check_part hr K_check_part T.g_check_part passL (pa_cons pe_str (pa_cons (pe_cl D_is_name hr K_is_name T.g_is_name passL (pa_cons (pv 1) pa_nil)) pa_nil)))) (pss_cons (ps_expr (pe_cl D_check_part hr K_check_part T.g_check_part passL (pa_cons pe_str (pa_cons (pe_cl D_in_range hr K_in_range T.g_in_range passL (pa_cons (pv 2) (pa_cons pe_int (pa_cons (ClX.pe_cval (gR T.g_Line)) pa_nil)))) pa_nil)))) (pss_cons (ps_fld (pv 0) (pv 1) rfl) (pss_one (ps_fld (pv 0) (pv 2) rfl))))), ?_⟩
  walk_at "go"
  refine ⟨z, rfl, nmB_len hz, fun H1 s1 => ?_⟩
  refine ⟨"name", by rw [hz], ?_⟩
  walk_at "go"
  refine go_cval T.cc_MAX_PACE.rd T.cc_MAX_PACE.va.choose_spec ?_
  walk_at "go"
  refine ⟨p, 1, _, rfl, ?_⟩
  walk_at "go"
  refine ⟨"pace", by rw [decide_eq_true (show (1 : Int) ≤ p ∧ p ≤ 1000 from ⟨hp1, hp2⟩)], ?_⟩
  walk_at "go"
  refine ⟨o, _, dx, _, rfl, s1 _ _ hO, cC, nN, by decide, ?_⟩
  walk_at "go"
  refine ⟨o, _, dx, _, rfl, upd_same, cC, nP, putF_len1 _ _, ?_⟩
  exact h _ (((frd_same s1).trans frd_upd).trans frd_upd) upd_same

theorem sc_Tiringu_initu : SupS ["self", "name", "pace", "after", "extra"] (defScope s_Tiringu_initu) := ⟨rfl, rfl, rfl, by decide +kernel, by decide +kernel, by decide +kernel, by decide +kernel, rfl, rfl⟩
theorem ok_Tiringu_initu (T : Tx K mg) (D_Workeru_initu : Fx P w K mg base 5 (He.ma K (He.ga K "Worker") "__init__") (spWInit K)) (D_check_part : Fx P w K mg base 1 (He.ga K "check_part") (spPart K)) (D_in_range : Fx P w K mg base 2 (He.ga K "in_range") spInRange) : KFx P w K mg base 7 (He.ma K (He.ga K "Tiring") "__init__") 3 ["after", "extra"] (spSubW K 1) := by
  have K_check_part : PySem.W.keepIn K (.ref (He.ga K "check_part")) = true := T.F_check_part.elim fun _ q => q.kp
  have K_in_range : PySem.W.keepIn K (.ref (He.ga K "in_range")) = true := T.F_in_range.elim fun _ q => q.kp
  obtain ⟨fd, F⟩ := T.S_Tiring.sup (P := P)
  have nd := sc_Tiringu_initu.nd
  refine ⟨fd, ["self", "name", "pace", "after", "extra"], fn_supO F sc_Tiringu_initu rfl rfl T.m_super D_Workeru_initu (by decide) (fun _ => ⟨_, rfl⟩) (fun _ => rfl) (fun _ => rfl) (fun _ => rfl) (fun vs H Q E h => ?_) fun cda cc A outer s H vs Q E hr h => ?_, kbn_supO F fun _ _ _ _ _ _ _ us ws hl hm => match us, ws, hl, hm with | [_, _, _], [_, _], _, _ => rfl⟩
  · obtain ⟨o, dx, ⟨k, z, p, a, b⟩, rfl, hO, rfl, hW, _, h⟩ := h
    rfl
  obtain ⟨o, dx, ⟨k, z, p, a, b⟩, rfl, hO, rfl, hW, _, h⟩ := h
  refine ⟨_, _, (pa_cons (pv 1) (pa_cons (pv 2) pa_nil)), (pss_cons (ps_expr (pe_cl D_check_part hr K_check_part T.g_check_part passL (pa_cons pe_str (pa_cons (pe_cl D_in_range hr K_in_range T.g_in_range passL (pa_cons (pv 3) (pa_cons pe_int (pa_cons (gI T.c_MAX_AFTER) pa_nil)))) pa_nil)))) (pss_cons (ps_expr (pe_cl D_check_part hr K_check_part T.g_check_part passL (pa_cons pe_str (pa_cons (pe_cl D_in_range hr K_in_range T.g_in_range passL (pa_cons (pv 4) (pa_cons pe_int (pa_cons (gI T.c_MAX_MORE) pa_nil)))) pa_nil)))) (pss_cons (ps_fld (pv 0) (pv 3) rfl) (pss_one (ps_fld (pv 0) (pv 4) rfl))))), o, dx, _, rfl, hO, ?_⟩
  walk_at "go"
  refine ⟨o, _, dx, z, p, rfl, hO, T.cl_Tiring, T.no_Tiringname, T.no_Tiring_pace, hW.nm, hW.p1, hW.p2, fun H1 f1 h1 => ?_⟩
  walk_at "go"
  refine ⟨a, 1, _, rfl, ?_⟩
  walk_at "go"
  refine ⟨"after", by rw [decide_eq_true (show (1 : Int) ≤ a ∧ a ≤ 1000 from ⟨hW.a1, hW.a2⟩)], ?_⟩
  walk_at "go"
  refine ⟨b, 0, _, rfl, ?_⟩
  walk_at "go"
  refine ⟨"extra", by rw [decide_eq_true (show (0 : Int) ≤ b ∧ b ≤ 1000 from ⟨hW.b1, hW.b2⟩)], ?_⟩
  walk_at "go"
  refine ⟨o, _, dx, _, rfl, h1, T.cl_Tiring, T.no_Tiring_after, Nat.lt_of_le_of_lt (wf0_len _ _) (by decide), ?_⟩
  walk_at "go"
  refine ⟨o, _, dx, _, rfl, upd_same, T.cl_Tiring, T.no_Tiring_extra, Nat.lt_of_le_of_lt (putF_len _ _ _) (Nat.lt_of_le_of_lt (Nat.add_le_add_right (wf0_len _ _) 1) (by decide)), ?_⟩
  exact h _ ((f1.trans frd_upd).trans frd_upd) ⟨dx, upd_same⟩

theorem sc_Learningu_initu : SupS ["self", "name", "pace", "best"] (defScope s_Learningu_initu) := ⟨rfl, rfl, rfl, by decide +kernel, by decide +kernel, by decide +kernel, by decide +kernel, rfl, rfl⟩
theorem ok_Learningu_initu (T : Tx K mg) (D_Workeru_initu : Fx P w K mg base 5 (He.ma K (He.ga K "Worker") "__init__") (spWInit K)) (D_check_part : Fx P w K mg base 1 (He.ga K "check_part") (spPart K)) (D_in_range : Fx P w K mg base 2 (He.ga K "in_range") spInRange) : KFx P w K mg base 7 (He.ma K (He.ga K "Learning") "__init__") 3 ["best"] (spSubW K 2) := by
  have K_check_part : PySem.W.keepIn K (.ref (He.ga K "check_part")) = true := T.F_check_part.elim fun _ q => q.kp
  have K_in_range : PySem.W.keepIn K (.ref (He.ga K "in_range")) = true := T.F_in_range.elim fun _ q => q.kp
  obtain ⟨fd, F⟩ := T.S_Learning.sup (P := P)
  have nd := sc_Learningu_initu.nd
  refine ⟨fd, ["self", "name", "pace", "best"], fn_supO F sc_Learningu_initu rfl rfl T.m_super D_Workeru_initu (by decide) (fun _ => ⟨_, rfl⟩) (fun _ => rfl) (fun _ => rfl) (fun _ => rfl) (fun vs H Q E h => ?_) fun cda cc A outer s H vs Q E hr h => ?_, kbn_supO F fun _ _ _ _ _ _ _ us ws hl hm => match us, ws, hl, hm with | [_, _, _], [_], _, _ => rfl⟩
  · obtain ⟨o, dx, ⟨k, z, p, a, b⟩, rfl, hO, rfl, hW, hap, h⟩ := h
    rfl
  obtain ⟨o, dx, ⟨k, z, p, a, b⟩, rfl, hO, rfl, hW, hap, h⟩ := h
  refine ⟨_, _, (pa_cons (pv 1) (pa_cons (pv 2) pa_nil)), (pss_cons (ps_expr (pe_cl D_check_part hr K_check_part T.g_check_part passL (pa_cons pe_str (pa_cons (pe_cl D_in_range hr K_in_range T.g_in_range passL (pa_cons (pv 3) (pa_cons pe_int (pa_cons (pv 2) pa_nil)))) pa_nil)))) (pss_one (ps_fld (pv 0) (pv 3) rfl))), o, dx, _, rfl, hO, ?_⟩
  walk_at "go"
  refine ⟨o, _, dx, z, p, rfl, hO, T.cl_Learning, T.no_Learningname, T.no_Learning_pace, hW.nm, hW.p1, hW.p2, fun H1 f1 h1 => ?_⟩
  walk_at "go"
  refine ⟨a, 1, _, rfl, ?_⟩
  walk_at "go"
  refine ⟨"best", by rw [decide_eq_true (show (1 : Int) ≤ a ∧ a ≤ p from ⟨hW.a1, hap rfl⟩)], ?_⟩
  walk_at "go"
  refine ⟨o, _, dx, _, rfl, h1, T.cl_Learning, T.no_Learning_best, Nat.lt_of_le_of_lt (wf0_len _ _) (by decide), ?_⟩
  exact h _ (f1.trans frd_upd) ⟨dx, upd_same⟩

theorem sc_Restingu_initu : SupS ["self", "name", "pace", "after", "rest"] (defScope s_Restingu_initu) := ⟨rfl, rfl, rfl, by decide +kernel, by decide +kernel, by decide +kernel, by decide +kernel, rfl, rfl⟩
theorem ok_Restingu_initu (T : Tx K mg) (D_Workeru_initu : Fx P w K mg base 5 (He.ma K (He.ga K "Worker") "__init__") (spWInit K)) (D_check_part : Fx P w K mg base 1 (He.ga K "check_part") (spPart K)) (D_in_range : Fx P w K mg base 2 (He.ga K "in_range") spInRange) : KFx P w K mg base 7 (He.ma K (He.ga K "Resting") "__init__") 3 ["after", "rest"] (spSubW K 3) := by
  have K_check_part : PySem.W.keepIn K (.ref (He.ga K "check_part")) = true := T.F_check_part.elim fun _ q => q.kp
  have K_in_range : PySem.W.keepIn K (.ref (He.ga K "in_range")) = true := T.F_in_range.elim fun _ q => q.kp
  obtain ⟨fd, F⟩ := T.S_Resting.sup (P := P)
  have nd := sc_Restingu_initu.nd
  refine ⟨fd, ["self", "name", "pace", "after", "rest"], fn_supO F sc_Restingu_initu rfl rfl T.m_super D_Workeru_initu (by decide) (fun _ => ⟨_, rfl⟩) (fun _ => rfl) (fun _ => rfl) (fun _ => rfl) (fun vs H Q E h => ?_) fun cda cc A outer s H vs Q E hr h => ?_, kbn_supO F fun _ _ _ _ _ _ _ us ws hl hm => match us, ws, hl, hm with | [_, _, _], [_, _], _, _ => rfl⟩
  · obtain ⟨o, dx, ⟨k, z, p, a, b⟩, rfl, hO, rfl, hW, _, h⟩ := h
    rfl
  obtain ⟨o, dx, ⟨k, z, p, a, b⟩, rfl, hO, rfl, hW, _, h⟩ := h
  refine ⟨_, _, (pa_cons (pv 1) (pa_cons (pv 2) pa_nil)), (pss_cons (ps_expr (pe_cl D_check_part hr K_check_part T.g_check_part passL (pa_cons pe_str (pa_cons (pe_cl D_in_range hr K_in_range T.g_in_range passL (pa_cons (pv 3) (pa_cons pe_int (pa_cons (gI T.c_MAX_AFTER) pa_nil)))) pa_nil)))) (pss_cons (ps_expr (pe_cl D_check_part hr K_check_part T.g_check_part passL (pa_cons pe_str (pa_cons (pe_cl D_in_range hr K_in_range T.g_in_range passL (pa_cons (pv 4) (pa_cons pe_int (pa_cons (gI T.c_MAX_MORE) pa_nil)))) pa_nil)))) (pss_cons (ps_fld (pv 0) (pv 3) rfl) (pss_one (ps_fld (pv 0) (pv 4) rfl))))), o, dx, _, rfl, hO, ?_⟩
  walk_at "go"
  refine ⟨o, _, dx, z, p, rfl, hO, T.cl_Resting, T.no_Restingname, T.no_Resting_pace, hW.nm, hW.p1, hW.p2, fun H1 f1 h1 => ?_⟩
  walk_at "go"
  refine ⟨a, 1, _, rfl, ?_⟩
  walk_at "go"
  refine ⟨"after", by rw [decide_eq_true (show (1 : Int) ≤ a ∧ a ≤ 1000 from ⟨hW.a1, hW.a2⟩)], ?_⟩
  walk_at "go"
  refine ⟨b, 0, _, rfl, ?_⟩
  walk_at "go"
  refine ⟨"rest", by rw [decide_eq_true (show (0 : Int) ≤ b ∧ b ≤ 1000 from ⟨hW.b1, hW.b2⟩)], ?_⟩
  walk_at "go"
  refine ⟨o, _, dx, _, rfl, h1, T.cl_Resting, T.no_Resting_after, Nat.lt_of_le_of_lt (wf0_len _ _) (by decide), ?_⟩
  walk_at "go"
  refine ⟨o, _, dx, _, rfl, upd_same, T.cl_Resting, T.no_Resting_rest, Nat.lt_of_le_of_lt (putF_len _ _ _) (Nat.lt_of_le_of_lt (Nat.add_le_add_right (wf0_len _ _) 1) (by decide)), ?_⟩
  exact h _ ((f1.trans frd_upd).trans frd_upd) ⟨dx, upd_same⟩

theorem sc_Worker_ticks_for : FnScope ["self", "bucket"] ["self", "bucket"] (defScope s_Worker_ticks_for) := ⟨rfl, rfl, rfl, by decide +kernel, rfl, by decide +kernel, by decide +kernel⟩
theorem ok_Worker_ticks_for (T : Tx K mg) : Fx P w K mg base 1 (He.ma K (He.ga K "Worker") "ticks_for") (spTks K 0) := by
  obtain ⟨fd, F⟩ := T.F_Worker_ticks_for
  have nd := sc_Worker_ticks_for.nd
  refine fx_of F sc_Worker_ticks_for (fun vs H Q E h => ?_) (fun _ _ _ _ _ _ us hl => match us, hl with | [_, _], _ => rfl) fun cdv A outer s H vs Q E hr h => ?_
  · obtain ⟨o, ⟨k, z, p, a, b⟩, x, rfl, _⟩ := h
    rfl
  obtain ⟨o, ⟨k, z, p, a, b⟩, x, rfl, ⟨dx, hO⟩, rfl, hW, hx0, hx1, h⟩ := h
  refine ⟨_, (pss_one (ps_ret (pe_fld (pv 0) rfl))), ?_⟩
  walk_at "go"
  refine go_fld hO T.cl_Worker T.no_Worker_pace (wf0_p _ _) ?_
  exact h

theorem sc_Tiring_ticks_for : FnScope ["self", "bucket"] ["self", "bucket"] (defScope s_Tiring_ticks_for) := ⟨rfl, rfl, rfl, by decide +kernel, rfl, by decide +kernel, by decide +kernel⟩
theorem ok_Tiring_ticks_for (T : Tx K mg) : Fx P w K mg base 1 (He.ma K (He.ga K "Tiring") "ticks_for") (spTks K 1) := by
  obtain ⟨fd, F⟩ := T.F_Tiring_ticks_for
  have nd := sc_Tiring_ticks_for.nd
  refine fx_of F sc_Tiring_ticks_for (fun vs H Q E h => ?_) (fun _ _ _ _ _ _ us hl => match us, hl with | [_, _], _ => rfl) fun cdv A outer s H vs Q E hr h => ?_
  · obtain ⟨o, ⟨k, z, p, a, b⟩, x, rfl, _⟩ := h
    rfl
  obtain ⟨o, ⟨k, z, p, a, b⟩, x, rfl, ⟨dx, hO⟩, rfl, hW, hx0, hx1, h⟩ := h
  refine ⟨_, (pss_one (ps_ret (cB (call_min2 rfl) T.m_min (pa_cons (pe_op op_add (pe_fld (pv 0) rfl) (pe_op op_mul (pe_op op_fdivW (pv 1) (pe_fld (pv 0) rfl)) (pe_fld (pv 0) rfl))) (pa_cons (ClX.pe_cval (gR T.g_Line)) pa_nil))))), ?_⟩
  have ha1 : 1 ≤ a := hW.a1
  have ha2 : a ≤ 1000 := hW.a2
  walk_at "go"
  refine go_fld hO T.cl_Tiring T.no_Tiring_pace (lk_ne (by decide +kernel) (lk_ne (by decide +kernel) (wf0_p _ _))) ?_
  walk_at "go"
  refine go_fld hO T.cl_Tiring T.no_Tiring_after (lk_ne (by decide +kernel) lk_eq) ?_
  have hdv : CDivW x a := wide_div (b := 10) (by omega) (by omega) (by decide) (by decide)
  refine go_rI hdv ?_
  walk_at "go"
  refine go_fld hO T.cl_Tiring T.no_Tiring_extra (lk_eq) ?_
  walk_at "go"
  have hb2 : b ≤ 1000 := hW.b2
  have hb1 : 0 ≤ b := hW.b1
  have hml : CMul (x / a) b := .inr ⟨by omega, by omega⟩
  refine go_rI hml ?_
  refine go_rI0 ?_
  walk_at "go"
  refine go_cval T.cc_MAX_PACE.rd T.cc_MAX_PACE.va.choose_spec ?_
  walk_at "go"
  refine ⟨_, _, rfl, ?_⟩
  exact h

theorem sc_Learning_ticks_for : FnScope ["self", "bucket"] ["self", "bucket"] (defScope s_Learning_ticks_for) := ⟨rfl, rfl, rfl, by decide +kernel, rfl, by decide +kernel, by decide +kernel⟩
theorem ok_Learning_ticks_for (T : Tx K mg) : Fx P w K mg base 1 (He.ma K (He.ga K "Learning") "ticks_for") (spTks K 2) := by
  obtain ⟨fd, F⟩ := T.F_Learning_ticks_for
  have nd := sc_Learning_ticks_for.nd
  refine fx_of F sc_Learning_ticks_for (fun vs H Q E h => ?_) (fun _ _ _ _ _ _ us hl => match us, hl with | [_, _], _ => rfl) fun cdv A outer s H vs Q E hr h => ?_
  · obtain ⟨o, ⟨k, z, p, a, b⟩, x, rfl, _⟩ := h
    rfl
  obtain ⟨o, ⟨k, z, p, a, b⟩, x, rfl, ⟨dx, hO⟩, rfl, hW, hx0, hx1, h⟩ := h
  refine ⟨_, (pss_one (ps_ret (cB (call_max2 rfl) T.m_max (pa_cons (pe_op op_sub (pe_fld (pv 0) rfl) (pv 1)) (pa_cons (pe_fld (pv 0) rfl) pa_nil))))), ?_⟩
  walk_at "go"
  refine go_fld hO T.cl_Learning T.no_Learning_pace (lk_ne (by decide +kernel) (wf0_p _ _)) ?_
  walk_at "go"
  refine go_fld hO T.cl_Learning T.no_Learning_best (lk_eq) ?_
  walk_at "go"
  refine ⟨p - x, a, rfl, ?_⟩
  have e : (if a > p - x then a else p - x) = Wk.tk ⟨2, z, p, a, b⟩ x := rfl
  rw [e]
  exact h

theorem sc_Resting_ticks_for : FnScope ["self", "bucket", "is_last"] ["self", "bucket"] (defScope s_Resting_ticks_for) := ⟨rfl, rfl, rfl, by decide +kernel, rfl, by decide +kernel, by decide +kernel⟩
theorem ok_Resting_ticks_for (T : Tx K mg) : Fx P w K mg base 1 (He.ma K (He.ga K "Resting") "ticks_for") (spTks K 3) := by
  obtain ⟨fd, F⟩ := T.F_Resting_ticks_for
  have nd := sc_Resting_ticks_for.nd
  refine fx_of F sc_Resting_ticks_for (fun vs H Q E h => ?_) (fun _ _ _ _ _ _ us hl => match us, hl with | [_, _], _ => rfl) fun cdv A outer s H vs Q E hr h => ?_
  · obtain ⟨o, ⟨k, z, p, a, b⟩, x, rfl, _⟩ := h
    rfl
  obtain ⟨o, ⟨k, z, p, a, b⟩, x, rfl, ⟨dx, hO⟩, rfl, hW, hx0, hx1, h⟩ := h
  refine ⟨_, (pss_cons (ps_set (i := 2) nd rfl (Or.inl rfl) (pe_cmpR op_eq (pe_op op_mod (pe_op op_add (pv 1) pe_int) (pe_fld (pv 0) rfl)) pe_int (nomark _))) (pss_one (ps_ret (pe_ifExp (pt_val (pv 2)) (pe_op op_add (pe_fld (pv 0) rfl) (pe_fld (pv 0) rfl)) (pe_fld (pv 0) rfl))))), ?_⟩
  have ha1 : 1 ≤ a := hW.a1
  have ha2 : a ≤ 1000 := hW.a2
  walk_at "go"
  refine go_fld hO T.cl_Resting T.no_Resting_after (lk_ne (by decide +kernel) lk_eq) ?_
  walk_at "go"
  refine go_rI (show (0 : Int) < a by omega) ?_
  walk_at "go"
  have e : decide (V.int ((x + 1) % a) = V.int 0) = decide ((x + 1) % a = 0) := by simp
  rw [e]
  have ek := tkW_3 z p a b x
  by_cases hm : (x + 1) % a = 0
  · rw [if_pos hm] at ek
    rw [if_pos (decide_eq_true hm)]
    walk_at "go"
    refine go_fld hO T.cl_Resting T.no_Resting_pace (lk_ne (by decide +kernel) (lk_ne (by decide +kernel) (wf0_p _ _))) ?_
    walk_at "go"
    refine go_fld hO T.cl_Resting T.no_Resting_rest (lk_eq) ?_
    refine go_rI0 ?_
    rw [← ek]
    exact h
  · rw [if_neg hm] at ek
    rw [if_neg (by simpa using hm)]
    refine go_fld hO T.cl_Resting T.no_Resting_pace (lk_ne (by decide +kernel) (lk_ne (by decide +kernel) (wf0_p _ _))) ?_
    rw [← ek]
    exact h

end
end K
namespace K
open PySem PySem.Spec PyProof.Rows L2 Bk
local macro_rules | `(tactic| walk_at "go1") => `(tactic| (first
  | ((with_reducible show tVar _ _ _ _); refine go_var rfl ?_)
  | (with_reducible first | refine go_c ?_ | refine go_op ?_ | refine go_cons ?_ | refine go_nil ?_ | refine go_cb ?_ | refine go_cl ?_ | refine go_seq ?_ | refine go_asg ?_ | refine go_name ?_ | refine go_ifS ?_ | refine go_test ?_ | refine go_bl ?_)
  | (with_reducible first | refine go_rI0 ?_ | refine go_rU ?_ | refine go_ret ?_ | refine go_next ?_ | refine go_B ?_ | refine go_and ?_ | refine go_or ?_ | refine go_not ?_ | refine go_if ?_ | refine go_andV ?_ | refine go_orV ?_ | refine go_notV ?_)
  | ((with_reducible show rEq _ _ _ _); refine go_rEq rfl ?_)
  | ((with_reducible show rNe _ _ _ _); refine go_rNe rfl ?_)
  | (with_reducible first | refine go_un ?_ | refine go_chain ?_ | refine go_drop ?_ | refine go_retN ?_ | refine go_isN ?_ | refine go_notN ?_ | refine go_cont ?_ | refine go_break ?_ | refine go_par ?_ | refine go_two ?_ | refine go_part ?_ | refine go_noPart ?_ | refine go_int ?_ | refine go_sl ?_ | refine go_yes ?_ | refine go_tup ?_ | refine go_lst ?_)
  | (with_reducible first | refine go_gCons ?_ | refine go_gNil ?_ | refine go_for ?_ | refine go_iEnT ?_ | refine go_iEnum ?_ | refine go_iList ?_ | refine go_iTup ?_ | refine go_iStr ?_ | refine go_iRng1 ?_ | refine go_iRng2 ?_ | refine go_iZip ?_ | refine go_lc ?_ | refine go_mkR ?_ | refine go_mkS ?_ | refine go_clO ?_ | refine go_pr ?_ | refine go_sfld ?_ | refine go_bm ?_ | refine go_ref ?_)))
local macro_rules | `(tactic| walk_at "go") => `(tactic| ((repeat (walk_at "go1")); try dsimp only))
local macro_rules | `(tactic| walk_at "so") => `(tactic| first | omega | (simp; done) | (simp; omega) | (simp at *; omega))
section
variable {P : Program} {w : World} {K : PySem.W.Frag} {mg : Str → Option Value} {base : Heap} [PFa P FILE]
/-! lines of workers, played bucket by bucket -/
theorem clsW_at {K : PySem.W.Frag} {mg : Str → Option Value} (T : Tx K mg) {k : Nat} (h : k ≤ 3) : Cls K (clsW K k) ∧ NoAttr K (clsW K k) "name" := by
  match k, h with
  | 0, _ => exact ⟨T.cl_Worker, T.no_Workername⟩
  | 1, _ => exact ⟨T.cl_Tiring, T.no_Tiringname⟩
  | 2, _ => exact ⟨T.cl_Learning, T.no_Learningname⟩
  | 3, _ => exact ⟨T.cl_Resting, T.no_Restingname⟩
def spCW (K : PySem.W.Frag) : Sp := fun vs H Q _ => ∃ (a : Addr) (os : List Addr) (ws : List Wk), vs = [.ref a] ∧ H a = some (.lst (os.map V.ref)) ∧ Crew K H os ws ∧ CrewOk ws ∧ ∀ H', Same H H' → Q .non H'
/-- when the place before p hands over (p = 0: the first has it) -/
def hlE (es ds : List Int) : Nat → Int
  | 0 => es.getD 0 0
  | p + 1 => max (hlE es ds p) (es.getD (min (p + 1) (es.length - 1)) 0) + ds.getD p 0
def later (es ds : List Int) : List Int := (List.range ds.length).map fun p => hlE es ds (p + 1)
theorem later_len (es ds : List Int) : (later es ds).length = ds.length := by simp [later]
def spEA (K : PySem.W.Frag) : Sp := fun vs H Q _ => ∃ (a b : Addr) (es ds : List Int), vs = [.ref a, .ref b] ∧ H a = some (.lst (es.map V.int)) ∧ H b = some (.tup (ds.map V.int)) ∧ es.length = ds.length ∧ 1 ≤ ds.length ∧ ds.length ≤ 11 ∧ ∀ D H', Same H H' → H D = none → H' D = some (.lst ((later es ds).map V.int)) → Q (.ref D) H'
/-- the durations at bucket x -/
def psAt (ws : List Wk) (x : Nat) : List Pr := ws.map fun W => (W.nm, W.tk (x : Int))
def endsW (ws : List Wk) : Nat → List Int
  | 0 => List.replicate (ws.length - 1) 0
  | b + 1 => later (endsW ws b) (dsOf (psAt ws b))
theorem endsW_len (ws : List Wk) : ∀ b, (endsW ws b).length = ws.length - 1
  | 0 => by simp [endsW]
  | b + 1 => by simp [endsW, later_len, dsOf_len, psAt]
def plW (ws : List Wk) (j : Nat) : Int := (endsW ws (j + 1)).getD (ws.length - 2) 0
def plL (ws : List Wk) (n : Nat) : List V := (List.range n).map fun j => V.int (plW ws j)
def spPl (K : PySem.W.Frag) : SpG := fun vs H Q _ => ∃ (a : Addr) (os : List Addr) (ws : List Wk) (n : Nat), vs = [.ref a, .int n] ∧ H a = some (.lst (os.map V.ref)) ∧ Crew K H os ws ∧ CrewOk ws ∧ n ≤ 2000 ∧ ∀ H', Same H H' → Q (plL ws n) H'
def spTN (K : PySem.W.Frag) : Sp := fun vs H Q _ => ∃ (a : Addr) (os : List Addr) (ws : List Wk) (n : Nat), vs = [.ref a, .int n] ∧ H a = some (.lst (os.map V.ref)) ∧ Crew K H os ws ∧ CrewOk ws ∧ n ≤ 2000 ∧ ∀ H', Same H H' → Q (.int (if n = 0 then 0 else plW ws (n - 1))) H'
theorem max_if (i j : Int) : (if j > i then j else i) = max i j := by omega
theorem rows_ys {H : Hp} {ys : List V} {ps : List Pr} (hl : ys.length = ps.length) (h : ∀ (i : Nat) (y : V), ys[i]? = some y → ∃ (p : Pr) (t : Addr), ps[i]? = some p ∧ y = V.ref t ∧ H t = some (.tup [.str p.1, .int p.2])) : ∃ rs : List Addr, ys = rs.map V.ref ∧ Rows (fun _ => True) H rs ps := by
  refine ⟨ys.map fun y => match y with | .ref t => t | _ => 0, ?_, by simp [hl], fun i p hp => ?_⟩
  · rw [List.map_map]
    symm
    apply List.ext_getElem?
    intro i
    cases ei : ys[i]? with
    | none => simp [ei]
    | some y =>
      obtain ⟨p, t, _, rfl, _⟩ := h i y ei
      simp [ei]
  · have hi : i < ys.length := by
      have := (List.getElem?_eq_some_iff.mp hp).1
      omega
    obtain ⟨p', t, a1, a2, a6⟩ := h i ys[i] (by simp [hi])
    rw [hp] at a1
    cases a1
    refine ⟨t, ?_, trivial, a6⟩
    rw [List.getElem?_map, show ys[i]? = some ys[i] by simp [hi], a2]
    rfl
theorem tk_or {K : PySem.W.Frag} {H : Hp} {o : Addr} {W : Wk} {t : TA} {σ : L2.St} {x : Int} {Q : VK} {i : Nat} (hO : W.Ok) (hW : WkAt K H o W) (hv : σ[i]? = some (some (.ref o))) (ht : ∀ QA : List V → Hp → Prop, QA [.int x] H → t σ H QA) (h0 : 0 ≤ x) (h1 : x ≤ 10 ^ 18) (q : Q (.int (W.tk x)) H) :
    tMethR (He.ga K "Worker") "ticks_for" (spTks K 0) E0 (tVar i) t σ H Q ∨ tMethR (He.ga K "Tiring") "ticks_for" (spTks K 1) E0 (tVar i) t σ H Q ∨ tMethR (He.ga K "Learning") "ticks_for" (spTks K 2) E0 (tVar i) t σ H Q ∨ tMethR (He.ga K "Resting") "ticks_for" (spTks K 3) E0 (tVar i) t σ H Q := by
  have key : ∀ k, W.k = k → tMethR (clsW K k) "ticks_for" (spTks K k) E0 (tVar i) t σ H Q := by
    intro k hk
    obtain ⟨dx, ho⟩ := id hW
    rw [hk] at ho
    refine go_methR (go_var hv ⟨o, dx, _, rfl, ho, wf_t W, ?_⟩)
    refine ht _ ?_
    exact ⟨o, W, x, rfl, hW, hk, hO, h0, h1, q⟩
  match e : W.k, hO.k3 with
  | 0, _ => exact .inl (key 0 e)
  | 1, _ => exact .inr (.inl (key 1 e))
  | 2, _ => exact .inr (.inr (.inl (key 2 e)))
  | 3, _ => exact .inr (.inr (.inr (key 3 e)))
theorem Crew.at {K : PySem.W.Frag} {H : Hp} {os : List Addr} {ws : List Wk} (h : Crew K H os ws) {i : Nat} {y : V} (e : (os.map V.ref)[i]? = some y) : ∃ o W, y = .ref o ∧ ws[i]? = some W ∧ WkAt K H o W := by
  obtain ⟨o, ho, rfl⟩ := map_at e
  obtain ⟨W, h1, h2⟩ := h.2 i o ho
  exact ⟨o, W, rfl, h1, h2⟩

theorem sc_check_workers : FnScope ["workers", "names", "index", "name", "worker"] ["workers"] (defScope s_check_workers) := ⟨rfl, rfl, rfl, by decide +kernel, rfl, by decide +kernel, by decide +kernel⟩
theorem ok_check_workers (T : Tx K mg) : Fx P w K mg base 2 (He.ga K "check_workers") (spCW K) := by
  obtain ⟨fd, F⟩ := T.F_check_workers
  have nd := sc_check_workers.nd
  refine fx_of F sc_check_workers (fun vs H Q E h => ?_) (fun _ _ _ _ _ _ us hl => match us, hl with | [_], _ => rfl) fun cdv A outer s H vs Q E hr h => ?_
  · obtain ⟨a, os, ws, rfl, _⟩ := h
    rfl
  obtain ⟨a, os, ws, rfl, hA, hC, hO, h⟩ := h
  refine ⟨_, (pss_cons (ps_setLc (i := 1) (own := [("worker", 4)]) (g := (gName 4)) rfl nd rfl rfl (sw_true rfl rfl rfl (by decide +kernel)) (pi_list (pv 0)) (blkOk_by (N := ["workers", "names", "index", "name", "worker"]) (sc := defScope s_check_workers) (own := [("worker", 4)]) (by decide +kernel)) (fun _ _ _ _ _ => (pg_name (i := 4) nd rfl (Or.inl rfl))) (fun _ _ _ _ _ => pts_nil) (fun _ _ _ _ _ => (Bk.pe_fldK K (pv 4) rfl))) (pss_cons (ps_for PassesOwn.never rfl (pi_enum rfl T.m_enumerate (pa_cons (pv 1) pa_nil)) (pg_tup (by rfl) (pgs_cons (pg_name (i := 2) nd rfl (Or.inl rfl)) (pgs_cons (pg_name (i := 3) nd rfl (Or.inl rfl)) pgs_nil))) (pss_one (ps_if (PW.pt (pw_or (pt_cmpR op_ge (pv 2) (ClX.pe_cval (gR T.g_Line)) (nomark _)) (pw_or1 (pt_cmpR op_in_seq (pv 3) (pe_slice sl_list (pv 1) po_none (po_some (pv 2))) rfl)))) (pss_one ps_never) pss_nil))) (pss_one (ps_if (pt_cmpR op_lt (cB call_len_seq T.m_len (pa_cons (pv 1) pa_nil)) (gI T.c_MIN_PEOPLE) (nomark _)) (pss_one ps_never) pss_nil)))), ?_⟩
  have hlen := hC.1
  have hmost := hO.most
  have htwo := hO.two
  walk_at "go"
  refine ⟨⟨_, .inl (.inl hA)⟩, ?_⟩
  refine lc_fun (walk_list (xs := os.map V.ref)) (fun H2 s2 => .inl (.inl (s2 _ _ hA))) (fun i => .str ((ws.map Wk.nm).getD i ("" : Str))) (by simp; omega) ?_ ?_
  · rintro i x H2 H3 k hi s2 ⟨rfl, hx⟩ hk
    obtain ⟨o, W, rfl, hw, dx, ho⟩ := (hC.keep s2).at hx
    have hmem : W ∈ ws := List.mem_of_getElem? hw
    walk_at "go"
    refine ⟨rfl, ?_⟩
    have hcl := clsW_at T (hO.ok W hmem).k3
    refine go_fld ho hcl.1 hcl.2 (wf_n W) ?_
    have q := hk _ (Same.refl _)
    have e1 : (ws.map Wk.nm).getD i ("" : Str) = W.nm := by simp [List.getD, hw]
    rw [e1] at q
    exact q
  · intro D H2 hD s2 e2
    have e3 : H2 D = some (.lst ((ws.map Wk.nm).map V.str)) := by
      rw [e2]
      congr 2
      exact range_map (n := (os.map V.ref).length) (ws.map Wk.nm) V.str ("" : Str) (by simp; exact hlen)
    walk_at "go"
    refine ⟨_, _, rfl, .inl (.inl e3), ?_⟩
    refine for_w (walk_enum (xs := (ws.map Wk.nm).map V.str)) (fun i σ H' => Same H2 H' ∧ ∃ u1 u2, σ = [some (.ref a), some (.ref D), u1, u2, none]) ⟨Same.refl _, _, _, rfl⟩ (fun i σ H' _ p => .inl (.inl (p.1 _ _ e3))) ?_ ?_
    · rintro i x σ H3 H4 hi ⟨s3, u1, u2, rfl⟩ ⟨T', y1, y2, rfl, hT, rfl, e4, e5⟩
      obtain ⟨z, hz, rfl⟩ := map_at e5
      cases e4
      have s4 : Same H3 (upd H3 T' (.tup [V.int (i : Nat), V.str z])) := same_upd hT
      have hiw : i < ws.length := by
        have := (List.getElem?_eq_some_iff.mp hz).1
        simpa using this
      refine go_gTup (.inl (.inl upd_same)) rfl ?_
      walk_at "go"
      refine go_cval T.cc_MAX_PEOPLE.rd T.cc_MAX_PEOPLE.va.choose_spec ?_
      walk_at "go"
      rw [decide_eq_false (show ¬ (12 : Int) ≤ (i : Int) by omega)]
      refine iteF ?_
      walk_at "go"
      refine go_slL (.inl (.inl (s4 _ _ (s3 _ _ e3)))) fun q H6 s6 hq e6 => ?_
      walk_at "go"
      rw [cut_take, ← List.map_take] at e6
      refine go_inL (.inl (.inl (.inl e6))) ?_
      walk_at "go"
      have hn : z ∉ (ws.map Wk.nm).take i := by
        intro hm
        obtain ⟨j, hj, ej⟩ := List.mem_iff_getElem.mp hm
        simp only [List.length_take, List.length_map] at hj
        have h1 : (ws.map Wk.nm)[j]'(by rw [List.length_map]; omega) = (ws.map Wk.nm)[i]'(by rw [List.length_map]; omega) := by
          have h2 := (List.getElem?_eq_some_iff.mp hz).2
          rw [List.getElem_take] at ej
          rw [ej, h2]
        have := (List.getElem_inj hO.nd).mp h1
        omega
      rw [decide_eq_false hn]
      refine iteF ?_
      exact ⟨(s3.trans s4).trans s6, _, _, rfl⟩
    · rintro σ H3 ⟨s3, u1, u2, rfl⟩
      walk_at "go"
      refine ⟨_, _, rfl, .inl (.inl (.inl (s3 _ _ e3))), ?_⟩
      walk_at "go"
      rw [List.length_map, List.length_map, decide_eq_false (show ¬ ((ws.length : Nat) : Int) < 2 by omega)]
      refine iteF ?_
      exact h _ (s2.trans s3)

theorem sc_ends_after : FnScope ["ends", "durations", "held", "later", "place", "ticks", "freed"] ["ends", "durations"] (defScope s_ends_after) := ⟨rfl, rfl, rfl, by decide +kernel, rfl, by decide +kernel, by decide +kernel⟩
theorem ok_ends_after (T : Tx K mg) : Fx P w K mg base 1 (He.ga K "ends_after") (spEA K) := by
  obtain ⟨fd, F⟩ := T.F_ends_after
  have nd := sc_ends_after.nd
  refine fx_of F sc_ends_after (fun vs H Q E h => ?_) (fun _ _ _ _ _ _ us hl => match us, hl with | [_, _], _ => rfl) fun cdv A outer s H vs Q E hr h => ?_
  · obtain ⟨a, b, es, ds, rfl, _⟩ := h
    rfl
  obtain ⟨a, b, es, ds, rfl, hA, hB, hl, h1, h11, h⟩ := h
  refine ⟨_, (pss_cons (ps_set (i := 2) nd rfl (Or.inl rfl) (pe_ix (ixL K) (pv 0) pe_int (fun _ _ => rfl))) (pss_cons (ps_set (i := 3) nd rfl (Or.inl rfl) (pe_lst pa_nil)) (pss_cons (ps_for PassesOwn.never rfl (pi_enT T.m_enumerate (pa_cons (pv 1) pa_nil)) (pg_tup (by rfl) (pgs_cons (pg_name (i := 4) nd rfl (Or.inl rfl)) (pgs_cons (pg_name (i := 5) nd rfl (Or.inl rfl)) pgs_nil))) (pss_cons (ps_set (i := 6) nd rfl (Or.inl rfl) (pe_ix (ixL K) (pv 0) (cB (call_min2 rfl) T.m_min (pa_cons (pe_op op_add (pv 4) pe_int) (pa_cons (pe_op op_sub (cB call_len_seq T.m_len (pa_cons (pv 0) pa_nil)) pe_int) pa_nil))) (fun _ _ => rfl))) (pss_cons (ps_set (i := 2) nd rfl (Or.inl rfl) (pe_op op_add (cB (call_max2 rfl) T.m_max (pa_cons (pv 2) (pa_cons (pv 6) pa_nil))) (pv 5))) (pss_one (ps_expr (pe_bm PySem.F.plainAttrs_list PySem.F.slot_list_append PySem.F.type_list_append mt_append (pv 3) (pa_cons (pv 2) pa_nil))))))) (pss_one (ps_ret (pv 3)))))), ?_⟩
  walk_at "go"
  have he0 : es[0]? = some (hlE es ds 0) := by
    unfold hlE
    simp [List.getD, show 0 < es.length by omega]
  refine go_ixL (n := ((0 : Nat) : Int)) (.inl (.inl hA)) (at_nat (at_map he0)) ?_
  walk_at "go"
  refine ⟨Nat.zero_le _, fun L hL => ?_⟩
  have sL := same_upd (o := .lst []) hL
  generalize eH : upd H L (.lst []) = H1 at sL ⊢
  have eL : H1 L = some (.lst []) := by rw [← eH]; exact upd_same
  walk_at "go"
  refine ⟨_, _, rfl, .inl (.inl (sL _ _ hB)), ?_⟩
  refine for_w (walk_en (xs := ds.map V.int)) (fun i σ H' => Same H H' ∧ H' L = some (.lst (((List.range i).map fun p => hlE es ds (p + 1)).map V.int)) ∧ ∃ u4 u5 u6, σ = [some (.ref a), some (.ref b), some (.int (hlE es ds i)), some (.ref L), u4, u5, u6]) ⟨sL, eL, _, _, _, rfl⟩ (fun i σ H' _ p => .inl (.inl (p.1 _ _ hB))) ?_ ?_
  · rintro i x σ H3 H4 hi ⟨s3, e3, u4, u5, u6, rfl⟩ ⟨T', y1, y2, rfl, hT, rfl, e4, e5⟩
    obtain ⟨d, hd, rfl⟩ := map_at e5
    cases e4
    have s4 : Same H3 (upd H3 T' (.tup [V.int (i : Nat), V.int d])) := same_upd hT
    have hid : i < ds.length := (List.getElem?_eq_some_iff.mp hd).1
    refine go_gTup (.inl (.inl upd_same)) rfl ?_
    walk_at "go"
    refine ⟨_, _, rfl, .inl (.inl (.inl (s4 _ _ (s3 _ _ hA)))), ?_⟩
    walk_at "go"
    refine ⟨_, _, rfl, ?_⟩
    have e1 : (if ((es.map V.int).length : Int) - 1 < (i : Int) + 1 then ((es.map V.int).length : Int) - 1 else (i : Int) + 1) = ((min (i + 1) (es.length - 1) : Nat) : Int) := by
      rw [List.length_map]
      omega
    rw [e1]
    have e2 : es[min (i + 1) (es.length - 1)]? = some (es.getD (min (i + 1) (es.length - 1)) 0) := by
      simp [List.getD, show min (i + 1) (es.length - 1) < es.length by omega]
    refine go_ixL (.inl (.inl (s4 _ _ (s3 _ _ hA)))) (at_nat (at_map e2)) ?_
    walk_at "go"
    refine ⟨_, _, rfl, ?_⟩
    rw [max_if]
    walk_at "go"
    have ed : ds.getD i 0 = d := by rw [List.getD, hd]; rfl
    have eS : max (hlE es ds i) (es.getD (min (i + 1) (es.length - 1)) 0) + d = hlE es ds (i + 1) := by rw [← ed]; rfl
    rw [eS]
    walk_at "go"
    refine ⟨ty_lst (s4 _ _ e3), ?_⟩
    walk_at "go"
    refine ⟨L, _, _, rfl, rfl, s4 _ _ e3, ?_, ?_⟩
    · simp only [List.length_map, List.length_range]
      exact Nat.lt_of_lt_of_le (show i < 2000 by omega) (by decide)
    refine ⟨fun c o ec => ?_, ?_, _, _, _, rfl⟩
    · rw [upd_ne (fun z => by rw [z, hL] at ec; cases ec)]
      exact s4 _ _ (s3 _ _ ec)
    · rw [upd_same, List.range_succ, List.map_append, List.map_append]
      rfl
  · rintro σ H3 ⟨s3, e3, u4, u5, u6, rfl⟩
    walk_at "go"
    rw [List.length_map] at e3
    exact h L _ s3 hL e3

theorem sc_played : GScope ["workers", "count", "crew", "ends", "bucket", "people", "worker"] ["workers", "count"] (defScope s_played) := ⟨rfl, rfl, rfl, by decide +kernel, rfl, by decide +kernel, by decide +kernel⟩
theorem ok_played (T : Tx K mg) (D_check_workers : Fx P w K mg base 2 (He.ga K "check_workers") (spCW K)) (D_check_number : Fx P w K mg base 3 (He.ga K "check_number") spCheckNumber) (D_Worker_ticks_for : Fx P w K mg base 1 (He.ma K (He.ga K "Worker") "ticks_for") (spTks K 0)) (D_Tiring_ticks_for : Fx P w K mg base 1 (He.ma K (He.ga K "Tiring") "ticks_for") (spTks K 1)) (D_Learning_ticks_for : Fx P w K mg base 1 (He.ma K (He.ga K "Learning") "ticks_for") (spTks K 2)) (D_Resting_ticks_for : Fx P w K mg base 1 (He.ma K (He.ga K "Resting") "ticks_for") (spTks K 3)) (D_ends_after : Fx P w K mg base 1 (He.ga K "ends_after") (spEA K)) (D_durations_ofL : Fx P w K mg base 1 (He.ga K "durations_of") (spDurationsOfL K)) : GFx P w K mg base 4 (He.ga K "played") (spPl K) := by
  have K_check_workers : PySem.W.keepIn K (.ref (He.ga K "check_workers")) = true := T.F_check_workers.elim fun _ q => q.kp
  have K_check_number : PySem.W.keepIn K (.ref (He.ga K "check_number")) = true := T.F_check_number.elim fun _ q => q.kp
  have K_ends_after : PySem.W.keepIn K (.ref (He.ga K "ends_after")) = true := T.F_ends_after.elim fun _ q => q.kp
  have K_durations_of : PySem.W.keepIn K (.ref (He.ga K "durations_of")) = true := T.F_durations_of.elim fun _ q => q.kp
  obtain ⟨fd, F⟩ := T.F_played
  have nd := sc_played.nd
  refine gfx_of F sc_played (fun vs H Q E h => ?_) (fun _ _ _ _ _ _ us hl => match us, hl with | [_, _], _ => rfl) fun cdv A outer s H vs Q E pn hr h => ?_
  · obtain ⟨a, os, ws, n, rfl, _⟩ := h
    rfl
  obtain ⟨a, os, ws, n, rfl, hA, hC, hO, hn, h⟩ := h
  refine ⟨_, (gss_cons (gs_ps (ps_set (i := 2) nd rfl (Or.inl rfl) (cT call_list_of T.m_list (pa_cons (pv 0) pa_nil)))) (gss_cons (gs_ps (ps_expr (pe_cl D_check_workers hr K_check_workers T.g_check_workers passL (pa_cons (pv 2) pa_nil)))) (gss_cons (gs_ps (ps_expr (pe_cl D_check_number hr K_check_number T.g_check_number passL (pa_cons (pv 1) (pa_cons pe_int (pa_cons (gI T.c_MAX_PLAYED) pa_nil)))))) (gss_cons (gs_ps (ps_set (i := 3) nd rfl (Or.inl rfl) (pe_op op_rep (pe_lst (pa_cons pe_int pa_nil)) (pe_op op_sub (cB call_len_seq T.m_len (pa_cons (pv 2) pa_nil)) pe_int)))) (gss_cons (gs_for PassesOwn.never rfl (pi_range1 rfl T.m_range (pa_cons (pv 1) pa_nil)) (pg_name (i := 4) nd rfl (Or.inr rfl)) (gss_cons (gs_ps (ps_setLc (i := 5) (own := [("worker", 6)]) (g := (gName 6)) rfl nd rfl rfl (sw_true rfl rfl rfl (by decide +kernel)) (pi_list (pv 2)) (blkOk_by (N := ["workers", "count", "crew", "ends", "bucket", "people", "worker"]) (sc := defScope s_played) (own := [("worker", 6)]) (by decide +kernel)) (fun _ _ _ _ _ => (pg_name (i := 6) nd rfl (Or.inl rfl))) (fun _ _ _ _ _ => pts_nil) (fun _ _ _ _ _ => (pe_tup (pa_cons (Bk.pe_fldK K (pv 6) rfl) (pa_cons (pe_or4 (pe_methR (pv 6) T.cl_Worker T.me_Worker_ticks_for D_Worker_ticks_for (hr.mono (by decide)) passL (pa_cons (pv 4) pa_nil)) (pe_methR (pv 6) T.cl_Tiring T.me_Tiring_ticks_for D_Tiring_ticks_for (hr.mono (by decide)) passL (pa_cons (pv 4) pa_nil)) (pe_methR (pv 6) T.cl_Learning T.me_Learning_ticks_for D_Learning_ticks_for (hr.mono (by decide)) passL (pa_cons (pv 4) pa_nil)) (pe_methR (pv 6) T.cl_Resting T.me_Resting_ticks_for D_Resting_ticks_for (hr.mono (by decide)) passL (pa_cons (pv 4) pa_nil))) pa_nil)))))) (gss_cons (gs_ps (ps_set (i := 3) nd rfl (Or.inl rfl) (pe_cl D_ends_after hr K_ends_after T.g_ends_after passL (pa_cons (pv 3) (pa_cons (pe_cl D_durations_ofL hr K_durations_of T.g_durations_of passL (pa_cons (pv 5) pa_nil)) pa_nil))))) (gss_cons (gs_yield (pe_ix (ixL K) (pv 3) (pe_un un_neg pe_int) (fun _ _ => rfl))) gss_nil)))) gss_nil))))), ?_⟩
  have htwo := hO.two
  have hmost := hO.most
  refine go_gthen (go_gplain ?_)
  walk_at "go"
  refine ⟨_, _, rfl, .inl (.inl (.inl hA)), fun l hl => ?_⟩
  have sl := same_upd (o := .lst (os.map V.ref)) hl
  generalize eH : upd H l (.lst (os.map V.ref)) = H1 at sl ⊢
  have el : H1 l = some (.lst (os.map V.ref)) := by rw [← eH]; exact upd_same
  refine go_gthen (go_gplain ?_)
  walk_at "go"
  refine ⟨l, os, ws, rfl, el, hC.keep sl, hO, fun H2 s2 => ?_⟩
  refine go_gthen (go_gplain ?_)
  walk_at "go"
  refine ⟨_, _, _, rfl, by omega, by omega, ?_⟩
  refine go_gthen (go_gplain ?_)
  walk_at "go"
  refine ⟨by decide, fun z0 hz0 => ?_⟩
  have sz := same_upd (o := .lst [V.int 0]) hz0
  walk_at "go"
  refine ⟨_, _, rfl, .inl (.inl (.inl (sz _ _ (s2 _ _ el)))), ?_⟩
  walk_at "go"
  rw [List.length_map, hC.1]
  refine ⟨z0, _, _, rfl, rfl, upd_same, by omega, by omega, ?_, fun E0a hE0 => ?_⟩
  · show 1 * _ ≤ _
    exact Nat.le_trans (show 1 * ((ws.length : Int) - 1).toNat ≤ 100 by omega) (by decide)
  have erep : (List.replicate ((ws.length : Int) - 1).toNat [V.int 0]).flatten = (endsW ws 0).map V.int := by
    rw [show ((ws.length : Int) - 1).toNat = ws.length - 1 by omega]
    unfold endsW
    generalize ws.length - 1 = m
    induction m with
    | zero => rfl
    | succ m ih => rw [List.replicate_succ, List.replicate_succ, List.flatten_cons, ih]; rfl
  rw [erep]
  have sE := same_upd (o := .lst ((endsW ws 0).map V.int)) hE0
  have sb : Same H1 (upd (upd H2 z0 (.lst [V.int 0])) E0a (.lst ((endsW ws 0).map V.int))) := (s2.trans sz).trans sE
  generalize eHb : upd (upd H2 z0 (.lst [V.int 0])) E0a (.lst ((endsW ws 0).map V.int)) = Hb at sb ⊢
  have eE : Hb E0a = some (.lst ((endsW ws 0).map V.int)) := by rw [← eHb]; exact upd_same
  walk_at "go"
  refine go_gthen ?_
  unfold tGFor
  refine go_iRng1 ?_
  walk_at "go"
  refine ⟨_, rfl, by omega, by omega, ?_⟩
  rw [show ((n : Nat) : Int).toNat = n by omega]
  refine for_wG (walk_range (lo := 0) (n := n)) (fun i ys σ H' => Same Hb H' ∧ ys = plL ws i ∧ ∃ Ea u4 u5, H' Ea = some (.lst ((endsW ws i).map V.int)) ∧ σ = [some (.ref a), some (.int n), some (.ref l), some (.ref Ea), u4, u5, none]) ⟨Same.refl _, rfl, _, _, _, eE, rfl⟩ (fun _ _ _ _ _ _ => trivial) ?_ ?_
  · rintro i x ys σ Ha Hc hi ⟨s1, rfl, Ea, u4, u5, eEa, rfl⟩ ⟨rfl, rfl⟩
    dsimp only
    rw [Int.zero_add]
    refine go_gthen (go_gplain ?_)
    walk_at "go"
    refine ⟨⟨_, .inl (.inl (s1 _ _ (sb _ _ el)))⟩, ?_⟩
    have hCa := (hC.keep sl).keep (sb.trans s1)
    refine lc_gen (walk_list (xs := os.map V.ref)) (fun H3 s3 => .inl (.inl (s3 _ _ (s1 _ _ (sb _ _ el))))) (fun D j y H => ∃ (p : Pr) (t : Addr), (psAt ws i)[j]? = some p ∧ y = V.ref t ∧ t ≠ D ∧ H t = some (.tup [.str p.1, .int p.2])) (fun D j y H3 H4 f ⟨p, t, a1, a2, a3, a4⟩ => ⟨p, t, a1, a2, a3, f _ _ a3 a4⟩) (by simp; rw [hC.1]; omega) ?_ ?_
    · rintro D j x H3 H4 k hD hj s3 ⟨oD, hoD⟩ ⟨rfl, hx⟩ hk
      obtain ⟨o, W, rfl, hw, hWA⟩ := (hCa.keep s3).at hx
      have hmem : W ∈ ws := List.mem_of_getElem? hw
      obtain ⟨dx, ho⟩ := id hWA
      have hcl := clsW_at T (hO.ok W hmem).k3
      walk_at "go"
      refine ⟨rfl, ?_⟩
      walk_at "go"
      refine go_fld ho hcl.1 hcl.2 (wf_n W) ?_
      walk_at "go"
      refine tk_or (x := (i : Int)) (hO.ok W hmem) hWA rfl (fun QA h => go_cons (go_var rfl (go_nil h))) (by omega) (by omega) ?_
      walk_at "go"
      refine ⟨show 2 ≤ sizeLine by decide, fun q hq => hk _ _ (same_upd hq) ⟨(W.nm, W.tk (i : Int)), q, ?_, rfl, fun z => ?_, upd_same⟩⟩
      · unfold psAt
        rw [List.getElem?_map, hw]
        rfl
      · rw [z, hoD] at hq
        cases hq
    · intro D ys H3 hD s3 e3 hly hy
      obtain ⟨rs, rfl, hR⟩ := rows_ys (ps := psAt ws i) (by simp [psAt]; rw [hly, List.length_map, hC.1]) fun j y ej => (hy j y ej).imp fun p q => q.imp fun t r => ⟨r.1, r.2.1, r.2.2.2⟩
      walk_at "go"
      refine go_gthen (go_gplain ?_)
      walk_at "go"
      refine ⟨fun _ => True, D, rs, psAt ws i, rfl, .inl (.inl e3), hR, by simp [psAt]; omega, fun b H4 s4 _ eb => ?_⟩
      walk_at "go"
      have hdl : (dsOf (psAt ws i)).length = ws.length - 1 := by rw [dsOf_len]; simp [psAt]
      refine ⟨Ea, b, endsW ws i, dsOf (psAt ws i), rfl, s4 _ _ (s3 _ _ eEa), eb, by rw [endsW_len, hdl], by omega, by omega, fun E2 H5 s5 _ eE2 => ?_⟩
      walk_at "go"
      refine go_gthen (go_gyield (Nat.lt_of_le_of_lt (show _ ≤ 20000 by simp [plL]; omega) (by decide)) ?_)
      walk_at "go"
      have hE2 : (endsW ws (i + 1)).length = ws.length - 1 := endsW_len ws (i + 1)
      have hg : (endsW ws (i + 1))[ws.length - 2]? = some (plW ws i) := by
        unfold plW
        simp [List.getD, show ws.length - 2 < (endsW ws (i + 1)).length by omega]
      have hneg : atI ((endsW ws (i + 1)).map V.int) (-((1 : Nat) : Int)) = some (.int (plW ws i)) := at_neg (by omega) (by simp; omega) (by rw [List.length_map, hE2, show ws.length - 1 - 1 = ws.length - 2 by omega]; exact at_map hg)
      refine go_ixL (.inl (.inl eE2)) hneg ?_
      refine ⟨((s1.trans s3).trans s4).trans s5, ?_, _, _, _, eE2, rfl⟩
      simp [plL, List.range_succ]
  · rintro ys σ Ha ⟨s1, rfl, Ea, u4, u5, eEa, rfl⟩
    exact h Ha ((sl.trans sb).trans s1)

theorem sc_ticks_needed : FnScope ["workers", "count", "ticks"] ["workers", "count"] (defScope s_ticks_needed) := ⟨rfl, rfl, rfl, by decide +kernel, rfl, by decide +kernel, by decide +kernel⟩
theorem ok_ticks_needed (T : Tx K mg) (D_played : GFx P w K mg base 4 (He.ga K "played") (spPl K)) : Fx P w K mg base 9 (He.ga K "ticks_needed") (spTN K) := by
  have K_played : PySem.W.keepIn K (.ref (He.ga K "played")) = true := T.F_played.elim fun _ q => q.kp
  obtain ⟨fd, F⟩ := T.F_ticks_needed
  have nd := sc_ticks_needed.nd
  refine fx_of F sc_ticks_needed (fun vs H Q E h => ?_) (fun _ _ _ _ _ _ us hl => match us, hl with | [_, _], _ => rfl) fun cdv A outer s H vs Q E hr h => ?_
  · obtain ⟨a, os, ws, n, rfl, _⟩ := h
    rfl
  obtain ⟨a, os, ws, n, rfl, hA, hC, hO, hn, h⟩ := h
  refine ⟨_, (pss_cons (ps_set (i := 2) nd rfl (Or.inl rfl) (pe_genF D_played hr K_played T.g_played (pa_cons (pv 0) (pa_cons (pv 1) pa_nil)) rfl T.m_list)) (pss_one (ps_ret (pe_ifExp (pt_truth (pv 2) (by intro _; rfl)) (pe_ix (ixL K) (pv 2) (pe_un un_neg pe_int) (fun _ _ => rfl)) pe_int)))), ?_⟩
  walk_at "go"
  unfold tGenF
  walk_at "go"
  refine ⟨a, os, ws, n, rfl, hA, hC, hO, hn, fun H1 s1 q hq => ?_⟩
  have sq := same_upd (o := .lst (plL ws n)) hq
  walk_at "go"
  refine ⟨!(plL ws n).isEmpty, .inl ⟨_, .inl (.inl upd_same), rfl⟩, ?_⟩
  by_cases h0 : n = 0
  · subst h0
    rw [if_pos rfl] at h
    refine iteF ?_
    walk_at "go"
    exact h _ (s1.trans sq)
  · rw [if_neg h0] at h
    have hne : (!(plL ws n).isEmpty) = true := by
      cases n with
      | zero => exact absurd rfl h0
      | succ m => simp [plL, List.range_succ]
    rw [hne]
    refine iteT ?_
    walk_at "go"
    have hneg : atI (plL ws n) (-((1 : Nat) : Int)) = some (.int (plW ws (n - 1))) := at_neg (by omega) (by simp [plL]; omega) (by
      have hl : (plL ws n).length = n := by simp [plL]
      rw [hl]
      simp [plL, show n - 1 < n by omega])
    refine go_ixL (n := -((1 : Nat) : Int)) (.inl (.inl upd_same)) hneg ?_
    exact h _ (s1.trans sq)

end
end K
namespace K
open PySem PySem.Spec PyProof.Rows L2 Bk
local macro_rules | `(tactic| walk_at "go1") => `(tactic| (first
  | ((with_reducible show tVar _ _ _ _); refine go_var rfl ?_)
  | (with_reducible first | refine go_c ?_ | refine go_op ?_ | refine go_cons ?_ | refine go_nil ?_ | refine go_cb ?_ | refine go_cl ?_ | refine go_seq ?_ | refine go_asg ?_ | refine go_name ?_ | refine go_ifS ?_ | refine go_test ?_ | refine go_bl ?_)
  | (with_reducible first | refine go_rI0 ?_ | refine go_rU ?_ | refine go_ret ?_ | refine go_next ?_ | refine go_B ?_ | refine go_and ?_ | refine go_or ?_ | refine go_not ?_ | refine go_if ?_ | refine go_andV ?_ | refine go_orV ?_ | refine go_notV ?_)
  | ((with_reducible show rEq _ _ _ _); refine go_rEq rfl ?_)
  | ((with_reducible show rNe _ _ _ _); refine go_rNe rfl ?_)
  | (with_reducible first | refine go_un ?_ | refine go_chain ?_ | refine go_drop ?_ | refine go_retN ?_ | refine go_isN ?_ | refine go_notN ?_ | refine go_cont ?_ | refine go_break ?_ | refine go_par ?_ | refine go_two ?_ | refine go_part ?_ | refine go_noPart ?_ | refine go_int ?_ | refine go_sl ?_ | refine go_yes ?_ | refine go_tup ?_ | refine go_lst ?_)
  | (with_reducible first | refine go_gCons ?_ | refine go_gNil ?_ | refine go_for ?_ | refine go_iEnT ?_ | refine go_iEnum ?_ | refine go_iList ?_ | refine go_iTup ?_ | refine go_iStr ?_ | refine go_iRng1 ?_ | refine go_iRng2 ?_ | refine go_iZip ?_ | refine go_lc ?_ | refine go_mkR ?_ | refine go_mkS ?_ | refine go_clO ?_ | refine go_pr ?_ | refine go_sfld ?_ | refine go_bm ?_ | refine go_ref ?_)))
local macro_rules | `(tactic| walk_at "go") => `(tactic| ((repeat (walk_at "go1")); try dsimp only))
local macro_rules | `(tactic| walk_at "so") => `(tactic| first | omega | (simp; done) | (simp; omega) | (simp at *; omega))
section
variable {P : Program} {w : World} {K : PySem.W.Frag} {mg : Str → Option Value} {base : Heap} [PFa P FILE]
/-! mathematics of rows -/
theorem Wk.Ok.tk0 {W : Wk} (h : W.Ok) {x : Int} (hx : 0 ≤ x) : 0 ≤ W.tk x ∧ W.tk x ≤ 2000 := by
  have h1 := h.p1
  have h2 := h.p2
  have h3 := h.a1
  have h4 := h.a2
  have h5 := h.b1
  have h6 := h.b2
  have h7 : 0 ≤ x / W.a * W.b := Int.mul_nonneg (Int.ediv_nonneg hx (by omega)) h5
  unfold Wk.tk
  generalize x / W.a * W.b = y at h7 ⊢
  split
  · split <;> omega
  · split
    · split <;> omega
    · split
      · split <;> omega
      · omega
theorem psAt_len (ws : List Wk) (x : Nat) : (psAt ws x).length = ws.length := by simp [psAt]
theorem dsW_len (ws : List Wk) (x : Nat) : (dsOf (psAt ws x)).length = ws.length - 1 := by rw [dsOf_len, psAt_len]
theorem dsW_at {ws : List Wk} {x k : Nat} {U W : Wk} (h1 : ws[k]? = some U) (h2 : ws[k + 1]? = some W) : (dsOf (psAt ws x)).getD k 0 = max (U.tk (x : Int)) (W.tk (x : Int)) := by
  have := dsOf_at (psAt ws x) k (U.nm, U.tk (x : Int)) (W.nm, W.tk (x : Int)) (by unfold psAt; rw [List.getElem?_map, h1]; rfl) (by unfold psAt; rw [List.getElem?_map, h2]; rfl)
  rw [List.getD, this]
  rfl
theorem dsW_nn {ws : List Wk} (h : CrewOk ws) (x k : Nat) : 0 ≤ (dsOf (psAt ws x)).getD k 0 := by
  by_cases hk : k + 1 < ws.length
  · have e1 : ws[k]? = some ws[k] := by simp [show k < ws.length by omega]
    have e2 : ws[k + 1]? = some ws[k + 1] := by simp [hk]
    rw [dsW_at e1 e2]
    have := (h.ok _ (List.mem_of_getElem? e1)).tk0 (x := (x : Int)) (by omega)
    omega
  · rw [List.getD, List.getElem?_eq_none (by rw [dsW_len]; omega)]
    exact Int.le_refl _
theorem hlE_ge (es ds : List Int) (hd : ∀ i, 0 ≤ ds.getD i 0) (p : Nat) : es.getD (min p (es.length - 1)) 0 ≤ hlE es ds p := by
  cases p with
  | zero => rw [Nat.zero_min]; exact Int.le_refl _
  | succ p =>
    have := hd p
    unfold hlE
    omega
def RowW (ws : List Wk) (b p : Nat) : Int := hlE (endsW ws b) (dsOf (psAt ws b)) p
def dW (ws : List Wk) (b k : Nat) : Int := (dsOf (psAt ws b)).getD k 0
theorem RowW_s (ws : List Wk) (b k : Nat) : RowW ws b (k + 1) = max (RowW ws b k) ((endsW ws b).getD (min (k + 1) (ws.length - 1 - 1)) 0) + dW ws b k := by
  unfold RowW dW
  rw [hlE, endsW_len]
theorem ends_is (ws : List Wk) (b k : Nat) (hk : k + 1 < ws.length) : (endsW ws (b + 1)).getD k 0 = RowW ws b (k + 1) := by
  show (later _ _).getD k 0 = _
  unfold later RowW
  rw [dsW_len, List.getD, List.getElem?_map, List.getElem?_range (by omega)]
  rfl
theorem ends_0 (ws : List Wk) (k : Nat) : (endsW ws 0).getD k 0 = 0 := by
  unfold endsW
  rw [List.getD, List.getElem?_replicate]
  split <;> rfl
theorem RowW_00 (ws : List Wk) : RowW ws 0 0 = 0 := ends_0 ws 0
theorem RowW_s0 {ws : List Wk} (h : 2 ≤ ws.length) (b : Nat) : RowW ws (b + 1) 0 = RowW ws b 1 := ends_is ws b 0 (by omega)
theorem RowW_nn {ws : List Wk} (h : CrewOk ws) (k : Nat) : 0 ≤ RowW ws 0 k := by
  induction k with
  | zero => rw [RowW_00]; exact Int.le_refl _
  | succ k ih =>
    have := dsW_nn h 0 k
    rw [RowW_s]
    unfold dW
    omega
theorem RowW_0 {ws : List Wk} (h : CrewOk ws) (k : Nat) : RowW ws 0 (k + 1) = RowW ws 0 k + dW ws 0 k := by
  have := RowW_nn h k
  rw [RowW_s, ends_0]
  omega
theorem RowW_m {ws : List Wk} (b k : Nat) (hk : k + 2 < ws.length) : RowW ws (b + 1) (k + 1) = max (RowW ws (b + 1) k) (RowW ws b (k + 2)) + dW ws (b + 1) k := by
  rw [RowW_s, show min (k + 1) (ws.length - 1 - 1) = k + 1 by omega, ends_is ws b (k + 1) (by omega)]
theorem RowW_l {ws : List Wk} (h : CrewOk ws) (b k : Nat) (hk : k + 2 = ws.length) : RowW ws b (k + 1) = RowW ws b k + dW ws b k := by
  have := hlE_ge (endsW ws b) (dsOf (psAt ws b)) (dsW_nn h b) k
  rw [endsW_len] at this
  rw [RowW_s, show min (k + 1) (ws.length - 1 - 1) = min k (ws.length - 1 - 1) by omega]
  unfold RowW
  omega
theorem plW_is {ws : List Wk} (h : 2 ≤ ws.length) (b : Nat) : plW ws b = RowW ws b (ws.length - 1) := by
  unfold plW
  rw [ends_is ws b _ (by omega), show ws.length - 2 + 1 = ws.length - 1 by omega]
/-- people whose pace does not change -/
def stW (p : Pr) : Wk := ⟨0, p.1, p.2, 1, 0⟩
theorem stW_ps (ps : List Pr) (x : Nat) : psAt (ps.map stW) x = ps := by
  unfold psAt
  rw [List.map_map]
  exact List.map_id _
theorem stW_crew {ps : List Pr} (g : Good ps) : CrewOk (ps.map stW) := by
  refine ⟨fun W hW => ?_, ?_, by simpa using g.two, by simpa using g.most⟩
  · obtain ⟨p, hp, rfl⟩ := List.mem_map.mp hW
    have := g.pc p hp
    exact ⟨Nat.zero_le _, g.nm p hp, this.1, this.2, (by decide : (1 : Int) ≤ 1), (by decide : (1 : Int) ≤ 1000), (by decide : (0 : Int) ≤ 0), (by decide : (0 : Int) ≤ 1000)⟩
  · rw [List.map_map]
    exact g.nd
theorem stW_row {ps : List Pr} (g : Good ps) : ∀ b k, k + 1 ≤ ps.length → RowW (ps.map stW) b k = Cm (dsOf ps) b k := by
  have hc := stW_crew g
  have h2 := g.two
  have hl : (ps.map stW).length = ps.length := by simp
  have hdl := dsOf_len ps
  have hd : ∀ i, 0 ≤ dd (dsOf ps) i ∧ dd (dsOf ps) i ≤ 1000 := dd_bd g.ds
  have ed : ∀ b k, dW (ps.map stW) b k = dd (dsOf ps) k := fun b k => by unfold dW; rw [stW_ps]; rfl
  intro b
  induction b with
  | zero =>
    intro k
    induction k with
    | zero => intro _; rw [RowW_00, Cm_00]
    | succ k ih =>
      intro hk
      rw [RowW_0 hc, ih (by omega), ed, held_0]
  | succ b ihb =>
    intro k
    induction k with
    | zero =>
      intro _
      rw [RowW_s0 (by omega), ihb 1 (by omega), Cm_0]
    | succ k ih =>
      intro hk
      by_cases c : k + 2 < ps.length
      · rw [RowW_m b k (by omega), ih (by omega), ihb (k + 2) (by omega), ed, held_s hd b k (by omega)]
      · rw [RowW_l hc (b + 1) k (by omega), ih (by omega), ed, held_l hd b k (by omega)]

end
end K
namespace K
open PySem PySem.Spec PyProof.Rows L2 Bk
local macro_rules | `(tactic| walk_at "go1") => `(tactic| (first
  | ((with_reducible show tVar _ _ _ _); refine go_var rfl ?_)
  | (with_reducible first | refine go_c ?_ | refine go_op ?_ | refine go_cons ?_ | refine go_nil ?_ | refine go_cb ?_ | refine go_cl ?_ | refine go_seq ?_ | refine go_asg ?_ | refine go_name ?_ | refine go_ifS ?_ | refine go_test ?_ | refine go_bl ?_)
  | (with_reducible first | refine go_rI0 ?_ | refine go_rU ?_ | refine go_ret ?_ | refine go_next ?_ | refine go_B ?_ | refine go_and ?_ | refine go_or ?_ | refine go_not ?_ | refine go_if ?_ | refine go_andV ?_ | refine go_orV ?_ | refine go_notV ?_)
  | ((with_reducible show rEq _ _ _ _); refine go_rEq rfl ?_)
  | ((with_reducible show rNe _ _ _ _); refine go_rNe rfl ?_)
  | (with_reducible first | refine go_un ?_ | refine go_chain ?_ | refine go_drop ?_ | refine go_retN ?_ | refine go_isN ?_ | refine go_notN ?_ | refine go_cont ?_ | refine go_break ?_ | refine go_par ?_ | refine go_two ?_ | refine go_part ?_ | refine go_noPart ?_ | refine go_int ?_ | refine go_sl ?_ | refine go_yes ?_ | refine go_tup ?_ | refine go_lst ?_)
  | (with_reducible first | refine go_gCons ?_ | refine go_gNil ?_ | refine go_for ?_ | refine go_iEnT ?_ | refine go_iEnum ?_ | refine go_iList ?_ | refine go_iTup ?_ | refine go_iStr ?_ | refine go_iRng1 ?_ | refine go_iRng2 ?_ | refine go_iZip ?_ | refine go_lc ?_ | refine go_mkR ?_ | refine go_mkS ?_ | refine go_clO ?_ | refine go_pr ?_ | refine go_sfld ?_ | refine go_bm ?_ | refine go_ref ?_)))
local macro_rules | `(tactic| walk_at "go") => `(tactic| ((repeat (walk_at "go1")); try dsimp only))
local macro_rules | `(tactic| walk_at "so") => `(tactic| first | omega | (simp; done) | (simp; omega) | (simp at *; omega))
section
variable {P : Program} {w : World} {K : PySem.W.Frag} {mg : Str → Option Value} {base : Heap} [PFa P FILE]
/-! the helpers of the law -/
def kdS (k : Nat) : Str := if k = 1 then "tiring" else if k = 2 then "learning" else if k = 3 then "resting" else "steady"
def spT (W : Wk) : List V := [.str (kdS W.k), .str W.nm, .int W.pc, .int W.a, .int W.b]
structure Wk.Fit (W : Wk) : Prop where
  ok : W.Ok
  le : W.k = 2 → W.a ≤ W.pc
theorem mk_same {H : Hp} {o dx C : Addr} (ho : H o = Option.none) (hdx : H dx = Option.none) : Same H (upd (upd H dx (.own o)) o (.ins C dx [])) := fun b u e => by
  rw [upd_ne (ne_of_none e ho), upd_ne (ne_of_none e hdx)]
  exact e
def spSpec (K : PySem.W.Frag) : Sp := fun vs H Q _ => ∃ (d : Addr) (z : Str), vs = [.ref d, .str z] ∧ nmB z = true ∧ DSt H d ∧ ∀ (t : Addr) (W : Wk) (H' : Hp), FrD d H H' → DSt H' d → W.Fit → W.nm = z → H t = none → H' t = some (.tup (spT W)) → Q (.ref t) H'
def spMkW (K : PySem.W.Frag) : Sp := fun vs H Q _ => ∃ (t : Addr) (W : Wk), vs = [.ref t] ∧ H t = some (.tup (spT W)) ∧ W.Fit ∧ ∀ (o : Addr) (H' : Hp), Same H H' → H o = none → WkAt K H' o W → Q (.ref o) H'
def spDrs (K : PySem.W.Frag) : Sp := fun vs H Q _ => ∃ (a : Addr) (ps : List Pr), vs = [.ref a] ∧ H a = some (.lst ((ps.map (·.2)).map V.int)) ∧ 2 ≤ ps.length ∧ ps.length ≤ 12 ∧ ∀ (D : Addr) (H' : Hp), Same H H' → H D = none → H' D = some (.lst ((dsOf ps).map V.int)) → Q (.ref D) H'
def spLTk (K : PySem.W.Frag) : Sp := fun vs H Q _ => ∃ (t : Addr) (W : Wk) (x : Int), vs = [.ref t, .int x] ∧ H t = some (.tup (spT W)) ∧ W.Ok ∧ 0 ≤ x ∧ x ≤ 10 ^ 18 ∧ ∀ H', Same H H' → Q (.int (W.tk x)) H'
theorem DSt.ne {H : Hp} {d q : Addr} (h : DSt H d) (hq : H q = none) : q ≠ d := fun z => by
  obtain ⟨c0, c1, cs, e, _⟩ := h
  rw [z, e] at hq
  cases hq
theorem max_two {K : PySem.W.Frag} {H : Hp} {a : Addr} {x y : Int} {Q : VK} (h : H a = some (.lst [.int x, .int y])) (q : Q (.int (max x y)) H) : rMax K [.ref a] H Q := ⟨a, [x, y], rfl, .inl (.inl h), by show 0 < 2; omega, fun m hm hb => by
  have h1 := hb x (by simp)
  have h2 := hb y (by simp)
  have e : m = max x y := by
    simp only [List.mem_cons, List.not_mem_nil, or_false] at hm
    omega
  rw [e]
  exact q⟩
theorem min_two {K : PySem.W.Frag} {H : Hp} {a : Addr} {x y : Int} {Q : VK} (h : H a = some (.lst [.int x, .int y])) (q : Q (.int (min x y)) H) : rMin K [.ref a] H Q := ⟨a, [x, y], rfl, .inl (.inl h), by show 0 < 2; omega, fun m hm hb => by
  have h1 := hb x (by simp)
  have h2 := hb y (by simp)
  have e : m = min x y := by
    simp only [List.mem_cons, List.not_mem_nil, or_false] at hm
    omega
  rw [e]
  exact q⟩
theorem kdS_l {k : Nat} (h : k ≤ 3) : decide (V.str (kdS k) = V.str "learning") = decide (k = 2) := by
  match k, h with
  | 0, _ => decide +kernel
  | 1, _ => decide +kernel
  | 2, _ => decide +kernel
  | 3, _ => decide +kernel
theorem kdS_t {k : Nat} (h : k ≤ 3) : decide (V.str (kdS k) = V.str "tiring") = decide (k = 1) := by
  match k, h with
  | 0, _ => decide +kernel
  | 1, _ => decide +kernel
  | 2, _ => decide +kernel
  | 3, _ => decide +kernel
theorem kdS_r {k : Nat} (h : k ≤ 3) : decide (V.str (kdS k) = V.str "resting") = decide (k = 3) := by
  match k, h with
  | 0, _ => decide +kernel
  | 1, _ => decide +kernel
  | 2, _ => decide +kernel
  | 3, _ => decide +kernel
theorem mod_last {x a : Int} (h : 1 ≤ a) : (x % a = a - 1) ↔ ((x + 1) % a = 0) := by
  have h1 := Int.emod_nonneg x (show a ≠ 0 by omega)
  have h2 := Int.emod_lt_of_pos x (show 0 < a by omega)
  have h3 : (x + 1) % a = (x % a + 1) % a := by rw [Int.emod_add_emod]
  rw [h3]
  constructor
  · intro e
    rw [e, show a - 1 + 1 = a by omega, Int.emod_self]
  · intro e
    by_cases c : x % a + 1 < a
    · rw [Int.emod_eq_of_lt (by omega) c] at e
      omega
    · omega

theorem sc__law_spec : FnScope ["_law_d", "_law_name", "_law_pace", "_law_kind", "_law_one"] ["_law_d", "_law_name"] (defScope s__law_spec) := ⟨rfl, rfl, rfl, by decide +kernel, rfl, by decide +kernel, by decide +kernel⟩
theorem ok__law_spec (T : Tx K mg) (D__law_below : Fx P w K mg base 1 (He.ga K "_law_below") (spBelow K)) : Fx P w K mg base 3 (He.ga K "_law_spec") (spSpec K) := by
  have K__law_below : PySem.W.keepIn K (.ref (He.ga K "_law_below")) = true := T.F__law_below.elim fun _ q => q.kp
  obtain ⟨fd, F⟩ := T.F__law_spec
  have nd := sc__law_spec.nd
  refine fx_of F sc__law_spec (fun vs H Q E h => ?_) (fun _ _ _ _ _ _ us hl => match us, hl with | [_, _], _ => rfl) fun cdv A outer s H vs Q E hr h => ?_
  · obtain ⟨d, z, rfl, _⟩ := h
    rfl
  obtain ⟨d, z, rfl, hz, st, h⟩ := h
  refine ⟨_, (pss_cons (ps_set (i := 2) nd rfl (Or.inl rfl) (pe_op op_add pe_int (pe_cl D__law_below hr K__law_below T.g__law_below passL (pa_cons (pv 0) (pa_cons (pe_ix (ixL K) (pe_lst (pa_cons pe_int (pa_cons pe_int (pa_cons pe_int pa_nil)))) (pe_cl D__law_below hr K__law_below T.g__law_below passL (pa_cons (pv 0) (pa_cons pe_int pa_nil))) (fun _ _ => rfl)) pa_nil))))) (pss_cons (ps_set (i := 3) nd rfl (Or.inl rfl) (pe_ix (ixL K) (pe_lst (pa_cons pe_str (pa_cons pe_str (pa_cons pe_str (pa_cons pe_str pa_nil))))) (pe_cl D__law_below hr K__law_below T.g__law_below passL (pa_cons (pv 0) (pa_cons pe_int pa_nil))) (fun _ _ => rfl))) (pss_cons (ps_if (pt_cmpR op_eq (pv 3) pe_str (nomark _)) (pss_one (ps_ret (pe_tup (pa_cons (pv 3) (pa_cons (pv 1) (pa_cons (pv 2) (pa_cons (pe_op op_add pe_int (pe_cl D__law_below hr K__law_below T.g__law_below passL (pa_cons (pv 0) (pa_cons (pv 2) pa_nil)))) (pa_cons pe_int pa_nil)))))))) pss_nil) (pss_cons (ps_set (i := 4) nd rfl (Or.inl rfl) (pe_op op_add pe_int (pe_cl D__law_below hr K__law_below T.g__law_below passL (pa_cons (pv 0) (pa_cons (pe_ix (ixL K) (pe_lst (pa_cons pe_int (pa_cons pe_int (pa_cons pe_int pa_nil)))) (pe_cl D__law_below hr K__law_below T.g__law_below passL (pa_cons (pv 0) (pa_cons pe_int pa_nil))) (fun _ _ => rfl)) pa_nil))))) (pss_one (ps_ret (pe_tup (pa_cons (pv 3) (pa_cons (pv 1) (pa_cons (pv 2) (pa_cons (pv 4) (pa_cons (pe_cl D__law_below hr K__law_below T.g__law_below passL (pa_cons (pv 0) (pa_cons (pe_ix (ixL K) (pe_lst (pa_cons pe_int (pa_cons pe_int pa_nil))) (pe_cl D__law_below hr K__law_below T.g__law_below passL (pa_cons (pv 0) (pa_cons pe_int pa_nil))) (fun _ _ => rfl)) pa_nil))) pa_nil)))))))))))), ?_⟩
  walk_at "go"
  refine ⟨show 3 ≤ sizeLine by decide, fun q1 hq1 => ?_⟩
  have sq1 := same_upd (o := .lst [V.int 4, V.int 20, V.int 1000]) hq1
  walk_at "go"
  refine ⟨d, 3, rfl, by omega, by omega, st.keep sq1, fun y0 H1 f1 st1 hy00 hy01 => ?_⟩
  obtain ⟨hg, ehg, hhg1, hhg2⟩ : ∃ m : Int, atI [V.int 4, V.int 20, V.int 1000] y0 = some (.int m) ∧ 1 ≤ m ∧ m ≤ 1000 := by
    rcases (show y0 = 0 ∨ y0 = 1 ∨ y0 = 2 by omega) with rfl | rfl | rfl
    · exact ⟨4, rfl, by omega, by omega⟩
    · exact ⟨20, rfl, by omega, by omega⟩
    · exact ⟨1000, rfl, by omega, by omega⟩
  refine go_ixL (.inl (.inl (f1 _ _ (st.ne hq1) upd_same))) ehg ?_
  walk_at "go"
  refine ⟨d, hg, rfl, by omega, by omega, st1, fun y1 H2 f2 st2 h10 h11 => ?_⟩
  walk_at "go"
  refine ⟨show 4 ≤ sizeLine by decide, fun q2 hq2 => ?_⟩
  have s2 := same_upd (o := .lst [V.str "steady", V.str "tiring", V.str "learning", V.str "resting"]) hq2
  walk_at "go"
  refine ⟨d, 4, rfl, by omega, by omega, st2.keep s2, fun y2 H3 f3 st3 h20 h21 => ?_⟩
  obtain ⟨k, ek, hk3⟩ : ∃ k : Nat, atI [V.str "steady", V.str "tiring", V.str "learning", V.str "resting"] y2 = some (.str (kdS k)) ∧ k ≤ 3 := by
    rcases (show y2 = 0 ∨ y2 = 1 ∨ y2 = 2 ∨ y2 = 3 by omega) with rfl | rfl | rfl | rfl
    · exact ⟨0, rfl, by omega⟩
    · exact ⟨1, rfl, by omega⟩
    · exact ⟨2, rfl, by omega⟩
    · exact ⟨3, rfl, by omega⟩
  refine go_ixL (.inl (.inl (f3 _ _ (st2.ne hq2) upd_same))) ek ?_
  obtain ⟨p, ep, hp1, hp2⟩ : ∃ p : Int, 1 + y1 = p ∧ 1 ≤ p ∧ p ≤ 1000 := ⟨_, rfl, by omega, by omega⟩
  rw [ep]
  have F03 := ((((frd_same sq1).trans f1).trans f2).trans (frd_same s2)).trans f3
  have fr0 : ∀ {q : Addr} {Hx : Hp}, FrD d H Hx → Hx q = none → q ≠ d → H q = none := fun {q Hx} f hq n => by
    cases e : H q with
    | none => rfl
    | some o => rw [f _ _ n e] at hq; cases hq
  walk_at "go"
  rw [kdS_l hk3]
  by_cases hk : k = 2
  · rw [decide_eq_true hk]
    refine iteT ?_
    walk_at "go"
    refine ⟨d, p, rfl, by omega, by omega, st3, fun y3 H4 f4 st4 h30 h31 => ?_⟩
    walk_at "go"
    refine ⟨show 5 ≤ sizeLine by decide, fun t ht => ?_⟩
    have s5 := same_upd (o := .tup [V.str (kdS k), V.str z, V.int p, V.int (1 + y3), V.int 0]) ht
    have F4 := F03.trans f4
    exact h t ⟨k, z, p, 1 + y3, 0⟩ _ (F4.trans (frd_same s5)) (st4.keep s5) ⟨⟨hk3, hz, hp1, hp2, (show (1 : Int) ≤ 1 + y3 by omega), (show 1 + y3 ≤ (1000 : Int) by omega), (by decide : (0 : Int) ≤ 0), (by decide : (0 : Int) ≤ 1000)⟩, fun _ => (show 1 + y3 ≤ p by omega)⟩ rfl (fr0 F4 ht (st4.ne ht)) upd_same
  rw [decide_eq_false hk]
  refine iteF ?_
  walk_at "go"
  refine ⟨show 3 ≤ sizeLine by decide, fun q3 hq3 => ?_⟩
  have sq3 := same_upd (o := .lst [V.int 3, V.int 9, V.int 1000]) hq3
  walk_at "go"
  refine ⟨d, 3, rfl, by omega, by omega, st3.keep sq3, fun y3 H4 f4 st4 hy30 hy31 => ?_⟩
  obtain ⟨on, eon, hon1, hon2⟩ : ∃ m : Int, atI [V.int 3, V.int 9, V.int 1000] y3 = some (.int m) ∧ 1 ≤ m ∧ m ≤ 1000 := by
    rcases (show y3 = 0 ∨ y3 = 1 ∨ y3 = 2 by omega) with rfl | rfl | rfl
    · exact ⟨3, rfl, by omega, by omega⟩
    · exact ⟨9, rfl, by omega, by omega⟩
    · exact ⟨1000, rfl, by omega, by omega⟩
  refine go_ixL (.inl (.inl (f4 _ _ (st3.ne hq3) upd_same))) eon ?_
  walk_at "go"
  refine ⟨d, on, rfl, by omega, by omega, st4, fun y4 H5 f5 st5 h40 h41 => ?_⟩
  walk_at "go"
  refine ⟨show 2 ≤ sizeLine by decide, fun q4 hq4 => ?_⟩
  have sq4 := same_upd (o := .lst [V.int 4, V.int 1001]) hq4
  walk_at "go"
  refine ⟨d, 2, rfl, by omega, by omega, st5.keep sq4, fun y5 H6 f6 st6 hy50 hy51 => ?_⟩
  obtain ⟨ot, eot, hot1, hot2⟩ : ∃ m : Int, atI [V.int 4, V.int 1001] y5 = some (.int m) ∧ 1 ≤ m ∧ m ≤ 1001 := by
    rcases (show y5 = 0 ∨ y5 = 1 by omega) with rfl | rfl
    · exact ⟨4, rfl, by omega, by omega⟩
    · exact ⟨1001, rfl, by omega, by omega⟩
  refine go_ixL (.inl (.inl (f6 _ _ (st5.ne hq4) upd_same))) eot ?_
  walk_at "go"
  refine ⟨d, ot, rfl, by omega, by omega, st6, fun y6 H7 f7 st7 h60 h61 => ?_⟩
  walk_at "go"
  refine ⟨show 5 ≤ sizeLine by decide, fun t ht => ?_⟩
  have s5 := same_upd (o := .tup [V.str (kdS k), V.str z, V.int p, V.int (1 + y4), V.int y6]) ht
  have F7 := (((((F03.trans (frd_same sq3)).trans f4).trans f5).trans (frd_same sq4)).trans f6).trans f7
  exact h t ⟨k, z, p, 1 + y4, y6⟩ _ (F7.trans (frd_same s5)) (st7.keep s5) ⟨⟨hk3, hz, hp1, hp2, (show (1 : Int) ≤ 1 + y4 by omega), (show 1 + y4 ≤ (1000 : Int) by omega), (show (0 : Int) ≤ y6 by omega), (show y6 ≤ (1000 : Int) by omega)⟩, fun q => absurd q hk⟩ rfl (fr0 F7 ht (st7.ne ht)) upd_same

theorem sc__law_worker : FnScope ["_law_spec_here", "_law_kind", "_law_name", "_law_pace", "_law_one", "_law_other"] ["_law_spec_here"] (defScope s__law_worker) := ⟨rfl, rfl, rfl, by decide +kernel, rfl, by decide +kernel, by decide +kernel⟩
theorem ok__law_worker (T : Tx K mg) (D_Tiringu_initu : KFx P w K mg base 7 (He.ma K (He.ga K "Tiring") "__init__") 3 ["after", "extra"] (spSubW K 1)) (D_Learningu_initu : KFx P w K mg base 7 (He.ma K (He.ga K "Learning") "__init__") 3 ["best"] (spSubW K 2)) (D_Restingu_initu : KFx P w K mg base 7 (He.ma K (He.ga K "Resting") "__init__") 3 ["after", "rest"] (spSubW K 3)) (D_Workeru_initu : Fx P w K mg base 5 (He.ma K (He.ga K "Worker") "__init__") (spWInit K)) : Fx P w K mg base 9 (He.ga K "_law_worker") (spMkW K) := by
  obtain ⟨fd, F⟩ := T.F__law_worker
  have nd := sc__law_worker.nd
  refine fx_of F sc__law_worker (fun vs H Q E h => ?_) (fun _ _ _ _ _ _ us hl => match us, hl with | [_], _ => rfl) fun cdv A outer s H vs Q E hr h => ?_
  · obtain ⟨t, ⟨k, z, p, a, b⟩, rfl, _⟩ := h
    rfl
  obtain ⟨t, ⟨k, z, p, a, b⟩, rfl, et, hW, h⟩ := h
  refine ⟨_, (pss_cons (ps_asg (pv 0) (pg_tup (by rfl) (pgs_cons (pg_name (i := 1) nd rfl (Or.inl rfl)) (pgs_cons (pg_name (i := 2) nd rfl (Or.inl rfl)) (pgs_cons (pg_name (i := 3) nd rfl (Or.inl rfl)) (pgs_cons (pg_name (i := 4) nd rfl (Or.inl rfl)) (pgs_cons (pg_name (i := 5) nd rfl (Or.inl rfl)) pgs_nil))))))) (pss_cons (ps_if (pt_cmpR op_eq (pv 1) pe_str (nomark _)) (pss_one (ps_ret (pe_mkK T.mk_Tiring D_Tiringu_initu hr rfl T.g_Tiring (pa_cons (pv 2) (pa_cons (pv 3) pa_nil)) (pk_cons (pv 4) (pk_cons (pv 5) pk_nil))))) pss_nil) (pss_cons (ps_if (pt_cmpR op_eq (pv 1) pe_str (nomark _)) (pss_one (ps_ret (pe_mkK T.mk_Learning D_Learningu_initu hr rfl T.g_Learning (pa_cons (pv 2) (pa_cons (pv 3) pa_nil)) (pk_cons (pv 4) pk_nil)))) pss_nil) (pss_one (ps_ret (pe_ifExp (pt_cmpR op_eq (pv 1) pe_str (nomark _)) (pe_mkK T.mk_Resting D_Restingu_initu hr rfl T.g_Resting (pa_cons (pv 2) (pa_cons (pv 3) pa_nil)) (pk_cons (pv 4) (pk_cons (pv 5) pk_nil))) (StX.pe_makeR T.mk_Worker D_Workeru_initu (hr.mono (by decide)) rfl T.g_Worker passL (pa_cons (pv 2) (pa_cons (pv 3) pa_nil))))))))), ?_⟩
  have et : H t = some (.tup [.str (kdS k), .str z, .int p, .int a, .int b]) := et
  walk_at "go"
  refine go_gTup (.inl (.inl et)) rfl ?_
  walk_at "go"
  have hk3 : k ≤ 3 := hW.ok.k3
  rw [kdS_t hk3]
  by_cases h1 : k = 1
  · subst h1
    refine iteT ?_
    walk_at "go"
    refine go_mkK ?_
    walk_at "go"
    refine ⟨rfl, rfl, fun o dx ho hdx hne => ?_⟩
    have so := mk_same (C := He.ga K "Tiring") ho hdx
    refine ⟨o, dx, ⟨1, z, p, a, b⟩, rfl, upd_same, rfl, hW.ok, fun q => absurd q (by decide), fun H9 fr hWA => ⟨rfl, ?_⟩⟩
    exact h o H9 (fun b u e => fr b u (ne_of_none e ho) (so b u e)) ho hWA
  rw [decide_eq_false h1]
  refine iteF ?_
  walk_at "go"
  rw [kdS_l hk3]
  by_cases h2 : k = 2
  · subst h2
    refine iteT ?_
    walk_at "go"
    refine go_mkK ?_
    walk_at "go"
    refine ⟨rfl, rfl, fun o dx ho hdx hne => ?_⟩
    have so := mk_same (C := He.ga K "Learning") ho hdx
    refine ⟨o, dx, ⟨2, z, p, a, b⟩, rfl, upd_same, rfl, hW.ok, hW.le, fun H9 fr hWA => ⟨rfl, ?_⟩⟩
    exact h o H9 (fun b u e => fr b u (ne_of_none e ho) (so b u e)) ho hWA
  rw [decide_eq_false h2]
  refine iteF ?_
  walk_at "go"
  rw [kdS_r hk3]
  by_cases h3 : k = 3
  · subst h3
    refine iteT ?_
    walk_at "go"
    refine go_mkK ?_
    walk_at "go"
    refine ⟨rfl, rfl, fun o dx ho hdx hne => ?_⟩
    have so := mk_same (C := He.ga K "Resting") ho hdx
    refine ⟨o, dx, ⟨3, z, p, a, b⟩, rfl, upd_same, rfl, hW.ok, fun q => absurd q (by decide), fun H9 fr hWA => ⟨rfl, ?_⟩⟩
    exact h o H9 (fun b u e => fr b u (ne_of_none e ho) (so b u e)) ho hWA
  rw [decide_eq_false h3]
  refine iteF ?_
  have h0 : k = 0 := by omega
  subst h0
  walk_at "go"
  rintro o dx ho hdx hne
  have so := mk_same (C := He.ga K "Worker") ho hdx
  refine ⟨o, _, dx, z, p, rfl, upd_same, T.cl_Worker, T.no_Workername, T.no_Worker_pace, hW.ok.nm, hW.ok.p1, hW.ok.p2, fun H6 fr e6 => ⟨rfl, ?_⟩⟩
  exact h o H6 (fun b u e => fr b u (ne_of_none e ho) (so b u e)) ho ⟨dx, e6⟩

theorem sc__law_durations : FnScope ["_law_paces", "_law_k"] ["_law_paces"] (defScope s__law_durations) := ⟨rfl, rfl, rfl, by decide +kernel, rfl, by decide +kernel, by decide +kernel⟩
theorem ok__law_durations (T : Tx K mg) : Fx P w K mg base 1 (He.ga K "_law_durations") (spDrs K) := by
  obtain ⟨fd, F⟩ := T.F__law_durations
  have nd := sc__law_durations.nd
  refine fx_of F sc__law_durations (fun vs H Q E h => ?_) (fun _ _ _ _ _ _ us hl => match us, hl with | [_], _ => rfl) fun cdv A outer s H vs Q E hr h => ?_
  · obtain ⟨a, ps, rfl, _⟩ := h
    rfl
  obtain ⟨a, ps, rfl, ea, h2, h12, h⟩ := h
  refine ⟨_, (pss_one (ps_ret (pe_lc (own := [("_law_k", 1)]) (g := (gName 1)) rfl nd (pi_range1 rfl T.m_range (pa_cons (pe_op op_sub (cB call_len_seq T.m_len (pa_cons (pv 0) pa_nil)) pe_int) pa_nil)) (blkOk_by (N := ["_law_paces", "_law_k"]) (sc := defScope s__law_durations) (own := [("_law_k", 1)]) (by decide +kernel)) (fun _ _ _ _ _ => (pg_name (i := 1) nd rfl (Or.inl rfl))) (fun _ _ _ _ _ => pts_nil) (fun _ _ _ _ _ => (cB (Bk.cK K (r := rMax) (cr_max rfl)) T.m_max (pa_cons (pe_lst (pa_cons (pe_ix (ixL K) (pv 0) (pv 1) (fun _ _ => rfl)) (pa_cons (pe_ix (ixL K) (pv 0) (pe_op op_add (pv 1) pe_int) (fun _ _ => rfl)) pa_nil))) pa_nil)))))), ?_⟩
  have hdl := dsOf_len ps
  walk_at "go"
  refine ⟨_, _, rfl, .inl (.inl (.inl ea)), ?_⟩
  walk_at "go"
  refine ⟨_, rfl, by simp; omega, by simp; omega, ?_⟩
  rw [List.length_map, List.length_map, show ((ps.length : Int) - 1).toNat = ps.length - 1 by omega]
  refine lc_fun (walk_range (lo := 0) (n := ps.length - 1)) (fun _ _ => trivial) (fun j => .int ((dsOf ps).getD j 0)) (by omega) ?_ ?_
  · rintro i x Ha Hb k hi sa ⟨rfl, rfl⟩ hk
    have e1 : ps[i]? = some (ps[i]'(by omega)) := by simp [show i < ps.length by omega]
    have e2 : ps[i + 1]? = some (ps[i + 1]'(by omega)) := by simp [show i + 1 < ps.length by omega]
    have ed := dsOf_at ps i _ _ e1 e2
    dsimp only
    rw [Int.zero_add]
    walk_at "go"
    refine ⟨rfl, ?_⟩
    walk_at "go"
    refine go_ixL (.inl (.inl (sa _ _ ea))) (at_nat (at_map (at_map e1))) ?_
    walk_at "go"
    refine go_ixL (n := ((i + 1 : Nat) : Int)) (.inl (.inl (sa _ _ ea))) (at_nat (at_map (at_map e2))) ?_
    walk_at "go"
    refine ⟨show 2 ≤ sizeLine by decide, fun q hq => ?_⟩
    walk_at "go"
    refine max_two upd_same ?_
    have ee : max (ps[i]'(by omega)).2 (ps[i + 1]'(by omega)).2 = (dsOf ps).getD i 0 := by rw [List.getD, ed]; rfl
    rw [ee]
    exact hk _ (same_upd hq)
  · intro D H2 hD s2 e2
    walk_at "go"
    refine h D H2 s2 hD ?_
    rw [e2]
    congr 2
    rw [← hdl]
    exact range_map (dsOf ps) V.int 0 rfl

theorem sc__law_ticks : FnScope ["_law_spec_here", "_law_bucket", "_law_kind", "_law_name", "_law_pace", "_law_one", "_law_other"] ["_law_spec_here", "_law_bucket"] (defScope s__law_ticks) := ⟨rfl, rfl, rfl, by decide +kernel, rfl, by decide +kernel, by decide +kernel⟩
theorem ok__law_ticks (T : Tx K mg) : Fx P w K mg base 1 (He.ga K "_law_ticks") (spLTk K) := by
  obtain ⟨fd, F⟩ := T.F__law_ticks
  have nd := sc__law_ticks.nd
  refine fx_of F sc__law_ticks (fun vs H Q E h => ?_) (fun _ _ _ _ _ _ us hl => match us, hl with | [_, _], _ => rfl) fun cdv A outer s H vs Q E hr h => ?_
  · obtain ⟨t, ⟨k, z, p, a, b⟩, x, rfl, _⟩ := h
    rfl
  obtain ⟨t, ⟨k, z, p, a, b⟩, x, rfl, et, hW, hx0, hx1, h⟩ := h
  refine ⟨_, (pss_cons (ps_asg (pv 0) (pg_tup (by rfl) (pgs_cons (pg_name (i := 2) nd rfl (Or.inl rfl)) (pgs_cons (pg_name (i := 3) nd rfl (Or.inl rfl)) (pgs_cons (pg_name (i := 4) nd rfl (Or.inl rfl)) (pgs_cons (pg_name (i := 5) nd rfl (Or.inl rfl)) (pgs_cons (pg_name (i := 6) nd rfl (Or.inl rfl)) pgs_nil))))))) (pss_cons (ps_if (pt_cmpR op_eq (pv 2) pe_str (nomark _)) (pss_one (ps_ret (cB (cr_min rfl) T.m_min (pa_cons (pe_lst (pa_cons pe_int (pa_cons (pe_op op_add (pv 4) (pe_op op_mul (pe_op op_fdivW (pv 1) (pv 5)) (pv 6))) pa_nil))) pa_nil)))) pss_nil) (pss_cons (ps_if (pt_cmpR op_eq (pv 2) pe_str (nomark _)) (pss_one (ps_ret (cB (cr_max rfl) T.m_max (pa_cons (pe_lst (pa_cons (pv 5) (pa_cons (pe_op op_sub (pv 4) (pv 1)) pa_nil))) pa_nil)))) pss_nil) (pss_one (ps_ret (pe_op op_add (pv 4) (pe_ifExp (PW.pt (pw_and (pt_cmpR op_eq (pv 2) pe_str (nomark _)) (pw_and1 (pt_cmpR op_eq (pe_op op_mod (pv 1) (pv 5)) (pe_op op_sub (pv 5) pe_int) (nomark _))))) (pv 6) pe_int))))))), ?_⟩
  have et : H t = some (.tup [.str (kdS k), .str z, .int p, .int a, .int b]) := et
  walk_at "go"
  refine go_gTup (.inl (.inl et)) rfl ?_
  walk_at "go"
  have hk3 : k ≤ 3 := hW.k3
  have ha1 : 1 ≤ a := hW.a1
  have ha2 : a ≤ 1000 := hW.a2
  have hb1 : 0 ≤ b := hW.b1
  have hb2 : b ≤ 1000 := hW.b2
  rw [kdS_t hk3]
  by_cases h1 : k = 1
  · subst h1
    refine iteT ?_
    walk_at "go"
    have hdv : CDivW x a := wide_div (b := 10) (by omega) (by omega) (by decide) (by decide)
    refine go_rI hdv ?_
    walk_at "go"
    have hml : CMul (x / a) b := .inr ⟨by omega, by omega⟩
    refine go_rI hml ?_
    refine go_rI0 ?_
    walk_at "go"
    refine ⟨show 2 ≤ sizeLine by decide, fun q hq => ?_⟩
    walk_at "go"
    refine min_two upd_same ?_
    have e : min 1000 (p + x / a * b) = Wk.tk ⟨1, z, p, a, b⟩ x := by
      show _ = if (1000 : Int) < p + x / a * b then 1000 else p + x / a * b
      omega
    rw [e]
    exact h _ (same_upd hq)
  rw [decide_eq_false h1]
  refine iteF ?_
  walk_at "go"
  rw [kdS_l hk3]
  by_cases h2 : k = 2
  · subst h2
    refine iteT ?_
    walk_at "go"
    refine ⟨show 2 ≤ sizeLine by decide, fun q hq => ?_⟩
    walk_at "go"
    refine max_two upd_same ?_
    have e : max a (p - x) = Wk.tk ⟨2, z, p, a, b⟩ x := by
      show _ = if p - x < a then a else p - x
      omega
    rw [e]
    exact h _ (same_upd hq)
  rw [decide_eq_false h2]
  refine iteF ?_
  walk_at "go"
  rw [kdS_r hk3]
  by_cases h3 : k = 3
  · subst h3
    refine iteT ?_
    walk_at "go"
    refine go_rI (show (0 : Int) < a by omega) ?_
    walk_at "go"
    have e3 := tkW_3 z p a b x
    have ei : decide (V.int (x % a) = V.int (a - 1)) = decide ((x + 1) % a = 0) := by
      have : (x % a = a - 1) ↔ ((x + 1) % a = 0) := mod_last (by omega)
      simp [this]
    rw [ei]
    by_cases hm : (x + 1) % a = 0
    · rw [if_pos hm] at e3
      rw [decide_eq_true hm]
      refine iteT ?_
      walk_at "go"
      rw [← e3]
      exact h _ (Same.refl _)
    · rw [if_neg hm] at e3
      rw [decide_eq_false hm]
      refine iteF ?_
      walk_at "go"
      rw [Int.add_zero, ← e3]
      exact h _ (Same.refl _)
  rw [decide_eq_false h3]
  refine iteF (iteF ?_)
  have h0 : k = 0 := by omega
  subst h0
  walk_at "go"
  rw [Int.add_zero]
  exact h _ (Same.refl _)

end
end K
namespace K
open PySem PySem.Spec PyProof.Rows L2 Bk
local macro_rules | `(tactic| walk_at "go1") => `(tactic| (first
  | ((with_reducible show tVar _ _ _ _); refine go_var rfl ?_)
  | (with_reducible first | refine go_c ?_ | refine go_op ?_ | refine go_cons ?_ | refine go_nil ?_ | refine go_cb ?_ | refine go_cl ?_ | refine go_seq ?_ | refine go_asg ?_ | refine go_name ?_ | refine go_ifS ?_ | refine go_test ?_ | refine go_bl ?_)
  | (with_reducible first | refine go_rI0 ?_ | refine go_rU ?_ | refine go_ret ?_ | refine go_next ?_ | refine go_B ?_ | refine go_and ?_ | refine go_or ?_ | refine go_not ?_ | refine go_if ?_ | refine go_andV ?_ | refine go_orV ?_ | refine go_notV ?_)
  | ((with_reducible show rEq _ _ _ _); refine go_rEq rfl ?_)
  | ((with_reducible show rNe _ _ _ _); refine go_rNe rfl ?_)
  | (with_reducible first | refine go_un ?_ | refine go_chain ?_ | refine go_drop ?_ | refine go_retN ?_ | refine go_isN ?_ | refine go_notN ?_ | refine go_cont ?_ | refine go_break ?_ | refine go_par ?_ | refine go_two ?_ | refine go_part ?_ | refine go_noPart ?_ | refine go_int ?_ | refine go_sl ?_ | refine go_yes ?_ | refine go_tup ?_ | refine go_lst ?_)
  | (with_reducible first | refine go_gCons ?_ | refine go_gNil ?_ | refine go_for ?_ | refine go_iEnT ?_ | refine go_iEnum ?_ | refine go_iList ?_ | refine go_iTup ?_ | refine go_iStr ?_ | refine go_iRng1 ?_ | refine go_iRng2 ?_ | refine go_iZip ?_ | refine go_lc ?_ | refine go_mkR ?_ | refine go_mkS ?_ | refine go_clO ?_ | refine go_pr ?_ | refine go_sfld ?_ | refine go_bm ?_ | refine go_ref ?_)))
local macro_rules | `(tactic| walk_at "go") => `(tactic| ((repeat (walk_at "go1")); try dsimp only))
local macro_rules | `(tactic| walk_at "so") => `(tactic| first | omega | (simp; done) | (simp; omega) | (simp at *; omega))
section
variable {P : Program} {w : World} {K : PySem.W.Frag} {mg : Str → Option Value} {base : Heap} [PFa P FILE]
/-! a table of ends -/
def TabF (N : Addr → Prop) (H : Hp) (x : Addr) (f : Nat → List Int) (n : Nat) : Prop := ∃ ts : List Addr, H x = some (.lst (ts.map V.ref)) ∧ ts.length = n ∧ N x ∧ ∀ (i : Nat) (t : Addr), ts[i]? = some t → t ≠ x ∧ N t ∧ H t = some (.lst ((f i).map V.int))
theorem TabF.mono {N : Addr → Prop} {H H' : Hp} {x : Addr} {f : Nat → List Int} {n : Nat} (e : FrN N H H') (h : TabF N H x f n) : TabF N H' x f n := by
  obtain ⟨ts, a, b, c, d⟩ := h
  exact ⟨ts, e _ _ c a, b, c, fun i t q => by
    obtain ⟨p, q, r⟩ := d i t q
    exact ⟨p, q, e _ _ q r⟩⟩
theorem TabF.dp {K : PySem.W.Frag} {N : Addr → Prop} {H : Hp} {x : Addr} {f : Nat → List Int} {n : Nat} (h : TabF N H x f n) : Dp K H (.ref x) (.list (((List.range n).map f).map fun x => PyData.list (x.map PyData.int))) := by
  obtain ⟨ts, a, b, c, d⟩ := h
  refine .lst (.inl (.inl a)) (dpII ts _ (by simp [b]) fun i t e => ?_)
  have hi : i < n := by rw [← b]; exact (List.getElem?_eq_some_iff.mp e).1
  rw [(d i t e).2.2]
  simp [List.getD, hi]
theorem go_neTabF {K : PySem.W.Frag} {N : Addr → Prop} {H : Hp} {x e : Addr} {f : Nat → List Int} {n : Nat} {Q : VK} (h : TabF N H x f n) (h' : SqL K H e []) (q : Q (.bl (!decide (n = 0))) H) : rNeD K (.ref x) (.ref e) H Q :=
  ⟨_, _, h.dp, .lst h' .nil, shII _, shI [], by show Q (.bl (!PyData.eqv _ (.list []))) H; rw [eqv_nilL]; simpa using q⟩
theorem go_eqIn {K : PySem.W.Frag} {H : Hp} {x e : Addr} {xs : List Int} {Q : VK} (h : SqL K H x (xs.map V.int)) (h' : SqL K H e []) (q : Q (.bl (decide (xs.length = 0))) H) : rEqD K (.ref x) (.ref e) H Q :=
  ⟨_, _, .lst h (dpI xs), .lst h' .nil, shI _, shI [], by show Q (.bl (PyData.eqv _ (.list []))) H; rw [eqv_nilL]; simpa using q⟩
theorem go_neIn {K : PySem.W.Frag} {H : Hp} {x e : Addr} {xs : List Int} {Q : VK} (h : SqL K H x (xs.map V.int)) (h' : SqL K H e []) (q : Q (.bl (!decide (xs.length = 0))) H) : rNeD K (.ref x) (.ref e) H Q :=
  ⟨_, _, .lst h (dpI xs), .lst h' .nil, shI _, shI [], by show Q (.bl (!PyData.eqv _ (.list []))) H; rw [eqv_nilL]; simpa using q⟩
/-- the ends, as the law reckons them: the first place begins with 0 -/
theorem ends_mono {ws : List Wk} (hc : CrewOk ws) (b : Nat) : (endsW ws b).getD 0 0 ≤ (endsW ws b).getD (min 1 (ws.length - 1 - 1)) 0 ∧ 0 ≤ (endsW ws b).getD 0 0 := by
  have h2 := hc.two
  have nn : ∀ b, 0 ≤ (endsW ws b).getD 0 0 := by
    intro b
    induction b with
    | zero => rw [ends_0]; exact Int.le_refl _
    | succ b ih =>
      have := dsW_nn hc b 0
      rw [ends_is ws b 0 (by omega), RowW_s]
      have e0 : RowW ws b 0 = (endsW ws b).getD 0 0 := rfl
      unfold dW
      omega
  refine ⟨?_, nn b⟩
  by_cases c : ws.length = 2
  · rw [c]
    exact Int.le_refl _
  · rw [show min 1 (ws.length - 1 - 1) = 1 by omega]
    cases b with
    | zero => rw [ends_0, ends_0]; exact Int.le_refl _
    | succ b =>
      have := dsW_nn hc b 1
      rw [ends_is ws b 0 (by omega), ends_is ws b 1 (by omega), RowW_s ws b 1]
      unfold dW
      simp only [Nat.zero_add]
      omega
def bgW (ws : List Wk) (b k : Nat) : Int := (endsW ws (b + 1)).getD k 0 - dW ws b k
theorem bg_0 {ws : List Wk} (hc : CrewOk ws) : bgW ws 0 0 = 0 := by
  have h2 := hc.two
  unfold bgW
  rw [ends_is ws 0 0 (by omega), RowW_0 hc, RowW_00]
  omega
theorem bg_0s {ws : List Wk} (hc : CrewOk ws) (k : Nat) (hk : k + 2 < ws.length) : bgW ws 0 (k + 1) = (endsW ws 1).getD k 0 := by
  unfold bgW
  rw [ends_is ws 0 (k + 1) (by omega), RowW_0 hc, ends_is ws 0 k (by omega)]
  omega
theorem bg_s0 {ws : List Wk} (hc : CrewOk ws) (b : Nat) : bgW ws (b + 1) 0 = max 0 ((endsW ws (b + 1)).getD (min 1 (ws.length - 1 - 1)) 0) := by
  have h2 := hc.two
  have h3 := ends_mono hc (b + 1)
  have e0 : RowW ws (b + 1) 0 = (endsW ws (b + 1)).getD 0 0 := rfl
  unfold bgW
  rw [ends_is ws (b + 1) 0 (by omega), RowW_s, e0]
  simp only [Nat.zero_add]
  omega
theorem bg_ss {ws : List Wk} (b k : Nat) (hk : k + 2 < ws.length) : bgW ws (b + 1) (k + 1) = max ((endsW ws (b + 2)).getD k 0) ((endsW ws (b + 1)).getD (min (k + 2) (ws.length - 1 - 1)) 0) := by
  unfold bgW
  rw [ends_is ws (b + 1) (k + 1) (by omega), RowW_s ws (b + 1) (k + 1), ends_is ws (b + 1) k (by omega)]
  simp only [Nat.add_assoc, Nat.reduceAdd]
  omega
def rwW (ws : List Wk) (b : Nat) : List Int := dsOf (psAt ws b)
def enW (ws : List Wk) (b : Nat) : List Int := endsW ws (b + 1)
def spLEn (K : PySem.W.Frag) : Sp := fun vs H Q _ => ∃ (N : Addr → Prop) (x : Addr) (ws : List Wk) (n : Nat), vs = [.ref x] ∧ TabF N H x (rwW ws) n ∧ CrewOk ws ∧ n ≤ 60 ∧ ∀ (y : Addr) (H' : Hp), Same H H' → H y = none → TabF (fun a => H a = none) H' y (enW ws) n → Q (.ref y) H'

theorem sc__law_ends : FnScope ["_law_rows", "_law_found", "_law_row", "_law_ends_here", "_law_k", "_law_begin"] ["_law_rows"] (defScope s__law_ends) := ⟨rfl, rfl, rfl, by decide +kernel, rfl, by decide +kernel, by decide +kernel⟩
theorem ok__law_ends (T : Tx K mg) : Fx P w K mg base 1 (He.ga K "_law_ends") (spLEn K) := by
  obtain ⟨fd, F⟩ := T.F__law_ends
  have nd := sc__law_ends.nd
  refine fx_of F sc__law_ends (fun vs H Q E h => ?_) (fun _ _ _ _ _ _ us hl => match us, hl with | [_], _ => rfl) fun cdv A outer s H vs Q E hr h => ?_
  · obtain ⟨N, x, ws, n, rfl, _⟩ := h
    rfl
  obtain ⟨N, x, ws, n, rfl, hT, hC, hn, h⟩ := h
  refine ⟨_, (pss_cons (ps_set (i := 1) nd rfl (Or.inl rfl) (pe_lst pa_nil)) (pss_cons (ps_for PassesOwn.never rfl (pi_list (pv 0)) (pg_name (i := 2) nd rfl (Or.inl rfl)) (pss_cons (ps_set (i := 3) nd rfl (Or.inl rfl) (pe_lst pa_nil)) (pss_cons (ps_for PassesOwn.never rfl (pi_range1 rfl T.m_range (pa_cons (cB call_len_seq T.m_len (pa_cons (pv 2) pa_nil)) pa_nil)) (pg_name (i := 4) nd rfl (Or.inl rfl)) (pss_cons (ps_set (i := 5) nd rfl (Or.inl rfl) (pe_ifExp (pt_cmpR (Bk.eqD K hr.units) (pv 3) (pe_lst pa_nil) (nomark _)) pe_int (pe_ix (ixL K) (pv 3) (pe_un un_neg pe_int) (fun _ _ => rfl)))) (pss_cons (ps_if (pt_cmpR (Bk.neD K hr.units) (pv 1) (pe_lst pa_nil) (nomark _)) (pss_one (ps_set (i := 5) nd rfl (Or.inl rfl) (cB (cr_max rfl) T.m_max (pa_cons (pe_lst (pa_cons (pv 5) (pa_cons (pe_ix (ixL K) (pe_ix (ixL K) (pv 1) (pe_un un_neg pe_int) (fun _ _ => rfl)) (cB (cr_min rfl) T.m_min (pa_cons (pe_lst (pa_cons (pe_op op_add (pv 4) pe_int) (pa_cons (pe_op op_sub (cB call_len_seq T.m_len (pa_cons (pv 2) pa_nil)) pe_int) pa_nil))) pa_nil)) (fun _ _ => rfl)) pa_nil))) pa_nil)))) pss_nil) (pss_one (ps_expr (pe_bm PySem.F.plainAttrs_list PySem.F.slot_list_append PySem.F.type_list_append mt_append (pv 3) (pa_cons (pe_op op_add (pv 5) (pe_ix (ixL K) (pv 2) (pv 4) (fun _ _ => rfl))) pa_nil))))))) (pss_one (ps_expr (pe_bm PySem.F.plainAttrs_list PySem.F.slot_list_append PySem.F.type_list_append mt_append (pv 1) (pa_cons (pv 3) pa_nil))))))) (pss_one (ps_ret (pv 1))))), ?_⟩
  have h2 := hC.two
  have h12 := hC.most
  obtain ⟨ts, ets, hlt, hNx, hts⟩ := hT
  have enl : ∀ b, (enW ws b).length = ws.length - 1 := fun b => endsW_len ws (b + 1)
  have rwl : ∀ b, (rwW ws b).length = ws.length - 1 := fun b => dsW_len ws b
  walk_at "go"
  refine ⟨Nat.zero_le _, fun y hy => ?_⟩
  have sy := same_upd (o := .lst []) hy
  walk_at "go"
  refine ⟨⟨_, .inl (.inl (sy _ _ ets))⟩, ?_⟩
  refine for_w (walk_list (xs := ts.map V.ref)) (fun b σ H' => Same H H' ∧ TabF (fun a => H a = Option.none) H' y (enW ws) b ∧ ∃ u2 u3 u4 u5, σ = [some (.ref x), some (.ref y), u2, u3, u4, u5]) ⟨sy, ⟨[], upd_same, rfl, hy, fun i t e => by simp at e⟩, _, _, _, _, rfl⟩ (fun b σ H' _ p => .inl (.inl (p.1 _ _ ets))) ?_ ?_
  · rintro b z σ Ha Hb hb ⟨sa, hF, u2, u3, u4, u5, rfl⟩ ⟨rfl, hz⟩
    obtain ⟨r, hr, rfl⟩ := map_at hz
    have hbn : b < n := by
      have := (List.getElem?_eq_some_iff.mp hr).1
      omega
    have er := sa _ _ (hts b r hr).2.2
    obtain ⟨fs, efs, hlf, _, hfs⟩ := id hF
    walk_at "go"
    refine ⟨Nat.zero_le _, fun e hee0 => ?_⟩
    have se := same_upd (o := .lst []) hee0
    have ee : (upd Hb e (.lst [])) e = some (.lst []) := upd_same
    have hey : e ≠ y := fun z => by rw [z, efs] at hee0; cases hee0
    have heH := sa.free hee0
    generalize upd Hb e (.lst []) = Hc at se ee ⊢
    walk_at "go"
    refine ⟨_, _, rfl, .inl (.inl (.inl (se _ _ er))), ?_⟩
    refine ⟨_, rfl, by omega, by rw [List.length_map, rwl]; omega, ?_⟩
    rw [List.length_map, rwl, show ((ws.length - 1 : Nat) : Int).toNat = ws.length - 1 by omega]
    refine for_w (walk_range (lo := 0) (n := ws.length - 1)) (fun k σ H' => Same Hb H' ∧ H' e = some (.lst (((enW ws b).take k).map V.int)) ∧ ∃ u4 u5, σ = [some (.ref x), some (.ref y), some (.ref r), some (.ref e), u4, u5]) ⟨se, ee, _, _, rfl⟩ (fun _ _ _ _ _ => trivial) ?_ ?_
    · rintro k z σ Hf Hg hk ⟨sd, ed, w4, w5, rfl⟩ ⟨rfl, rfl⟩
      dsimp only
      rw [Int.zero_add]
      have htk : ((enW ws b).take k).length = k := by rw [List.length_take, enl]; omega
      refine go_name ?_
      refine seq_mid (fun σ' H' => Same Hg H' ∧ σ' = [some (.ref x), some (.ref y), some (.ref r), some (.ref e), some (.int k), some (.int (if k = 0 then 0 else (enW ws b).getD (k - 1) 0))]) (fun NX hNX => ?_) ?_
      · walk_at "go"
        refine ⟨Nat.zero_le _, fun e1 he1 => ?_⟩
        have s1e := same_upd (o := .lst []) he1
        have ee1 : (upd Hg e1 (.lst [])) e1 = some (.lst []) := upd_same
        generalize upd Hg e1 (.lst []) = Hh at s1e ee1 ⊢
        refine go_eqIn (.inl (.inl (s1e _ _ ed))) (.inl (.inl ee1)) ?_
        rw [htk]
        walk_at "go"
        by_cases h0 : k = 0
        · rw [decide_eq_true h0]
          refine iteT ?_
          walk_at "go"
          refine hNX _ _ ⟨s1e, ?_⟩
          rw [if_pos h0]
          rfl
        · rw [decide_eq_false h0]
          refine iteF ?_
          walk_at "go"
          have hneg : atI (((enW ws b).take k).map V.int) (-((1 : Nat) : Int)) = some (.int ((enW ws b).getD (k - 1) 0)) := at_neg (by omega) (by rw [List.length_map]; omega) (by
            rw [List.length_map, htk]
            refine at_map ?_
            rw [List.getElem?_take, if_pos (by omega)]
            simp [List.getD, show k - 1 < (enW ws b).length by rw [enl]; omega])
          refine go_ixL (n := -((1 : Nat) : Int)) (.inl (.inl (s1e _ _ ed))) hneg ?_
          walk_at "go"
          refine hNX _ _ ⟨s1e, ?_⟩
          rw [if_neg h0]
          rfl
      · rintro σ' Hh ⟨sh, rfl⟩
        refine seq_mid (fun σ' H' => Same Hh H' ∧ σ' = [some (.ref x), some (.ref y), some (.ref r), some (.ref e), some (.int k), some (.int (bgW ws b k))]) (fun NX hNX => ?_) ?_
        · walk_at "go"
          refine ⟨Nat.zero_le _, fun e1 he1 => ?_⟩
          have s1e := same_upd (o := .lst []) he1
          have ee1 : (upd Hh e1 (.lst [])) e1 = some (.lst []) := upd_same
          generalize upd Hh e1 (.lst []) = Hi at s1e ee1 ⊢
          have sbi := (sd.trans sh).trans s1e
          refine go_neTabF (hF.mono (frn_same sbi)) (.inl (.inl ee1)) ?_
          walk_at "go"
          by_cases h0 : b = 0
          · rw [decide_eq_true h0]
            refine iteF ?_
            walk_at "go"
            refine hNX _ _ ⟨s1e, ?_⟩
            subst h0
            have e9 : (if k = 0 then 0 else (enW ws 0).getD (k - 1) 0) = bgW ws 0 k := by
              cases k with
              | zero => rw [bg_0 hC]; rfl
              | succ k => rw [bg_0s hC k (by omega)]; rfl
            rw [e9]
          · rw [decide_eq_false h0]
            refine iteT ?_
            obtain ⟨b', rfl⟩ : ∃ b', b = b' + 1 := ⟨b - 1, by omega⟩
            have hlt2 : b' < fs.length := by omega
            have q := hfs b' fs[b'] (by simp [hlt2])
            have et : (fs.map V.ref)[(fs.map V.ref).length - 1]? = some (.ref fs[b']) := by
              rw [List.length_map, show fs.length - 1 = b' by omega]
              simp [hlt2]
            walk_at "go"
            refine go_ixL (n := -((1 : Nat) : Int)) (.inl (.inl (sbi _ _ efs))) (at_neg (by omega) (by simp; omega) et) ?_
            walk_at "go"
            refine ⟨_, _, rfl, .inl (.inl (.inl (sbi _ _ er))), ?_⟩
            walk_at "go"
            refine ⟨show 2 ≤ sizeLine by decide, fun q1 hq1 => ?_⟩
            have sq1 := same_upd (o := .lst [V.int ((k : Int) + 1), V.int ((((rwW ws (b' + 1)).map V.int).length : Int) - 1)]) hq1
            walk_at "go"
            refine min_two upd_same ?_
            have em : min ((k : Int) + 1) ((((rwW ws (b' + 1)).map V.int).length : Int) - 1) = ((min (k + 1) (ws.length - 1 - 1) : Nat) : Int) := by
              rw [List.length_map, rwl]
              omega
            rw [em]
            have eg : (enW ws b')[min (k + 1) (ws.length - 1 - 1)]? = some ((enW ws b').getD (min (k + 1) (ws.length - 1 - 1)) 0) := by
              simp [List.getD, show min (k + 1) (ws.length - 1 - 1) < (enW ws b').length by rw [enl]; omega]
            refine go_ixL (.inl (.inl (sq1 _ _ (sbi _ _ q.2.2)))) (at_nat (at_map eg)) ?_
            walk_at "go"
            refine ⟨show 2 ≤ sizeLine by decide, fun q2 hq2 => ?_⟩
            have sq2 := same_upd (o := .lst [V.int (if k = 0 then 0 else (enW ws (b' + 1)).getD (k - 1) 0), V.int ((enW ws b').getD (min (k + 1) (ws.length - 1 - 1)) 0)]) hq2
            walk_at "go"
            refine max_two upd_same ?_
            walk_at "go"
            refine hNX _ _ ⟨(s1e.trans sq1).trans sq2, ?_⟩
            have e9 : max (if k = 0 then 0 else (enW ws (b' + 1)).getD (k - 1) 0) ((enW ws b').getD (min (k + 1) (ws.length - 1 - 1)) 0) = bgW ws (b' + 1) k := by
              cases k with
              | zero => rw [bg_s0 hC]; rfl
              | succ k => rw [bg_ss b' k (by omega)]; rfl
            rw [e9]
            rfl
        · rintro σ' Hi ⟨si, rfl⟩
          have sbi := (sd.trans sh).trans si
          have ei := si _ _ (sh _ _ ed)
          have edw : (rwW ws b)[k]? = some (dW ws b k) := by
            unfold dW
            show (rwW ws b)[k]? = some ((rwW ws b).getD k 0)
            simp [List.getD, show k < (rwW ws b).length by rw [rwl]; exact hk]
          walk_at "go"
          refine ⟨ty_lst ei, ?_⟩
          walk_at "go"
          refine go_ixL (.inl (.inl (sbi _ _ er))) (at_nat (at_map edw)) ?_
          walk_at "go"
          rw [show bgW ws b k + dW ws b k = (enW ws b).getD k 0 by unfold bgW enW; omega]
          refine ⟨e, _, _, rfl, rfl, ei, ?_, fun c o ec => ?_, ?_, _, _, rfl⟩
          · rw [List.length_map, htk]
            exact Nat.lt_of_lt_of_le (show k < 2000 by omega) (by decide)
          · rw [upd_ne (fun z => by rw [z, hee0] at ec; cases ec)]
            exact sbi _ _ ec
          · have hkl : k < (enW ws b).length := by rw [enl]; exact hk
            rw [upd_same, List.take_succ, List.map_append]
            simp [List.getD, hkl]
    · rintro σ Hf ⟨sd, ed, w4, w5, rfl⟩
      rw [List.take_of_length_le (by rw [enl]; exact Nat.le_refl _)] at ed
      walk_at "go"
      refine ⟨ty_lst (sd _ _ efs), ?_⟩
      walk_at "go"
      refine ⟨y, _, _, rfl, rfl, sd _ _ efs, ?_, ?_⟩
      · rw [List.length_map, hlf]
        exact Nat.lt_of_lt_of_le (show b < 2000 by omega) (by decide)
      · walk_at "go"
        refine ⟨fun c o ec => ?_, ⟨fs ++ [e], by rw [upd_same, List.map_append]; rfl, by simp [hlf], hy, fun j t ej => ?_⟩, _, _, _, _, rfl⟩
        · rw [upd_ne (ne_of_none ec hy)]
          exact sd _ _ (sa _ _ ec)
        · by_cases hj : j < fs.length
          · rw [List.getElem?_append_left hj] at ej
            have q := hfs j t ej
            refine ⟨q.1, q.2.1, ?_⟩
            rw [upd_ne q.1]
            exact sd _ _ q.2.2
          · have hlj : j < (fs ++ [e]).length := (List.getElem?_eq_some_iff.mp ej).1
            have e10 : j = fs.length := by simp at hlj; omega
            subst e10
            rw [List.getElem?_append_right (Nat.le_refl _)] at ej
            simp at ej
            subst ej
            refine ⟨hey, heH, ?_⟩
            rw [upd_ne hey, ed, hlf]
  · rintro σ Ha ⟨sa, hF, u2, u3, u4, u5, rfl⟩
    rw [List.length_map, hlt] at hF
    walk_at "go"
    exact h y Ha sa hy hF

end
end K
/-! the head where the law makes lambdas: its code object's table is empty and stays out of what is known -/
namespace Bk
open PySem PySem.Spec PyProof.Rows L2
/-- the law's code object and its table -/
def ctL (K : PySem.W.Frag) : Addr × Addr := He.cT K ("law", none)
def tabL (g : Addr → Option Obj) (K : PySem.W.Frag) : Bool := PySem.W.codeHdIn K (ctL K).1 (ctL K).2 && (match g (ctL K).2 with
  | some o => He.emptyTab o
  | none => false)
/-- what is known of them -/
structure TabK (K : PySem.W.Frag) (h : Heap) : Prop where
  hd : PySem.W.codeHdIn K (ctL K).1 (ctL K).2 = true
  out : K.lookup (ctL K).2 = none
  emp : h.get? (ctL K).2 = some { cls := .none, data := .fields #[] }
abbrev SeenL : Type := SeenE × Bool
def frL (n : Nat) (g : Addr → Option Obj) : PySem.W.Frag := He.frT g (He5.asA g n ++ cellsG g (He5.asA g n))
def lookL (n : Nat) (fa : List He.Fa) (fn : List He5.DefA) (file : Str) (er : List ErrD) (ex : PySem.W.Frag → Bool) (g : Addr → Option Obj) : SeenL :=
  let K := frL n g
  ((He5.obsA fa fn K, er.map fun d => fnS K (d.at_ K), ex K && er.all fun d => d.ok K file), tabL g K)
theorem tabL_ok {n : Nat} {h : Heap} (e : tabL h.get? (frL n h.get?) = true) : TabK (frL n h.get?) h := by
  obtain ⟨h1, h2⟩ := He.ba e
  cases q : h.get? (ctL (frL n h.get?)).2 with
  | none =>
    rw [q] at h2
    cases h2
  | some o =>
    rw [q] at h2
    exact ⟨h1, He.frT_none q h2, by rw [q, He.emptyTab_eq h2]⟩
def hookL (n : Nat) (fa : List He.Fa) (fn : List He5.DefA) (file : Str) (er : List ErrD) (ex : PySem.W.Frag → Bool) : PySem.W.Hook where
  α := SeenL
  obs := fun s => lookL n fa fn file er ex s.heap.get?
  val := fun _ => ((He5.valA fn, er.map ErrD.val, true), true)
  says := fun _ h => ∃ K : PySem.W.Frag, K.In h ∧ (He5.SaysA fa fn K ∧ ex K = true ∧ SaysE file er K) ∧ TabK K h
  of := fun _ _ e => by
    have e1 := congrArg (fun z : SeenL => z.1.1) e
    have e2 := congrArg (fun z : SeenL => z.1.2.1) e
    have e3 := He.ba (congrArg (fun z : SeenL => z.1.2.2) e)
    have e4 := congrArg (fun z : SeenL => z.2) e
    exact ⟨_, He.frT_in, ⟨e1, e3.1, says_of e2 e3.2⟩, tabL_ok e4⟩
  keeps := fun _ _ _ ⟨K, hK, c, t⟩ k => ⟨K, PySem.W.Frag.In.keeps hK k, c, ⟨t.hd, t.out, k _ _ t.emp⟩⟩
theorem lookL_eq {n : Nat} {fa : List He.Fa} {fn : List He5.DefA} {file : Str} {er : List ErrD} {ex : PySem.W.Frag → Bool} {g : Addr → Option Obj} {s : Shared} (h : ∀ a, g a = s.heap.get? a) : lookL n fa fn file er ex g = (hookL n fa fn file er ex).obs s := by
  have e : g = s.heap.get? := funext h
  rw [e] <;> rfl
section
variable {P : Program} {w : World} {K : PySem.W.Frag} {mg : Str → Option Value} {base : Heap} {x qual : Str} {params : Arguments} {body : List Stmt} {scope : Scope} {kws : List (Str × V)} {f : Addr} {fd : FuncData} {N ps : List Str} {k : Nat} {sp : Sp}
/-- the law's code is where the head saw it -/
theorem law_code (F : FunD K x qual params body scope [] kws (He.ga K "law") fd) : fd.code = .ref (ctL K).1 := by
  obtain ⟨oc, od, dV, kV, doc, pm, an, cdv, ct, osl, e, lk, hcd, _, _⟩ := F.ex
  obtain ⟨c, rfl⟩ := He.codeIn_ref hcd
  have hc : fd.code = .ref c := by rw [e] <;> rfl
  have := He.codeOf_eq (p := ("law", none)) (show K.lookup (He.fAd K ("law", none)) = _ from lk) hc
  rw [hc]
  show _ = Value.ref (He.codeOf K ("law", none))
  rw [this]
/-- a def whose code object is known -/
theorem fo_ofL {c : Addr} (F : FunD K x qual params body scope [] kws f fd) (hc : fd.code = .ref c) (S : FnScope N ps scope) (len : ∀ vs H Q E, sp vs H Q E → vs.length = ps.length)
    (h : ∀ (A : Around) (outer : List Env) (s : Shared) (H : Hp) (vs : List V) (Q : VK) (E : XK), Room k (A.deeper (envOfC qual scope s.heap.objs.size f (.ref c))) → sp vs H Q E →
      ∃ t, PSs (Cb P w K mg base N qual scope f (.ref c) A outer s H E).nox body t ∧ t { nx := fun _ H' => Q .non H', rt := Q } (start N vs) H) : FnOk P w K mg base (L2.CX P w) (k + 1) f fd ps sp := by
  obtain ⟨oc, od, dV, kV, doc, pm, an, cdv, ct, osl, e, lk, hcd, _, _⟩ := F.ex
  subst e
  cases (show cdv = .ref c from hc)
  exact fn_of lk hcd S len fun A outer s H vs Q E hr hs => by
    obtain ⟨t, h1, h2⟩ := h A outer s H vs Q E hr hs
    exact ⟨t, h1.nox, h2⟩
end
end Bk
/-! a lambda handed to a def of the text that calls it in a try with a name -/
namespace Bk
open PySem PySem.Spec PyProof.Rows L2 LamX
section
variable {X : Cx}
theorem takesLam {A : Around} {outer : List Env} {s : Shared} {H : Hp} {E : XK} {scope : Scope} {f c' : Addr} : Takes (lamCx X A outer s H E scope f c') (fun cls d _ H' => E cls d H') := takes_of rfl rfl rfl rfl
/-- an error is let out where the names are as many as they are -/
theorem takes_len {W : WX} (t : Takes X W) : Takes X (fun c d σ H => σ.length = X.N.length → W c d σ H) := fun u s' ⟨a, B, sI, pins, σ, H, cls, d, e, I, nb, up, sky, na, os, ag, w⟩ => t u s' ⟨a, B, sI, pins, σ, H, cls, d, e, I, nb, up, sky, na, os, ag, w I.len⟩
/-- x(lambda: body) of a def of the text -/
theorem pe_lamF {TT : (XK → Hp → VK → Prop) → Hp → VK → Prop} {x a : Str} {g c P : Addr} {k j : Nat} {pg : Arguments} {bg : List Stmt} {sg : Scope} {fd : FuncData} {Ng : List Str} {params : Arguments} {body : Expr} {scope : Scope} {t : XK → TE} {p lpos pos : Pos}
    (F : FunD X.K x x pg bg sg [] [] g fd) (hm : X.mg x = some (.ref g)) (Sg : FnScope Ng [a] sg)
    (hb : ∀ (kV doc pm : Value) (an : Option Addr) (cdv ct : Value) (us : List Value), us.length = [a].length → bindArgs (PySem.W.fnOf x x pg bg sg .none kV doc pm an cdv ct) ⟨us, []⟩ = pure ([a].zip us))
    (hG : ∀ cdv, GivesTo X Ng x sg g cdv bg a (X.env.qual ++ "<lambda>") TT) (TB : TabB X.base X.mg c P) (hcode : X.env.code = .ref c) (hr : Room j X.A)
    (hbody : ∀ (A : Around) (outer : List Env) (s : Shared) (H : Hp) (E : XK) (f c' : Addr), Room k (A.deeper (lamEnv X scope s.heap.objs.size f c')) → PE (lamCx X A outer s H E scope f c') body (t E))
    (hj : k + 2 ≤ j := by decide) (hg : Gl X x := by rfl) (hNg : Ng[0]? = some a := by rfl) (hva : Vis sg a := by exact Or.inl rfl) (L : LamS X.env.scope scope := by exact lamS_by (by decide +kernel)) (hdef : defaultsOf params X.env = ([], []) := by rfl)
    (hbind : ∀ (q : Str) (cl : List (Str × Addr)) (pm cv ctv : Value), bindArgs (PySem.W.kla_fn "<lambda>" q params body scope cl pm cv ctv) ⟨[], []⟩ = pure [] := by intros; rfl)
    (hdb : (x == ("__debug__" : Str)) = false := by decide) (hd : (a == ("__debug__" : Str)) = false := by decide) (hcd : (a == ("__classdict__" : Str)) = false := by decide) :
    PE X (.Call (.Name x p) [.Lambda params body scope lpos] [] pos) (tLam [(P, X.env.qual ++ "<lambda>")] TT t) := by
  have B := F.bindsN (ps := [a]) hb
  obtain ⟨oc, od, dV, kV, doc, pm, an, cdv, ct, osl, e, lk, hcg, _, _⟩ := F.ex
  subst e
  exact pe_lamcall hg hm F.kp lk hcg B Sg hNg hva (hG cdv) TB hcode (List.mem_singleton.mpr rfl) (fun p hp _ => by rw [List.mem_singleton.mp hp]) (hr.mono hj) L hdef hbind hbody hdb hd hcd
end
theorem _root_.L2.Room.units65 {k : Nat} {A : Around} (r : Room k A) : A.units + 65 < cLine := by have := r.un; omega
/-- told: try: return a() / except C as e: return (word, e.index) -/
def TOut (C : Addr) (word : Str) (f : Str) : (XK → Hp → VK → Prop) → Hp → VK → Prop := fun tl H Q =>
  tl (fun cls d H' => cls = .ref C ∧ ∃ (dd : Addr) (fs : List (Str × V)) (v : V), d = some dd ∧ H' dd = some (.xd fs) ∧ fs.lookup f = some v ∧ ∀ t, H' t = none → Q (.ref t) (upd H' t (.tup [.str word, v]))) H Q
end Bk
/-! isinstance of a caught error of the text, with fields or without -/
namespace Bk
open PySem PySem.Spec PyProof.Rows L2 LamX
structure XE (K : PySem.W.Frag) (D : Addr) : Prop where
  cl : (PySem.W.clsIn K D).isSome = true
  ga : PySem.W.findIn K (.ref D) "__getattribute__" = some (some (.builtin "BaseException.__getattribute__"))
  gt : PySem.W.findIn K (.ref D) "__getattr__" = some none
  be : PySem.W.subIn K (.ref D) (.type "BaseException") = some true
  co : PySem.W.findIn K (.ref D) "__class__" = some (some (.builtin "object.__class__"))
  gg : PySem.W.specialIn K (.builtin "object.__class__") "__get__" = some (some (.builtin "getset_descriptor.__get__"))
  tk : PySem.W.takesIn K (.builtin "object.__class__") = some true
  mo : PySem.W.mroIn K D (.type "object") = some true
/-- what the head tells of a class of errors: of which classes its instances are -/
structure XKof (K : PySem.W.Frag) (nm : Str) (cs : List (Str × Bool)) : Prop where
  x : XE K (He.ga K nm)
  exm : PySem.W.exmOne K (.ref (He.ga K nm)) (.ref (He.ga K "LineError")) = some true
  ve : PySem.W.kitOne K (.ref (He.ga K nm)) (.type "ValueError") = some true
  kit : ∀ p ∈ cs, PySem.W.kitOne K (.ref (He.ga K nm)) (.ref (He.ga K p.1)) = some p.2
def isXK (K : PySem.W.Frag) (nm : Str) (cs : List (Str × Bool)) : Bool :=
  [(PySem.W.clsIn K (He.ga K nm)).isSome,
   He.eqO (PySem.W.findIn K (.ref (He.ga K nm)) "__getattribute__") (some (some (.builtin "BaseException.__getattribute__"))),
   He.eqO (PySem.W.findIn K (.ref (He.ga K nm)) "__getattr__") (some none),
   decide (PySem.W.subIn K (.ref (He.ga K nm)) (.type "BaseException") = some true),
   He.eqO (PySem.W.findIn K (.ref (He.ga K nm)) "__class__") (some (some (.builtin "object.__class__"))),
   He.eqO (PySem.W.specialIn K (.builtin "object.__class__") "__get__") (some (some (.builtin "getset_descriptor.__get__"))),
   decide (PySem.W.takesIn K (.builtin "object.__class__") = some true),
   decide (PySem.W.mroIn K (He.ga K nm) (.type "object") = some true),
   decide (PySem.W.exmOne K (.ref (He.ga K nm)) (.ref (He.ga K "LineError")) = some true),
   decide (PySem.W.kitOne K (.ref (He.ga K nm)) (.type "ValueError") = some true),
   cs.all fun p => decide (PySem.W.kitOne K (.ref (He.ga K nm)) (.ref (He.ga K p.1)) = some p.2)].all id
theorem isXK_ok {K : PySem.W.Frag} {nm : Str} {cs : List (Str × Bool)} (h : isXK K nm cs = true) : XKof K nm cs :=
  ⟨⟨all_at h 0, He.eqO_ok (all_at h 1), He.eqO_ok (all_at h 2), of_decide_eq_true (all_at h 3), He.eqO_ok (all_at h 4), He.eqO_ok (all_at h 5), of_decide_eq_true (all_at h 6), of_decide_eq_true (all_at h 7)⟩,
   of_decide_eq_true (all_at h 8), of_decide_eq_true (all_at h 9), fun p hp => of_decide_eq_true (List.all_eq_true.mp (all_at h 10) p hp)⟩
/-- isinstance(e, c): e the error that the suite holds, d its dict -/
def rIsX (K : PySem.W.Frag) (a : Addr) (cls : Value) (d : Option Addr) : List V → Hp → VK → Prop := fun xs H Q => ∃ (D dd : Addr) (fs : List (Str × V)) (c : V) (cv : Value) (b : Bool), cls = .ref D ∧ XE K D ∧ d = some dd ∧ H dd = some (.xd fs) ∧ xs = [.ref a, c] ∧ (∀ u, RelV c u → u = cv) ∧ PySem.W.kitOne K (.ref D) cv = some b ∧ Q (.bl b) H
theorem call_isX {X : Cx} {a : Addr} {cls : Value} {d : Option Addr} {oe : Obj} {pn : List (Addr × Obj)} (hz : Zc cls d oe) (hf : ∃ vs, oe.data = .fields vs) : CallR (X.suite a ((a, oe) :: pn)) (.builtin "isinstance") (rIsX X.K a cls d) := by
  intro pins s σ H xs us Q I r h
  obtain ⟨D, dd, fs, c, cv, b, rfl, T, rfl, ed, rfl, hcv, e, q⟩ := h
  match us, r with
  | [_, ut], .cons rx (.cons rt .nil) =>
    cases rx
    cases hcv _ rt
    obtain ⟨he, _⟩ := I.pin (a, oe) (List.mem_append_left _ List.mem_cons_self)
    obtain ⟨vs, hv⟩ := hf
    obtain ⟨mA, hns, _⟩ := (show ObjOk X.prog X.w H s.heap dd (.xd fs) from I.hok dd _ ed)
    obtain ⟨od, ho, _⟩ := lookIn_ns hns
    have J : PySem.W.InstAt s.heap a oe D (some od) := ⟨he, hz.1, by unfold PySem.W.notCls; rw [hv] <;> rfl, by rw [hz.2]; exact ho⟩
    exact PySem.W.kia_one (PySem.W.kitx_exc T.cl T.ga T.gt T.be T.co T.gg T.tk T.mo) I.kIn J e (fun z => nomatch z) fun tk => ⟨.bl b, H, I.kept (t' := tk) fun _ _ z => z, rfl, q⟩
end Bk
/-! errors of own classes without an own __init__: made of one text, without a dict -/
namespace Bk
open PySem PySem.Spec PyProof.Rows L2 LamX
def vEb : List Value := [.type "ValueError", .type "Exception", .type "BaseException", .type "object"]
structure OxcOf (K : PySem.W.Frag) (nm : Str) : Prop where
  q : PySem.W.excIn K (He.ga K nm) vEb "ValueError.__new__" = true
  kp : PySem.W.keepIn K (.ref (He.ga K nm)) = true
  su : PySem.W.subIn K (.ref (He.ga K nm)) (.type "BaseException") = some true
  ty : PySem.W.typeIn K (.ref (He.ga K nm)) = some (.type "type")
def isOxc (K : PySem.W.Frag) (nm : Str) : Bool :=
  [PySem.W.excIn K (He.ga K nm) vEb "ValueError.__new__", PySem.W.keepIn K (.ref (He.ga K nm)),
   decide (PySem.W.subIn K (.ref (He.ga K nm)) (.type "BaseException") = some true), decide (PySem.W.typeIn K (.ref (He.ga K nm)) = some (.type "type"))].all id
theorem isOxc_ok {K : PySem.W.Frag} {nm : Str} (h : isOxc K nm = true) : OxcOf K nm :=
  ⟨all_at h 0, all_at h 1, of_decide_eq_true (all_at h 2), of_decide_eq_true (all_at h 3)⟩
/-- X(e): an error of an own class without an own __init__ -/
theorem pmk_oxc {X : Cx} {x : Str} {e : Expr} {ta : TE} {p pos : Pos} (T : OxcOf X.K x) (gC : X.mg x = some (.ref (He.ga X.K x))) (he : PE X e ta) (hg : Gl X x := by rfl)
    (hs : starEach [e] X.env = (false, eval e X.env) :: starEach [] X.env := by rfl) (hdb : (x == ("__debug__" : Str)) = false := by decide) :
    PMk X (.Call (.Name x p) [e] [] pos) (fun σ H Q => ta σ H fun _ H1 => Q (.ref (He.ga X.K x)) none H1) :=
  SkE.pmk_own1 PySem.F.excBase_ValueError T.q gC T.kp (raises_own T.su T.ty) hg he hs hdb
end Bk
/-! the head seen by fewer steps: after n steps only what functions and records name -/
namespace Bk
open PySem PySem.Spec PyProof.Rows L2
def fnRefs (g : Addr → Option Obj) (as : List Addr) : List Addr := as.flatMap fun a => match g a with
  | some o => (match o.data with
    | .func _ => He.refsD o
    | .fields _ => He.refsO o
    | _ => [])
  | none => []
def exR (g : Addr → Option Obj) : Nat → List Addr → List Addr
  | 0, _ => []
  | k + 1, as => fnRefs g as ++ exR g k (fnRefs g as)
def frM (n : Nat) (g : Addr → Option Obj) : PySem.W.Frag := He.frT g (He5.asA g n ++ exR g 2 (He5.asA g n))
def lookM (n : Nat) (fa : List He.Fa) (fn : List He5.DefA) (file : Str) (er : List ErrD) (ex : PySem.W.Frag → Bool) (g : Addr → Option Obj) : SeenL :=
  let K := frM n g
  ((He5.obsA fa fn K, er.map fun d => fnS K (d.at_ K), ex K && er.all fun d => d.ok K file), tabL g K)
theorem tabM_ok {n : Nat} {h : Heap} (e : tabL h.get? (frM n h.get?) = true) : TabK (frM n h.get?) h := by
  obtain ⟨h1, h2⟩ := He.ba e
  cases q : h.get? (ctL (frM n h.get?)).2 with
  | none =>
    rw [q] at h2
    cases h2
  | some o =>
    rw [q] at h2
    exact ⟨h1, He.frT_none q h2, by rw [q, He.emptyTab_eq h2]⟩
def hookM (n : Nat) (fa : List He.Fa) (fn : List He5.DefA) (file : Str) (er : List ErrD) (ex : PySem.W.Frag → Bool) : PySem.W.Hook where
  α := SeenL
  obs := fun s => lookM n fa fn file er ex s.heap.get?
  val := fun _ => ((He5.valA fn, er.map ErrD.val, true), true)
  says := fun _ h => ∃ K : PySem.W.Frag, K.In h ∧ (He5.SaysA fa fn K ∧ ex K = true ∧ SaysE file er K) ∧ TabK K h
  of := fun _ _ e => by
    have e1 := congrArg (fun z : SeenL => z.1.1) e
    have e2 := congrArg (fun z : SeenL => z.1.2.1) e
    have e3 := He.ba (congrArg (fun z : SeenL => z.1.2.2) e)
    have e4 := congrArg (fun z : SeenL => z.2) e
    exact ⟨_, He.frT_in, ⟨e1, e3.1, says_of e2 e3.2⟩, tabM_ok e4⟩
  keeps := fun _ _ _ ⟨K, hK, c, t⟩ k => ⟨K, PySem.W.Frag.In.keeps hK k, c, ⟨t.hd, t.out, k _ _ t.emp⟩⟩
theorem lookM_eq {n : Nat} {fa : List He.Fa} {fn : List He5.DefA} {file : Str} {er : List ErrD} {ex : PySem.W.Frag → Bool} {g : Addr → Option Obj} {s : Shared} (h : ∀ a, g a = s.heap.get? a) : lookM n fa fn file er ex g = (hookM n fa fn file er ex).obs s := by
  have e : g = s.heap.get? := funext h
  rw [e] <;> rfl
end Bk
/-! whether an error is caught by a clause that names a class -/
namespace Bk
open PySem PySem.Spec PyProof.Rows L2
structure ExmOf (K : PySem.W.Frag) (x y : Str) (b : Bool) : Prop where
  at_ : PySem.W.exmOne K (.ref (He.ga K x)) (.ref (He.ga K y)) = some b
def isExm (K : PySem.W.Frag) (x y : Str) (b : Bool) : Bool := decide (PySem.W.exmOne K (.ref (He.ga K x)) (.ref (He.ga K y)) = some b)
theorem isExm_ok {K : PySem.W.Frag} {x y : Str} {b : Bool} (h : isExm K x y b = true) : ExmOf K x y b := ⟨of_decide_eq_true h⟩
end Bk
/-! list.count of flat things; what is never read; the outcome of a lambda, told by the error's class -/
namespace Bk
open PySem PySem.Spec PyProof.Rows L2 LamX
section
variable {X : Cx}
def rCount (K : PySem.W.Frag) : V → List V → Hp → VK → Prop := fun x xs H Q => ∃ (a : Addr) (ys : List V) (y : V), x = V.ref a ∧ xs = [y] ∧ SqL K H a ys ∧ flatV y = true ∧ ys.all flatV = true ∧ Q (.int (ys.countP (fun z => eqV z y) : Nat)) H
theorem count_eqU {y : V} : ∀ {ys : List V} {its : List Value}, Vals ys its → ys.all flatV = true → its.countP (eqU y) = ys.countP fun z => eqV z y
  | _, _, .nil, _ => rfl
  | _, _, .cons r rs, f => by
    rw [List.all_cons, Bool.and_eq_true] at f
    rw [List.countP_cons, List.countP_cons, count_eqU rs f.2, eqU_of r f.1]
theorem mt_count : MtR X "list.count" (rCount X.K) := by
  intro pins s σ H x xs v us Q I rx rxs h
  obtain ⟨a, ys, y, rfl, rfl, hs, fy, fys, q⟩ := h
  cases rx
  match us, rxs with
  | [uy], .cons ry .nil =>
    obtain ⟨its, rv, ⟨⟨cls, dd, data, sl⟩, n, ho, hc, hdn, hd⟩, hlen⟩ := I.list hs
    dsimp only at hc hd
    subst hc hd
    refine call_meets PySem.F.slot_list_count ⟨_, ho, rfl⟩ PySem.F.entry_list_count (PySem.F.args_list_count_2 _ _) (SeqAt.list_countAt a its.toArray n dd sl uy (eqU y)) ⟨ho, fun u hu => mem_eqAt ry fy rv fys u (by simpa using hu), ?_⟩
    refine ⟨.int (ys.countP (fun z => eqV z y) : Nat), H, I.tok _, ⟨s.toks, ?_⟩, q⟩
    show Value.int ((its.toArray.toList.countP (eqU y) : Nat) : Int) s.toks = Value.int ((ys.countP (fun z => eqV z y) : Nat) : Int) s.toks
    rw [show its.toArray.toList = its from rfl, count_eqU rv fys]
theorem mt_countK (K0 : PySem.W.Frag) (h : X.K = K0 := by rfl) : MtR X "list.count" (rCount K0) := h ▸ mt_count
theorem mt_indexK (K0 : PySem.W.Frag) (h : X.K = K0 := by rfl) : MtR X "list.index" (rIndex K0) := h ▸ mt_index
/-- the context's part of the world unnamed -/
theorem bmK (K0 : PySem.W.Frag) {T : String} {r : V → List V → Hp → VK → Prop} {e : Expr} {to : TE} {t : TA} (p : PE X e (tBM X.K T r to t)) (h : X.K = K0 := by rfl) : PE X e (tBM K0 T r to t) := h ▸ p
def tNv : TE := fun _ _ _ => False
/-- never read -/
theorem pe_never {e : Expr} : PE X e tNv := ⟨fun _ _ _ _ _ _ h => h.elim⟩
end
section
variable {P : Program} {w : World} {K : PySem.W.Frag} {mg : Str → Option Value} {base : Heap} {x qual : Str} {params : Arguments} {body : List Stmt} {scope : Scope} {kws : List (Str × V)} {f : Addr} {fd : FuncData} {N ps : List Str} {k : Nat} {sp : Sp}
/-- a def with a star parameter that may raise -/
theorem fxr_star {pv : Str} (F : FunD K x qual params body scope [] kws f fd) (S : FnScope N (ps ++ [pv]) scope)
    (hb : ∀ (kV doc pm : Value) (an : Option Addr) (cdv ct : Value) (us rest : List Value), us.length = ps.length → bindArgs (PySem.W.fnOf x qual params body scope .none kV doc pm an cdv ct) ⟨us ++ rest, []⟩ = (newTuple rest >>= fun t => pure (ps.zip us ++ [(pv, t)])))
    (h : ∀ (cdv : Value) (A : Around) (outer : List Env) (s : Shared) (H : Hp) (vs : List V) (Q : VK) (E : XK), Room k (A.deeper (envOfC qual scope s.heap.objs.size f cdv)) → sp vs H Q E →
      ∃ t, PSs (Cb P w K mg base N qual scope f cdv A outer s H E) body t ∧ t { nx := fun _ H' => Q .non H', rt := Q } (start N vs) H) : Fx P w K mg base (k + 1) f (StSp ps.length sp) := by
  obtain ⟨oc, od, dV, kV, doc, pm, an, cdv, ct, osl, rfl, lk, hcd, hD, hK⟩ := F.ex
  have eD : dV = .none := by
    rcases hD with ⟨_, e⟩ | ⟨e, _⟩
    · exact e
    · exact absurd rfl e
  subst eD
  exact StX.fn_star lk hcd S StX.cxUp (hb kV doc pm an cdv ct) fun A outer s H vs Q E hr hs => h cdv A outer s H vs Q E hr hs
end
/-- told: the error's class and its fields; nothing where there is none -/
def TErr (L T : Addr) : (XK → Hp → VK → Prop) → Hp → VK → Prop := fun tl H Q =>
  tl (fun cls d H' => (cls = .ref L ∧ ∃ (dd : Addr) (i : Int), d = some dd ∧ H' dd = some (.xd [("index", .int i)]) ∧ ∀ t H2, Same H' H2 → H' t = none → H2 t = some (.tup [.str "line", .int i]) → Q (.ref t) H2) ∨
    (cls = .ref T ∧ ∃ (dd : Addr) (r w : Int), d = some dd ∧ H' dd = some (.xd [("word", .int w), ("row", .int r)]) ∧ ∀ t t2 H2, Same H' H2 → H2 t2 = some (.tup [.int r, .int w]) → H2 t = some (.tup [.str "text", .ref t2]) → Q (.ref t) H2)) H fun _ H1 => Q .non H1
end Bk
namespace K
open PySem PySem.Spec PyProof.Rows L2 Bk
local macro_rules | `(tactic| walk_at "go1") => `(tactic| (first
  | ((with_reducible show tVar _ _ _ _); refine go_var rfl ?_)
  | (with_reducible first | refine go_c ?_ | refine go_op ?_ | refine go_cons ?_ | refine go_nil ?_ | refine go_cb ?_ | refine go_cl ?_ | refine go_seq ?_ | refine go_asg ?_ | refine go_name ?_ | refine go_ifS ?_ | refine go_test ?_ | refine go_bl ?_)
  | (with_reducible first | refine go_rI0 ?_ | refine go_rU ?_ | refine go_ret ?_ | refine go_next ?_ | refine go_B ?_ | refine go_and ?_ | refine go_or ?_ | refine go_not ?_ | refine go_if ?_ | refine go_andV ?_ | refine go_orV ?_ | refine go_notV ?_)
  | ((with_reducible show rEq _ _ _ _); refine go_rEq rfl ?_)
  | ((with_reducible show rNe _ _ _ _); refine go_rNe rfl ?_)
  | (with_reducible first | refine go_un ?_ | refine go_chain ?_ | refine go_drop ?_ | refine go_retN ?_ | refine go_isN ?_ | refine go_notN ?_ | refine go_cont ?_ | refine go_break ?_ | refine go_par ?_ | refine go_two ?_ | refine go_part ?_ | refine go_noPart ?_ | refine go_int ?_ | refine go_sl ?_ | refine go_yes ?_ | refine go_tup ?_ | refine go_lst ?_)
  | (with_reducible first | refine go_gCons ?_ | refine go_gNil ?_ | refine go_for ?_ | refine go_iEnT ?_ | refine go_iEnum ?_ | refine go_iList ?_ | refine go_iTup ?_ | refine go_iStr ?_ | refine go_iRng1 ?_ | refine go_iRng2 ?_ | refine go_iZip ?_ | refine go_lc ?_ | refine go_mkR ?_ | refine go_mkS ?_ | refine go_clO ?_ | refine go_pr ?_ | refine go_sfld ?_ | refine go_bm ?_ | refine go_ref ?_)))
local macro_rules | `(tactic| walk_at "go") => `(tactic| ((repeat (walk_at "go1")); try dsimp only))
local macro_rules | `(tactic| walk_at "so") => `(tactic| first | omega | (simp; done) | (simp; omega) | (simp at *; omega))
section
variable {P : Program} {w : World} {K : PySem.W.Frag} {mg : Str → Option Value} {base : Heap} [PFa P FILE]
/-! the law -/
def SpR (H : Hp) (ts : List Addr) (ws : List Wk) : Prop := ts.length = ws.length ∧ ∀ (i : Nat) (t : Addr), ts[i]? = some t → ∃ W : Wk, ws[i]? = some W ∧ H t = some (.tup (spT W))
theorem SpR.frd {H H' : Hp} {d : Addr} {ts : List Addr} {ws : List Wk} (h : SpR H ts ws) (st : DSt H d) (f : FrD d H H') : SpR H' ts ws := ⟨h.1, fun i t e => by
  obtain ⟨W, a, b⟩ := h.2 i t e
  refine ⟨W, a, f _ _ (fun z => ?_) b⟩
  obtain ⟨c0, c1, cs, e9, _⟩ := st
  rw [z, e9] at b
  cases b⟩
theorem SpR.keep {H H' : Hp} {ts : List Addr} {ws : List Wk} (h : SpR H ts ws) (s : Same H H') : SpR H' ts ws := ⟨h.1, fun i t e => by
  obtain ⟨W, a, b⟩ := h.2 i t e
  exact ⟨W, a, s _ _ b⟩⟩
theorem SpR.at {H : Hp} {ts : List Addr} {ws : List Wk} (h : SpR H ts ws) {i : Nat} {y : V} (e : (ts.map V.ref)[i]? = some y) : ∃ (t : Addr) (W : Wk), y = .ref t ∧ ws[i]? = some W ∧ H t = some (.tup (spT W)) := by
  obtain ⟨t, ht, rfl⟩ := map_at e
  obtain ⟨W, q⟩ := h.2 i t ht
  exact ⟨t, W, rfl, q⟩
theorem SpR.snoc {H : Hp} {ts : List Addr} {ws : List Wk} (h : SpR H ts ws) {t : Addr} {W : Wk} (a5 : H t = some (.tup (spT W))) : SpR H (ts ++ [t]) (ws ++ [W]) := ⟨by simp [h.1], fun j u ej => by
  by_cases hj : j < ts.length
  · rw [List.getElem?_append_left hj] at ej
    obtain ⟨W', b1, b⟩ := h.2 j u ej
    exact ⟨W', by rw [List.getElem?_append_left (by rw [← h.1]; exact hj)]; exact b1, b⟩
  · have hlj : j < (ts ++ [t]).length := (List.getElem?_eq_some_iff.mp ej).1
    have e10 : j = ts.length := by simp at hlj; omega
    subst e10
    rw [List.getElem?_append_right (Nat.le_refl _)] at ej
    simp at ej
    subst ej
    exact ⟨W, by rw [h.1]; simp, a5⟩⟩
theorem Crew.frd {K : PySem.W.Frag} {H H' : Hp} {d : Addr} {os : List Addr} {ws : List Wk} (h : Crew K H os ws) (st : DSt H d) (f : FrD d H H') : Crew K H' os ws := ⟨h.1, fun i o e => by
  obtain ⟨W, a, dx, b⟩ := h.2 i o e
  refine ⟨W, a, dx, f _ _ (fun z => ?_) b⟩
  obtain ⟨c0, c1, cs, e9, _⟩ := st
  rw [z, e9] at b
  cases b⟩
theorem crew_ys {K : PySem.W.Frag} {H : Hp} {ys : List V} {ws : List Wk} (hl : ys.length = ws.length) (h : ∀ (i : Nat) (y : V), ys[i]? = some y → ∃ (W : Wk) (o : Addr), ws[i]? = some W ∧ y = V.ref o ∧ WkAt K H o W) : ∃ os : List Addr, ys = os.map V.ref ∧ Crew K H os ws := by
  refine ⟨ys.map fun y => match y with | .ref t => t | _ => 0, ?_, by simp [hl], fun i o ho => ?_⟩
  · rw [List.map_map]
    symm
    apply List.ext_getElem?
    intro i
    cases ei : ys[i]? with
    | none => simp [ei]
    | some y =>
      obtain ⟨W, o, _, rfl, _⟩ := h i y ei
      simp [ei]
  · rw [List.getElem?_map] at ho
    cases ei : ys[i]? with
    | none => rw [ei] at ho; cases ho
    | some y =>
      obtain ⟨W, o', a1, rfl, a3⟩ := h i y ei
      rw [ei] at ho
      cases ho
      exact ⟨W, a1, a3⟩
theorem tab_ys {H : Hp} {x : Addr} {ys : List V} {f : Nat → List Int} {n : Nat} (hl : ys.length = n) (e : H x = some (.lst ys)) (h : ∀ (i : Nat) (y : V), ys[i]? = some y → ∃ r : Addr, y = V.ref r ∧ r ≠ x ∧ H r = some (.lst ((f i).map V.int))) : TabF (fun _ => True) H x f n := by
  refine ⟨ys.map fun y => match y with | .ref t => t | _ => 0, ?_, by simp [hl], trivial, fun i t ho => ?_⟩
  · rw [e, List.map_map]
    congr 2
    apply List.ext_getElem?
    intro i
    cases ei : ys[i]? with
    | none => simp [ei]
    | some y =>
      obtain ⟨r, rfl, _⟩ := h i y ei
      simp [ei]
  · rw [List.getElem?_map] at ho
    cases ei : ys[i]? with
    | none => rw [ei] at ho; cases ho
    | some y =>
      obtain ⟨r, rfl, a2, a3⟩ := h i y ei
      rw [ei] at ho
      cases ho
      exact ⟨a2, trivial, a3⟩
theorem pick_n {c : Prop} [Decidable c] {A B : TE} {σ : L2.St} {H : Hp} {K : VK} (v : V) (hA : ¬ c → ∀ K' : VK, K' v H → A σ H K') (hB : c → ∀ K' : VK, K' v H → B σ H K') (k : K v H) : if (!decide c) = true then A σ H K else B σ H K := by
  by_cases h : c
  · rw [decide_eq_true h]
    exact iteF (hB h K k)
  · rw [decide_eq_false h]
    exact iteT (hA h K k)
theorem plL_map (ws : List Wk) (n : Nat) : plL ws n = ((List.range n).map (plW ws)).map V.int := by simp [plL]
theorem tk_orG {K : PySem.W.Frag} {H : Hp} {o : Addr} {W : Wk} {ta : TE} {t : TA} {σ : L2.St} {x : Int} {Q : VK} (hO : W.Ok) (hW : WkAt K H o W) (hv : ∀ QV : VK, QV (.ref o) H → ta σ H QV) (ht : ∀ QA : List V → Hp → Prop, QA [.int x] H → t σ H QA) (h0 : 0 ≤ x) (h1 : x ≤ 10 ^ 18) (q : Q (.int (W.tk x)) H) :
    tMethR (He.ga K "Worker") "ticks_for" (spTks K 0) E0 ta t σ H Q ∨ tMethR (He.ga K "Tiring") "ticks_for" (spTks K 1) E0 ta t σ H Q ∨ tMethR (He.ga K "Learning") "ticks_for" (spTks K 2) E0 ta t σ H Q ∨ tMethR (He.ga K "Resting") "ticks_for" (spTks K 3) E0 ta t σ H Q := by
  have key : ∀ k, W.k = k → tMethR (clsW K k) "ticks_for" (spTks K k) E0 ta t σ H Q := by
    intro k hk
    obtain ⟨dx, ho⟩ := id hW
    rw [hk] at ho
    refine go_methR (hv _ ⟨o, dx, _, rfl, ho, wf_t W, ?_⟩)
    refine ht _ ?_
    exact ⟨o, W, x, rfl, hW, hk, hO, h0, h1, q⟩
  match e : W.k, hO.k3 with
  | 0, _ => exact .inl (key 0 e)
  | 1, _ => exact .inr (.inl (key 1 e))
  | 2, _ => exact .inr (.inr (.inl (key 2 e)))
  | 3, _ => exact .inr (.inr (.inr (key 3 e)))
theorem kd_at {K : PySem.W.Frag} {mg : Str → Option Value} (T : Tx K mg) {k : Nat} (h : k ≤ 3) : ∃ u, Con K (clsW K k) "KIND" (.str (kdS k)) u := by
  match k, h with
  | 0, _ => exact T.kd_Worker.co
  | 1, _ => exact T.kd_Tiring.co
  | 2, _ => exact T.kd_Learning.co
  | 3, _ => exact T.kd_Resting.co
theorem kd_ok {k : Nat} (h : k ≤ 3) : PyData.strOk (kdS k) = true := by
  match k, h with
  | 0, _ => decide +kernel
  | 1, _ => decide +kernel
  | 2, _ => decide +kernel
  | 3, _ => decide +kernel
theorem wf0_K (z : Str) (p : Int) : (wf0 z p).lookup ("KIND" : Str) = none := lk_ne (by decide +kernel) (lk_ne (by decide +kernel) rfl)
theorem wf_K (W : Wk) : (wf W).lookup ("KIND" : Str) = none := by
  unfold wf
  split
  · exact lk_ne (by decide +kernel) (lk_ne (by decide +kernel) (wf0_K _ _))
  · split
    · exact lk_ne (by decide +kernel) (wf0_K _ _)
    · split
      · exact lk_ne (by decide +kernel) (lk_ne (by decide +kernel) (wf0_K _ _))
      · exact wf0_K _ _
def fewW : List Wk := [⟨0, "a", 1, 1, 0⟩, ⟨2, "b", 1000, 1, 0⟩]
theorem few_ok : CrewOk fewW := by
  refine ⟨fun W hW => ?_, by decide +kernel, by decide, by decide⟩
  unfold fewW at hW
  simp only [List.mem_cons, List.not_mem_nil, or_false] at hW
  rcases hW with rfl | rfl
  · exact ⟨(by decide : 0 ≤ 3), (by decide +kernel : nmB "a" = true), (by decide : (1 : Int) ≤ 1), (by decide : (1 : Int) ≤ 1000), (by decide : (1 : Int) ≤ 1), (by decide : (1 : Int) ≤ 1000), (by decide : (0 : Int) ≤ 0), (by decide : (0 : Int) ≤ 1000)⟩
  · exact ⟨(by decide : 2 ≤ 3), (by decide +kernel : nmB "b" = true), (by decide : (1 : Int) ≤ 1000), (by decide : (1000 : Int) ≤ 1000), (by decide : (1 : Int) ≤ 1), (by decide : (1 : Int) ≤ 1000), (by decide : (0 : Int) ≤ 0), (by decide : (0 : Int) ≤ 1000)⟩
def gF : Nat → Int
  | 0 => 0
  | b + 1 => gF b + max 1 (if 1000 - (b : Int) < 1 then 1 else 1000 - (b : Int))
theorem few_row : ∀ b, RowW fewW b 0 = gF b
  | 0 => RowW_00 _
  | b + 1 => by
    rw [RowW_s0 (by decide), RowW_l few_ok b 0 rfl, few_row b]
    show gF b + (dsOf (psAt fewW b)).getD 0 0 = _
    rw [dsW_at (ws := fewW) (x := b) (k := 0) rfl rfl]
    rfl
theorem few_end : plW fewW 1999 = 501500 := by
  rw [plW_is (by decide)]
  have e := RowW_s0 (ws := fewW) (by decide) 1999
  rw [few_row] at e
  show RowW fewW 1999 1 = _
  rw [← e]
  decide +kernel
def spLaw (K : PySem.W.Frag) : Sp := fun vs H Q _ => ∃ (z : Prop) (sc : Addr) (ns : List Int), vs = [.ref sc] ∧ ScAt z K H sc ns ∧ ns.length ≤ 63 ∧ ∀ H', Q (.bl true) H'

theorem sc_law : FnScope ["_law_script", "_law_d", "_law_step", "_law_specs", "_law_workers", "_law_count", "_law_rows", "_law_expected", "_law_last", "_law_k", "_law_bucket", "_law_found", "_law_few", "_law_name", "_law_pace", "_law_ends_here", "_law_spec_here"] ["_law_script"] (defScope s_law) := ⟨rfl, rfl, rfl, by decide +kernel, rfl, by decide +kernel, by decide +kernel⟩
theorem ok_law (T : Tx K mg) (D__law_random : Fx P w K mg base 1 (He.ga K "_law_random") (spRandom K)) (D__law_people : Fx P w K mg base 3 (He.ga K "_law_people") (spPeopleD K)) (D__law_below : Fx P w K mg base 1 (He.ga K "_law_below") (spBelow K)) (D__law_spec : Fx P w K mg base 3 (He.ga K "_law_spec") (spSpec K)) (D__law_worker : Fx P w K mg base 9 (He.ga K "_law_worker") (spMkW K)) (D__law_durations : Fx P w K mg base 1 (He.ga K "_law_durations") (spDrs K)) (D__law_ticks : Fx P w K mg base 1 (He.ga K "_law_ticks") (spLTk K)) (D__law_ends : Fx P w K mg base 1 (He.ga K "_law_ends") (spLEn K)) (D__law_equal : Fx P w K mg base 6 (He.ga K "_law_equal") (spEqD K 5)) (D_played : GFx P w K mg base 4 (He.ga K "played") (spPl K)) (D_ticks_needed : Fx P w K mg base 9 (He.ga K "ticks_needed") (spTN K)) (D_Worker_ticks_for : Fx P w K mg base 1 (He.ma K (He.ga K "Worker") "ticks_for") (spTks K 0)) (D_Tiring_ticks_for : Fx P w K mg base 1 (He.ma K (He.ga K "Tiring") "ticks_for") (spTks K 1)) (D_Learning_ticks_for : Fx P w K mg base 1 (He.ma K (He.ga K "Learning") "ticks_for") (spTks K 2)) (D_Resting_ticks_for : Fx P w K mg base 1 (He.ma K (He.ga K "Resting") "ticks_for") (spTks K 3)) (D_Workeru_initu : Fx P w K mg base 5 (He.ma K (He.ga K "Worker") "__init__") (spWInit K)) (D_Learningu_initu : KFx P w K mg base 7 (He.ma K (He.ga K "Learning") "__init__") 3 ["best"] (spSubW K 2)) {fd : FuncData} (F : FunD K "law" "law" (defArgs s_law) (defBody s_law) (defScope s_law) [] [] (He.ga K "law") fd) : FnOk P w K mg base (L2.CX P w) 11 (He.ga K "law") fd ["_law_script"] (spLaw K) := by
  have K__law_random : PySem.W.keepIn K (.ref (He.ga K "_law_random")) = true := T.F__law_random.elim fun _ q => q.kp
  have K__law_people : PySem.W.keepIn K (.ref (He.ga K "_law_people")) = true := T.F__law_people.elim fun _ q => q.kp
  have K__law_below : PySem.W.keepIn K (.ref (He.ga K "_law_below")) = true := T.F__law_below.elim fun _ q => q.kp
  have K__law_spec : PySem.W.keepIn K (.ref (He.ga K "_law_spec")) = true := T.F__law_spec.elim fun _ q => q.kp
  have K__law_worker : PySem.W.keepIn K (.ref (He.ga K "_law_worker")) = true := T.F__law_worker.elim fun _ q => q.kp
  have K__law_durations : PySem.W.keepIn K (.ref (He.ga K "_law_durations")) = true := T.F__law_durations.elim fun _ q => q.kp
  have K__law_ticks : PySem.W.keepIn K (.ref (He.ga K "_law_ticks")) = true := T.F__law_ticks.elim fun _ q => q.kp
  have K__law_ends : PySem.W.keepIn K (.ref (He.ga K "_law_ends")) = true := T.F__law_ends.elim fun _ q => q.kp
  have K__law_equal : PySem.W.keepIn K (.ref (He.ga K "_law_equal")) = true := T.F__law_equal.elim fun _ q => q.kp
  have K_played : PySem.W.keepIn K (.ref (He.ga K "played")) = true := T.F_played.elim fun _ q => q.kp
  have K_ticks_needed : PySem.W.keepIn K (.ref (He.ga K "ticks_needed")) = true := T.F_ticks_needed.elim fun _ q => q.kp
  have nd := sc_law.nd
  refine fo_of F sc_law (fun vs H Q E h => ?_) fun cdv A outer s H vs Q E hr h => ?_
  · obtain ⟨zz, sc, ns, rfl, _⟩ := h
    rfl
  obtain ⟨zz, sc, ns, rfl, hS, hn, h⟩ := h
  refine ⟨_, (pss_cons (ps_set (i := 1) nd rfl (Or.inr rfl) (pe_cl D__law_random hr K__law_random T.g__law_random passL (pa_cons (pv 0) (pa_cons pe_int pa_nil)))) (pss_cons (ps_for PassesOwn.never rfl (pi_range1 rfl T.m_range (pa_cons pe_int pa_nil)) (pg_name (i := 2) nd rfl (Or.inl rfl)) (pss_cons (ps_set (i := 3) nd rfl (Or.inr rfl) (pe_lc (own := [("_law_name", 13), ("_law_pace", 14)]) (g := (gTup K 2 (gCons (gName 13) (gCons (gName 14) gNil)))) rfl nd (pi_list (pe_cl D__law_people hr K__law_people T.g__law_people passL (pa_cons (pv 1) (pa_cons (pe_ix (ixL K) (pe_lst (pa_cons pe_int (pa_cons pe_int pa_nil))) (pe_cl D__law_below hr K__law_below T.g__law_below passL (pa_cons (pv 1) (pa_cons pe_int pa_nil))) (fun _ _ => rfl)) pa_nil)))) (blkOk_by (N := ["_law_script", "_law_d", "_law_step", "_law_specs", "_law_workers", "_law_count", "_law_rows", "_law_expected", "_law_last", "_law_k", "_law_bucket", "_law_found", "_law_few", "_law_name", "_law_pace", "_law_ends_here", "_law_spec_here"]) (sc := defScope s_law) (own := [("_law_name", 13), ("_law_pace", 14)]) (by decide +kernel)) (fun _ _ _ _ _ => (pg_tup (by rfl) (pgs_cons (pg_name (i := 13) nd rfl (Or.inl rfl)) (pgs_cons (pg_name (i := 14) nd rfl (Or.inl rfl)) pgs_nil)))) (fun _ _ _ _ _ => pts_nil) (fun _ _ _ _ _ => (pe_cl D__law_spec hr K__law_spec T.g__law_spec passL (pa_cons (pv 1) (pa_cons (pv 13) pa_nil)))))) (pss_cons (ps_par (i := 4) (j := 5) rfl nd rfl rfl (by decide) rfl rfl (pa_cons (pe_lc (own := [("_law_spec_here", 16)]) (g := (gName 16)) rfl nd (pi_list (pv 3)) (blkOk_by (N := ["_law_script", "_law_d", "_law_step", "_law_specs", "_law_workers", "_law_count", "_law_rows", "_law_expected", "_law_last", "_law_k", "_law_bucket", "_law_found", "_law_few", "_law_name", "_law_pace", "_law_ends_here", "_law_spec_here"]) (sc := defScope s_law) (own := [("_law_spec_here", 16)]) (by decide +kernel)) (fun _ _ _ _ _ => (pg_name (i := 16) nd rfl (Or.inl rfl))) (fun _ _ _ _ _ => pts_nil) (fun _ _ _ _ _ => (pe_cl D__law_worker hr K__law_worker T.g__law_worker passL (pa_cons (pv 16) pa_nil)))) (pa_cons (pe_cl D__law_below hr K__law_below T.g__law_below passL (pa_cons (pv 1) (pa_cons pe_int pa_nil))) pa_nil)) rfl) (pss_cons (ps_setLc (i := 6) (own := [("_law_bucket", 10)]) (g := (gName 10)) rfl nd rfl rfl (sw_true rfl rfl rfl (by decide +kernel)) (pi_range1 rfl T.m_range (pa_cons (pv 5) pa_nil)) (blkOk_by (N := ["_law_script", "_law_d", "_law_step", "_law_specs", "_law_workers", "_law_count", "_law_rows", "_law_expected", "_law_last", "_law_k", "_law_bucket", "_law_found", "_law_few", "_law_name", "_law_pace", "_law_ends_here", "_law_spec_here"]) (sc := defScope s_law) (own := [("_law_bucket", 10)]) (by decide +kernel)) (fun _ _ _ _ _ => (pg_name (i := 10) nd rfl (Or.inr rfl))) (fun _ _ _ _ _ => pts_nil) (fun _ _ _ _ _ => (pe_cl D__law_durations hr K__law_durations T.g__law_durations passL (pa_cons (pe_lc (own := [("_law_spec_here", 16)]) (g := (gName 16)) rfl nd (Bk.pi_listI K (pv 3)) (blkOk_by (N := ["_law_script", "_law_d", "_law_step", "_law_specs", "_law_workers", "_law_count", "_law_rows", "_law_expected", "_law_last", "_law_k", "_law_bucket", "_law_found", "_law_few", "_law_name", "_law_pace", "_law_ends_here", "_law_spec_here"]) (sc := { kind := .function, names := [(".0", .local), ("_law_bucket", .cell), ("_law_durations", .globalImplicit), ("_law_specs", .cell)], isGenerator := false, isCoroutine := false }) (own := [("_law_spec_here", 16)]) (by decide +kernel)) (fun _ _ _ _ _ => (pg_name (i := 16) nd rfl (Or.inl rfl))) (fun _ _ _ _ _ => pts_nil) (fun _ _ _ _ _ => (pe_cl D__law_ticks hr K__law_ticks T.g__law_ticks passL (pa_cons (pv 16) (pa_cons (pv 10) pa_nil))))) pa_nil)))) (pss_cons (ps_setLc (i := 7) (own := [("_law_ends_here", 15)]) (g := (gName 15)) rfl nd rfl rfl (sw_true rfl rfl rfl (by decide +kernel)) (pi_list (pe_cl D__law_ends hr K__law_ends T.g__law_ends passL (pa_cons (pv 6) pa_nil))) (blkOk_by (N := ["_law_script", "_law_d", "_law_step", "_law_specs", "_law_workers", "_law_count", "_law_rows", "_law_expected", "_law_last", "_law_k", "_law_bucket", "_law_found", "_law_few", "_law_name", "_law_pace", "_law_ends_here", "_law_spec_here"]) (sc := defScope s_law) (own := [("_law_ends_here", 15)]) (by decide +kernel)) (fun _ _ _ _ _ => (pg_name (i := 15) nd rfl (Or.inl rfl))) (fun _ _ _ _ _ => pts_nil) (fun _ _ _ _ _ => (pe_ix (ixL K) (pv 15) (pe_un un_neg pe_int) (fun _ _ => rfl)))) (pss_cons (ps_set (i := 8) nd rfl (Or.inl rfl) (pe_ifExp (pt_cmpR (Bk.neD K hr.units) (pv 7) (pe_lst pa_nil) (nomark _)) (pe_ix (ixL K) (pv 7) (pe_un un_neg pe_int) (fun _ _ => rfl)) pe_int)) (pss_cons (ps_if (pt_not (pt_val (pe_cl D__law_equal hr K__law_equal T.g__law_equal passL (pa_cons (pe_lst (pa_cons (pe_genF D_played hr K_played T.g_played (pa_cons (pv 4) (pa_cons (pv 5) pa_nil)) rfl T.m_list) (pa_cons (pe_cl D_ticks_needed hr K_ticks_needed T.g_ticks_needed passL (pa_cons (pv 4) (pa_cons (pv 5) pa_nil))) pa_nil))) (pa_cons (pe_lst (pa_cons (pv 7) (pa_cons (pv 8) pa_nil))) pa_nil))))) (pss_one (ps_ret pe_bl)) pss_nil) (pss_one (ps_for PassesOwn.never rfl (pi_range1 rfl T.m_range (pa_cons (cB call_len_seq T.m_len (pa_cons (pv 3) pa_nil)) pa_nil)) (pg_name (i := 9) nd rfl (Or.inl rfl)) (pss_cons (ps_set (i := 10) nd rfl (Or.inl rfl) (pe_ix (ixL K) (pe_lst (pa_cons (pe_cl D__law_below hr K__law_below T.g__law_below passL (pa_cons (pv 1) (pa_cons pe_int pa_nil))) (pa_cons (pe_op op_sub (pe_op op_pow pe_int pe_int) (pe_cl D__law_below hr K__law_below T.g__law_below passL (pa_cons (pv 1) (pa_cons pe_int pa_nil)))) pa_nil))) (pe_cl D__law_below hr K__law_below T.g__law_below passL (pa_cons (pv 1) (pa_cons pe_int pa_nil))) (fun _ _ => rfl))) (pss_cons (ps_set (i := 11) nd rfl (Or.inl rfl) (pe_lst (pa_cons (pe_or4 (pe_methR (pe_ix (ixL K) (pv 4) (pv 9) (fun _ _ => rfl)) T.cl_Worker T.me_Worker_ticks_for D_Worker_ticks_for (hr.mono (by decide)) passL (pa_cons (pv 10) pa_nil)) (pe_methR (pe_ix (ixL K) (pv 4) (pv 9) (fun _ _ => rfl)) T.cl_Tiring T.me_Tiring_ticks_for D_Tiring_ticks_for (hr.mono (by decide)) passL (pa_cons (pv 10) pa_nil)) (pe_methR (pe_ix (ixL K) (pv 4) (pv 9) (fun _ _ => rfl)) T.cl_Learning T.me_Learning_ticks_for D_Learning_ticks_for (hr.mono (by decide)) passL (pa_cons (pv 10) pa_nil)) (pe_methR (pe_ix (ixL K) (pv 4) (pv 9) (fun _ _ => rfl)) T.cl_Resting T.me_Resting_ticks_for D_Resting_ticks_for (hr.mono (by decide)) passL (pa_cons (pv 10) pa_nil))) (pa_cons (pe_con (pe_ix (ixL K) (pv 4) (pv 9) (fun _ _ => rfl)) rfl) pa_nil)))) (pss_one (ps_if (pt_not (pt_val (pe_cl D__law_equal hr K__law_equal T.g__law_equal passL (pa_cons (pv 11) (pa_cons (pe_lst (pa_cons (pe_cl D__law_ticks hr K__law_ticks T.g__law_ticks passL (pa_cons (pe_ix (ixL K) (pv 3) (pv 9) (fun _ _ => rfl)) (pa_cons (pv 10) pa_nil))) (pa_cons (pe_ix (ixT K) (pe_ix (ixL K) (pv 3) (pv 9) (fun _ _ => rfl)) pe_int (fun _ _ => rfl)) pa_nil))) pa_nil))))) (pss_one (ps_ret pe_bl)) pss_nil))))))))))))) (pss_cons (ps_set (i := 12) nd rfl (Or.inl rfl) (pe_lst (pa_cons (StX.pe_makeR T.mk_Worker D_Workeru_initu (hr.mono (by decide)) rfl T.g_Worker passL (pa_cons pe_str (pa_cons pe_int pa_nil))) (pa_cons (pe_mkK T.mk_Learning D_Learningu_initu hr rfl T.g_Learning (pa_cons pe_str (pa_cons pe_int pa_nil)) (pk_cons pe_int pk_nil)) pa_nil)))) (pss_one (ps_ret (pe_and (pe_cmpR op_eq (cB call_len_seq T.m_len (pa_cons (pe_genF D_played hr K_played T.g_played (pa_cons (pv 12) (pa_cons pe_int pa_nil)) rfl T.m_list) pa_nil)) pe_int (nomark _)) (pe_one (pe_cmpR op_eq (pe_cl D_ticks_needed hr K_ticks_needed T.g_ticks_needed passL (pa_cons (pv 12) (pa_cons pe_int pa_nil))) (pe_op op_add pe_int pe_int) (nomark _))))))))), ?_⟩
  walk_at "go"
  refine ⟨zz, sc, ns, 31, rfl, hS, hn, fun d H0 s00 hd0 D0 => ?_⟩
  clear s00 hd0
  walk_at "go"
  refine ⟨_, rfl, by omega, by omega, ?_⟩
  refine for_w (walk_range (lo := 0) (n := (3 : Int).toNat)) (fun i σ H' => DSt H' d ∧ ∃ u2 u3 u4 u5 u6 u7 u8 u9 u10 u11 u12 u13 u14 u15 u16, σ = [some (.ref sc), some (.ref d), u2, u3, u4, u5, u6, u7, u8, u9, u10, u11, u12, u13, u14, u15, u16]) ⟨D0, _, _, _, _, _, _, _, _, _, _, _, _, _, _, _, rfl⟩ (fun _ _ _ _ _ => trivial) ?_ ?_
  rotate_left
  · rintro σ Ha ⟨st, u2, u3, u4, u5, u6, u7, u8, u9, u10, u11, u12, u13, u14, u15, u16, rfl⟩
    walk_at "go"
    rintro o dx ho hdx hne
    have so := mk_same (C := He.ga K "Worker") ho hdx
    refine ⟨o, _, dx, "a", 1, rfl, upd_same, T.cl_Worker, T.no_Workername, T.no_Worker_pace, by decide +kernel, by decide, by decide, fun H6 fr e6 => ⟨rfl, ?_⟩⟩
    have s6 : Same Ha H6 := fun b u e => fr b u (ne_of_none e ho) (so b u e)
    walk_at "go"
    refine go_mkK ?_
    walk_at "go"
    refine ⟨rfl, rfl, fun o2 dx2 ho2 hdx2 hne2 => ?_⟩
    have so2 := mk_same (C := He.ga K "Learning") ho2 hdx2
    refine ⟨o2, dx2, ⟨2, "b", 1000, 1, 0⟩, rfl, upd_same, rfl, few_ok.ok _ (by simp [fewW]), fun _ => (by decide : (1 : Int) ≤ 1000), fun H7 fr2 hWA => ⟨rfl, ?_⟩⟩
    have s7 : Same H6 H7 := fun b u e => fr2 b u (ne_of_none e ho2) (so2 b u e)
    walk_at "go"
    refine ⟨show 2 ≤ sizeLine by decide, fun Z hZ => ?_⟩
    have s8 := same_upd (o := .lst [V.ref o, V.ref o2]) hZ
    have eZ : (upd H7 Z (.lst [V.ref o, V.ref o2])) Z = some (.lst ([o, o2].map V.ref)) := upd_same
    generalize upd H7 Z (.lst [V.ref o, V.ref o2]) = H8 at s8 eZ ⊢
    have hCr : Crew K H8 [o, o2] fewW := ⟨rfl, fun i p e => by
      match i, e with
      | 0, e => cases e; exact ⟨_, rfl, dx, (s7.trans s8) _ _ e6⟩
      | 1, e => cases e; exact ⟨_, rfl, hWA.keep s8⟩
      | k + 2, e => simp at e⟩
    walk_at "go"
    unfold tGenF
    walk_at "go"
    refine ⟨Z, [o, o2], fewW, 2000, rfl, eZ, hCr, few_ok, by omega, fun H9 s9 q hq => ?_⟩
    have s10 := same_upd (o := .lst (plL fewW 2000)) hq
    refine ⟨q, _, rfl, .inl (.inl (.inl upd_same)), ?_⟩
    have hpl : (plL fewW 2000).length = 2000 := by simp [plL]
    rw [hpl]
    have s810 := s9.trans s10
    walk_at "go"
    rw [if_pos (by decide)]
    walk_at "go"
    refine ⟨Z, [o, o2], fewW, 2000, rfl, s810 _ _ eZ, hCr.keep s810, few_ok, by omega, fun H11 s11 => ?_⟩
    rw [if_neg (by decide), few_end]
    walk_at "go"
    exact h _
  rintro i x σ Ha Hb hi ⟨st, u2, u3, u4, u5, u6, u7, u8, u9, u10, u11, u12, u13, u14, u15, u16, rfl⟩ ⟨rfl, rfl⟩
  clear D0
  dsimp only
  rw [Int.zero_add]
  walk_at "go"
  refine ⟨show 2 ≤ sizeLine by decide, fun q1 hq1 => ?_⟩
  have s1 := same_upd (o := .lst [V.int 4, V.int 12]) hq1
  walk_at "go"
  refine ⟨d, 2, rfl, by omega, by omega, st.keep s1, fun y1 H1 f1 st1 h10 h11 => ?_⟩
  obtain ⟨mo, em, hmo1, hmo2⟩ : ∃ m : Int, atI [V.int 4, V.int 12] y1 = some (.int m) ∧ 2 ≤ m ∧ m ≤ 12 := by
    rcases (show y1 = 0 ∨ y1 = 1 by omega) with rfl | rfl
    · exact ⟨4, rfl, by omega, by omega⟩
    · exact ⟨12, rfl, by omega, by omega⟩
  refine go_ixL (.inl (.inl (f1 _ _ (st.ne hq1) upd_same))) em ?_
  walk_at "go"
  refine ⟨d, mo, rfl, hmo1, hmo2, st1, fun Dq H3 rs ps f3 st3 hDq eDq hR hG hlen => ?_⟩
  have nq := st1.ne hDq
  have h2 := hG.two
  have h12 := hG.most
  have hrl := hR.1
  clear s1 f1 f3 hq1 hDq st st1 em
  refine ⟨Dq, rfl, ⟨_, .inl (.inl eDq)⟩, fun D hD => ?_⟩
  have nD := st3.ne hD
  have qD : Dq ≠ D := ne_of_none eDq hD
  have sD := same_upd (o := .lst []) hD
  refine lc_it (walk_list (xs := rs.map V.ref)) (fun k H => DSt H d ∧ H Dq = some (.lst (rs.map V.ref)) ∧ Rows (fun b => b ≠ d) H rs ps ∧ ∃ ts ws, H D = some (.lst (ts.map V.ref)) ∧ SpR H ts ws ∧ ws.length = k ∧ ws.map Wk.nm = (ps.map (·.1)).take k ∧ ∀ W ∈ ws, W.Fit) ⟨st3.keep sD, sD _ _ eDq, hR.mono (frn_same sD), [], [], upd_same, ⟨rfl, fun i t e => by simp at e⟩, rfl, rfl, fun W hW => by simp at hW⟩ (fun _ H _ p => .inl (.inl p.2.1)) ?_ ?_
  · rintro k x Hc Hd hk ⟨st4, e4, hR4, ts, ws, eD, hSp, hwl, hnm, hok⟩ ⟨rfl, hx⟩
    obtain ⟨p, t0, hp, rfl, nt0, et0⟩ := hR4.at hx
    have hmem : p ∈ ps := List.mem_of_getElem? hp
    refine go_gTup (.inl (.inl et0)) rfl ?_
    walk_at "go"
    refine ⟨rfl, ?_⟩
    walk_at "go"
    rw [if_pos rfl]
    walk_at "go"
    refine ⟨d, p.1, rfl, hG.nm p hmem, st4, fun t W H' f st' hW eW ht et => ?_⟩
    have eD' := f _ _ nD eD
    have hlt := hSp.1
    have tD : t ≠ D := fun z => by rw [z, eD] at ht; cases ht
    have fu : FrD D H' (upd H' D (.lst (ts.map V.ref ++ [V.ref t]))) := frd_upd
    have hSp' := hSp.frd st4 f
    refine ⟨ts.map V.ref, eD', ?_, ?_, ?_, ?_, ts ++ [t], ws ++ [W], by rw [upd_same, List.map_append]; rfl, ?_, by simp [hwl], ?_, ?_⟩
    · rw [List.length_map]
      exact Nat.lt_of_lt_of_le (show ts.length < 2000 by rw [List.length_map] at hk; omega) (by decide)
    · obtain ⟨c0, c1, cs, a, b⟩ := st'
      exact ⟨c0, c1, cs, fu _ _ (fun z => nD z.symm) a, b⟩
    · rw [upd_ne qD]
      exact f _ _ nq e4
    · refine ⟨hR4.1, fun j q hq => ?_⟩
      obtain ⟨u, a1, a2, a3⟩ := hR4.2 j q hq
      refine ⟨u, a1, a2, fu _ _ (fun z => ?_) (f _ _ a2 a3)⟩
      rw [z, eD] at a3
      cases a3
    · refine SpR.snoc ⟨hSp'.1, fun j u ej => ?_⟩ (by rw [upd_ne tD]; exact et)
      obtain ⟨W', a1, a2⟩ := hSp'.2 j u ej
      refine ⟨W', a1, fu _ _ (fun z => ?_) a2⟩
      rw [z, eD'] at a2
      cases a2
    · rw [List.map_append, hnm, List.take_succ, List.getElem?_map, hp]
      show _ = _ ++ [p.1]
      rw [← eW]
      rfl
    · intro U hU
      rcases List.mem_append.mp hU with q | q
      · exact hok U q
      · rw [List.mem_singleton.mp q]
        exact hW
  rintro H4 ⟨st4, e4, hR4, ts, ws, eD, hSp, hwl, hnm, hok⟩
  rw [List.length_map, hrl] at hwl hnm
  rw [List.take_of_length_le (by rw [List.length_map]; exact Nat.le_refl _)] at hnm
  have hC : CrewOk ws := ⟨fun W hW => (hok W hW).ok, by rw [hnm]; exact hG.nd, by omega, by omega⟩
  have htw := hSp.1
  clear hR hR4 e4 eDq st3 sD hD nq qD
  walk_at "go"
  refine ⟨⟨_, .inl (.inl eD)⟩, ?_⟩
  refine lc_gen (walk_list (xs := ts.map V.ref)) (fun H3 s3 => .inl (.inl (s3 _ _ eD))) (fun Z j y H => ∃ (W : Wk) (o : Addr), ws[j]? = some W ∧ y = V.ref o ∧ o ≠ Z ∧ WkAt K H o W) (fun Z j y H3 H4 f ⟨W, o, a1, a2, a3, dx, a4⟩ => ⟨W, o, a1, a2, a3, dx, f _ _ a3 a4⟩) (by rw [List.length_map]; omega) ?_ ?_
  · rintro Z j y H5 H6 k hZ hj s5 ⟨oZ, hoZ⟩ ⟨rfl, hy⟩ hk
    obtain ⟨t, W, rfl, ew, et⟩ := (hSp.keep s5).at hy
    walk_at "go"
    refine ⟨rfl, ?_⟩
    walk_at "go"
    refine ⟨t, W, rfl, et, hok W (List.mem_of_getElem? ew), fun o H7 s7 ho hWA => hk _ _ s7 ⟨W, o, ew, rfl, fun z => ?_, hWA⟩⟩
    rw [z, hoZ] at ho
    cases ho
  intro Z ys H5 hZ s5 e5 hly hy
  obtain ⟨os, rfl, hCr⟩ := crew_ys (K := K) (ws := ws) (by rw [hly, List.length_map]; exact htw) fun j y ej => (hy j y ej).imp fun W q => q.imp fun o r => ⟨r.1, r.2.1, r.2.2.2⟩
  have st5 := st4.keep s5
  have nZ := st4.ne hZ
  walk_at "go"
  refine ⟨d, 60, rfl, by omega, by omega, st5, fun y2 H6 f6 st6 h20 h21 => ?_⟩
  obtain ⟨c, rfl⟩ : ∃ k : Nat, y2 = k := ⟨y2.toNat, by omega⟩
  have eD6 := f6 _ _ nD (s5 _ _ eD)
  have eZ6 := f6 _ _ nZ e5
  have hCr6 := hCr.frd st5 f6
  have hSp6 := (hSp.keep s5).frd st5 f6
  clear hCr hSp st4 st5 s5 e5 f6 eD hZ hly hy h20
  walk_at "go"
  refine ⟨_, rfl, by omega, by omega, ?_⟩
  rw [show ((c : Nat) : Int).toNat = c by omega]
  refine lc_gen (walk_range (lo := 0) (n := c)) (fun _ _ => trivial) (fun Y j y H => ∃ r : Addr, y = V.ref r ∧ r ≠ Y ∧ H r = some (.lst ((rwW ws j).map V.int))) (fun Y j y H3 H4 f ⟨r, a1, a2, a3⟩ => ⟨r, a1, a2, f _ _ a2 a3⟩) (by omega) ?_ ?_
  · rintro Y j y H7 H8 k hY hj s7 ⟨oY, hoY⟩ ⟨rfl, rfl⟩ hk
    dsimp only
    rw [Int.zero_add]
    walk_at "go"
    refine ⟨rfl, ?_⟩
    walk_at "go"
    refine ⟨⟨_, .inl (.inl (s7 _ _ eD6))⟩, ?_⟩
    refine lc_fun (walk_list (xs := ts.map V.ref)) (fun H3 s3 => .inl (.inl (s3 _ _ (s7 _ _ eD6)))) (fun l => .int (((psAt ws j).map (·.2)).getD l 0)) (by rw [List.length_map]; omega) ?_ ?_
    · rintro l y H8 H9 k2 hl s8 ⟨rfl, hy⟩ hk2
      obtain ⟨t, W, rfl, ew, et⟩ := (hSp6.keep (s7.trans s8)).at hy
      walk_at "go"
      refine ⟨rfl, ?_⟩
      walk_at "go"
      have ee : ((psAt ws j).map (·.2)).getD l 0 = W.tk (j : Int) := by
        unfold psAt
        rw [List.getD, List.getElem?_map, List.getElem?_map, ew]
        rfl
      refine ⟨t, W, (j : Int), rfl, et, hC.ok W (List.mem_of_getElem? ew), by omega, by omega, fun H10 s10 => ?_⟩
      have q := hk2 H10 s10
      rw [ee] at q
      exact q
    · intro Dp H9 hDp s9 e9
      walk_at "go"
      have hpl : (psAt ws j).length = ws.length := psAt_len ws j
      have e9' : H9 Dp = some (.lst (((psAt ws j).map (·.2)).map V.int)) := by
        rw [e9]
        congr 2
        exact range_map ((psAt ws j).map (·.2)) V.int 0 (by rw [List.length_map, List.length_map, hpl]; exact htw)
      refine ⟨Dp, psAt ws j, rfl, e9', by omega, by omega, fun Dd H10 s10 hDd eDd => hk _ _ (s9.trans s10) ⟨Dd, rfl, fun z => ?_, eDd⟩⟩
      rw [z, s9 _ _ hoY] at hDd
      cases hDd
  intro Y ys H7 hY s7 e7 hly hy
  have hTr : TabF (fun _ => True) H7 Y (rwW ws) c := tab_ys hly e7 fun j y ej => hy j y ej
  have eD7 := s7 _ _ eD6
  have eZ7 := s7 _ _ eZ6
  have hCr7 := hCr6.keep s7
  have hSp7 := hSp6.keep s7
  have st7 := st6.keep s7
  clear eD6 eZ6 hCr6 hSp6 st6 s7 hY hly hy e7
  walk_at "go"
  refine ⟨_, Y, ws, c, rfl, hTr, hC, by omega, fun y0 H8 s8 hy0 hTe => ?_⟩
  obtain ⟨es, ees, hle, _, hes⟩ := hTe
  refine ⟨y0, rfl, ⟨_, .inl (.inl ees)⟩, ?_⟩
  refine lc_fun (walk_list (xs := es.map V.ref)) (fun H3 s3 => .inl (.inl (s3 _ _ ees))) (fun j => .int (plW ws j)) (by rw [List.length_map]; omega) ?_ ?_
  · rintro l y H9 H10 k hl s9 ⟨rfl, hy⟩ hk
    obtain ⟨r, hr, rfl⟩ := map_at hy
    walk_at "go"
    refine ⟨rfl, ?_⟩
    walk_at "go"
    have enl : (enW ws l).length = ws.length - 1 := endsW_len ws (l + 1)
    have hneg : atI ((enW ws l).map V.int) (-((1 : Nat) : Int)) = some (.int (plW ws l)) := at_neg (by omega) (by rw [List.length_map]; omega) (by
      rw [List.length_map, enl, show ws.length - 1 - 1 = ws.length - 2 by omega]
      refine at_map ?_
      show (enW ws l)[ws.length - 2]? = some ((enW ws l).getD (ws.length - 2) 0)
      simp [List.getD, show ws.length - 2 < (enW ws l).length by omega])
    refine go_ixL (n := -((1 : Nat) : Int)) (.inl (.inl (s9 _ _ (hes l r hr).2.2))) hneg ?_
    exact hk _ (Same.refl _)
  intro E H9 hE s9 e9
  rw [List.length_map, hle] at e9
  have eE : H9 E = some (.lst (((List.range c).map (plW ws)).map V.int)) := by rw [e9, List.map_map]; rfl
  have s79 := s8.trans s9
  have eD9 := s79 _ _ eD7
  have eZ9 := s79 _ _ eZ7
  have hCr9 := hCr7.keep s79
  have hSp9 := hSp7.keep s79
  have st9 := st7.keep s79
  clear eD7 eZ7 hCr7 hSp7 st7 s8 s9 s79 hE e9 hTr ees hes hle
  walk_at "go"
  refine ⟨Nat.zero_le _, fun e1 he1 => ?_⟩
  have s10 := same_upd (o := .lst []) he1
  have ee1 : (upd H9 e1 (.lst [])) e1 = some (.lst []) := upd_same
  generalize upd H9 e1 (.lst []) = H10 at s10 ee1 ⊢
  refine go_neIn (.inl (.inl (s10 _ _ eE))) (.inl (.inl ee1)) ?_
  rw [List.length_map, List.length_range]
  walk_at "go"
  refine pick_n (.int (if c = 0 then 0 else plW ws (c - 1))) (fun h0 K' k' => ?_) (fun h0 K' k' => ?_) ?_
  · rw [if_neg h0] at k'
    walk_at "go"
    have hneg : atI (((List.range c).map (plW ws)).map V.int) (-((1 : Nat) : Int)) = some (.int (plW ws (c - 1))) := at_neg (by omega) (by simp; omega) (by
      rw [List.length_map, List.length_map, List.length_range]
      simp [show c - 1 < c by omega])
    refine go_ixL (n := -((1 : Nat) : Int)) (.inl (.inl (s10 _ _ eE))) hneg ?_
    exact k'
  · rw [if_pos h0] at k'
    walk_at "go"
    exact k'
  unfold tGenF
  walk_at "go"
  refine ⟨Z, os, ws, c, rfl, s10 _ _ eZ9, hCr9.keep s10, hC, by omega, fun H11 s11 q3 hq3 => ?_⟩
  have s12 := same_upd (o := .lst (plL ws c)) hq3
  have e12 : (upd H11 q3 (.lst (plL ws c))) q3 = some (.lst (((List.range c).map (plW ws)).map V.int)) := by rw [upd_same, plL_map]
  generalize upd H11 q3 (.lst (plL ws c)) = H12 at s12 e12 ⊢
  have s912 := (s10.trans s11).trans s12
  walk_at "go"
  refine ⟨Z, os, ws, c, rfl, s912 _ _ eZ9, hCr9.keep s912, hC, by omega, fun H13 s13 => ?_⟩
  walk_at "go"
  refine ⟨show 2 ≤ sizeLine by decide, fun A1 hA1 => ?_⟩
  have s14 := same_upd (o := .lst [V.ref q3, V.int (if c = 0 then 0 else plW ws (c - 1))]) hA1
  have eA1 : (upd H13 A1 (.lst [V.ref q3, V.int (if c = 0 then 0 else plW ws (c - 1))])) A1 = some (.lst [V.ref q3, V.int (if c = 0 then 0 else plW ws (c - 1))]) := upd_same
  generalize upd H13 A1 (.lst [V.ref q3, V.int (if c = 0 then 0 else plW ws (c - 1))]) = H14 at s14 eA1 ⊢
  walk_at "go"
  refine ⟨show 2 ≤ sizeLine by decide, fun A2 hA2 => ?_⟩
  have s15 := same_upd (o := .lst [V.ref E, V.int (if c = 0 then 0 else plW ws (c - 1))]) hA2
  have eA2 : (upd H14 A2 (.lst [V.ref E, V.int (if c = 0 then 0 else plW ws (c - 1))])) A2 = some (.lst [V.ref E, V.int (if c = 0 then 0 else plW ws (c - 1))]) := upd_same
  generalize upd H14 A2 (.lst [V.ref E, V.int (if c = 0 then 0 else plW ws (c - 1))]) = H15 at s15 eA2 ⊢
  walk_at "go"
  have s1215 := (s13.trans s14).trans s15
  refine ⟨_, _, rfl, .inr (.inl ⟨A1, A2, _, _, rfl, rfl, s15 _ _ eA1, eA2, rfl, by simp, fun j u w hu hw => ?_⟩), fun H16 s16 => ?_⟩
  · match j, hu, hw with
    | 0, hu, hw =>
      cases hu
      cases hw
      refine .inr (.inl ⟨q3, E, _, _, rfl, rfl, s1215 _ _ e12, (s912.trans s1215) _ _ eE, rfl, by simp; omega, fun j u w hu hw => ?_⟩)
      rw [hu] at hw
      cases hw
      obtain ⟨z, _, rfl⟩ := map_at hu
      exact .inl ⟨rfl, .inr (.inr (.inl ⟨_, rfl⟩))⟩
    | 1, hu, hw =>
      cases hu
      cases hw
      exact .inl ⟨rfl, .inr (.inr (.inl ⟨_, rfl⟩))⟩
    | k + 2, hu, hw => simp at hu
  walk_at "go"
  refine iteF ?_
  have s916 := (s912.trans s1215).trans s16
  have eD16 := s916 _ _ eD9
  have eZ16 := s916 _ _ eZ9
  have hCr16 := hCr9.keep s916
  have hSp16 := hSp9.keep s916
  have st16 := st9.keep s916
  clear s10 s11 s12 s912 s13 s14 s15 s16 s1215 s916 eA1 eA2 eE e12 eD9 eZ9 hCr9 hSp9 st9 hA1 hA2 hq3 ee1 he1
  walk_at "go"
  refine ⟨_, _, rfl, .inl (.inl (.inl eD16)), ?_⟩
  refine ⟨_, rfl, by omega, by rw [List.length_map]; omega, ?_⟩
  rw [List.length_map, show ((ts.length : Nat) : Int).toNat = ts.length by omega]
  refine for_w (walk_range (lo := 0) (n := ts.length)) (fun k σ H' => DSt H' d ∧ H' D = some (.lst (ts.map V.ref)) ∧ H' Z = some (.lst (os.map V.ref)) ∧ Crew K H' os ws ∧ SpR H' ts ws ∧ ∃ v9 v10 v11, σ = [some (.ref sc), some (.ref d), some (.int i), some (.ref D), some (.ref Z), some (.int c), some (.ref Y), some (.ref E), some (.int (if c = 0 then 0 else plW ws (c - 1))), v9, v10, v11, u12, u13, u14, u15, u16]) ⟨st16, eD16, eZ16, hCr16, hSp16, _, _, _, rfl⟩ (fun _ _ _ _ _ => trivial) ?_ ?_
  rotate_left
  · rintro σ Ha ⟨st, _, _, _, _, v9, v10, v11, rfl⟩
    exact ⟨st, _, _, _, _, _, _, _, _, _, _, _, _, _, _, _, rfl⟩
  rintro k y σ Ha Hb hk ⟨st, eD, eZ, hCr, hSp, v9, v10, v11, rfl⟩ ⟨rfl, rfl⟩
  clear st16 eD16 eZ16 hCr16 hSp16
  dsimp only
  rw [Int.zero_add]
  walk_at "go"
  refine ⟨d, 2000, rfl, by omega, by omega, st, fun b1 H1 f1 st1 hb10 hb11 => ?_⟩
  walk_at "go"
  refine go_rI (show CPow 10 18 from ⟨by omega, by omega, by decide⟩) ?_
  walk_at "go"
  refine ⟨d, 999, rfl, by omega, by omega, st1, fun b2 H2 f2 st2 hb20 hb21 => ?_⟩
  walk_at "go"
  refine ⟨show 2 ≤ sizeLine by decide, fun q1 hq1 => ?_⟩
  have sq1 := same_upd (o := .lst [V.int b1, V.int (10 ^ (18 : Int).toNat - b2)]) hq1
  walk_at "go"
  refine ⟨d, 2, rfl, by omega, by omega, st2.keep sq1, fun b3 H3 f3 st3 hb30 hb31 => ?_⟩
  obtain ⟨bk, ebk, hbk1, hbk2⟩ : ∃ m : Int, atI [V.int b1, V.int (10 ^ (18 : Int).toNat - b2)] b3 = some (.int m) ∧ 0 ≤ m ∧ m ≤ 10 ^ 18 := by
    have e18 : (10 : Int) ^ (18 : Int).toNat = 1000000000000000000 := by decide
    rcases (show b3 = 0 ∨ b3 = 1 by omega) with rfl | rfl
    · exact ⟨b1, rfl, by omega, by omega⟩
    · exact ⟨_, rfl, by omega, by omega⟩
  refine go_ixL (.inl (.inl (f3 _ _ (st2.ne hq1) upd_same))) ebk ?_
  have F3 := ((f1.trans f2).trans (frd_same sq1)).trans f3
  have eD3 := F3 _ _ nD eD
  have eZ3 := F3 _ _ nZ eZ
  have hCr3 := hCr.frd st F3
  have hSp3 := hSp.frd st F3
  clear f1 f2 f3 F3 sq1 ebk hq1 eD eZ hCr hSp st st1 st2 hb10 hb11 hb20 hb21
  have hkt : k < ts.length := hk
  have hol := hCr3.1
  have eo : os[k]? = some (os[k]'(by omega)) := by simp [show k < os.length by omega]
  obtain ⟨W, eW, hWA⟩ := hCr3.2 k _ eo
  have et0 : ts[k]? = some (ts[k]'hkt) := by simp [hkt]
  obtain ⟨W2, eW2, et⟩ := hSp3.2 k _ et0
  rw [eW] at eW2
  cases eW2
  have hWO := hC.ok W (List.mem_of_getElem? eW)
  generalize os[k]'(by omega) = o at eo hWA
  generalize ts[k]'hkt = t at et0 et
  walk_at "go"
  refine tk_orG (o := o) (x := bk) hWO hWA (fun QV hq => go_op (go_var rfl (go_var rfl (go_ixL (.inl (.inl eZ3)) (at_nat (at_map eo)) hq)))) (fun QA hq => go_cons (go_var rfl (go_nil hq))) hbk1 hbk2 ?_
  walk_at "go"
  obtain ⟨dx, ho⟩ := id hWA
  obtain ⟨u, hcon⟩ := kd_at T hWO.k3
  refine go_con ho (clsW_at T hWO.k3).1 hcon (wf_K W) ?_ (fun QV hq => go_op (go_var rfl (go_var rfl (go_ixL (.inl (.inl eZ3)) (at_nat (at_map eo)) hq))))
  walk_at "go"
  refine ⟨show 2 ≤ sizeLine by decide, fun A1 hA1 => ?_⟩
  have s4 := same_upd (o := .lst [V.int (W.tk bk), V.str (kdS W.k)]) hA1
  have eA1 : (upd H3 A1 (.lst [V.int (W.tk bk), V.str (kdS W.k)])) A1 = some (.lst [V.int (W.tk bk), V.str (kdS W.k)]) := upd_same
  generalize upd H3 A1 (.lst [V.int (W.tk bk), V.str (kdS W.k)]) = H4b at s4 eA1 ⊢
  walk_at "go"
  refine go_ixL (.inl (.inl (s4 _ _ eD3))) (at_nat (at_map et0)) ?_
  walk_at "go"
  refine ⟨t, W, bk, rfl, s4 _ _ et, hWO, hbk1, hbk2, fun H5b s5 => ?_⟩
  walk_at "go"
  refine go_ixL (.inl (.inl (s5 _ _ (s4 _ _ eD3)))) (at_nat (at_map et0)) ?_
  walk_at "go"
  refine go_ixT (.inl (.inl (s5 _ _ (s4 _ _ et)))) rfl ?_
  walk_at "go"
  refine ⟨show 2 ≤ sizeLine by decide, fun A2 hA2 => ?_⟩
  have s6 := same_upd (o := .lst [V.int (W.tk bk), V.str (kdS W.k)]) hA2
  walk_at "go"
  refine ⟨_, _, rfl, .inr (.inl ⟨A1, A2, _, _, rfl, rfl, s6 _ _ (s5 _ _ eA1), upd_same, rfl, by simp, fun j u w hu hw => ?_⟩), fun H7b s7 => ?_⟩
  · rw [hu] at hw
    cases hw
    match j, hu with
    | 0, hu =>
      cases hu
      exact .inl ⟨rfl, .inr (.inr (.inl ⟨_, rfl⟩))⟩
    | 1, hu =>
      cases hu
      exact .inl ⟨rfl, .inr (.inr (.inr ⟨_, kd_ok hWO.k3, rfl⟩))⟩
    | k + 2, hu => simp at hu
  walk_at "go"
  refine iteF ?_
  have s37 := ((s4.trans s5).trans s6).trans s7
  exact ⟨st3.keep s37, s37 _ _ eD3, s37 _ _ eZ3, hCr3.keep s37, hSp3.keep s37, _, _, _, rfl⟩

end
end K
namespace K
open PySem PySem.Spec PyProof.Rows L2 Bk
local macro_rules | `(tactic| walk_at "go1") => `(tactic| (first
  | ((with_reducible show tVar _ _ _ _); refine go_var rfl ?_)
  | (with_reducible first | refine go_c ?_ | refine go_op ?_ | refine go_cons ?_ | refine go_nil ?_ | refine go_cb ?_ | refine go_cl ?_ | refine go_seq ?_ | refine go_asg ?_ | refine go_name ?_ | refine go_ifS ?_ | refine go_test ?_ | refine go_bl ?_)
  | (with_reducible first | refine go_rI0 ?_ | refine go_rU ?_ | refine go_ret ?_ | refine go_next ?_ | refine go_B ?_ | refine go_and ?_ | refine go_or ?_ | refine go_not ?_ | refine go_if ?_ | refine go_andV ?_ | refine go_orV ?_ | refine go_notV ?_)
  | ((with_reducible show rEq _ _ _ _); refine go_rEq rfl ?_)
  | ((with_reducible show rNe _ _ _ _); refine go_rNe rfl ?_)
  | (with_reducible first | refine go_un ?_ | refine go_chain ?_ | refine go_drop ?_ | refine go_retN ?_ | refine go_isN ?_ | refine go_notN ?_ | refine go_cont ?_ | refine go_break ?_ | refine go_par ?_ | refine go_two ?_ | refine go_part ?_ | refine go_noPart ?_ | refine go_int ?_ | refine go_sl ?_ | refine go_yes ?_ | refine go_tup ?_ | refine go_lst ?_)
  | (with_reducible first | refine go_gCons ?_ | refine go_gNil ?_ | refine go_for ?_ | refine go_iEnT ?_ | refine go_iEnum ?_ | refine go_iList ?_ | refine go_iTup ?_ | refine go_iStr ?_ | refine go_iRng1 ?_ | refine go_iRng2 ?_ | refine go_iZip ?_ | refine go_lc ?_ | refine go_mkR ?_ | refine go_mkS ?_ | refine go_clO ?_ | refine go_pr ?_ | refine go_sfld ?_ | refine go_bm ?_ | refine go_ref ?_)))
local macro_rules | `(tactic| walk_at "go") => `(tactic| ((repeat (walk_at "go1")); try dsimp only))
local macro_rules | `(tactic| walk_at "so") => `(tactic| first | omega | (simp; done) | (simp; omega) | (simp at *; omega))
section
variable {P : Program} {w : World} {K : PySem.W.Frag} {mg : Str → Option Value} {base : Heap} [PFa P FILE]
theorem law_ok (T : Tx K mg) {fd : FuncData} (F : FunD K "law" "law" (defArgs s_law) (defBody s_law) (defScope s_law) [] [] (He.ga K "law") fd) : FnOk P w K mg base (L2.CX P w) 11 (He.ga K "law") fd ["_law_script"] (spLaw K) := by
  have D_is_whole : Fx P w K mg base 1 (He.ga K "is_whole") spWhole := ok_is_whole T 
  have D_in_range : Fx P w K mg base 2 (He.ga K "in_range") spInRange := ok_in_range T D_is_whole
  have D_check_number : Fx P w K mg base 3 (He.ga K "check_number") spCheckNumber := ok_check_number T D_in_range
  have D_place_of : Fx P w K mg base 1 (He.ga K "place_of") (spPlaceOf K) := ok_place_of T 
  have D_is_name : Fx P w K mg base 1 (He.ga K "is_name") spIsName := ok_is_name T 
  have D_check_people : Fx P w K mg base 3 (He.ga K "check_people") (spCheckPeople K) := ok_check_people T D_is_name D_in_range
  have D_durations_of : Fx P w K mg base 1 (He.ga K "durations_of") (spDurationsOf K) := ok_durations_of T 
  have D_Lineu_initu : Fx P w K mg base 5 (He.ma K (He.ga K "Line") "__init__") (StSp 1 (spInit K)) := ok_Lineu_initu T D_check_people D_durations_of
  have D_turns : Fx P w K mg base 1 (He.ga K "turns") (spTurns K) := ok_turns T 
  have D_growths : Fx P w K mg base 2 (He.ga K "growths") (spGrowths K) := ok_growths T D_turns
  have D_hand_over_end : Fx P w K mg base 3 (He.ga K "hand_over_end") (spEnd K) := ok_hand_over_end T D_growths
  have D_durations_ofL : Fx P w K mg base 1 (He.ga K "durations_of") (spDurationsOfL K) := ok_durations_ofL T 
  have D__law_random : Fx P w K mg base 1 (He.ga K "_law_random") (spRandom K) := ok__law_random T 
  have D__law_below : Fx P w K mg base 1 (He.ga K "_law_below") (spBelow K) := ok__law_below T 
  have D__law_shuffled : Fx P w K mg base 2 (He.ga K "_law_shuffled") (spShuf K) := ok__law_shuffled T D__law_below
  have D__law_people : Fx P w K mg base 3 (He.ga K "_law_people") (spPeopleD K) := ok__law_people T D__law_shuffled D__law_below
  have D__law_equal : Fx P w K mg base 6 (He.ga K "_law_equal") (spEqD K 5) := ok__law_equal T  5
  have D_check_part : Fx P w K mg base 1 (He.ga K "check_part") (spPart K) := ok_check_part T 
  have D_Workeru_initu : Fx P w K mg base 5 (He.ma K (He.ga K "Worker") "__init__") (spWInit K) := ok_Workeru_initu T D_check_part D_is_name D_in_range
  have D_Tiringu_initu : KFx P w K mg base 7 (He.ma K (He.ga K "Tiring") "__init__") 3 ["after", "extra"] (spSubW K 1) := ok_Tiringu_initu T D_Workeru_initu D_check_part D_in_range
  have D_Learningu_initu : KFx P w K mg base 7 (He.ma K (He.ga K "Learning") "__init__") 3 ["best"] (spSubW K 2) := ok_Learningu_initu T D_Workeru_initu D_check_part D_in_range
  have D_Restingu_initu : KFx P w K mg base 7 (He.ma K (He.ga K "Resting") "__init__") 3 ["after", "rest"] (spSubW K 3) := ok_Restingu_initu T D_Workeru_initu D_check_part D_in_range
  have D_Worker_ticks_for : Fx P w K mg base 1 (He.ma K (He.ga K "Worker") "ticks_for") (spTks K 0) := ok_Worker_ticks_for T 
  have D_Tiring_ticks_for : Fx P w K mg base 1 (He.ma K (He.ga K "Tiring") "ticks_for") (spTks K 1) := ok_Tiring_ticks_for T 
  have D_Learning_ticks_for : Fx P w K mg base 1 (He.ma K (He.ga K "Learning") "ticks_for") (spTks K 2) := ok_Learning_ticks_for T 
  have D_Resting_ticks_for : Fx P w K mg base 1 (He.ma K (He.ga K "Resting") "ticks_for") (spTks K 3) := ok_Resting_ticks_for T 
  have D_check_workers : Fx P w K mg base 2 (He.ga K "check_workers") (spCW K) := ok_check_workers T 
  have D_ends_after : Fx P w K mg base 1 (He.ga K "ends_after") (spEA K) := ok_ends_after T 
  have D_played : GFx P w K mg base 4 (He.ga K "played") (spPl K) := ok_played T D_check_workers D_check_number D_Worker_ticks_for D_Tiring_ticks_for D_Learning_ticks_for D_Resting_ticks_for D_ends_after D_durations_ofL
  have D_ticks_needed : Fx P w K mg base 9 (He.ga K "ticks_needed") (spTN K) := ok_ticks_needed T D_played
  have D__law_spec : Fx P w K mg base 3 (He.ga K "_law_spec") (spSpec K) := ok__law_spec T D__law_below
  have D__law_worker : Fx P w K mg base 9 (He.ga K "_law_worker") (spMkW K) := ok__law_worker T D_Tiringu_initu D_Learningu_initu D_Restingu_initu D_Workeru_initu
  have D__law_durations : Fx P w K mg base 1 (He.ga K "_law_durations") (spDrs K) := ok__law_durations T 
  have D__law_ticks : Fx P w K mg base 1 (He.ga K "_law_ticks") (spLTk K) := ok__law_ticks T 
  have D__law_ends : Fx P w K mg base 1 (He.ga K "_law_ends") (spLEn K) := ok__law_ends T 
  exact ok_law T D__law_random D__law_people D__law_below D__law_spec D__law_worker D__law_durations D__law_ticks D__law_ends D__law_equal D_played D_ticks_needed D_Worker_ticks_for D_Tiring_ticks_for D_Learning_ticks_for D_Resting_ticks_for D_Workeru_initu D_Learningu_initu F
/-- the end, for promises of a CX that knows the world -/
theorem walk_mine {l : PySem.W.OpenLaw} {n k : Nat} {q : Program} {loose : List Str} {XP : (Str → Option Value) → Heap → Prop} {YP : World → Heap → Prop} {d : DefRec} {CX : World → CXT} {x : Str} (hn : l.most = some n) (hn2 : n ≤ sizeLine) (hdf : d.params.defaults = []) (hr : Room k callerA)
    (F : ∀ (w : World) (mg : Str → Option Value) (fa : Addr) (h : Heap), YP w h → h.Ns mainGlobals mg → mg d.name = some (.ref fa) → ∃ (K : PySem.W.Frag) (fd : FuncData) (sp : Sp), K.In h ∧ (∀ (s : Shared) (u : Value), BindsTo s fd ⟨[u], []⟩ [(x, u)]) ∧
      (∀ (H : Hp) (a : Addr) (ns : List Int), ns.length ≤ n → Only H → SqL K H a (ns.map V.int) → sp [.ref a] H (fun v _ => v = .bl true) fun _ _ _ => False) ∧ ∀ base : Heap, K.In base → base.Ns mainGlobals mg → FnOk l.prog w K mg base (CX w) k fa fd [x] sp)
    (hX : ∀ (w : World) (H : Hp) (s : Shared) (e : Value) (s' : Shared), CX w [] H s (fun _ _ _ => False) e s' → False) : PySem.W.WalkO q loose XP YP l.row.toRowW d [] (fun f vs => PySem.call f vs) := Att.attach_call hn hdf (by
  intro w t0 t1 mg mb fa o pm cd doc a vs ns G Y ho hd hcd hm hob hi hle hg
  obtain ⟨K, fd, sp, KX, hb, hsp, hF⟩ := F w mg fa _ Y G.T.g hm
  refine law_call KX G.T.g G.T.b G.T.builtins G.T.nolimit hg hob hi (Nat.le_trans hle hn2) hr hF hb ?_ ?_
  · exact fun H hO hS => hsp H a ns hle hO hS
  · exact fun H e s' => hX w H t1 e s')
end
end K
open PySem PySem.W PySem.Calls PyProof.Rows Bk
theorem PySem.Challenge.cw_bucketline_k31_kinds_of_people_holds : PySem.Challenge.rw_bucketline_k31_kinds_of_people.Holds := by
  w_on; o_law
  refine HandSHeadRun.head_any (r := K.R) (q := view K.R.prog [48]) (H := K.hk) (ob := K.ob) (M := 9000) (loose := K.lo) (d := HandSHeadRun.topDef K.R.prog 48) (kwd := []) K.ob_eq (by kernel_rfl) (fun s => by kernel_rfl) K.run (by kernel_rfl) (by kernel_rfl) (by kernel_rfl) (by rfl) (by first | assumption | decide +kernel) (by decide +kernel) ⟨rfl, rfl, rfl, rfl, rfl, by decide +kernel⟩ ?hw ?hc
  case hw => w_witness2
  case hc =>
    refine K.walk_mine (l := PySem.Challenge.rw_bucketline_k31_kinds_of_people) (n := 63) (k := 11) (x := "_law_script") (CX := fun w => L2.CX PySem.Challenge.rw_bucketline_k31_kinds_of_people.prog w) rfl (by decide) (by kernel_rfl) ⟨rfl, by decide, by decide⟩ ?F ?X
    case X =>
      rintro w H s e s' ⟨_, _, _, _, _, _, _, _, _, _, _, _, hE⟩
      exact hE
    case F =>
      intro w mg fa h Y G hm
      obtain ⟨KK, KX, c, ex, es⟩ := Y
      haveI pf : PFa PySem.Challenge.rw_bucketline_k31_kinds_of_people.prog K.FILE := ⟨by kernel_rfl, by kernel_rfl⟩
      have hmg : mg ("law" : PySem.Str) = some (.ref fa) := by
        have e : (HandSHeadRun.topDef K.R.prog 48).name = ("law" : PySem.Str) := by kernel_rfl
        rw [← e]
        exact hm
      have T := K.tx_of KX G c ex es
      have e := hmg.symm.trans T.g_law
      cases e
      obtain ⟨fd, F⟩ := T.F_law
      have b := L2.FunD.bindsA (ps := ["_law_script"]) F fun _ _ _ _ _ _ us hl => match us, hl with | [_], _ => rfl
      refine ⟨KK, fd, K.spLaw KK, KX, fun s v => b s [v] rfl, fun H a ns hl hO hS => ⟨L2.Rd H a (.lst (ns.map L2.V.int)), a, ns, rfl, ⟨fun z => z, fun z => ?_⟩, hl, fun _ => rfl⟩, fun base _ _ => K.law_ok T F⟩
      rcases hS with q | q
      · exact absurd q z
      · exact q
