import PyProof.Rows.All
import Wide.All
import OpenK.AllK
import Wide.FinOn
import PySem.Challenge.RW_netsredrawn_k04_whole_mirrors
import HandS.ForMost
import HandS.Wide
import HandS.EndBits
import PyProof.Draws
import HandS.Style
import HandS.ReplaceLit
import HandS.ReplaceList
import HandS.Text
import HandS.IsInst
import HandS.More
import HandS.Conv
import HandS.Evl
import HandS.Small
import PyProof.StrLawsRepr
import PyProof.CallFns
set_option Elab.async false
set_option linter.all false
set_option maxRecDepth 100000
set_option maxHeartbeats 4000001
/-! Additions to the hand layer: enumerate over a text; repr of data; defs that are called where no repr is under way. -/
namespace Nr
open PySem PySem.Spec PyProof.Rows L2

/-! ### enumerate(text) -/
def ItEs (x : Str) : It where
  go := fun i _ => i < x.cps.size
  yld := fun i H v H' => ∃ (T : Addr) (c : Nat), v = .ref T ∧ H T = none ∧ x.cps[i]? = some c ∧ H' = upd H T (.tup [.int (i : Nat), .str ⟨#[c]⟩])
  stop := fun i _ => x.cps.size ≤ i

/-- the iterator of a text gives its signs to whoever asks -/
theorem str_draws {prog : Program} {w : World} {A : Around} (hh : A.handled = none) (it : Addr) (x : Str) (t : Tok) {ty : String} (hty : ty = "str_ascii_iterator" ∨ ty = "str_iterator") :
    Draws prog w A it [it] x.cps.size (fun i v => ∃ c u, x.cps[i]? = some c ∧ v = .str ⟨#[c]⟩ u) (fun i h => h.IsStrIter it ty x t i) := by
  rcases hty with rfl | rfl
  · exact Draws.strAscii hh it x t
  · exact Draws.strWide hh it x t

def EsAt (e it : Addr) (ty : String) (x : Str) (t : Tok) (i : Nat) (h : Heap) : Prop :=
  (∃ old, IsEnum h e it ((i : Nat) : Int) old) ∧ (h.IsStrIter it ty x t i ∧ e ≠ it ∧ i ≤ x.cps.size)

theorem two_of {b e it : Addr} (h : b ∈ [e, it]) : b = e ∨ b = it := by
  rcases List.mem_cons.mp h with q | q
  · exact Or.inl q
  · exact Or.inr (List.mem_singleton.mp q)

theorem turn_es {P : Program} {w : World} {K : PySem.W.Frag} {elts : List Expr} {kk : Nat} {tpos : Pos} (e it : Addr) (x : Str) (t : Tok) (ty : String) (hty : ty = "str_ascii_iterator" ∨ ty = "str_iterator") :
    Turn P w K (.Tuple elts kk tpos) (ItEs x) [e, it] e (EsAt e it ty x t) where
  mem := List.mem_cons_self
  obj := by
    intro i h hs b hb
    obtain ⟨⟨old, he⟩, ⟨o, ho, _, hd⟩, _⟩ := hs
    rcases two_of hb with rfl | rfl
    · exact ⟨_, he, fun v q => nomatch q⟩
    · exact ⟨o, ho, fun v q => by
        rw [hd] at q
        cases q⟩
  keep := by
    intro i h h' hs k
    obtain ⟨⟨old, he⟩, ⟨o, ho, r⟩, ne, le⟩ := hs
    exact ⟨⟨old, k e List.mem_cons_self _ he⟩, ⟨o, k it (List.mem_cons_of_mem _ List.mem_cons_self) _ ho, r⟩, ne, le⟩
  item := by
    intro X hP hw hK hc i pins s σ H E I hf hs hi
    subst hP hw hK
    obtain ⟨⟨old, he⟩, hit, ne, le⟩ := hs
    have elt : e < s.heap.objs.size := Heap.lt_size he
    have ilt : it < s.heap.objs.size := by
      obtain ⟨_, q, _⟩ := hit
      exact Heap.lt_size q
    have D := str_draws (prog := X.prog) (w := X.w) (A := X.A.in1) (I.ok.hd hc) it x t hty
    have nin : e ∉ [it] := fun z => ne (List.mem_singleton.mp z)
    refine wpAny_pyNext_enum_itemD D he hit hi ne nin ?_
    intro u h' tk hu hout hit' hT hsz hk
    obtain ⟨c, tu, hc2, rfl⟩ := hu
    refine ⟨_, rfl, wpAny_letOwnedTupleGo_enum (s := { s with heap := h', toks := tk + 1 }) hout ?_⟩
    intro h2 he2 sb
    have hT2 := (sb.2 _ (Nat.ne_of_gt elt)).trans hT
    have new : ObjOk X.prog X.w (upd H s.heap.objs.size (.tup [.int (i : Nat), .str ⟨#[c]⟩])) h2 s.heap.objs.size (.tup [.int (i : Nat), .str ⟨#[c]⟩]) := by
      refine ⟨by show 2 ≤ sizeLine; decide, [.int i tk, .str ⟨#[c]⟩ tu], .cons ⟨_, rfl⟩ (.cons ⟨_, rfl⟩ .nil), ?_⟩
      exact ⟨_, hT2, rfl, _, rfl⟩
    have keep2 : ∀ b ob, b ∉ [e, it] → s.heap.get? b = some ob → h2.get? b = some ob := fun b ob hb q => by
      have n1 : b ≠ e := fun z => hb (by rw [z]; exact List.mem_cons_self)
      have n2 : b ≠ it := fun z => hb (by rw [z]; exact List.mem_cons_of_mem _ List.mem_cons_self)
      exact (sb.2 b n1).trans (hk b ob n1 n2 q)
    have I1 := I.turnedNew (ch := [e, it]) (t' := tk + 1) keep2 hf (Nat.le_refl _) new
    refine ⟨.ref s.heap.objs.size, _, I1, rfl, ⟨_, c, rfl, I.hok.fresh (Nat.le_refl _), hc2, rfl⟩, ⟨⟨.str ⟨#[c]⟩ tu, ?_⟩, ?_, ne, hi⟩, ?_⟩
    · have e1 : ((i + 1 : Nat) : Int) = (i : Int) + 1 := by omega
      rw [e1]
      exact he2
    · obtain ⟨o, ho, r⟩ := hit'
      exact ⟨o, (sb.2 it (Ne.symm ne)).trans ho, r⟩
    · intro b hb
      have lt : b < s.heap.objs.size := by
        rcases two_of hb with rfl | rfl
        · exact elt
        · exact ilt
      rw [upd_ne (Nat.ne_of_lt lt)]
      exact (hf b hb).1
  done := by
    intro X hP hw hK hc i pins s σ H E I hf hs hi
    subst hP hw hK
    obtain ⟨⟨old, he⟩, hit, ne, le⟩ := hs
    obtain ⟨f0, f1, f2, f3, f4, f5⟩ := hf it (List.mem_cons_of_mem _ List.mem_cons_self)
    have D := str_draws (prog := X.prog) (w := X.w) (A := X.A.in1) (I.ok.hd hc) it x t hty
    have ei : i = x.cps.size := Nat.le_antisymm le hi
    subst ei
    exact wpAny_pyNext_enum_endD D he hit fun h' eb => ⟨rfl, I.turned (t' := s.toks) (fun b o hb q => eb b o hb q) f0 f1 f3 f4 f5⟩
  self := by
    intro A i s Q E hs q
    obtain ⟨⟨old, he⟩, _⟩ := hs
    exact wpAny_pyIter_enum he q

def iEs (ta : TA) : TI := fun σ H R => ta σ H fun vs H1 => ∃ x, vs = [.str x] ∧ R (ItEs x) H1
theorem ity_of (x : Str) : strIterType x = "str_ascii_iterator" ∨ strIterType x = "str_iterator" := by
  unfold strIterType
  split
  · exact Or.inl rfl
  · exact Or.inr rfl
theorem pi_es {X : Cx} {e : Expr} {ta : TA} {p pos tpos : Pos} {elts : List Expr} {kk : Nat} (hg : Gl X "enumerate") (hm : X.mg "enumerate" = none) (ha : PA X [e] ta) (hs : starEach [e] X.env = [(false, eval e X.env)] := by rfl) :
    PI X (.Tuple elts kk tpos) (.Call (.Name "enumerate" p) [e] [] pos) (iEs ta) := by
  constructor
  intro pins s σ H R I h
  refine Call_ (ld_blt I hg hm boot_enumerate (PyProof.Rows.callWith_type1 (thn (ha.run pos pins s σ H _ I h) ?_) hs rfl))
  rintro us s1 ⟨vs, H1, I1, r1, x, rfl, q⟩
  cases r1 with
  | cons r rr =>
    cases rr
    obtain ⟨t, rfl⟩ := r
    refine call_enumerate_str fun h' he hit hsz hk => wpAny_pyIter_enum he ?_
    have I2 : L2.Inv X pins σ H1 { s1 with heap := h' } := I1.kept (t' := s1.toks) hk
    refine ⟨s1.heap.objs.size + 1, [s1.heap.objs.size + 1, s1.heap.objs.size], _, _, H1, rfl, I2, turn_es _ _ x t _ (ity_of x), ⟨⟨.none, he⟩, hit, Nat.succ_ne_self _, Nat.zero_le _⟩, ?_, q⟩
    intro b hb
    have hle : s1.heap.objs.size ≤ b := by
      rcases two_of hb with rfl | rfl
      · exact Nat.le_add_right _ _
      · exact Nat.le_refl _
    exact I1.fpOk hle (I1.hok.fresh hle)
end Nr

/-! repr of data; defs that are called where no repr is under way. -/
namespace Nr
open PySem PySem.Spec PyProof.Rows L2

/-! ### repr of lists and tuples of plain things -/
def rReprD (K : PySem.W.Frag) : List V → Hp → VK → Prop := fun xs H Q => ∃ (a : Addr) (d : PyData), xs = [.ref a] ∧ Dp K H (.ref a) d ∧
  (d.showable = true ∧ d.hasDict = false ∧ d.depth ≤ 60 ∧ d.shown.length ≤ sizeLine) ∧ Q (.str d.shown) H
theorem call_reprD {X : Cx} (hg : X.A.guards = some []) (hu : X.A.units + 64 < cLine) : CallR X (.builtin "repr") (rReprD X.K) := by
  intro pins s σ H xs us Q I r h
  obtain ⟨a, d, rfl, hd, ⟨h1, h2, h3, h4⟩, q⟩ := h
  obtain ⟨u, rfl, ru⟩ := vals1 r
  obtain ⟨as, rd⟩ := Dp.reads I d _ _ hd ru
  cases ru
  exact repr_of_reads' rd h1 (PyData.noDict_hsm h2) hg (by omega) (fun _ _ z => z) (fun h' v tk hk => ⟨.str d.shown, H, I.kept hk, ⟨v, rfl⟩, q⟩) h4

/-! ### a def that is called where no repr is under way -/
structure FnG (P : Program) (w : World) (K : PySem.W.Frag) (mg : Str → Option Value) (base : Heap) (CX : CXT) (k : Nat) (f : Addr) (fd : FuncData) (ps : List Str) (sp : Sp) : Prop where
  many : ∀ vs H Q E, sp vs H Q E → vs.length = ps.length
  goes : ∀ (A : Around), A.guards = some [] → Room k A → ∀ (outer : List Env) (s : Shared) (H : Hp), Env0 P w K mg base A outer s H →
    ∀ (args : Args) (us : List Value) (vs : List V), BindsTo s fd args (ps.zip us) → Vals vs us → ∀ (Q : VK) (E : XK), sp vs H Q E →
      codeAny (model P w) A (.call (.ref f) args) (CR CX outer P w H s Q E) s

section
variable {P : Program} {w : World} {K : PySem.W.Frag} {mg : Str → Option Value} {base : Heap} {CX : CXT} {k : Nat} {f : Addr} {fd : FuncData} {ps N : List Str} {sp : Sp}
theorem FnG.of (F : FnOk P w K mg base CX k f fd ps sp) : FnG P w K mg base CX k f fd ps sp :=
  ⟨F.len, fun A _ hr outer s H e0 args us vs hb hv Q E hs => F.run A outer s H args us vs Q E hr e0 hb hv hs⟩
theorem FnG.le {j : Nat} (F : FnG P w K mg base CX j f fd ps sp) (h : j ≤ k) : FnG P w K mg base CX k f fd ps sp :=
  ⟨F.many, fun A hg hr => F.goes A hg (hr.mono h)⟩

/-- the rule for such a def's body -/
theorem Fun.okG {x qual : Str} {st : Stmt} (F : Fun K x qual st f fd) (S : FnScope N ps (defScope st)) (len : ∀ vs H Q E, sp vs H Q E → vs.length = ps.length)
    (body : ∀ (cdv : Value) (A : Around) (outer : List Env) (s : Shared) (H : Hp) (vs : List V) (Q : VK) (E : XK), A.guards = some [] → Room k (A.deeper (envOfC qual (defScope st) s.heap.objs.size f cdv)) → sp vs H Q E →
      ∃ t, PSs (cxOf CX0 P w K mg base N qual (defScope st) f cdv A outer s H E).nox (defBody st) t ∧ t { nx := fun _ H' => Q .non H', rt := Q } (start N vs) H) :
    FnG P w K mg base CX0 (k + 1) f fd ps sp := by
  obtain ⟨oc, od, kV, doc, pm, an, cdv, ct, osl, rfl, lk, hcd⟩ := F.ex
  refine ⟨len, ?_⟩
  intro A hg hr outer s H e0 args us vs hb r Q E hsp
  have old : ∀ b o, base.get? b = some o → s.heap.get? b = some o := fun b o z => (e0.bs b o z).1
  have KX := e0.mod.kin.keeps old
  have slots : ∀ y ∈ ps.zip us, (defScope st).names.lookup y.1 = some .local ∨ ((defScope st).names.lookup y.1 = some .cell ∧ ((cellsFrom (s.heap.objs.size + 1) (defScope st).names []).lookup y.1).isSome = true) := by
    rintro ⟨n, v⟩ hy
    rcases S.par n (List.of_mem_zip hy).1 with q | q
    · exact Or.inl q
    · exact Or.inr ⟨q, PySem.W.cellsFrom_some _ _ _ (Or.inl q)⟩
  apply codeAny_call_function hr.depth (KX _ _ lk) rfl S.co S.gen rfl (PySem.W.codeRec_of KX hcd) (hb _ _ _ _ ?_)
  apply wpAny_newFunctionEnv_cells S.kind slots
  rintro env rfl s1 x
  refine ⟨(e0.mod.nolimit.keeps old).keeps x.toInCall.keep, codeAny_func ?_⟩
  obtain ⟨t, ht, hq⟩ := body cdv A outer s H vs Q E hg (hr.deeper _) hsp
  have I := inv_start (CX := CX0) (E := E) S hr.hd e0 (len _ _ _ _ hsp) r x
  refine wpAny_mono (ht.nox.run [] s1 (start N vs) H _ I hq) ?_ fun e s' z => z
  intro fl s' hs
  cases fl with
  | brk => exact hs.elim fun _ z => z.elim fun _ y => y.2.elim
  | cont => exact hs.elim fun _ z => z.elim fun _ y => y.2.elim
  | next =>
    obtain ⟨_, H', J, q⟩ := hs
    exact ⟨.non, H', J.os, J.bare, J.base, J.hok, rfl, q⟩
  | ret u =>
    obtain ⟨v, _, H', J, rv, q⟩ := hs
    exact ⟨v, H', J.os, J.bare, J.base, J.hok, rv, q⟩
end

section
variable {X : Cx} {CX : CXT} {k : Nat} {f : Addr} {fd : FuncData} {ps : List Str} {sp : Sp} {E : XK} {x : Str} {p pos : Pos} {e : Expr} {es : List Expr} {t : TA}
/-- f(e, ..) where no repr is under way -/
theorem pe_callG (F : FnG X.prog X.w X.K X.mg X.base CX k f fd ps sp) (hA : X.A.guards = some []) (hr : Room k X.A) (hg : Gl X x) (hm : X.mg x = some (.ref f)) (hk : PySem.W.keepIn X.K (.ref f) = true) (hb : Binds X.K fd ps [])
    (hx : Passes CX X E) (ha : PA X (e :: es) t) (hdb : (x == ("__debug__" : Str)) = false := by decide) (he : starEach (e :: es) X.env = (false, eval e X.env) :: starEach es X.env := by rfl)
    (hpl : (backTo pos (starEach es X.env)).any (·.1) = false := by rfl) : PE X (.Call (.Name x p) (e :: es) [] pos) (fun σ H Q => t σ H fun vs H1 => sp vs H1 Q E) := by
  constructor
  intro pins s σ H Q I h
  refine wpAny_Call_Name_kw (ld_glob I hg hm ?_ hdb)
  refine PySem.W.callWith_K (h₀ := X.base) I.ok.mod.kin hk (thn (ha.run pos pins s σ H _ I h) ?_) he hpl
  rintro us s1 ⟨vs, H1, I1, r, q⟩
  refine ⟨I1.kIn, ?_⟩
  have hl : (us ++ ([] : List Value)).length = ps.length := by
    rw [List.append_nil, ← r.length]
    exact F.many _ _ _ _ q
  have bd := hb s1 us I1.kIn hl
  rw [List.append_nil] at bd
  refine wpAny_call (codeAny_mono (F.goes X.A hA hr X.stack s1 H1 I1.env0 _ us vs bd r Q E q) ?_)
  intro rs s' z
  match rs, z with
  | .error e, z => exact hx pins σ H1 s1 e s' I1 z
  | .ok (.ret u), z => exact I1.after z
end
end Nr

/-! The end of a law's row for a def that is called where no repr is under way (callerA has none). -/
namespace Nr
open PySem PySem.Spec PyProof.Rows L2

section
variable {P : Program} {w : World} {K : PySem.W.Frag} {mg mb : Str → Option Value} {CX : CXT} {k : Nat} {fa a : Addr} {fd : FuncData} {x : Str} {sp : Sp} {s1 : Shared} {vs : List Value} {ns : List Int} {H : Hp}
/-- what the law's call wants at its end -/
def Ended (s1 : Shared) (r : Result) (s' : Shared) : Prop := r = .ok (.ret (.bool true)) ∧ OldK s1.heap s'.heap ∧ s'.os = s1.os ∧ AllBare s'.gens

/-- from a heap in which nothing is tracked but the script, if that -/
theorem begun (KX : K.In s1.heap) (hns : s1.heap.Ns mainGlobals mg) (hb : s1.heap.Ns builtinsNs mb) (hbb : ∀ x : Str, x ≠ "__name__" → mb x = bootBuiltins x) (hlim : s1.heap.NoLimit) (hg : s1.gens = #[])
    (ha : s1.heap.get? a = some { cls := .type "list", data := .seq vs.toArray }) (hr : Room k callerA)
    (F : ∀ base : Heap, K.In base → base.Ns mainGlobals mg → FnG P w K mg base CX k fa fd [x] sp) (bd : ∀ (s : Shared) (u : Value), BindsTo s fd ⟨[u], []⟩ [(x, u)])
    (hCX : ∀ H e s', CX [] H s1 (fun _ _ _ => False) e s' → False)
    (hO : Only H) (hok : HOk P w H s1.heap) (alone : ∀ b o, H b = some o → b = a ∧ K.lookup a = none)
    (q : sp [.ref a] H (fun v _ => v = .bl true) fun _ _ _ => False) :
    codeAny (model P w) callerA (.call (.ref fa) ⟨[.ref a], []⟩) (Ended s1) s1 := by
  have free : ∀ {b : Addr} {o : Obj}, s1.heap.get? b = some o → (∀ es ep, o.data ≠ .dict es ep) ∨ H b = none := by
    intro b o e
    cases z : H b with
    | none => exact Or.inr rfl
    | some u =>
      obtain ⟨rfl, _⟩ := alone b u z
      rw [ha] at e
      cases e
      exact Or.inl fun _ _ y => by cases y
  have nsB : ∀ {b : Addr} {m : Str → Option Value}, s1.heap.Ns b m → (hidT s1.heap H).Ns b m := by
    rintro b m ⟨o, es, ep, e, d, r⟩
    rcases free e with z | z
    · exact absurd d (z es ep)
    · exact ⟨o, es, ep, hidT_get e z, d, r⟩
  have inB : K.In (hidT s1.heap H) := by
    intro b o e
    refine hidT_get (KX b o e) ?_
    cases z : H b with
    | none => rfl
    | some u =>
      obtain ⟨rfl, y⟩ := alone b u z
      rw [y] at e
      cases e
  have md : Mod K mg (hidT s1.heap H) := by
    refine ⟨inB, nsB hns, ⟨mb, nsB hb, hbb⟩, ?_⟩
    obtain ⟨mc, l1, l2⟩ := hlim
    exact ⟨mc, nsB l1, l2⟩
  have e0 : Env0 P w K mg (hidT s1.heap H) callerA [] s1 H := by
    refine ⟨rfl, md, fun b o e => of_hidT e, Nat.le_of_eq (hidT_size _ _), trivial, ?_, hok, .of_eq hg⟩
    intro b hb
    exact (List.not_mem_nil hb).elim
  have run := (F _ inB (nsB hns)).goes callerA rfl hr [] s1 H e0 ⟨[.ref a], []⟩ [.ref a] [.ref a] (bd s1 (.ref a)) (.cons rfl .nil) _ _ q
  refine codeAny_mono run ?_
  intro r s' h
  match r, h with
  | .error e, h => exact (hCX H e s' h).elim
  | .ok (.ret u), h =>
    obtain ⟨v, H', os, bare, un, hok', rv, hv⟩ := h
    cases hv
    cases rv
    refine ⟨rfl, OldK.of_keep ?_, os, bare⟩
    intro b o e
    cases z : H b with
    | none => exact un.keep b o e z (fun y => List.not_mem_nil y) (fun y => List.not_mem_nil y)
    | some u =>
      rcases hO b with y | ⟨ob, xs, y⟩
      · rw [z] at y
        cases y
      · have g1 := (hok b _ y).1
        have g2 := (hok' b _ (un.frzs b ob _ y)).1
        rw [g1] at e
        cases e
        exact g2

theorem law_goes (KX : K.In s1.heap) (hns : s1.heap.Ns mainGlobals mg) (hb : s1.heap.Ns builtinsNs mb) (hbb : ∀ x : Str, x ≠ "__name__" → mb x = bootBuiltins x) (hlim : s1.heap.NoLimit) (hg : s1.gens = #[])
    (ha : s1.heap.get? a = some { cls := .type "list", data := .seq vs.toArray }) (hi : IntsAre vs ns) (hl : ns.length ≤ sizeLine) (hr : Room k callerA)
    (F : ∀ base : Heap, K.In base → base.Ns mainGlobals mg → FnG P w K mg base CX k fa fd [x] sp) (bd : ∀ (s : Shared) (u : Value), BindsTo s fd ⟨[u], []⟩ [(x, u)])
    (hCX : ∀ H e s', CX [] H s1 (fun _ _ _ => False) e s' → False)
    (hsp : ∀ H : Hp, Only H → SqL K H a (ns.map V.int) → sp [.ref a] H (fun v _ => v = .bl true) fun _ _ _ => False) :
    codeAny (model P w) callerA (.call (.ref fa) ⟨[.ref a], []⟩) (Ended s1) s1 := by
  have rv := vals_ints hi
  have nl := hi.length
  cases z : K.lookup a with
  | some o =>
    have e := (KX a o z).symm.trans ha
    cases e
    have oN : Only (fun _ => none) := fun _ => Or.inl rfl
    have sq : SqL K (fun _ => none) a (ns.map V.int) := by
      refine Or.inr ⟨_, vs.toArray, _, z, rfl, rfl, rfl, ?_, ?_⟩
      · rw [List.size_toArray, nl]
        exact hl
      · exact rv
    exact begun KX hns hb hbb hlim hg ha hr F bd hCX oN (fun _ _ y => nomatch y) (fun _ _ y => nomatch y) (hsp _ oN sq)
  | none =>
    let ob : Obj := { cls := .type "list", data := .seq vs.toArray }
    let H : Hp := upd (fun _ => none) a (.frz ob (.lst (ns.map V.int)))
    have at_a : H a = some (.frz ob (.lst (ns.map V.int))) := upd_same
    have other : ∀ b, b ≠ a → H b = none := fun b nb => upd_ne nb
    have oN : Only H := by
      intro b
      by_cases y : b = a
      · exact Or.inr ⟨ob, _, by rw [y]; exact at_a⟩
      · exact Or.inl (other b y)
    have al : ∀ b o, H b = some o → b = a ∧ K.lookup a = none := by
      intro b o y
      by_cases q : b = a
      · exact ⟨q, z⟩
      · rw [other b q] at y
        cases y
    refine begun (H := H) KX hns hb hbb hlim hg ha hr F bd hCX oN ?_ al (hsp H oN (Or.inl (Or.inr ⟨ob, at_a⟩)))
    intro b u y
    obtain ⟨rfl, _⟩ := al b u y
    rw [at_a] at y
    cases y
    exact ⟨ha, by rw [List.length_map]; exact hl, vs, _, rv, ha⟩
end

/-- a law's end from the promise of its def; the script's ints are below 2 ^ 1048576 -/
theorem walk_ofG {l : PySem.W.OpenLaw} {n k : Nat} {q : Program} {loose : List Str} {XP : (Str → Option Value) → Heap → Prop} {YP : World → Heap → Prop} {d : DefRec} {K : Params → PySem.W.Frag} {CX : World → CXT} {sp : World → Sp} {x : Str}
    (hn : l.most = some n) (hn2 : n ≤ sizeLine) (hdf : d.params.defaults = []) (hr : Room k callerA) (hY : ∀ (w : World) (h : Heap), YP w h → (K w.params).In h)
    (F : ∀ (w : World) (mg : Str → Option Value) (fa : Addr) (h : Heap), (K w.params).In h → h.Ns mainGlobals mg → mg d.name = some (.ref fa) →
      ∃ fd : FuncData, (∀ (s : Shared) (u : Value), BindsTo s fd ⟨[u], []⟩ [(x, u)]) ∧ ∀ base : Heap, (K w.params).In base → base.Ns mainGlobals mg → FnG l.prog w (K w.params) mg base (CX w) k fa fd [x] (sp w))
    (hsp : ∀ (w : World) (H : Hp) (a : Addr) (ns : List Int), ns.length ≤ n → (∀ z ∈ ns, Builtin.Int.intBits z ≤ 1048576) → Only H → SqL (K w.params) H a (ns.map V.int) → sp w [.ref a] H (fun v _ => v = .bl true) fun _ _ _ => False)
    (hCX : ∀ (w : World) (H : Hp) (s : Shared) (e : Value) (s' : Shared), CX w [] H s (fun _ _ _ => False) e s' → False) :
    PySem.W.WalkO q loose XP YP l.row.toRowW d [] (fun f vs => PySem.call f vs) := by
  apply Att.attach_callB hn hdf
  intro w s0 s1 mg mb fa o pm cd doc a vs ns G Y ho hd hcd hmg hobj hints hlen hbits hg
  have KX := hY w _ Y
  obtain ⟨fd, hb, hF⟩ := F w mg fa _ KX G.T.g hmg
  exact law_goes KX G.T.g G.T.b G.T.builtins G.T.nolimit hg hobj hints (Nat.le_trans hlen hn2) hr hF hb (fun H e s' => hCX w H s1 e s') fun H hO hS => hsp w H a ns hlen hbits hO hS
end Nr

/-! Words over 48, 49, 50 ("0", "1", "2"): the step by which a reduced word is led on, on stacks (the last sign first). -/
namespace Nw

/-- the signs of words -/
def Sg (c : Nat) : Prop := c = 48 ∨ c = 49 ∨ c = 50
def Wd (w : List Nat) : Prop := ∀ c ∈ w, Sg c

/-- lead a stack on by one sign -/
def step : List Nat → Nat → List Nat
  | [], c => [c]
  | a :: r, c =>
    if a = c then r
    else if c = 48 ∧ a = 50 then
      (match r with
      | 48 :: q => 50 :: q
      | r => 50 :: 48 :: r)
    else c :: a :: r

/-- two neighbors, the later one first, may stand in a reduced word -/
def Nb (a b : Nat) : Prop := a ≠ b ∧ ¬ (b = 50 ∧ a = 48)
/-- a stack of a reduced word -/
def Rd : List Nat → Prop
  | [] => True
  | [c] => Sg c
  | a :: b :: r => Sg a ∧ Nb a b ∧ Rd (b :: r)

theorem Rd.tail {a : Nat} {r : List Nat} (h : Rd (a :: r)) : Rd r := by
  cases r with
  | nil => trivial
  | cons b q => exact h.2.2
theorem Rd.head {a : Nat} {r : List Nat} (h : Rd (a :: r)) : Sg a := by
  cases r with
  | nil => exact h
  | cons b q => exact h.1
theorem Rd.wd : ∀ {r : List Nat}, Rd r → Wd r
  | [], _ => fun c h => by cases h
  | a :: r, h => fun c hc => by
    rcases List.mem_cons.mp hc with e | e
    · rw [e]; exact h.head
    · exact Rd.wd h.tail c e

theorem step_nil (c : Nat) : step [] c = [c] := rfl
def two (r : List Nat) : List Nat := match r with
  | 48 :: q => 50 :: q
  | r => 50 :: 48 :: r
theorem step_cons (a : Nat) (r : List Nat) (c : Nat) : step (a :: r) c = if a = c then r else if c = 48 ∧ a = 50 then two r else c :: a :: r := rfl
theorem rd_nil : Rd [] := trivial
theorem step_same (a : Nat) (r : List Nat) : step (a :: r) a = r := by
  rw [step_cons, if_pos rfl]
theorem step_push {a c : Nat} {r : List Nat} (h : Nb c a) : step (a :: r) c = c :: a :: r := by
  rw [step_cons, if_neg (fun e => h.1 e.symm), if_neg (fun e => h.2 ⟨e.2, e.1⟩)]
theorem step_02 (q : List Nat) : step (50 :: 48 :: q) 48 = 50 :: q := by
  rw [step_cons, if_neg (by decide), if_pos (by decide)]
  rfl
theorem step_2 {r : List Nat} (h : ∀ q, r ≠ 48 :: q) : step (50 :: r) 48 = 50 :: 48 :: r := by
  rw [step_cons, if_neg (by decide), if_pos (by decide)]
  unfold two
  cases r with
  | nil => rfl
  | cons b q =>
    split
    · next q' e => exact absurd e (h q')
    · rfl

/-- how a step goes: it takes off, it changes "02", it changes "2", it puts on -/
theorem step_ways {s : List Nat} (hs : Rd s) {c : Nat} (hc : Sg c) :
    (∃ r, s = c :: r ∧ step s c = r) ∨ (∃ q, c = 48 ∧ s = 50 :: 48 :: q ∧ step s c = 50 :: q) ∨
    (∃ r, c = 48 ∧ s = 50 :: r ∧ (∀ q, r ≠ 48 :: q) ∧ step s c = 50 :: 48 :: r) ∨ (step s c = c :: s ∧ ∀ a r, s = a :: r → Nb c a) := by
  cases s with
  | nil => exact .inr (.inr (.inr ⟨rfl, fun a r e => by cases e⟩))
  | cons a r =>
    by_cases e : a = c
    · subst e
      exact .inl ⟨r, rfl, step_same a r⟩
    · by_cases e2 : c = 48 ∧ a = 50
      · obtain ⟨rfl, rfl⟩ := e2
        by_cases e3 : ∃ q, r = 48 :: q
        · obtain ⟨q, rfl⟩ := e3
          exact .inr (.inl ⟨q, rfl, rfl, step_02 q⟩)
        · have h3 : ∀ q, r ≠ 48 :: q := fun q z => e3 ⟨q, z⟩
          exact .inr (.inr (.inl ⟨r, rfl, rfl, h3, step_2 h3⟩))
      · have nb : Nb c a := ⟨fun z => e z.symm, fun z => e2 ⟨z.2, z.1⟩⟩
        exact .inr (.inr (.inr ⟨step_push nb, fun a' r' z => by cases z; exact nb⟩))

theorem rd_cons {c : Nat} {s : List Nat} (hc : Sg c) (hs : Rd s) (h : ∀ a r, s = a :: r → Nb c a) : Rd (c :: s) := by
  cases s with
  | nil => exact hc
  | cons a r => exact ⟨hc, h a r rfl, hs⟩

theorem nb_of {a b : Nat} {r : List Nat} (h : Rd (a :: b :: r)) : Nb a b := h.2.1

theorem not48 {r : List Nat} (h : Rd (48 :: r)) : ∀ b q, r = b :: q → b = 49 := by
  intro b q e
  subst e
  have h1 := nb_of h
  have h2 := h.tail.head
  rcases h2 with z | z | z
  · exact absurd z.symm h1.1
  · exact z
  · exact absurd ⟨z, rfl⟩ h1.2

theorem step_rd {s : List Nat} (hs : Rd s) {c : Nat} (hc : Sg c) : Rd (step s c) := by
  rcases step_ways hs hc with ⟨r, rfl, e⟩ | ⟨q, rfl, rfl, e⟩ | ⟨r, rfl, rfl, h, e⟩ | ⟨e, h⟩
  · rw [e]; exact hs.tail
  · rw [e]
    refine rd_cons (.inr (.inr rfl)) hs.tail.tail fun a r z => ?_
    have := not48 hs.tail a r z
    subst this
    exact ⟨by decide, fun y => by cases y.1⟩
  · rw [e]
    refine rd_cons (.inr (.inr rfl)) (rd_cons (.inl rfl) hs.tail fun a q z => ?_) fun a q z => ?_
    · subst z
      have h1 := nb_of hs
      refine ⟨fun z => h q (by rw [← z]), fun y => h1.1 y.1.symm⟩
    · cases z
      exact ⟨by decide, fun y => by cases y.1⟩
  · rw [e]; exact rd_cons hc hs h

/-- a step is its own way back -/
theorem step_step {s : List Nat} (hs : Rd s) {c : Nat} (hc : Sg c) : step (step s c) c = s := by
  rcases step_ways hs hc with ⟨r, rfl, e⟩ | ⟨q, rfl, rfl, e⟩ | ⟨r, rfl, rfl, h, e⟩ | ⟨e, h⟩
  · rw [e]
    cases r with
    | nil => rfl
    | cons b q => exact step_push (nb_of hs)
  · rw [e]
    refine step_2 fun q' z => ?_
    have := not48 hs.tail 48 q' z
    cases this
  · rw [e]; exact step_02 r
  · rw [e]; exact step_same c s

theorem top_of {s : List Nat} (hs : Rd s) : s = [] ∨ (∃ r, s = 48 :: r) ∨ (∃ r, s = 49 :: r) ∨ (∃ r, s = 50 :: 48 :: r) ∨ (∃ r, s = 50 :: r ∧ ∀ q, r ≠ 48 :: q) := by
  cases s with
  | nil => exact .inl rfl
  | cons a r =>
    rcases hs.head with rfl | rfl | rfl
    · exact .inr (.inl ⟨r, rfl⟩)
    · exact .inr (.inr (.inl ⟨r, rfl⟩))
    · by_cases e : ∃ q, r = 48 :: q
      · obtain ⟨q, rfl⟩ := e
        exact .inr (.inr (.inr (.inl ⟨q, rfl⟩)))
      · exact .inr (.inr (.inr (.inr ⟨r, rfl, fun q z => e ⟨q, z⟩⟩)))

/-- 0 then 2 is 2 then 0 -/
theorem step_comm {s : List Nat} (hs : Rd s) : step (step s 48) 50 = step (step s 50) 48 := by
  rcases top_of hs with rfl | ⟨r, rfl⟩ | ⟨r, rfl⟩ | ⟨r, rfl⟩ | ⟨r, rfl, h⟩
  · rfl
  · rw [step_same]
    have e : step (48 :: r) 50 = 50 :: 48 :: r := step_push ⟨by decide, fun y => by cases y.2⟩
    rw [e, step_02]
    cases r with
    | nil => rfl
    | cons b q =>
      have := not48 hs b q rfl
      subst this
      exact step_push ⟨by decide, fun y => by cases y.2⟩
  · have e1 : step (49 :: r) 48 = 48 :: 49 :: r := step_push ⟨by decide, fun y => by cases y.1⟩
    have e2 : step (49 :: r) 50 = 50 :: 49 :: r := step_push ⟨by decide, fun y => by cases y.1⟩
    rw [e1, e2]
    rw [step_2 fun q z => by cases z]
    exact step_push ⟨by decide, fun y => by cases y.2⟩
  · rw [step_02, step_same, step_same, step_same]
  · rw [step_2 h, step_same, step_same]
    cases r with
    | nil => rfl
    | cons b q =>
      symm
      refine step_push ⟨fun z => h q (by rw [← z]), fun y => (nb_of hs).1 y.1.symm⟩

/-- lead a stack on by a word -/
def go (s w : List Nat) : List Nat := w.foldl step s
theorem go_nil (s : List Nat) : go s [] = s := rfl
theorem go_cons (s : List Nat) (c : Nat) (w : List Nat) : go s (c :: w) = go (step s c) w := rfl
theorem go_append (s u v : List Nat) : go s (u ++ v) = go (go s u) v := List.foldl_append ..
theorem go_snoc (s w : List Nat) (c : Nat) : go s (w ++ [c]) = step (go s w) c := by
  rw [go_append]; rfl
theorem go_rd {s : List Nat} (hs : Rd s) : ∀ {w : List Nat}, Wd w → Rd (go s w)
  | [], _ => hs
  | c :: w, h => by
    rw [go_cons]
    exact go_rd (step_rd hs (h c List.mem_cons_self)) fun d hd => h d (List.mem_cons_of_mem _ hd)

/-- the reduced word -/
def cut (w : List Nat) : List Nat := (go [] w).reverse
theorem wd_append {u v : List Nat} : Wd (u ++ v) ↔ Wd u ∧ Wd v :=
  ⟨fun h => ⟨fun c hc => h c (List.mem_append_left _ hc), fun c hc => h c (List.mem_append_right _ hc)⟩,
   fun h c hc => (List.mem_append.mp hc).elim (h.1 c) (h.2 c)⟩
theorem wd_rev {w : List Nat} : Wd w.reverse ↔ Wd w := ⟨fun h c hc => h c (List.mem_reverse.mpr hc), fun h c hc => h c (List.mem_reverse.mp hc)⟩
theorem cut_wd {w : List Nat} (h : Wd w) : Wd (cut w) := wd_rev.mpr (go_rd rd_nil h).wd

/-- a reduced stack is led to by its own word -/
theorem go_self : ∀ {s : List Nat}, Rd s → go [] s.reverse = s
  | [], _ => rfl
  | c :: r, h => by
    rw [List.reverse_cons, go_snoc, go_self h.tail]
    cases r with
    | nil => rfl
    | cons b q => exact step_push (nb_of h)
theorem cut_of_rd {w : List Nat} (h : Rd w.reverse) : cut w = w := by
  have := go_self h
  rw [List.reverse_reverse] at this
  unfold cut
  rw [this, List.reverse_reverse]
theorem rd_cut {w : List Nat} (h : Wd w) : Rd (cut w).reverse := by
  unfold cut
  rw [List.reverse_reverse]
  exact go_rd rd_nil h
theorem cut_cut {w : List Nat} (h : Wd w) : cut (cut w) = cut w := cut_of_rd (rd_cut h)

/-! ### whatever the signs do, if they are their own ways back and 0 and 2 go together -/
section
variable {α : Type} (f : α → Nat → α) (P : α → Prop)
structure Acts : Prop where
  stays : ∀ x c, P x → Sg c → P (f x c)
  back : ∀ x c, P x → Sg c → f (f x c) c = x
  comm : ∀ x, P x → f (f x 48) 50 = f (f x 50) 48
variable {f P}
theorem Acts.all (A : Acts f P) {x : α} (hx : P x) : ∀ {w : List Nat}, Wd w → P (w.foldl f x)
  | [], _ => hx
  | c :: w, h => A.all (A.stays x c hx (h c List.mem_cons_self)) fun d hd => h d (List.mem_cons_of_mem _ hd)
theorem fold_snoc (x : α) (w : List Nat) (c : Nat) : (w ++ [c]).foldl f x = f (w.foldl f x) c := by
  rw [List.foldl_append]; rfl
/-- one step of the stack -/
theorem Acts.one (A : Acts f P) {x : α} (hx : P x) {s : List Nat} (hs : Rd s) {c : Nat} (hc : Sg c) : (step s c).reverse.foldl f x = f (s.reverse.foldl f x) c := by
  have hw : ∀ {t : List Nat}, Rd t → P (t.reverse.foldl f x) := fun ht => A.all hx (wd_rev.mpr ht.wd)
  rcases step_ways hs hc with ⟨r, rfl, e⟩ | ⟨q, rfl, rfl, e⟩ | ⟨r, rfl, rfl, h, e⟩ | ⟨e, h⟩
  · rw [e, List.reverse_cons, fold_snoc, A.back _ _ (hw hs.tail) hc]
  · rw [e, List.reverse_cons, List.reverse_cons, List.reverse_cons, fold_snoc, fold_snoc, fold_snoc, A.comm _ (hw hs.tail.tail)]
    have h50 : Sg 50 := .inr (.inr rfl)
    rw [A.back _ 48 (A.stays _ _ (hw hs.tail.tail) h50) (.inl rfl)]
  · rw [e, List.reverse_cons, List.reverse_cons, List.reverse_cons, fold_snoc, fold_snoc, fold_snoc, A.comm _ (hw hs.tail)]
  · rw [e, List.reverse_cons, fold_snoc]
theorem Acts.snoc (A : Acts f P) {x : α} (hx : P x) : ∀ (n : Nat) (w : List Nat), w.length = n → Wd w → (cut w).foldl f x = w.foldl f x
  | 0, w, hn, _ => by
    have : w = [] := List.length_eq_zero_iff.mp hn
    subst this
    rfl
  | n + 1, w, hn, h => by
    have hne : w ≠ [] := fun z => by rw [z] at hn; cases hn
    have ew : w = w.dropLast ++ [w.getLast hne] := (List.dropLast_concat_getLast hne).symm
    have hl : w.dropLast.length = n := by rw [List.length_dropLast]; omega
    rw [ew] at h ⊢
    generalize w.dropLast = v at h hl ⊢
    generalize w.getLast hne = c at h ⊢
    obtain ⟨hv, hc1⟩ := wd_append.mp h
    have hc : Sg c := hc1 c List.mem_cons_self
    have ih := A.snoc hx n v hl hv
    unfold cut at ih ⊢
    rw [go_snoc, A.one hx (go_rd rd_nil hv) hc, ih, fold_snoc]
/-- the reduced word does what the word does -/
theorem Acts.cut (A : Acts f P) {x : α} (hx : P x) {w : List Nat} (h : Wd w) : (Nw.cut w).foldl f x = w.foldl f x := A.snoc hx _ w rfl h
/-- a word, and then backwards -/
theorem Acts.home (A : Acts f P) : ∀ {w : List Nat} {x : α}, P x → Wd w → w.reverse.foldl f (w.foldl f x) = x
  | [], _, _, _ => rfl
  | c :: w, x, hx, h => by
    have hc : Sg c := h c List.mem_cons_self
    rw [List.reverse_cons, fold_snoc]
    have ih := A.home (w := w) (A.stays x c hx hc) fun d hd => h d (List.mem_cons_of_mem _ hd)
    show f (w.reverse.foldl f (w.foldl f (f x c))) c = x
    rw [ih, A.back x c hx hc]
end
theorem acts_step : Acts step Rd := ⟨fun _ _ h hc => step_rd h hc, fun _ _ h hc => step_step h hc, fun _ h => step_comm h⟩
theorem go_cut {s w : List Nat} (hs : Rd s) (h : Wd w) : go s (cut w) = go s w := acts_step.cut hs h
theorem go_home {s w : List Nat} (hs : Rd s) (h : Wd w) : go (go s w) w.reverse = s := acts_step.home hs h

theorem cut_app_r {u v : List Nat} (hu : Wd u) (hv : Wd v) : cut (u ++ cut v) = cut (u ++ v) := by
  unfold cut
  rw [go_append, go_append]
  exact congrArg List.reverse (go_cut (go_rd rd_nil hu) hv)
theorem cut_app_l {u v : List Nat} (hu : Wd u) : cut (cut u ++ v) = cut (u ++ v) := by
  unfold cut
  rw [go_append, go_append]
  have : go [] (go [] u).reverse = go [] u := go_self (go_rd rd_nil hu)
  rw [this]
theorem cut_app {u v : List Nat} (hu : Wd u) (hv : Wd v) : cut (cut u ++ cut v) = cut (u ++ v) := by
  rw [cut_app_l hu, cut_app_r hu hv]
/-- backwards of the reduced word, or of the word -/
theorem cut_rev {w : List Nat} (h : Wd w) : cut (cut w).reverse = cut w.reverse := by
  -- both lead from the stack of w to nothing; so they lead alike from every stack
  have hr : Wd w.reverse := wd_rev.mpr h
  have hcw := cut_wd h
  have hcr : Wd (cut w).reverse := wd_rev.mpr hcw
  have e1 : go (go [] w) (cut w).reverse = [] := by
    have := go_home (s := []) rd_nil hcw
    rw [go_cut rd_nil h] at this
    exact this
  have e2 : go (go [] w) w.reverse = [] := go_home rd_nil h
  -- go back by w from []: (go [] w.reverse) led on by w is []
  have key : ∀ {v : List Nat}, Wd v → go (go [] w) v = [] → go [] v = go [] w.reverse := by
    intro v hv e
    have f1 : go (go (go [] w) v) v.reverse = go [] w := go_home (go_rd rd_nil h) hv
    rw [e] at f1
    -- v.reverse leads [] to the stack of w
    have f2 : go (go [] v.reverse) v = [] := by
      have := go_home (s := []) rd_nil (wd_rev.mpr hv)
      rw [List.reverse_reverse] at this
      exact this
    -- go [] v: act by stack of v; show that go [] w.reverse = go [] v by uniqueness: cut (w ++ v) = []
    have g1 : cut (w ++ v) = [] := by
      unfold cut
      rw [go_append, e]
      rfl
    have g2 : go (go [] w.reverse) (cut (w ++ v)) = go (go [] w.reverse) (w ++ v) := go_cut (go_rd rd_nil hr) (wd_append.mpr ⟨h, hv⟩)
    rw [g1, go_append] at g2
    have g3 : go (go [] w.reverse) w = [] := by
      have := go_home (s := []) rd_nil hr
      rw [List.reverse_reverse] at this
      exact this
    rw [g3] at g2
    exact g2.symm
  unfold cut
  have := key hcr e1
  unfold cut at this
  rw [this]
/-- the words whose difference vanishes have one reduced word -/
theorem cut_eq_of {u v : List Nat} (hu : Wd u) (hv : Wd v) (h : cut (u.reverse ++ v) = []) : cut u = cut v := by
  have hr : Wd u.reverse := wd_rev.mpr hu
  have e : cut (u ++ cut (u.reverse ++ v)) = cut (u ++ (u.reverse ++ v)) := cut_app_r hu (wd_append.mpr ⟨hr, hv⟩)
  rw [h, List.append_nil, ← List.append_assoc] at e
  rw [e]
  unfold cut
  rw [go_append, go_append, go_home rd_nil hu]
end Nw

/-! Reduced words read forwards, their syllables, and one reduced word behind another one. -/
namespace Nw

def Fw : List Nat → Prop
  | [] => True
  | [c] => Sg c
  | a :: b :: r => Sg a ∧ Nb b a ∧ Fw (b :: r)
theorem Fw.tail {a : Nat} {r : List Nat} (h : Fw (a :: r)) : Fw r := by
  cases r with
  | nil => trivial
  | cons b q => exact h.2.2
theorem Fw.head {a : Nat} {r : List Nat} (h : Fw (a :: r)) : Sg a := by
  cases r with
  | nil => exact h
  | cons b q => exact h.1
theorem Fw.nb {a b : Nat} {r : List Nat} (h : Fw (a :: b :: r)) : Nb b a := h.2.1
theorem Fw.wd : ∀ {r : List Nat}, Fw r → Wd r
  | [], _ => fun c h => by cases h
  | a :: r, h => fun c hc => by
    rcases List.mem_cons.mp hc with e | e
    · rw [e]; exact h.head
    · exact Fw.wd h.tail c e
theorem rd_snoc : ∀ {t : List Nat} {b a : Nat}, Rd (t ++ [b]) → Nb b a → Sg a → Rd (t ++ [b] ++ [a])
  | [], b, a, h, n, s => ⟨h, n, s⟩
  | [c], b, a, h, n, s => ⟨h.1, h.2.1, rd_snoc (t := []) h.2.2 n s⟩
  | c :: d :: t, b, a, h, n, s => ⟨h.1, h.2.1, rd_snoc (t := d :: t) h.2.2 n s⟩
theorem snoc_rd : ∀ {t : List Nat} {b a : Nat}, Rd (t ++ [b] ++ [a]) → Rd (t ++ [b]) ∧ Nb b a ∧ Sg a
  | [], b, a, h => ⟨h.1, h.2.1, h.2.2⟩
  | [c], b, a, h => by
    obtain ⟨h1, h2, h3⟩ := h
    obtain ⟨k1, k2, k3⟩ := snoc_rd (t := []) h3
    exact ⟨⟨h1, h2, k1⟩, k2, k3⟩
  | c :: d :: t, b, a, h => by
    obtain ⟨h1, h2, h3⟩ := h
    obtain ⟨k1, k2, k3⟩ := snoc_rd (t := d :: t) h3
    exact ⟨⟨h1, h2, k1⟩, k2, k3⟩
theorem fw_rd : ∀ {u : List Nat}, Fw u → Rd u.reverse
  | [], _ => trivial
  | [c], h => h
  | a :: b :: r, h => by
    have ih := fw_rd h.tail
    rw [List.reverse_cons, List.reverse_cons]
    rw [List.reverse_cons] at ih
    exact rd_snoc ih h.nb h.head
theorem rd_fw : ∀ {u : List Nat}, Rd u.reverse → Fw u
  | [], _ => trivial
  | [c], h => h
  | a :: b :: r, h => by
    rw [List.reverse_cons, List.reverse_cons] at h
    obtain ⟨h1, h2, h3⟩ := snoc_rd h
    rw [← List.reverse_cons] at h1
    exact ⟨h3, h2, rd_fw h1⟩
theorem fw_cut {u : List Nat} (h : Wd u) : Fw (cut u) := rd_fw (rd_cut h)
theorem cut_of_fw {u : List Nat} (h : Fw u) : cut u = u := cut_of_rd (fw_rd h)
theorem Fw.drop : ∀ {u : List Nat} (n : Nat), Fw u → Fw (u.drop n)
  | u, 0, h => h
  | [], n + 1, h => h
  | a :: r, n + 1, h => Fw.drop (u := r) n h.tail
theorem Rd.drop : ∀ {u : List Nat} (n : Nat), Rd u → Rd (u.drop n)
  | u, 0, h => h
  | [], n + 1, h => h
  | a :: r, n + 1, h => Rd.drop (u := r) n h.tail

/-- what does not meet is put on as it is -/
theorem go_on : ∀ {s p : List Nat}, Rd p → Fw s → (∀ a r c q, p = a :: r → s = c :: q → Nb c a) → go p s = s.reverse ++ p
  | [], p, _, _, _ => rfl
  | c :: q, p, hp, hs, h => by
    have h1 : step p c = c :: p := by
      cases p with
      | nil => rfl
      | cons a r => exact step_push (h a r c q rfl rfl)
    have h2 : Rd (c :: p) := rd_cons hs.head hp fun a r e => h a r c q e rfl
    rw [go_cons, h1, go_on h2 hs.tail (fun a r d t e1 e2 => by cases e1; subst e2; exact hs.nb), List.reverse_cons, List.append_assoc]
    rfl

/-- the last syllable of a stack, and what is below it -/
def lastS : List Nat → List Nat × List Nat
  | 50 :: 48 :: r => ([48, 50], r)
  | c :: r => ([c], r)
  | [] => ([], [])
def firstS : List Nat → List Nat × List Nat
  | 48 :: 50 :: r => ([48, 50], r)
  | c :: r => ([c], r)
  | [] => ([], [])

theorem lastS_of {p : List Nat} (hp : Rd p) (hne : p ≠ []) :
    (∃ r, p = 50 :: 48 :: r ∧ lastS p = ([48, 50], r) ∧ (r = [] ∨ ∃ q, r = 49 :: q)) ∨
    (∃ c r, p = c :: r ∧ lastS p = ([c], r) ∧ (c = 49 ∨ ((c = 48 ∨ c = 50) ∧ (r = [] ∨ ∃ q, r = 49 :: q)))) := by
  cases p with
  | nil => exact absurd rfl hne
  | cons c r =>
    have b49 : ∀ {q : List Nat}, Rd (48 :: q) → q = [] ∨ ∃ t, q = 49 :: t := by
      intro q hq
      cases q with
      | nil => exact .inl rfl
      | cons b t => exact .inr ⟨t, by rw [not48 hq b t rfl]⟩
    rcases hp.head with e | e | e
    · subst e
      refine .inr ⟨48, r, rfl, ?_, .inr ⟨.inl rfl, b49 hp⟩⟩
      cases r <;> rfl
    · subst e
      refine .inr ⟨49, r, rfl, ?_, .inl rfl⟩
      cases r <;> rfl
    · subst e
      cases r with
      | nil => exact .inr ⟨50, [], rfl, rfl, .inr ⟨.inr rfl, .inl rfl⟩⟩
      | cons b q =>
        by_cases e : b = 48
        · subst e
          exact .inl ⟨q, rfl, rfl, b49 hp.tail⟩
        · have hb : b = 49 := by
            rcases hp.tail.head with z | z | z
            · exact absurd z e
            · exact z
            · exact absurd z.symm (nb_of hp).1
          subst hb
          exact .inr ⟨50, 49 :: q, rfl, rfl, .inr ⟨.inr rfl, .inr ⟨q, rfl⟩⟩⟩
theorem firstS_of {s : List Nat} (hs : Fw s) (hne : s ≠ []) :
    (∃ r, s = 48 :: 50 :: r ∧ firstS s = ([48, 50], r) ∧ (r = [] ∨ ∃ q, r = 49 :: q)) ∨
    (∃ c r, s = c :: r ∧ firstS s = ([c], r) ∧ (c = 49 ∨ ((c = 48 ∨ c = 50) ∧ (r = [] ∨ ∃ q, r = 49 :: q)))) := by
  cases s with
  | nil => exact absurd rfl hne
  | cons c r =>
    have b49 : ∀ {q : List Nat}, Fw (50 :: q) → q = [] ∨ ∃ t, q = 49 :: t := by
      intro q hq
      cases q with
      | nil => exact .inl rfl
      | cons b t =>
        refine .inr ⟨t, ?_⟩
        rcases hq.tail.head with z | z | z
        · exact absurd ⟨rfl, z⟩ hq.nb.2
        · rw [z]
        · exact absurd z hq.nb.1
    rcases hs.head with e | e | e
    · subst e
      cases r with
      | nil => exact .inr ⟨48, [], rfl, rfl, .inr ⟨.inl rfl, .inl rfl⟩⟩
      | cons b q =>
        rcases hs.tail.head with z | z | z
        · exact absurd z hs.nb.1
        · subst z
          exact .inr ⟨48, 49 :: q, rfl, rfl, .inr ⟨.inl rfl, .inr ⟨q, rfl⟩⟩⟩
        · subst z
          exact .inl ⟨q, rfl, rfl, b49 hs.tail⟩
    · subst e
      refine .inr ⟨49, r, rfl, ?_, .inl rfl⟩
      cases r <;> rfl
    · subst e
      refine .inr ⟨50, r, rfl, ?_, .inr ⟨.inr rfl, b49 hs⟩⟩
      cases r <;> rfl

/-- the same syllable: both vanish -/
theorem meet_same {p s : List Nat} (hp : Rd p) (hs : Fw s) (np : p ≠ []) (ns : s ≠ []) (h : (lastS p).1 = (firstS s).1) : go p s = go (lastS p).2 (firstS s).2 := by
  rcases lastS_of hp np with ⟨r, rfl, e, _⟩ | ⟨c, r, rfl, e, _⟩ <;> rcases firstS_of hs ns with ⟨q, rfl, f, _⟩ | ⟨d, q, rfl, f, _⟩ <;> rw [e, f] at h <;> rw [e, f]
  · show go (step (step (50 :: 48 :: r) 48) 50) q = go r q
    rw [step_02, step_same]
  · cases h
  · cases h
  · cases h
    show go (step (c :: r) c) q = go r q
    rw [step_same]
/-- unlike ones, one of them "1": nothing meets -/
theorem meet_one {p s : List Nat} (hp : Rd p) (hs : Fw s) (np : p ≠ []) (ns : s ≠ []) (h : (lastS p).1 ≠ (firstS s).1) (h1 : (lastS p).1 = [49] ∨ (firstS s).1 = [49]) : go p s = s.reverse ++ p := by
  refine go_on hp hs fun a r c q e1 e2 => ?_
  subst e1 e2
  have ha := hp.head
  have hc := hs.head
  have key : a ≠ c ∧ (a = 49 ∨ c = 49) := by
    rcases lastS_of hp np with ⟨r', e0, e, _⟩ | ⟨a', r', e0, e, _⟩ <;> rcases firstS_of hs ns with ⟨q', f0, f, _⟩ | ⟨c', q', f0, f, _⟩ <;> rw [e, f] at h h1 <;> cases e0 <;> cases f0
    · exact absurd rfl h
    · rcases h1 with z | z
      · cases z
      · cases z; exact ⟨by decide, .inr rfl⟩
    · rcases h1 with z | z
      · cases z; exact ⟨by decide, .inl rfl⟩
      · cases z
    · refine ⟨fun z => h (by rw [z]), ?_⟩
      rcases h1 with z | z
      · cases z; exact .inl rfl
      · cases z; exact .inr rfl
  refine ⟨fun z => key.1 z.symm, fun z => ?_⟩
  rcases key.2 with y | y
  · rw [y] at z; cases z.1
  · rw [y] at z; cases z.2
/-- the codes of the syllables but "1" -/
def cdS (t : List Nat) : Nat := if t = [48] then 1 else if t = [50] then 2 else if t = [48, 50] then 3 else 4
def sgS (c : Nat) : List Nat := if c = 1 then [48] else if c = 2 then [50] else [48, 50]
theorem fin {a b m X q r : List Nat} (h : (sgS (cdS a ^^^ cdS b)).reverse = m) (e : X = q.reverse ++ (m ++ r)) : X = q.reverse ++ ((sgS (cdS a ^^^ cdS b)).reverse ++ r) := by
  rw [h]; exact e
/-- unlike ones, none of them "1": they are put together -/
theorem meet_two {p s : List Nat} (hp : Rd p) (hs : Fw s) (np : p ≠ []) (ns : s ≠ []) (h : (lastS p).1 ≠ (firstS s).1) (h1 : (lastS p).1 ≠ [49]) (h2 : (firstS s).1 ≠ [49]) :
    go p s = (firstS s).2.reverse ++ ((sgS (cdS (lastS p).1 ^^^ cdS (firstS s).1)).reverse ++ (lastS p).2) ∧ (cdS (lastS p).1 = 1 ∨ cdS (lastS p).1 = 2 ∨ cdS (lastS p).1 = 3) ∧ (cdS (firstS s).1 = 1 ∨ cdS (firstS s).1 = 2 ∨ cdS (firstS s).1 = 3) := by
  -- below and behind stands a "1" or nothing
  have rest : ∀ {m r q : List Nat}, (r = [] ∨ ∃ t, r = 49 :: t) → (q = [] ∨ ∃ t, q = 49 :: t) → Rd r → Fw q → (m = [48] ∨ m = [50] ∨ m = [50, 48]) → go (m ++ r) q = q.reverse ++ (m ++ r) := by
    intro m r q hr hq rr fq hm
    have nb : ∀ {x : Nat}, x = 48 ∨ x = 50 → ∀ a t, r = a :: t → Nb x a := by
      intro x hx a t e
      rcases hr with z | ⟨t', z⟩
      · rw [z] at e; cases e
      · rw [z] at e; cases e
        rcases hx with y | y <;> subst y
        · exact ⟨by decide, fun y => by cases y.1⟩
        · exact ⟨by decide, fun y => by cases y.1⟩
    have hrd : Rd (m ++ r) := by
      rcases hm with e | e | e <;> subst e
      · exact rd_cons (.inl rfl) rr (nb (.inl rfl))
      · exact rd_cons (.inr (.inr rfl)) rr (nb (.inr rfl))
      · exact rd_cons (.inr (.inr rfl)) (rd_cons (.inl rfl) rr (nb (.inl rfl))) fun a t e => by cases e; exact ⟨by decide, fun y => by cases y.2⟩
    refine go_on hrd fq fun a t c u e1 e2 => ?_
    rcases hq with z | ⟨t', z⟩
    · rw [z] at e2; cases e2
    · rw [z] at e2; cases e2
      rcases hm with e | e | e <;> subst e <;> cases e1 <;> exact ⟨by decide, fun y => by cases y.2⟩
  have st : ∀ {x : Nat} {r : List Nat}, (x = 48 ∨ x = 50) → (r = [] ∨ ∃ t, r = 49 :: t) → step r x = x :: r := by
    intro x r hx hr
    rcases hr with z | ⟨t, z⟩ <;> subst z
    · rfl
    · rcases hx with y | y <;> subst y
      · exact step_push ⟨by decide, fun y => by cases y.1⟩
      · exact step_push ⟨by decide, fun y => by cases y.1⟩
  have s2 : ∀ {r : List Nat}, (r = [] ∨ ∃ t, r = 49 :: t) → step (50 :: r) 48 = 50 :: 48 :: r := by
    intro r hr
    refine step_2 fun q e => ?_
    rcases hr with z | ⟨t, z⟩ <;> rw [z] at e <;> cases e
  have s0 : ∀ {r : List Nat}, step (48 :: r) 50 = 50 :: 48 :: r := step_push ⟨by decide, fun y => by cases y.2⟩
  rcases lastS_of hp np with ⟨r, rfl, e, hr⟩ | ⟨a, r, rfl, e, hr⟩
  · rcases firstS_of hs ns with ⟨q, rfl, f, hq⟩ | ⟨c, q, rfl, f, hq⟩
    · rw [e, f] at h; exact absurd rfl h
    · rw [e] at h h1 ⊢; rw [f] at h h2 ⊢
      rcases hq with z | ⟨z, hq⟩
      · subst z; exact absurd rfl h2
      · have fq := hs.tail
        rcases z with z | z <;> subst z
        · refine ⟨?_, .inr (.inr rfl), .inl rfl⟩
          show go (step (50 :: 48 :: r) 48) q = _
          rw [step_02]
          exact fin (by dsimp only; decide) (rest (m := [50]) hr hq hp.tail.tail fq (.inr (.inl rfl)))
        · refine ⟨?_, .inr (.inr rfl), .inr (.inl rfl)⟩
          show go (step (50 :: 48 :: r) 50) q = _
          rw [step_same]
          exact fin (by dsimp only; decide) (rest (m := [48]) hr hq hp.tail.tail fq (.inl rfl))
  · rcases hr with z | ⟨z, hr⟩
    · rw [e] at h1; subst z; exact absurd rfl h1
    · rcases firstS_of hs ns with ⟨q, rfl, f, hq⟩ | ⟨c, q, rfl, f, hq⟩
      · rw [e] at h h1 ⊢; rw [f] at h h2 ⊢
        have fq := hs.tail.tail
        rcases z with z | z <;> subst z
        · refine ⟨?_, .inl rfl, .inr (.inr rfl)⟩
          show go (step (step (48 :: r) 48) 50) q = _
          rw [step_same, st (.inr rfl) hr]
          exact fin (by dsimp only; decide) (rest (m := [50]) hr hq hp.tail fq (.inr (.inl rfl)))
        · refine ⟨?_, .inr (.inl rfl), .inr (.inr rfl)⟩
          show go (step (step (50 :: r) 48) 50) q = _
          rw [s2 hr, step_same]
          exact fin (by dsimp only; decide) (rest (m := [48]) hr hq hp.tail fq (.inl rfl))
      · rw [e] at h h1 ⊢; rw [f] at h h2 ⊢
        rcases hq with y | ⟨y, hq⟩
        · subst y; exact absurd rfl h2
        · have fq := hs.tail
          rcases z with z | z <;> subst z <;> rcases y with y | y <;> subst y
          · exact absurd rfl h
          · refine ⟨?_, .inl rfl, .inr (.inl rfl)⟩
            show go (step (48 :: r) 50) q = _
            rw [s0]
            exact fin (by dsimp only; decide) (rest (m := [50, 48]) hr hq hp.tail fq (.inr (.inr rfl)))
          · refine ⟨?_, .inr (.inl rfl), .inl rfl⟩
            show go (step (50 :: r) 48) q = _
            rw [s2 hr]
            exact fin (by dsimp only; decide) (rest (m := [50, 48]) hr hq hp.tail fq (.inr (.inr rfl)))
          · exact absurd rfl h
end Nw

/-! Texts backwards, and then replaced. -/
namespace Nr
open PySem PySem.Spec PyProof.Rows L2

def revS (z : Str) : Str := ⟨z.cps.toList.reverse.toArray⟩
theorem revS_len (z : Str) : (revS z).length = z.length := by
  show z.cps.toList.reverse.toArray.size = z.cps.size
  rw [List.size_toArray, List.length_reverse, Array.length_toList]
theorem back_indices (n : Nat) : Builtin.Str.strSliceIndices none none (-1) n = (List.range n).reverse := by
  have h : Builtin.Str.strSliceIndices none none (-1) n = sliceRange ((n : Int) - 1) (-1) (-1) := rfl
  rw [h, PySem.W.krv_sliceRange, PySem.W.krv_range]
theorem back_text (z : Str) : (⟨((Builtin.Str.strSliceIndices none none (-1) z.length).filterMap (z.cps[·]?)).toArray⟩ : Str) = revS z := by
  rw [back_indices, List.filterMap_reverse]
  unfold revS
  rw [show z.length = z.cps.size from rfl, PySem.W.krv_all]

section
variable {X : Cx} {e : Expr} {te : TE} {k : Nat} {p1 p2 p3 pos : Pos}
def tRevS (te : TE) : TE := fun σ H Q => te σ H fun x H1 => ∃ z, x = .str z ∧ z.length ≤ sizeLine ∧ Q (.str (revS z)) H1
/-- e[::-1] of a text; a token is out behind it -/
theorem rev_run (he : PE X e te) {pins : List (Addr × Obj)} {σ : L2.St} {H : Hp} {Q : VK} {s : Shared} (I : L2.Inv X pins σ H s) (h : tRevS te σ H Q) :
    wpAny (model X.prog X.w) X.A (eval (.Subscript e (.Slice none none (some (.UnaryOp .USub (.Constant (.int 1) k p1) p2)) p3) pos) X.env) (fun v s' => 1 ≤ s'.toks ∧ EP X pins σ Q v s') X.xe s := by
  refine Subscript_ (thn (he.run pins s σ H _ I h) fun v s1 ⟨x, H1, I1, r1, z, ex, hz, q⟩ => ?_)
  subst ex
  obtain ⟨tz, rfl⟩ := r1
  apply wpAny_Slice
  refine thn (po_none.run pins s1 σ H1 (fun o G => o = none ∧ G = H1) I1 ⟨rfl, rfl⟩) ?_
  rintro vl s2 ⟨l, _, I2, pl, rfl, rfl⟩
  refine thn (po_none.run pins s2 σ _ (fun o G => o = none ∧ G = _) I2 ⟨rfl, rfl⟩) ?_
  rintro vu s3 ⟨u, _, I3, pu, rfl, rfl⟩
  refine thn ((po_some (pe_un un_neg pe_int)).run pins s3 σ _ (fun o G => o = some (-1) ∧ G = _) I3 ⟨1, rfl, -1, rfl, rfl, rfl⟩) ?_
  rintro vs s4 ⟨o, H4, I4, ps, rfl, rfl⟩
  have I5 := I4.kept (t' := s4.toks) (h' := s4.heap.push { cls := .type "slice", data := .fields #[vl, vu, vs] }) fun b ob y => Heap.get?_push_of_some _ y
  obtain ⟨l, rfl, hl⟩ := L2.IsPart.raw pl
  obtain ⟨u, rfl, hu⟩ := L2.IsPart.raw pu
  obtain ⟨t, rfl, ht⟩ := L2.IsPart.raw ps
  cases l with
  | some l => cases hl
  | none =>
  cases u with
  | some u => cases hu
  | none =>
  cases t with
  | none => cases ht
  | some t =>
  obtain ⟨i, ti⟩ := t
  cases ht
  refine tail_any (ops := [.str z tz, .ref s4.heap.objs.size]) (typeIs_str _ z tz) PySem.F.slot_str_getitem.lookup ?_ (by with_unfolding_all rfl)
  refine wpAny_getItem_str_slice (l := none) (u := none) (st := some (-1, ti)) ⟨_, Heap.get?_push_size _ rfl, rfl, rfl⟩ rfl ?_
  have e := back_text z
  show Made.post (if ((-1 : Int) == 1 && (Builtin.Str.strSliceIndices none none (-1) z.length).length == z.length) = true then Made.val (.str z tz) else Made.str ⟨((Builtin.Str.strSliceIndices none none (-1) z.length).filterMap (z.cps[·]?)).toArray⟩) _ _
  rw [if_neg (by intro y; cases y), e]
  refine ⟨?_, Nat.succ_le_succ (Nat.zero_le _), .str (revS z), H4, I5.tok _, ⟨_, rfl⟩, q⟩
  rw [revS_len]
  exact hz
theorem pe_revS (he : PE X e te) : PE X (.Subscript e (.Slice none none (some (.UnaryOp .USub (.Constant (.int 1) k p1) p2)) p3) pos) (tRevS te) :=
  ⟨fun pins s σ H Q I h => thn (rev_run he I h) fun v s' y => y.2⟩

/-- e[::-1].replace(a, b) of written texts -/
def tRevRepl (te : TE) (a b : Str) : TE := fun σ H Q => tRevS te σ H fun v H1 => ∃ z, v = .str z ∧ z.length + (z.length + 1) * b.length ≤ 16777216 ∧ Q (.str (Txt.replace z a b)) H1
theorem pe_revRepl {a b : Str} {j m : Nat} {c0 c1 apos pos2 : Pos} (he : PE X e te) (hab : (a == b) = false := by decide)
    (hst : starEach [.Constant (.str a) j c0, .Constant (.str b) m c1] X.env = [(false, eval (.Constant (.str a) j c0) X.env), (false, eval (.Constant (.str b) m c1) X.env)] := by rfl)
    (hbase : attributeBase (.Subscript e (.Slice none none (some (.UnaryOp .USub (.Constant (.int 1) k p1) p2)) p3) pos) "replace" X.env (eval (.Subscript e (.Slice none none (some (.UnaryOp .USub (.Constant (.int 1) k p1) p2)) p3) pos) X.env) =
      eval (.Subscript e (.Slice none none (some (.UnaryOp .USub (.Constant (.int 1) k p1) p2)) p3) pos) X.env := by rfl) (hline : (apos.endLine == pos2.line) = true := by rfl) :
    PE X (.Call (.Attribute (.Subscript e (.Slice none none (some (.UnaryOp .USub (.Constant (.int 1) k p1) p2)) p3) pos) "replace" apos) [.Constant (.str a) j c0, .Constant (.str b) m c1] [] pos2) (tRevRepl te a b) := by
  constructor
  intro pins s σ H Q I h
  refine PySem.Call_method2 hbase hst hline (thn (rev_run he I h) ?_)
  rintro v s1 ⟨hk, v', H1, I1, r1, z, rfl, hb, q⟩
  obtain ⟨tx, rfl⟩ := r1
  have n1 : s1.toks ≠ 0 := Nat.ne_of_gt hk
  have rest := PySem.SC.replace (prog := X.prog) (w := X.w) (A := X.A) (E := X.xe) (s := { s1 with toks := s1.toks + 1 + 1 }) (x := z) (y := a) (z := b) (t := tx) (u := s1.toks) (v := s1.toks + 1) (Q := EP X pins σ Q)
    n1 (Nat.succ_ne_zero _) (Nat.ne_of_lt (Nat.lt_succ_self _)) hab hb (fun t' k' => ⟨.str (Txt.replace z a b), H1, I1.tok k', ⟨t', rfl⟩, q⟩)
  refine ⟨"str", _, PySem.F.plainAttrs_str, PySem.F.slot_str_replace,
    PySem.F.type_str_replace, typeIs_str _ _ _, (fun _ y => nomatch y), ?_⟩
  apply Calls.callWith_builtin rfl
  apply Calls.evalArgs_plain
  refine Calls.spliced_cons (Calls.Constant_str
    (Calls.spliced_cons (Calls.Constant_str
      (Calls.spliced_nil ?_))))
  exact rest
end
end Nr

namespace K4
open PySem PySem.Spec PyProof.Rows L2 Nr Nw

def topS (i : Nat) : Stmt := PySem.Challenge.pw_netsredrawn_k04_whole_mirrors.main.body.getD i (.Pass ⟨0, 0, 0, 0⟩)
abbrev sPutCode : Stmt := topS 8
theorem scPutCode : FnScope ["codes", "code", "last"] ["codes", "code"] (defScope sPutCode) := ⟨rfl, rfl, rfl, by decide +kernel, rfl, by decide +kernel, by decide +kernel⟩
abbrev sCoded : Stmt := topS 9
theorem scCoded : FnScope ["word", "codes", "sign"] ["word"] (defScope sCoded) := ⟨rfl, rfl, rfl, by decide +kernel, rfl, by decide +kernel, by decide +kernel⟩
abbrev sSpelledOut : Stmt := topS 10
theorem scSpelledOut : FnScope ["codes", "code"] ["codes"] (defScope sSpelledOut) := ⟨rfl, rfl, rfl, by decide +kernel, rfl, by decide +kernel, by decide +kernel⟩
abbrev sIsReducedText : Stmt := topS 11
theorem scIsReducedText : FnScope ["word"] ["word"] (defScope sIsReducedText) := ⟨rfl, rfl, rfl, by decide +kernel, rfl, by decide +kernel, by decide +kernel⟩
abbrev sReducedText : Stmt := topS 12
theorem scReducedText : FnScope ["word"] ["word"] (defScope sReducedText) := ⟨rfl, rfl, rfl, by decide +kernel, rfl, by decide +kernel, by decide +kernel⟩
abbrev sBackText : Stmt := topS 13
theorem scBackText : FnScope ["word"] ["word"] (defScope sBackText) := ⟨rfl, rfl, rfl, by decide +kernel, rfl, by decide +kernel, by decide +kernel⟩
abbrev sLastSyllable : Stmt := topS 14
theorem scLastSyllable : FnScope ["word", "end"] ["word", "end"] (defScope sLastSyllable) := ⟨rfl, rfl, rfl, by decide +kernel, rfl, by decide +kernel, by decide +kernel⟩
abbrev sFirstSyllable : Stmt := topS 15
theorem scFirstSyllable : FnScope ["word", "start"] ["word", "start"] (defScope sFirstSyllable) := ⟨rfl, rfl, rfl, by decide +kernel, rfl, by decide +kernel, by decide +kernel⟩
abbrev sJoinedText : Stmt := topS 16
theorem scJoinedText : FnScope ["word", "other", "end", "start", "tail", "head", "merged"] ["word", "other"] (defScope sJoinedText) := ⟨rfl, rfl, rfl, by decide +kernel, rfl, by decide +kernel, by decide +kernel⟩
abbrev sIsMirrorRow : Stmt := topS 17
theorem scIsMirrorRow : FnScope ["codes"] ["codes"] (defScope sIsMirrorRow) := ⟨rfl, rfl, rfl, by decide +kernel, rfl, by decide +kernel, by decide +kernel⟩
abbrev sStrangePlace : Stmt := topS 19
theorem scStrangePlace : FnScope ["text", "place", "sign"] ["text"] (defScope sStrangePlace) := ⟨rfl, rfl, rfl, by decide +kernel, rfl, by decide +kernel, by decide +kernel⟩
abbrev sNeedWord : Stmt := topS 20
theorem scNeedWord : FnScope ["word", "place"] ["word"] (defScope sNeedWord) := ⟨rfl, rfl, rfl, by decide +kernel, rfl, by decide +kernel, by decide +kernel⟩
abbrev sLimited : Stmt := topS 23
theorem scLimited : FnScope ["word"] ["word"] (defScope sLimited) := ⟨rfl, rfl, rfl, by decide +kernel, rfl, by decide +kernel, by decide +kernel⟩
abbrev sReduced : Stmt := topS 24
theorem scReduced : FnScope ["word"] ["word"] (defScope sReduced) := ⟨rfl, rfl, rfl, by decide +kernel, rfl, by decide +kernel, by decide +kernel⟩
abbrev sBack : Stmt := topS 25
theorem scBack : FnScope ["word"] ["word"] (defScope sBack) := ⟨rfl, rfl, rfl, by decide +kernel, rfl, by decide +kernel, by decide +kernel⟩
abbrev sThen : Stmt := topS 26
theorem scThen : FnScope ["word", "other_word"] ["word", "other_word"] (defScope sThen) := ⟨rfl, rfl, rfl, by decide +kernel, rfl, by decide +kernel, by decide +kernel⟩
abbrev sIsMirror : Stmt := topS 27
theorem scIsMirror : FnScope ["word"] ["word"] (defScope sIsMirror) := ⟨rfl, rfl, rfl, by decide +kernel, rfl, by decide +kernel, by decide +kernel⟩
abbrev sMirrorOf : Stmt := topS 28
theorem scMirrorOf : FnScope ["word", "codes", "middle"] ["word"] (defScope sMirrorOf) := ⟨rfl, rfl, rfl, by decide +kernel, rfl, by decide +kernel, by decide +kernel⟩
abbrev sTimesHome : Stmt := topS 29
theorem scTimesHome : FnScope ["word", "codes"] ["word"] (defScope sTimesHome) := ⟨rfl, rfl, rfl, by decide +kernel, rfl, by decide +kernel, by decide +kernel⟩
abbrev sLawMixed : Stmt := topS 31
theorem scLawMixed : FnScope ["cell", "n", "blend"] ["cell", "n"] (defScope sLawMixed) := ⟨rfl, rfl, rfl, by decide +kernel, rfl, by decide +kernel, by decide +kernel⟩
abbrev sLawFolded : Stmt := topS 32
theorem scLawFolded : FnScope ["script", "found", "n", "cell"] ["script"] (defScope sLawFolded) := ⟨rfl, rfl, rfl, by decide +kernel, rfl, by decide +kernel, by decide +kernel⟩
abbrev sLawDraw : Stmt := topS 33
theorem scLawDraw : FnScope ["m", "limit", "n", "lot", "here", "cell"] ["m", "limit"] (defScope sLawDraw) := ⟨rfl, rfl, rfl, by decide +kernel, rfl, by decide +kernel, by decide +kernel⟩
abbrev sLawBegun : Stmt := topS 34
theorem scLawBegun : FnScope ["script", "m", "cell"] ["script"] (defScope sLawBegun) := ⟨rfl, rfl, rfl, by decide +kernel, rfl, by decide +kernel, by decide +kernel⟩
abbrev sLawLike : Stmt := topS 35
theorem scLawLike : FnScope ["got", "due"] ["got", "due"] (defScope sLawLike) := ⟨rfl, rfl, rfl, by decide +kernel, rfl, by decide +kernel, by decide +kernel⟩
abbrev sLawOf : Stmt := topS 36
theorem scLawOf : FnScope ["m", "some"] ["m", "some"] (defScope sLawOf) := ⟨rfl, rfl, rfl, by decide +kernel, rfl, by decide +kernel, by decide +kernel⟩
abbrev sLawIsInt : Stmt := topS 37
theorem scLawIsInt : FnScope ["thing", "low", "high"] ["thing", "low", "high"] (defScope sLawIsInt) := ⟨rfl, rfl, rfl, by decide +kernel, rfl, by decide +kernel, by decide +kernel⟩
abbrev sLawOrder : Stmt := topS 38
theorem scLawOrder : FnScope ["m", "many", "left", "turn"] ["m", "many"] (defScope sLawOrder) := ⟨rfl, rfl, rfl, by decide +kernel, rfl, by decide +kernel, by decide +kernel⟩
abbrev sLawCut : Stmt := topS 39
theorem scLawCut : FnScope ["word", "kept", "sign"] ["word"] (defScope sLawCut) := ⟨rfl, rfl, rfl, by decide +kernel, rfl, by decide +kernel, by decide +kernel⟩
abbrev sLawTurnedBack : Stmt := topS 40
theorem scLawTurnedBack : FnScope ["word"] ["word"] (defScope sLawTurnedBack) := ⟨rfl, rfl, rfl, by decide +kernel, rfl, by decide +kernel, by decide +kernel⟩
abbrev sLawWord : Stmt := topS 41
theorem scLawWord : FnScope ["m", "most", "turn"] ["m", "most"] (defScope sLawWord) := ⟨rfl, rfl, rfl, by decide +kernel, rfl, by decide +kernel, by decide +kernel⟩
abbrev sLawIsMirror : Stmt := topS 42
theorem scLawIsMirror : FnScope ["word"] ["word"] (defScope sLawIsMirror) := ⟨rfl, rfl, rfl, by decide +kernel, rfl, by decide +kernel, by decide +kernel⟩
abbrev sLawNumbered : Stmt := topS 43
theorem scLawNumbered : FnScope ["net", "order", "spots", "n", "flag", "change"] ["net", "order"] (defScope sLawNumbered) := ⟨rfl, rfl, rfl, by decide +kernel, rfl, by decide +kernel, by decide +kernel⟩
abbrev sLawPaired : Stmt := topS 44
theorem scLawPaired : FnScope ["partners", "many", "ends", "sides", "n"] ["partners"] (defScope sLawPaired) := ⟨rfl, rfl, rfl, by decide +kernel, rfl, by decide +kernel, by decide +kernel⟩
abbrev sLawNet : Stmt := topS 45
theorem scLawNet : FnScope ["m", "most", "many", "turn", "left", "partners", "one", "two", "n"] ["m", "most"] (defScope sLawNet) := ⟨rfl, rfl, rfl, by decide +kernel, rfl, by decide +kernel, by decide +kernel⟩
abbrev sLawLead : Stmt := topS 46
theorem scLawLead : FnScope ["net", "flag", "word", "sign"] ["net", "flag", "word"] (defScope sLawLead) := ⟨rfl, rfl, rfl, by decide +kernel, rfl, by decide +kernel, by decide +kernel⟩
abbrev sLawIsNet : Stmt := topS 47
theorem scLawIsNet : FnScope ["value", "many", "change", "flag", "across"] ["value", "many"] (defScope sLawIsNet) := ⟨rfl, rfl, rfl, by decide +kernel, rfl, by decide +kernel, by decide +kernel⟩
abbrev sLawPieces : Stmt := topS 48
theorem scLawPieces : FnScope ["word", "found", "sign"] ["word"] (defScope sLawPieces) := ⟨rfl, rfl, rfl, by decide +kernel, rfl, by decide +kernel, by decide +kernel⟩
abbrev sLawRing : Stmt := topS 49
theorem scLawRing : FnScope ["word", "turn", "pieces", "way", "last", "first"] ["word"] (defScope sLawRing) := ⟨rfl, rfl, rfl, by decide +kernel, rfl, by decide +kernel, by decide +kernel⟩
abbrev sLawHung : Stmt := topS 50
theorem scLawHung : FnScope ["m", "many", "links", "partners", "left", "order", "n", "one", "two", "flag"] ["m", "many", "links"] (defScope sLawHung) := ⟨rfl, rfl, rfl, by decide +kernel, rfl, by decide +kernel, by decide +kernel⟩
abbrev sLawClosed : Stmt := topS 51
theorem scLawClosed : FnScope ["m", "word", "net", "ring", "way", "here", "links", "many", "n", "piece", "there"] ["m", "word"] (defScope sLawClosed) := ⟨rfl, rfl, rfl, by decide +kernel, rfl, by decide +kernel, by decide +kernel⟩
abbrev sLaw : Stmt := topS 52
theorem scLaw : FnScope ["script", "m", "turn", "word", "short", "is_one", "home", "told", "mover", "net", "way", "piece", "flag"] ["script"] (defScope sLaw) := ⟨rfl, rfl, rfl, by decide +kernel, rfl, by decide +kernel, by decide +kernel⟩

/-- a def of the text, behind the top -/
def Has (K : PySem.W.Frag) (mg : Str → Option Value) (x : String) (st : Stmt) (ps : List Str) : Prop :=
  ∃ (f : Addr) (fd : FuncData), mg x = some (.ref f) ∧ Fun K x x st f fd ∧ Binds K fd ps []
/-- a def's promise, wherever the def stands -/
def Ok (P : Program) (w : World) (K : PySem.W.Frag) (mg : Str → Option Value) (base : Heap) (k : Nat) (x : String) (ps : List Str) (sp : Sp) : Prop :=
  ∃ (f : Addr) (fd : FuncData), mg x = some (.ref f) ∧ PySem.W.keepIn K (.ref f) = true ∧ Binds K fd ps [] ∧ FnOk P w K mg base CX0 k f fd ps sp
section
variable {P : Program} {w : World} {K : PySem.W.Frag} {mg : Str → Option Value} {base : Heap}
theorem ok_of {x : String} {st : Stmt} {ps : List Str} {k : Nat} {sp : Sp} (h : Has K mg x st ps) (f : ∀ (f : Addr) (fd : FuncData), Fun K x x st f fd → FnOk P w K mg base CX0 k f fd ps sp) : Ok P w K mg base k x ps sp := by
  obtain ⟨g, fd, h1, h2, h3⟩ := h
  exact ⟨g, fd, h1, h2.kp, h3, f g fd h2⟩
end
/-- a call of such a def -/
theorem pe_callO {X : Cx} {k j : Nat} {x : String} {ps : List Str} {sp : Sp} {p pos : Pos} {e : Expr} {es : List Expr} {t : TA} (O : Ok X.prog X.w X.K X.mg X.base k x ps sp) (hr : Room j X.A) (hkj : k ≤ j) (hg : Gl X x) (ha : PA X (e :: es) t)
    (hdb : ((x : Str) == ("__debug__" : Str)) = false := by decide) (he : starEach (e :: es) X.env = (false, eval e X.env) :: starEach es X.env := by rfl) (hpl : (backTo pos (starEach es X.env)).any (·.1) = false := by rfl) :
    PE X (.Call (.Name x p) (e :: es) [] pos) (tCall sp [] E0 t) := by
  obtain ⟨f, fd, h1, h2, h3, h4⟩ := O
  exact pe_call h4 (hr.mono hkj) hg h1 h2 h3 .nil pass0 ha hdb he hpl

/-- the text of a list of code points -/
def S (w : List Nat) : Str := ⟨w.toArray⟩
def Vi (cs : List Nat) : List V := cs.map fun (n : Nat) => V.int (n : Int)
def At (H : Hp) (l : Addr) (xs : List V) : Prop := H l = some (.lst xs)

structure Txt (w : World) (K : PySem.W.Frag) (mg : Str → Option Value) : Prop where
  one : ∃ t, mg "ONE" = some (.int 4 t)
  signs : ∃ a, mg "SIGNS" = some (.ref a) ∧ ∀ H, SqT K H a [.str (S []), .str (S [48]), .str (S [50]), .str (S [48, 50]), .str (S [49])]
  codes : ∃ a, mg "CODES" = some (.ref a) ∧ KDct K w a "0" (.int 1) ∧ KDct K w a "1" (.int 4) ∧ KDct K w a "2" (.int 2) ∧ KDct K w a "02" (.int 3) ∧ KDct K w a "" (.int 0)
  most : ∃ t, mg "MOST_SIGNS" = some (.int 20000 t)
  nlen : mg "len" = none
  nisinstance : mg "isinstance" = none
  nstr : mg "str" = none
  nenumerate : mg "enumerate" = none
  nrange : mg "range" = none
  nint : mg "int" = none
  nrepr : mg "repr" = none
  ntuple : mg "tuple" = none
  nlist : mg "list" = none
  nbool : mg "bool" = none
  fPutCode : Has K mg "put_code" sPutCode ["codes", "code"]
  fCoded : Has K mg "coded" sCoded ["word"]
  fSpelledOut : Has K mg "spelled_out" sSpelledOut ["codes"]
  fIsReducedText : Has K mg "is_reduced_text" sIsReducedText ["word"]
  fReducedText : Has K mg "reduced_text" sReducedText ["word"]
  fBackText : Has K mg "back_text" sBackText ["word"]
  fLastSyllable : Has K mg "last_syllable" sLastSyllable ["word", "end"]
  fFirstSyllable : Has K mg "first_syllable" sFirstSyllable ["word", "start"]
  fJoinedText : Has K mg "joined_text" sJoinedText ["word", "other"]
  fIsMirrorRow : Has K mg "is_mirror_row" sIsMirrorRow ["codes"]
  fStrangePlace : Has K mg "strange_place" sStrangePlace ["text"]
  fNeedWord : Has K mg "need_word" sNeedWord ["word"]
  fLimited : Has K mg "limited" sLimited ["word"]
  fReduced : Has K mg "reduced" sReduced ["word"]
  fBack : Has K mg "back" sBack ["word"]
  fThen : Has K mg "then" sThen ["word", "other_word"]
  fIsMirror : Has K mg "is_mirror" sIsMirror ["word"]
  fMirrorOf : Has K mg "mirror_of" sMirrorOf ["word"]
  fTimesHome : Has K mg "times_home" sTimesHome ["word"]
  fLawMixed : Has K mg "_law_mixed" sLawMixed ["cell", "n"]
  fLawFolded : Has K mg "_law_folded" sLawFolded ["script"]
  fLawDraw : Has K mg "_law_draw" sLawDraw ["m", "limit"]
  fLawBegun : Has K mg "_law_begun" sLawBegun ["script"]
  fLawLike : Has K mg "_law_like" sLawLike ["got", "due"]
  fLawOf : Has K mg "_law_of" sLawOf ["m", "some"]
  fLawIsInt : Has K mg "_law_is_int" sLawIsInt ["thing", "low", "high"]
  fLawOrder : Has K mg "_law_order" sLawOrder ["m", "many"]
  fLawCut : Has K mg "_law_cut" sLawCut ["word"]
  fLawTurnedBack : Has K mg "_law_turned_back" sLawTurnedBack ["word"]
  fLawWord : Has K mg "_law_word" sLawWord ["m", "most"]
  fLawIsMirror : Has K mg "_law_is_mirror" sLawIsMirror ["word"]
  fLawNumbered : Has K mg "_law_numbered" sLawNumbered ["net", "order"]
  fLawPaired : Has K mg "_law_paired" sLawPaired ["partners"]
  fLawNet : Has K mg "_law_net" sLawNet ["m", "most"]
  fLawLead : Has K mg "_law_lead" sLawLead ["net", "flag", "word"]
  fLawIsNet : Has K mg "_law_is_net" sLawIsNet ["value", "many"]
  fLawPieces : Has K mg "_law_pieces" sLawPieces ["word"]
  fLawRing : Has K mg "_law_ring" sLawRing ["word"]
  fLawHung : Has K mg "_law_hung" sLawHung ["m", "many", "links"]
  fLawClosed : Has K mg "_law_closed" sLawClosed ["m", "word"]
  fLaw : Has K mg "law" sLaw ["script"]

/-! ### codes on stacks -/
def Cd (c : Nat) : Prop := c = 1 ∨ c = 2 ∨ c = 3 ∨ c = 4
instance (c : Nat) : Decidable (Cd c) := inferInstanceAs (Decidable (c = 1 ∨ c = 2 ∨ c = 3 ∨ c = 4))
def Alt : List Nat → Prop
  | [] => True
  | [c] => Cd c
  | a :: b :: r => Cd a ∧ ((a = 4 ∧ b ≠ 4) ∨ (a ≠ 4 ∧ b = 4)) ∧ Alt (b :: r)
theorem Alt.tail {a : Nat} {r : List Nat} (h : Alt (a :: r)) : Alt r := by
  cases r with
  | nil => trivial
  | cons b q => exact h.2.2
theorem Alt.head {a : Nat} {r : List Nat} (h : Alt (a :: r)) : Cd a := by
  cases r with
  | nil => exact h
  | cons b q => exact h.1
/-- led on by a code -/
def put : List Nat → Nat → List Nat
  | [], c => [c]
  | a :: r, c => if decide (a = 4) ≠ decide (c = 4) then c :: a :: r else if a = c then r else (a ^^^ c) :: r
theorem put_cons (a : Nat) (r : List Nat) (c : Nat) : put (a :: r) c = if decide (a = 4) ≠ decide (c = 4) then c :: a :: r else if a = c then r else (a ^^^ c) :: r := rfl
/-- the signs of a code, the last one first -/
def sg (c : Nat) : List Nat := if c = 1 then [48] else if c = 2 then [50] else if c = 3 then [50, 48] else [49]
def spell (s : List Nat) : List Nat := s.flatMap sg
def cd (c : Nat) : Nat := if c = 48 then 1 else if c = 50 then 2 else 4
theorem spell_cons (a : Nat) (r : List Nat) : spell (a :: r) = sg a ++ spell r := rfl
theorem below4 {a : Nat} {r : List Nat} (h : Alt (a :: r)) (ha : a ≠ 4) : r = [] ∨ ∃ q, r = 4 :: q := by
  cases r with
  | nil => exact .inl rfl
  | cons b q =>
    rcases h.2.1 with ⟨e, _⟩ | ⟨_, e⟩
    · exact absurd e ha
    · exact .inr ⟨q, by rw [e]⟩
theorem belowN {r : List Nat} (h : Alt (4 :: r)) : r = [] ∨ ∃ b q, r = b :: q ∧ (b = 1 ∨ b = 2 ∨ b = 3) := by
  cases r with
  | nil => exact .inl rfl
  | cons b q =>
    rcases h.2.1 with ⟨_, e⟩ | ⟨e, _⟩
    · rcases h.tail.head with z | z | z | z
      · exact .inr ⟨b, q, rfl, .inl z⟩
      · exact .inr ⟨b, q, rfl, .inr (.inl z)⟩
      · exact .inr ⟨b, q, rfl, .inr (.inr z)⟩
      · exact absurd z e
    · exact absurd rfl e
theorem put_alt {s : List Nat} (h : Alt s) {c : Nat} (hc : c = 1 ∨ c = 2 ∨ c = 4) : Alt (put s c) := by
  have hcd : Cd c := by rcases hc with e | e | e <;> subst e <;> decide
  cases s with
  | nil => exact hcd
  | cons a r =>
    have ha := h.head
    rw [put_cons]
    split
    · next e =>
      refine ⟨hcd, ?_, h⟩
      by_cases h1 : a = 4 <;> by_cases h2 : c = 4
      · exact absurd (by rw [h1, h2]) e
      · exact .inr ⟨h2, h1⟩
      · exact .inl ⟨h2, h1⟩
      · exact absurd (by rw [decide_eq_false h1, decide_eq_false h2]) e
    · split
      · exact h.tail
      · next e e2 =>
        -- both are below 4 and unlike
        have hx : a ≠ 4 ∧ c ≠ 4 := by
          by_cases h1 : a = 4 <;> by_cases h2 : c = 4
          · exact absurd (h1.trans h2.symm) e2
          · exact absurd (by rw [decide_eq_true h1, decide_eq_false h2]; decide) e
          · exact absurd (by rw [decide_eq_false h1, decide_eq_true h2]; decide) e
          · exact ⟨h1, h2⟩
        have hn : Cd (a ^^^ c) ∧ a ^^^ c ≠ 4 := by
          rcases ha with z | z | z | z <;> rcases hc with y | y | y <;> subst z <;> subst y <;> first | exact absurd rfl e2 | exact absurd rfl hx.1 | exact absurd rfl hx.2 | decide
        rcases below4 h hx.1 with z | ⟨q, z⟩
        · subst z; exact hn.1
        · subst z; exact ⟨hn.1, .inr ⟨hn.2, rfl⟩, h.tail⟩
/-- what a code does to the signs -/
theorem spell_put {s : List Nat} (h : Alt s) {c : Nat} (hc : Sg c) : spell (put s (cd c)) = step (spell s) c := by
  cases s with
  | nil => rcases hc with e | e | e <;> subst e <;> rfl
  | cons a r =>
    rcases h.head with z | z | z | z
    · subst z
      rcases below4 h (by decide) with y | ⟨q, y⟩ <;> subst y <;> rcases hc with e | e | e <;> subst e <;> rfl
    · subst z
      rcases below4 h (by decide) with y | ⟨q, y⟩ <;> subst y <;> rcases hc with e | e | e <;> subst e <;> rfl
    · subst z
      rcases below4 h (by decide) with y | ⟨q, y⟩ <;> subst y <;> rcases hc with e | e | e <;> subst e <;> rfl
    · subst z
      rcases belowN h with y | ⟨b, q, y, x⟩
      · subst y; rcases hc with e | e | e <;> subst e <;> rfl
      · subst y
        rcases x with x | x | x <;> subst x <;> rcases hc with e | e | e <;> subst e <;> rfl
def codesOf (w : List Nat) : List Nat := w.foldl (fun s c => put s (cd c)) []
theorem cd_of {c : Nat} (h : Sg c) : cd c = 1 ∨ cd c = 2 ∨ cd c = 4 := by
  rcases h with e | e | e <;> subst e <;> decide
theorem codes_go : ∀ {w : List Nat} {s : List Nat}, Alt s → Wd w → Alt (w.foldl (fun s c => put s (cd c)) s) ∧ spell (w.foldl (fun s c => put s (cd c)) s) = go (spell s) w
  | [], s, h, _ => ⟨h, rfl⟩
  | c :: w, s, h, hw => by
    have hc := hw c List.mem_cons_self
    have := codes_go (w := w) (s := put s (cd c)) (put_alt h (cd_of hc)) fun d hd => hw d (List.mem_cons_of_mem _ hd)
    rw [spell_put h hc] at this
    exact this
theorem put_length (s : List Nat) (c : Nat) : (put s c).length ≤ s.length + 1 := by
  cases s with
  | nil => exact Nat.le_refl _
  | cons a r =>
    rw [put_cons]
    split
    · exact Nat.le_refl _
    · split
      · exact Nat.le_succ_of_le (Nat.le_succ _)
      · exact Nat.le_succ _
end K4

namespace K4
open PySem PySem.Spec PyProof.Rows L2 Nr Nw
section
variable {P : Program} {w : World} {K : PySem.W.Frag} {mg : Str → Option Value} {base : Heap}

/-! ### put_code -/
def spPut : Sp := fun vs H Q _ => ∃ (l : Addr) (s : List Nat) (c : Nat), vs = [.ref l, .int (c : Int)] ∧ H l = some (.lst (Vi s.reverse)) ∧ Alt s ∧ (c = 1 ∨ c = 2 ∨ c = 4) ∧ s.length ≤ 100000 ∧ Q .non (upd H l (.lst (Vi (put s c).reverse)))
theorem vi_rev (a : Nat) (r : List Nat) : Vi (a :: r).reverse = Vi r.reverse ++ [.int (a : Int)] := by
  unfold Vi
  rw [List.reverse_cons, List.map_append]
  rfl
theorem vi_len (s : List Nat) : (Vi s).length = s.length := List.length_map ..
theorem xor_small {a c : Nat} (ha : a = 1 ∨ a = 2 ∨ a = 3) (hc : c = 1 ∨ c = 2 ∨ c = 3) : Builtin.bitXor (a : Int) (c : Int) = ((a ^^^ c : Nat) : Int) := by
  rcases ha with e | e | e <;> rcases hc with z | z | z <;> subst e <;> subst z <;> decide +kernel
theorem ok_put (T : Txt w K mg) : Ok P w K mg base 1 "put_code" ["codes", "code"] spPut := by
  refine ok_of T.fPutCode fun f fd F => ?_
  obtain ⟨tO, gO⟩ := T.one
  refine F.ok scPutCode (fun vs H Q E h => ?_) (fun cdv A outer s H vs Q E hr h => ?_)
  · obtain ⟨l, s, c, rfl, _⟩ := h
    rfl
  · obtain ⟨l, st, c, rfl, hl, ha, hc, hz, q⟩ := h
    refine ⟨_, pss_cons (ps_if (PW.pt (pw_or (pt_not (pt_truth (pv 0) (by intro _; rfl)))
        (pw_or1 (pt_cmpR op_ne (pe_cmpR op_eq (pe_ix ix_list (pv 0) (pe_un un_neg pe_int) (fun _ _ => rfl)) (pe_glob (v := .int 4) rfl gO ⟨_, rfl⟩) (nomark _)) (pe_cmpR op_eq (pv 1) (pe_glob (v := .int 4) rfl gO ⟨_, rfl⟩) (nomark _)) (nomark _)))))
        (pss_cons (ps_expr (pe_bm PySem.F.plainAttrs_list PySem.F.slot_list_append PySem.F.type_list_append mt_append (pv 0) (pa_cons (pv 1) pa_nil))) (pss_one ps_retN)) pss_nil)
      (pss_cons (ps_set (i := 2) scPutCode.nd rfl (.inl rfl) (pe_bm0 PySem.F.plainAttrs_list PySem.F.slot_list_pop PySem.F.type_list_pop mt_pop (pv 0)))
      (pss_one (ps_if (pt_cmpR op_ne (pv 2) (pv 1) (nomark _))
        (pss_one (ps_expr (pe_bm PySem.F.plainAttrs_list PySem.F.slot_list_append PySem.F.type_list_append mt_append (pv 0) (pa_cons (pe_op op_xor (pv 2) (pv 1)) pa_nil)))) pss_nil))), ?_⟩
    have size : (Vi st.reverse).length < sizeLine := by
      rw [vi_len, List.length_reverse]
      exact Nat.lt_of_le_of_lt hz (by decide)
    cases st with
    | nil =>
      refine ⟨.ref l, rfl, false, .inl ⟨[], .inl (.inl hl), rfl⟩, iteT (iteT ?_)⟩
      refine ⟨.ref l, rfl, .inl ⟨rfl, _, .inl (.inl hl)⟩, .int (c : Int), rfl, l, _, _, rfl, rfl, hl, size, ?_⟩
      exact q
    | cons a r =>
      have hv : H l = some (.lst (Vi r.reverse ++ [.int (a : Int)])) := by rw [← vi_rev]; exact hl
      refine ⟨.ref l, rfl, true, .inl ⟨_, .inl (.inl hl), ?_⟩, iteF ?_⟩
      · rw [vi_rev]
        cases Vi r.reverse <;> rfl
      refine ⟨.ref l, rfl, 1, rfl, l, _, _, _, rfl, rfl, .inl (.inl hv), atI_last _ _, rfl, .int (c : Int), rfl, rfl, rfl, _, rfl, ?_⟩
      have h4 : ∀ n : Nat, decide (V.int (n : Int) = V.int 4) = decide (n = 4) := by
        intro n
        by_cases e : n = 4
        · subst e; rfl
        · rw [decide_eq_false e, decide_eq_false]
          intro z
          exact e (by have := V.int.inj z; omega)
      have h5 : (!decide (V.bl (decide (V.int (a : Int) = V.int 4)) = V.bl (decide (V.int (c : Int) = V.int 4)))) = decide (decide (a = 4) ≠ decide (c = 4)) := by
        rw [h4, h4]
        cases decide (a = 4) <;> cases decide (c = 4) <;> rfl
      rw [h5]
      by_cases e : decide (a = 4) ≠ decide (c = 4)
      · rw [decide_eq_true e]
        refine iteT ?_
        refine ⟨.ref l, rfl, .inl ⟨rfl, _, .inl (.inl hl)⟩, .int (c : Int), rfl, l, _, _, rfl, rfl, hl, size, ?_⟩
        have e2 : put (a :: r) c = c :: a :: r := by rw [put_cons, if_pos e]
        rw [e2, vi_rev] at q
        exact q
      · rw [decide_eq_false e]
        refine iteF ?_
        refine ⟨.ref l, rfl, .inl ⟨rfl, _, .inl (.inl hl)⟩, l, _, .int (a : Int), rfl, rfl, hv, ?_, ?_⟩
        · rw [List.length_append]
          exact List.getElem?_concat_length
        rw [List.dropLast_concat]
        refine ⟨.int (a : Int), rfl, .int (c : Int), rfl, rfl, _, rfl, ?_⟩
        by_cases e2 : a = c
        · subst e2
          have e3 : put (a :: r) a = r := by rw [put_cons, if_neg e, if_pos rfl]
          rw [e3] at q
          rw [decide_eq_true rfl]
          exact iteF q
        · have e3 : put (a :: r) c = (a ^^^ c) :: r := by rw [put_cons, if_neg e, if_neg e2]
          have e4 : ¬ (V.int (a : Int) = V.int (c : Int)) := fun z => e2 (by have := V.int.inj z; omega)
          rw [decide_eq_false e4]
          refine iteT ?_
          have ha4 : a ≠ 4 ∧ c ≠ 4 := by
            by_cases h1 : a = 4 <;> by_cases h2 : c = 4
            · exact absurd (h1.trans h2.symm) e2
            · exact absurd (by rw [decide_eq_true h1, decide_eq_false h2]; decide) e
            · exact absurd (by rw [decide_eq_false h1, decide_eq_true h2]; decide) e
            · exact ⟨h1, h2⟩
          have hx : Builtin.bitXor (a : Int) (c : Int) = ((a ^^^ c : Nat) : Int) := by
            refine xor_small ?_ ?_
            · rcases ha.head with z | z | z | z
              · exact .inl z
              · exact .inr (.inl z)
              · exact .inr (.inr z)
              · exact absurd z ha4.1
            · rcases hc with z | z | z
              · exact .inl z
              · exact .inr (.inl z)
              · exact absurd z ha4.2
          refine ⟨.ref l, rfl, .inl ⟨rfl, _, .inl (.inl upd_same)⟩, .int (a : Int), rfl, .int (c : Int), rfl, (a : Int), (c : Int), rfl, rfl, l, _, _, rfl, rfl, upd_same, ?_, ?_⟩
          · rw [vi_len, List.length_reverse]
            have : r.length + 1 ≤ 100000 := hz
            exact Nat.lt_of_lt_of_le (Nat.lt_of_lt_of_le (Nat.lt_succ_self _) this) (by decide)
          · rw [e3, vi_rev] at q
            show Q .non (upd (upd H l (.lst (Vi r.reverse))) l (.lst (Vi r.reverse ++ [.int (Builtin.bitXor (a : Int) (c : Int))])))
            rw [hx, upd_upd]
            exact q

/-! ### coded -/
/-- a word as a text -/
def Wt (w : List Nat) : Prop := Wd w ∧ w.length ≤ 20000
def spCoded : Sp := fun vs H Q _ => ∃ u : List Nat, vs = [.str (S u)] ∧ Wt u ∧ ∀ (H' : Hp) (p : Addr), Same H H' → H p = none → H' p = some (.lst (Vi (codesOf u).reverse)) → Q (.ref p) H'
theorem take_next {α : Type} {u : List α} {i : Nat} (hi : i < u.length) : u.take (i + 1) = u.take i ++ [u[i]] := by
  rw [List.take_add_one, List.getElem?_eq_getElem hi]
  rfl
theorem codes_snoc (u : List Nat) (c : Nat) : codesOf (u ++ [c]) = put (codesOf u) (cd c) := by
  unfold codesOf
  rw [List.foldl_append]
  rfl
theorem codes_len : ∀ (n : Nat) (u : List Nat), u.length = n → (codesOf u).length ≤ n
  | 0, u, h => by
    rw [List.length_eq_zero_iff.mp h]
    exact Nat.le_refl _
  | n + 1, u, h => by
    have hne : u ≠ [] := fun z => by rw [z] at h; cases h
    rw [(List.dropLast_concat_getLast hne).symm, codes_snoc]
    have h1 := put_length (codesOf u.dropLast) (cd (u.getLast hne))
    have h2 := codes_len n u.dropLast (by rw [List.length_dropLast]; omega)
    omega
theorem codes_alt {u : List Nat} (h : Wd u) : Alt (codesOf u) := (codes_go (s := []) trivial h).1
theorem kd_sign {a : Addr} (h0 : KDct K w a "0" (.int 1)) (h1 : KDct K w a "1" (.int 4)) (h2 : KDct K w a "2" (.int 2)) {c : Nat} (hc : Sg c) : KDct K w a (S [c]) (.int (cd c : Int)) := by
  rcases hc with e | e | e <;> subst e
  · exact h0
  · exact h1
  · exact h2
theorem ok_coded (T : Txt w K mg) : Ok P w K mg base 2 "coded" ["word"] spCoded := by
  refine ok_of T.fCoded fun f fd F => ?_
  obtain ⟨aC, gC, k0, k1, k2, _⟩ := T.codes
  refine F.ok scCoded (fun vs H Q E h => ?_) (fun cdv A outer s H vs Q E hr h => ?_)
  · obtain ⟨u, rfl, _⟩ := h
    rfl
  · obtain ⟨u, rfl, ⟨hw, hz⟩, q⟩ := h
    refine ⟨_, pss_cons (ps_set (i := 1) scCoded.nd rfl (.inl rfl) (pe_lst pa_nil))
      (pss_cons (ps_for PassesOwn.never rfl (pi_str (pv 0)) (pg_name (i := 2) scCoded.nd rfl (.inl rfl))
        (pss_one (ps_expr (pe_callO (ok_put T) hr (by decide) (by rfl) (pa_cons (pv 1) (pa_cons (pe_ix ix_kdict (pe_glob (v := .ref aC) rfl gC rfl) (pv 2) (fun _ _ => rfl)) pa_nil))))))
      (pss_one (ps_ret (pv 1)))), ?_⟩
    refine ⟨Nat.zero_le _, fun l nl => ?_⟩
    have s1 : Same H (upd H l (.lst [])) := fun b x e => by
      rw [upd_ne (ne_of_none e nl)]
      exact e
    refine ⟨.str (S u), rfl, S u, rfl, fun i m σ H3 => ∃ y2, σ = [some (.str (S u)), some (.ref l), y2] ∧ i + m = u.length ∧ Same H H3 ∧ H3 l = some (.lst (Vi (codesOf (u.take i)).reverse)),
      ⟨u.length, none, rfl, by omega, s1, upd_same⟩, fun i m σ H3 hW => ?_⟩
    obtain ⟨y2, rfl, em, sm, el⟩ := hW
    by_cases hi : i < u.length
    · have hc : Sg u[i] := hw _ (List.getElem_mem hi)
      have ht : u.take (i + 1) = u.take i ++ [u[i]] := take_next hi
      have hwt : Wd (u.take i) := fun c hc => hw c (List.mem_of_mem_take hc)
      refine .inr ⟨?_, fun σ' H' => ∃ y2, σ' = [some (.str (S u)), some (.ref l), y2] ∧ Same H H' ∧ H' l = some (.lst (Vi (codesOf (u.take (i + 1))).reverse)), fun σ' H' hN => ?_, fun v H' hy => ?_⟩
      · show i < (S u).cps.size
        exact hi
      · obtain ⟨z2, e, sm', el'⟩ := hN
        exact ⟨m - 1, by omega, z2, e, by omega, sm', el'⟩
      · obtain ⟨rfl, c, ec, rfl⟩ := hy
        have e1 : c = u[i] := by
          have : (S u).cps[i]? = some u[i] := by
            show u.toArray[i]? = some u[i]
            rw [List.getElem?_toArray, List.getElem?_eq_getElem hi]
          rw [this] at ec
          exact (Option.some.inj ec).symm
        subst e1
        refine ⟨.ref l, rfl, .str (S [u[i]]), rfl, aC, S [u[i]], .int (cd u[i] : Int), rfl, rfl, kd_sign k0 k1 k2 hc, ?_⟩
        refine ⟨l, codesOf (u.take i), cd u[i], rfl, el, codes_alt hwt, cd_of hc, ?_, ?_⟩
        · have := codes_len _ (u.take i) rfl
          rw [List.length_take] at this
          omega
        · refine ⟨some (.str (S [u[i]])), rfl, fun b x e => ?_, ?_⟩
          · rw [upd_ne (ne_of_none e nl)]
            exact sm b x e
          · rw [upd_same, ht, codes_snoc]
    · refine .inl ⟨?_, .ref l, rfl, ?_⟩
      · show (S u).cps.size ≤ i
        show u.length ≤ i
        omega
      · rw [List.take_of_length_le (by omega)] at el
        exact q H3 l sm nl el

/-! ### spelled_out -/
def spSpelled (K : PySem.W.Frag) : Sp := fun vs H Q _ => ∃ (l : Addr) (s : List Nat), vs = [.ref l] ∧ SqL K H l (Vi s.reverse) ∧ Alt s ∧ s.length ≤ 20000 ∧ ∀ H', Same H H' → Q (.str (S (spell s).reverse)) H'
theorem yes {f : Bool → Hp → Prop} {σ : L2.St} {H : Hp} (h : f true H) : tYes σ H f := h
theorem sg_rev {c : Nat} (h : Cd c) : ∃ z, ([[], [48], [50], [48, 50], [49]] : List (List Nat))[c]? = some z ∧ z = (sg c).reverse ∧ z.length ≤ 2 := by
  rcases h with e | e | e | e <;> subst e
  · exact ⟨_, rfl, rfl, by decide⟩
  · exact ⟨_, rfl, rfl, by decide⟩
  · exact ⟨_, rfl, rfl, by decide⟩
  · exact ⟨_, rfl, rfl, by decide⟩
theorem Alt.all : ∀ {s : List Nat}, Alt s → ∀ c ∈ s, Cd c
  | [], _, c, hc => by cases hc
  | a :: r, h, c, hc => by
    rcases List.mem_cons.mp hc with e | e
    · rw [e]; exact h.head
    · exact Alt.all h.tail c e
/-- the texts of codes, the first code first -/
def texts (cs : List Nat) : List Str := cs.map fun c => S (sg c).reverse
theorem texts_sum : ∀ (cs : List Nat), ((texts cs).map (·.length)).sum ≤ 2 * cs.length
  | [] => Nat.le_refl _
  | c :: r => by
    have ih := texts_sum r
    have h : (S (sg c).reverse).length ≤ 2 := by
      show (sg c).reverse.length ≤ 2
      unfold sg
      split
      · decide
      · split
        · decide
        · split <;> decide
    show (S (sg c).reverse).length + ((texts r).map (·.length)).sum ≤ 2 * (r.length + 1)
    omega
theorem glue_list : ∀ (r : List Str) (a : Array Nat), (r.foldl (fun acc (p : Str) => acc ++ (S []).cps ++ p.cps) a).toList = a.toList ++ r.flatMap (·.cps.toList)
  | [], a => (List.append_nil _).symm
  | p :: r, a => by
    rw [List.foldl_cons, glue_list r, List.flatMap_cons]
    show ((a ++ #[]) ++ p.cps).toList ++ _ = _
    rw [Array.toList_append, Array.toList_append]
    show ((a.toList ++ []) ++ p.cps.toList) ++ _ = _
    rw [List.append_nil, List.append_assoc]
/-- texts joined by nothing -/
theorem join_flat (l : List (List Nat)) : Txt.join (S []) (l.map S) = S l.flatten := by
  cases l with
  | nil => rfl
  | cons a r =>
    have h := glue_list (r.map S) (S a).cps
    have e : Txt.join (S []) ((a :: r).map S) = ⟨(r.map S).foldl (fun acc (p : Str) => acc ++ (S []).cps ++ p.cps) (S a).cps⟩ := rfl
    rw [e]
    refine congrArg Str.mk (Array.toList_inj.mp ?_)
    rw [h, List.flatMap_map]
    show a ++ _ = (a ++ r.flatten)
    refine congrArg (a ++ ·) ?_
    rw [List.flatMap_def]
    refine congrArg List.flatten ?_
    exact List.map_id'' (fun _ => rfl) r
theorem join_texts (cs : List Nat) : Txt.join (S []) (texts cs) = S (spell cs.reverse).reverse := by
  have e : texts cs = (cs.map fun c => (sg c).reverse).map S := by
    unfold texts
    rw [List.map_map]
    rfl
  rw [e, join_flat]
  refine congrArg S ?_
  unfold spell
  rw [List.reverse_flatMap, List.reverse_reverse, List.flatMap_def]
  rfl
theorem ok_spelled (T : Txt w K mg) : Ok P w K mg base 1 "spelled_out" ["codes"] (spSpelled K) := by
  refine ok_of T.fSpelledOut fun f fd F => ?_
  obtain ⟨aS, gS, hS⟩ := T.signs
  refine F.ok scSpelledOut (fun vs H Q E h => ?_) (fun cdv A outer s H vs Q E hr h => ?_)
  · obtain ⟨l, st, rfl, _⟩ := h
    rfl
  · obtain ⟨l, st, rfl, hl, ha, hz, q⟩ := h
    refine ⟨_, pss_one (ps_ret (pe_join pe_str (pe_lc (own := [("code", 1)]) (g := gName 1) (tt := tYes) (by rfl) scSpelledOut.nd (pi_list (pv 0)) (blkOk_by (N := ["codes", "code"]) (sc := defScope sSpelledOut) (by decide +kernel))
      (fun _ _ _ _ _ => pg_name (i := 1) scSpelledOut.nd rfl (.inl rfl)) (fun _ _ _ _ _ => pts_nil) (fun _ _ _ _ _ => pe_ix (r := rIxT K) ix_tup (pe_glob (v := .ref aS) rfl gS rfl) (pv 1) (fun _ _ => rfl))))), ?_⟩
    have hlen : (Vi st.reverse).length = st.length := by rw [vi_len, List.length_reverse]
    refine ⟨⟨_, rfl⟩, .ref l, rfl, l, rfl, ⟨_, hl⟩, fun D nD => ?_⟩
    have s1 : Same H (upd H D (.lst [])) := fun b x e => by
      rw [upd_ne (ne_of_none e nD)]
      exact e
    refine lc_list (K := K) (a := l) (xs := Vi st.reverse) (fun i H' => Same H H' ∧ H' D = some (.lst ((texts (st.reverse.take i)).map V.str))) ⟨s1, upd_same⟩ (fun i H' hi h => h.1.seq hl) (fun i x H' hx h => ?_) (fun H' h => ?_)
    · obtain ⟨sm, eD⟩ := h
      have hx' : ∃ c, st.reverse[i]? = some c ∧ x = .int (c : Int) := by
        unfold Vi at hx
        rw [List.getElem?_map] at hx
        cases e : st.reverse[i]? with
        | none => rw [e] at hx; cases hx
        | some c => rw [e] at hx; exact ⟨c, rfl, (Option.some.inj hx).symm⟩
      obtain ⟨c, hc, rfl⟩ := hx'
      have hcd : Cd c := ha.all c (List.mem_reverse.mp (List.mem_of_getElem? hc))
      obtain ⟨z, hz1, hz2, hz3⟩ := sg_rev hcd
      refine ⟨rfl, yes (iteT ?_)⟩
      refine ⟨.int (c : Int), rfl, aS, _, _, .str (S z), rfl, rfl, hS _, atI_nat ?_, ?_⟩
      · rcases hcd with e | e | e | e <;> subst e <;> cases hz1 <;> rfl
      refine ⟨_, eD, ?_, fun b x e => ?_, ?_⟩
      · rw [List.length_map]
        unfold texts
        rw [List.length_map, List.length_take, List.length_reverse]
        exact Nat.lt_of_le_of_lt (Nat.le_trans (Nat.min_le_right _ _) hz) (by decide)
      · rw [upd_ne (ne_of_none e nD)]
        exact sm b x e
      · rw [upd_same]
        have e2 : st.reverse.take (i + 1) = st.reverse.take i ++ [c] := by
          rw [List.take_add_one, hc]
          rfl
        rw [e2]
        unfold texts
        rw [List.map_append, List.map_append, hz2]
        rfl
    · obtain ⟨sm, eD⟩ := h
      rw [hlen, List.take_of_length_le (by rw [List.length_reverse]; exact Nat.le_refl _)] at eD
      refine ⟨_, D, texts st.reverse, rfl, rfl, .inl (.inl (.inl eD)), ?_, ?_⟩
      · have := texts_sum st.reverse
        rw [List.length_reverse] at this
        have e0 : (S ([] : List Nat)).length = 0 := rfl
        show _ + _ * (S ([] : List Nat)).length ≤ _
        rw [e0]
        omega
      · have := join_texts st.reverse
        rw [List.reverse_reverse] at this
        have q' := q H' sm
        rw [← this] at q'
        exact q'
end
end K4

namespace K4
open PySem PySem.Spec PyProof.Rows L2 Nr Nw

/-! ### what the tests of "00", "11", "22", "20" tell -/
theorem fw_iff : ∀ {u : List Nat}, Wd u → (Fw u ↔ ∀ i a b, u[i]? = some a → u[i + 1]? = some b → Nb b a)
  | [], _ => ⟨fun _ i a b h => (by cases h), fun _ => trivial⟩
  | [c], h => ⟨fun _ i a b _ h2 => (by cases i <;> cases h2), fun _ => h c List.mem_cons_self⟩
  | x :: y :: r, h => by
    have ih := fw_iff (u := y :: r) fun d hd => h d (List.mem_cons_of_mem _ hd)
    constructor
    · intro f i a b h1 h2
      cases i with
      | zero =>
        cases h1
        cases h2
        exact f.nb
      | succ i => exact ih.mp f.tail i a b h1 h2
    · intro f
      exact ⟨h x List.mem_cons_self, f 0 x y rfl rfl, ih.mpr fun i a b h1 h2 => f (i + 1) a b h1 h2⟩
def oc (y u : List Nat) : Bool := !(Builtin.Str.occurrences (S u) (S y) 0 (S u).length 1).isEmpty
theorem sub_two (u : List Nat) (a b i : Nat) : (i + (S [a, b]).length ≤ (S u).length ∧ Builtin.Str.subAt (S u) (S [a, b]) i = true) ↔ (u[i]? = some a ∧ u[i + 1]? = some b) := by
  rw [PySem.StrLaws.subAt_eq]
  show (i + 2 ≤ u.length ∧ ((u.drop i).take 2 == [a, b]) = true) ↔ _
  rw [beq_iff_eq]
  constructor
  · rintro ⟨h1, h2⟩
    have e : ∀ j, j < 2 → u[i + j]? = ([a, b] : List Nat)[j]? := by
      intro j hj
      rw [← h2, List.getElem?_take, if_pos hj, List.getElem?_drop]
    exact ⟨e 0 (by decide), e 1 (by decide)⟩
  · rintro ⟨h1, h2⟩
    have l1 : i + 1 < u.length := (List.getElem?_eq_some_iff.mp h2).1
    refine ⟨l1, List.ext_getElem? fun j => ?_⟩
    rw [List.getElem?_take]
    split
    · next hj =>
      rw [List.getElem?_drop]
      match j, hj with
      | 0, _ => exact h1
      | 1, _ => exact h2
    · next hj =>
      match j, hj with
      | 0, hj => exact absurd (by decide) hj
      | 1, hj => exact absurd (by decide) hj
      | j + 2, _ => rfl
theorem oc_iff (a b : Nat) (u : List Nat) : oc [a, b] u = true ↔ ∃ i, u[i]? = some a ∧ u[i + 1]? = some b := by
  unfold oc
  rw [PySem.StrLaws.found_iff]
  exact ⟨fun ⟨i, h⟩ => ⟨i, (sub_two u a b i).mp h⟩, fun ⟨i, h⟩ => ⟨i, (sub_two u a b i).mpr h⟩⟩
def isRed (u : List Nat) : Bool := !(if oc [48, 48] u then true else if oc [49, 49] u then true else if oc [50, 50] u then true else oc [50, 48] u)
theorem isRed_iff {u : List Nat} (h : Wd u) : isRed u = true ↔ cut u = u := by
  have key : isRed u = true ↔ (oc [48, 48] u = false ∧ oc [49, 49] u = false ∧ oc [50, 50] u = false ∧ oc [50, 48] u = false) := by
    unfold isRed
    cases oc [48, 48] u <;> cases oc [49, 49] u <;> cases oc [50, 50] u <;> cases oc [50, 48] u <;> decide
  rw [key]
  have f2 : Fw u ↔ cut u = u := ⟨cut_of_fw, fun e => e ▸ fw_cut h⟩
  rw [← f2, fw_iff h]
  have no : ∀ {a b : Nat}, oc [a, b] u = false → ∀ i, u[i]? = some a → u[i + 1]? = some b → False := by
    intro a b e i h1 h2
    rw [(oc_iff a b u).mpr ⟨i, h1, h2⟩] at e
    cases e
  constructor
  · rintro ⟨h0, h1, h2, h3⟩ i a b e1 e2
    refine ⟨fun e => ?_, fun e => ?_⟩
    · subst e
      rcases h b (List.mem_of_getElem? e1) with z | z | z <;> subst z
      · exact no h0 i e1 e2
      · exact no h1 i e1 e2
      · exact no h2 i e1 e2
    · obtain ⟨rfl, rfl⟩ := e
      exact no h3 i e1 e2
  · intro f
    have yes : ∀ {a b : Nat}, ¬ Nb b a → oc [a, b] u = false := by
      intro a b n
      cases e : oc [a, b] u with
      | false => rfl
      | true =>
        obtain ⟨i, h1, h2⟩ := (oc_iff a b u).mp e
        exact absurd (f i a b h1 h2) n
    exact ⟨yes fun n => n.1 rfl, yes fun n => n.1 rfl, yes fun n => n.1 rfl, yes fun n => n.2 ⟨rfl, rfl⟩⟩

/-! ### backwards, and "20" written "02" -/
theorem repl_go : ∀ (n : Nat) (v p : List Nat), v.length ≤ n → Rd v → Rd p → (∀ a r c q, p = a :: r → v = c :: q → (a = 49 ∧ c ≠ 49) ∨ (a ≠ 49 ∧ c = 49)) → go p v = (PySem.StrLaws.replL [50, 48] [48, 50] v).reverse ++ p
  | n, [], p, _, _, _, _ => by rw [PySem.StrLaws.replL_nil]; rfl
  | 0, c :: q, p, hn, _, _, _ => by cases hn
  | n + 1, c :: q, p, hn, hv, hp, hc => by
    have nb : ∀ a r, p = a :: r → Nb c a := by
      intro a r e
      rcases hc a r c q e rfl with ⟨z, y⟩ | ⟨z, y⟩
      · subst z
        exact ⟨y, fun x => by cases x.1⟩
      · subst y
        exact ⟨fun x => z x.symm, fun x => by cases x.2⟩
    have s1 : step p c = c :: p := by
      cases p with
      | nil => rfl
      | cons a r => exact step_push (nb a r rfl)
    by_cases hit : ∃ t, q = 48 :: t ∧ c = 50
    · obtain ⟨t, rfl, rfl⟩ := hit
      have h1 : PySem.StrLaws.replL [50, 48] [48, 50] (50 :: 48 :: t) = [48, 50] ++ PySem.StrLaws.replL [50, 48] [48, 50] t := PySem.StrLaws.replL_hit (by decide) rfl
      have p49 : ∀ q', p ≠ 48 :: q' := by
        intro q' e
        rcases hc 48 q' 50 (48 :: t) e rfl with ⟨z, _⟩ | ⟨_, z⟩ <;> cases z
      have s2 : step (50 :: p) 48 = 50 :: 48 :: p := step_2 p49
      have hp2 : Rd (50 :: 48 :: p) := by
        rw [← s2, ← s1]
        exact step_rd (step_rd hp (.inr (.inr rfl))) (.inl rfl)
      rw [go_cons, go_cons, s1, s2, h1]
      have ih := repl_go n t (50 :: 48 :: p) (by simp only [List.length_cons] at hn; omega) hv.tail.tail hp2 fun a r d u e1 e2 => by
        cases e1
        subst e2
        exact .inr ⟨by decide, not48 hv.tail d u rfl⟩
      rw [ih, List.reverse_append, List.append_assoc]
      rfl
    · have h1 : PySem.StrLaws.replL [50, 48] [48, 50] (c :: q) = c :: PySem.StrLaws.replL [50, 48] [48, 50] q := by
        refine PySem.StrLaws.replL_miss fun e => hit ?_
        cases q with
        | nil => cases e
        | cons d t =>
          have e' : [c, d] = [50, 48] := e
          cases e'
          exact ⟨t, rfl, rfl⟩
      rw [go_cons, s1, h1]
      have ih := repl_go n q (c :: p) (by simp only [List.length_cons] at hn; omega) hv.tail (rd_cons hv.head hp nb) fun a r d u e1 e2 => by
        cases e1
        subst e2
        have n2 := nb_of hv
        have hd := hv.tail.head
        rcases hv.head with z | z | z
        · subst z
          exact .inr ⟨by decide, not48 hv d u rfl⟩
        · subst z
          exact .inl ⟨rfl, fun y => n2.1 y.symm⟩
        · subst z
          refine .inr ⟨by decide, ?_⟩
          rcases hd with y | y | y
          · exact absurd ⟨u, by rw [y], rfl⟩ hit
          · exact y
          · exact absurd y.symm n2.1
      rw [ih, List.reverse_cons, List.append_assoc]
      rfl
theorem repl_back {u : List Nat} (h : Fw u) : Txt.replace (revS (S u)) (S [50, 48]) (S [48, 50]) = S (cut u.reverse) := by
  have e := PySem.StrLaws.replace_list (x := revS (S u)) (y := S [50, 48]) (z := S [48, 50]) (by decide)
  have g := repl_go u.reverse.length u.reverse [] (Nat.le_refl _) (fw_rd h) rd_nil fun a r c q z _ => by cases z
  refine str_eq_of_lists ?_
  rw [e]
  show PySem.StrLaws.replL [50, 48] [48, 50] u.reverse = cut u.reverse
  unfold cut
  rw [g, List.append_nil, List.reverse_reverse]
theorem cut_len : ∀ (n : Nat) (u : List Nat), u.length = n → Wd u → (cut u).length ≤ n
  | 0, u, h, _ => by
    rw [List.length_eq_zero_iff.mp h]
    exact Nat.le_refl _
  | n + 1, u, h, hw => by
    have hne : u ≠ [] := fun z => by rw [z] at h; cases h
    have eu := (List.dropLast_concat_getLast hne).symm
    have hl : u.dropLast.length = n := by rw [List.length_dropLast]; omega
    rw [eu] at hw ⊢
    generalize u.dropLast = v at hw hl ⊢
    generalize u.getLast hne = c at hw ⊢
    obtain ⟨hv, hc⟩ := wd_append.mp hw
    have ih := cut_len n v hl hv
    have hs := go_rd rd_nil hv
    unfold cut at ih ⊢
    rw [go_snoc]
    rw [List.length_reverse] at ih ⊢
    rcases step_ways hs (hc c List.mem_cons_self) with ⟨r, e0, e⟩ | ⟨q, _, e0, e⟩ | ⟨r, _, e0, _, e⟩ | ⟨e, _⟩
    · rw [e0] at ih; rw [e]; simp only [List.length_cons] at ih; omega
    · rw [e0] at ih; rw [e]; simp only [List.length_cons] at ih ⊢; omega
    · rw [e0] at ih; rw [e]; simp only [List.length_cons] at ih ⊢; omega
    · rw [e]; simp only [List.length_cons]; omega
end K4

namespace K4
open PySem PySem.Spec PyProof.Rows L2 Nr Nw
section
variable {P : Program} {w : World} {K : PySem.W.Frag} {mg : Str → Option Value} {base : Heap}

/-! ### is_reduced_text, reduced_text, back_text -/
def spIsRed : Sp := fun vs H Q _ => ∃ u : List Nat, vs = [.str (S u)] ∧ Q (.bl (isRed u)) H
theorem or_yes {c : Bool} {A : Prop} {Q : Bool → Prop} (h1 : c = true → Q true) (h2 : c = false → A) : if c = true then Q true else A := by
  cases c with
  | true => exact iteT (h1 rfl)
  | false => exact iteF (h2 rfl)
theorem ok_isRed (T : Txt w K mg) : Ok P w K mg base 1 "is_reduced_text" ["word"] spIsRed := by
  refine ok_of T.fIsReducedText fun f fd F => ?_
  refine F.ok scIsReducedText (fun vs H Q E h => ?_) (fun cdv A outer s H vs Q E hr h => ?_)
  · obtain ⟨u, rfl, _⟩ := h
    rfl
  · obtain ⟨u, rfl, q⟩ := h
    refine ⟨_, pss_one (ps_ret (pe_not (pe_or (pe_cmpR op_in_str pe_str (pv 0) (by rfl)) (pe_or (pe_cmpR op_in_str pe_str (pv 0) (by rfl)) (pe_or (pe_cmpR op_in_str pe_str (pv 0) (by rfl)) (pe_one (pe_cmpR op_in_str pe_str (pv 0) (by rfl)))))))), ?_⟩
    have fin : ∀ b : Bool, (!b) = isRed u → Q (.bl (!b)) H := fun b e => e ▸ q
    refine ⟨.str (S u), rfl, S [48, 48], S u, rfl, rfl, oc [48, 48] u, rfl, ?_⟩
    cases h0 : oc [48, 48] u with
    | true => exact iteT ⟨true, rfl, fin true (by unfold isRed; rw [h0]; rfl)⟩
    | false =>
    refine iteF ⟨.str (S u), rfl, S [49, 49], S u, rfl, rfl, oc [49, 49] u, rfl, ?_⟩
    cases h1 : oc [49, 49] u with
    | true => exact iteT ⟨true, rfl, fin true (by unfold isRed; rw [h0, h1]; rfl)⟩
    | false =>
    refine iteF ⟨.str (S u), rfl, S [50, 50], S u, rfl, rfl, oc [50, 50] u, rfl, ?_⟩
    cases h2 : oc [50, 50] u with
    | true => exact iteT ⟨true, rfl, fin true (by unfold isRed; rw [h0, h1, h2]; rfl)⟩
    | false =>
    refine iteF ⟨.str (S u), rfl, S [50, 48], S u, rfl, rfl, oc [50, 48] u, rfl, fin (oc [50, 48] u) (by unfold isRed; rw [h0, h1, h2]; rfl)⟩

def spRedText : Sp := fun vs H Q _ => ∃ u : List Nat, vs = [.str (S u)] ∧ Wt u ∧ ∀ H', Same H H' → Q (.str (S (cut u))) H'
theorem ok_redText (T : Txt w K mg) : Ok P w K mg base 3 "reduced_text" ["word"] spRedText := by
  refine ok_of T.fReducedText fun f fd F => ?_
  refine F.ok scReducedText (fun vs H Q E h => ?_) (fun cdv A outer s H vs Q E hr h => ?_)
  · obtain ⟨u, rfl, _⟩ := h
    rfl
  · obtain ⟨u, rfl, hu, q⟩ := h
    refine ⟨_, pss_cons (ps_if (pt_val (pe_callO (ok_isRed T) hr (by decide) (by rfl) (pa_cons (pv 0) pa_nil))) (pss_one (ps_ret (pv 0))) pss_nil)
      (pss_one (ps_ret (pe_callO (ok_spelled T) hr (by decide) (by rfl) (pa_cons (pe_callO (ok_coded T) hr (by decide) (by rfl) (pa_cons (pv 0) pa_nil)) pa_nil)))), ?_⟩
    refine ⟨.str (S u), rfl, u, rfl, isRed u, rfl, ?_⟩
    cases e : isRed u with
    | true =>
      refine iteT ⟨.str (S u), rfl, ?_⟩
      have := q H fun b x y => y
      rw [(isRed_iff hu.1).mp e] at this
      exact this
    | false =>
      refine iteF ⟨.str (S u), rfl, u, rfl, hu, fun H1 p sm np ep => ?_⟩
      have ha := codes_alt hu.1
      refine ⟨p, codesOf u, rfl, .inl (.inl ep), ha, ?_, fun H2 sm2 => ?_⟩
      · have := codes_len _ u rfl
        have := hu.2
        omega
      · have e2 : spell (codesOf u) = go [] u := (codes_go (s := []) trivial hu.1).2
        rw [e2]
        exact q H2 fun b x y => sm2 b x (sm b x y)

def spBackText : Sp := fun vs H Q _ => ∃ u : List Nat, vs = [.str (S u)] ∧ Fw u ∧ u.length ≤ 20000 ∧ Q (.str (S (cut u.reverse))) H
theorem ok_backText (T : Txt w K mg) : Ok P w K mg base 1 "back_text" ["word"] spBackText := by
  refine ok_of T.fBackText fun f fd F => ?_
  refine F.ok scBackText (fun vs H Q E h => ?_) (fun cdv A outer s H vs Q E hr h => ?_)
  · obtain ⟨u, rfl, _⟩ := h
    rfl
  · obtain ⟨u, rfl, hf, hz, q⟩ := h
    refine ⟨_, pss_one (ps_ret (pe_revRepl (pv 0))), ?_⟩
    refine ⟨.str (S u), rfl, S u, rfl, Nat.le_trans hz (by decide), revS (S u), rfl, ?_, ?_⟩
    · rw [revS_len]
      show u.length + (u.length + 1) * 2 ≤ 16777216
      omega
    · have := repl_back hf
      show Q (.str (Txt.replace (revS (S u)) (S [50, 48]) (S [48, 50]))) H
      rw [this]
      exact q

theorem iteDT {p A B : Prop} [Decidable p] (h : p) (a : A) : if decide p = true then A else B := by
  rw [decide_eq_true h]
  exact iteT a
theorem iteDF {p A B : Prop} [Decidable p] (h : ¬ p) (b : B) : if decide p = true then A else B := by
  rw [decide_eq_false h]
  exact iteF b
theorem str_one {c d : Nat} (h : c ≠ d) : ¬ V.str ⟨#[c]⟩ = V.str (S [d]) := fun z => h (List.cons.inj (congrArg (fun x : Str => x.cps.toList) (V.str.inj z))).1
theorem str_is {c d : Nat} (h : c = d) : V.str ⟨#[c]⟩ = V.str (S [d]) := by
  rw [h]
  rfl
/-! ### syllables -/
def spLast : Sp := fun vs H Q _ => ∃ (u : List Nat) (e : Nat), vs = [.str (S u), .int (e : Int)] ∧ 0 < e ∧ e ≤ u.length ∧ u.length ≤ 20000 ∧ Q (.str (S (lastS (u.take e).reverse).1)) H
theorem at_str {u : List Nat} {i : Nat} {c : Nat} (h : u[i]? = some c) : atI (S u).cps.toList (i : Int) = some c := atI_nat (xs := u) h
theorem take_rev {u : List Nat} {e c : Nat} (h : u[e]? = some c) : (u.take (e + 1)).reverse = c :: (u.take e).reverse := by
  rw [List.take_add_one, h]
  show (u.take e ++ [c]).reverse = _
  rw [List.reverse_append]
  rfl
theorem lastS_one {c : Nat} {r : List Nat} (h : ¬ (c = 50 ∧ ∃ q, r = 48 :: q)) : (lastS (c :: r)).1 = [c] := by
  by_cases e : c = 50
  · subst e
    cases r with
    | nil => rfl
    | cons b q =>
      by_cases e2 : b = 48
      · subst e2
        exact absurd ⟨rfl, q, rfl⟩ h
      · unfold lastS
        split
        · next e3 => exact absurd (List.cons.inj (List.cons.inj e3).2).1 e2
        · next e3 => rw [(List.cons.inj e3).1]
        · next e3 => cases e3
  · unfold lastS
    split
    · next e3 => exact absurd (List.cons.inj e3).1 e
    · next e3 => rw [(List.cons.inj e3).1]
    · next e3 => cases e3
theorem firstS_one {c : Nat} {r : List Nat} (h : ¬ (c = 48 ∧ ∃ q, r = 50 :: q)) : (firstS (c :: r)).1 = [c] := by
  unfold firstS
  split
  · next e3 => exact absurd ⟨(List.cons.inj e3).1, _, (List.cons.inj e3).2⟩ h
  · next e3 => rw [(List.cons.inj e3).1]
  · next e3 => cases e3
theorem ok_last (T : Txt w K mg) : Ok P w K mg base 1 "last_syllable" ["word", "end"] spLast := by
  refine ok_of T.fLastSyllable fun f fd F => ?_
  refine F.ok scLastSyllable (fun vs H Q E h => ?_) (fun cdv A outer s H vs Q E hr h => ?_)
  · obtain ⟨u, e, rfl, _⟩ := h
    rfl
  · obtain ⟨u, e, rfl, h0, hl, hz, q⟩ := h
    refine ⟨_, pss_cons (ps_if (PW.pt (pw_and (pt_cmpR op_eq (pe_ix ix_str (pv 0) (pe_op op_sub (pv 1) pe_int) (fun _ _ => rfl)) pe_str (nomark _)) (pw_and (pt_cmpR op_gt (pv 1) pe_int (nomark _))
        (pw_and1 (pt_cmpR op_eq (pe_ix ix_str (pv 0) (pe_op op_sub (pv 1) pe_int) (fun _ _ => rfl)) pe_str (nomark _)))))) (pss_one (ps_ret pe_str)) pss_nil)
      (pss_one (ps_ret (pe_ix ix_str (pv 0) (pe_op op_sub (pv 1) pe_int) (fun _ _ => rfl)))), ?_⟩
    obtain ⟨d, rfl⟩ : ∃ d, e = d + 1 := ⟨e - 1, by omega⟩
    have hd : u[d]? = some u[d] := List.getElem?_eq_getElem (by omega)
    have ez : ((d + 1 : Nat) : Int) - 1 = (d : Int) := by omega
    have zl : (S u).length ≤ sizeLine := Nat.le_trans hz (by decide)
    have at_d : atI (S u).cps.toList (((d + 1 : Nat) : Int) - 1) = some u[d] := by rw [ez]; exact at_str hd
    have plain : (lastS (u.take (d + 1)).reverse).1 = [u[d]] → Q (.str ⟨#[u[d]]⟩) H := by
      intro e
      rw [e] at q
      exact q
    refine ⟨.str (S u), rfl, .int ((d + 1 : Nat) : Int), rfl, _, _, rfl, rfl, _, _, u[d], rfl, rfl, zl, at_d, rfl, _, rfl, ?_⟩
    rw [take_rev hd] at q plain
    by_cases h50 : u[d] = 50
    · refine iteDT (str_is h50) ⟨.int ((d + 1 : Nat) : Int), rfl, _, _, rfl, rfl, _, rfl, ?_⟩
      cases d with
      | zero =>
        refine iteF (iteF ?_)
        exact ⟨.str (S u), rfl, .int ((0 + 1 : Nat) : Int), rfl, _, _, rfl, rfl, _, _, _, rfl, rfl, zl, at_d, plain (lastS_one (by rintro ⟨_, q, e⟩; cases e))⟩
      | succ d =>
        have hd2 : u[d]? = some u[d] := List.getElem?_eq_getElem (by omega)
        have ez2 : ((d + 1 + 1 : Nat) : Int) - 2 = (d : Int) := by omega
        have at_d2 : atI (S u).cps.toList (((d + 1 + 1 : Nat) : Int) - 2) = some u[d] := by rw [ez2]; exact at_str hd2
        rw [take_rev hd2] at q plain
        refine iteDT (by omega) ⟨.str (S u), rfl, .int ((d + 1 + 1 : Nat) : Int), rfl, _, _, rfl, rfl, _, _, u[d], rfl, rfl, zl, at_d2, rfl, _, rfl, ?_⟩
        by_cases h48 : u[d] = 48
        · refine iteDT (str_is h48) ?_
          rw [h50, h48] at q
          exact q
        · refine iteDF (str_one h48) ?_
          exact ⟨.str (S u), rfl, .int ((d + 1 + 1 : Nat) : Int), rfl, _, _, rfl, rfl, _, _, _, rfl, rfl, zl, at_d, plain (lastS_one (by rintro ⟨_, q, e⟩; exact h48 (List.cons.inj e).1))⟩
    · refine iteDF (str_one h50) (iteF ?_)
      exact ⟨.str (S u), rfl, .int ((d + 1 : Nat) : Int), rfl, _, _, rfl, rfl, _, _, _, rfl, rfl, zl, at_d, plain (lastS_one fun e => h50 e.1)⟩

def spFirst : Sp := fun vs H Q _ => ∃ (u : List Nat) (e : Nat), vs = [.str (S u), .int (e : Int)] ∧ e < u.length ∧ u.length ≤ 20000 ∧ Q (.str (S (firstS (u.drop e)).1)) H
theorem cut_slice {u : List Nat} {a b : Nat} (ha : a ≤ u.length) (hab : a ≤ b) : cutS (S u) (some (a : Int)) (some (b : Int)) = S ((u.drop a).take (b - a)) := by
  unfold cutS
  have h1 : (S u).length = u.length := rfl
  rw [HT.sIx_nat, HT.sIx_nat, h1, Nat.min_eq_left ha]
  show (⟨((u.drop a).take (min b u.length - a)).toArray⟩ : Str) = S ((u.drop a).take (b - a))
  by_cases hb : b ≤ u.length
  · rw [Nat.min_eq_left hb]
    rfl
  · rw [Nat.min_eq_right (by omega)]
    rw [List.take_of_length_le (by rw [List.length_drop]; exact Nat.le_refl _), List.take_of_length_le (by rw [List.length_drop]; omega)]
    rfl
theorem cut_upto {u : List Nat} {b : Nat} (hb : b ≤ u.length) : cutS (S u) none (some (b : Int)) = S (u.take b) := by
  unfold cutS
  have h1 : (S u).length = u.length := rfl
  rw [HT.sIx_nat, HT.sIx_none, h1, Nat.min_eq_left hb]
  rfl
theorem cut_from {u : List Nat} {a : Nat} (ha : a ≤ u.length) : cutS (S u) (some (a : Int)) none = S (u.drop a) := by
  unfold cutS
  have h1 : (S u).length = u.length := rfl
  rw [HT.sIx_nat, HT.sIx_none, h1, Nat.min_eq_left ha]
  show (⟨((u.drop a).take (u.length - a)).toArray⟩ : Str) = S (u.drop a)
  rw [List.take_of_length_le (by rw [List.length_drop]; exact Nat.le_refl _)]
  rfl
theorem s_inj {a b : List Nat} (h : S a = S b) : a = b := congrArg (fun x : Str => x.cps.toList) h
theorem ok_first (T : Txt w K mg) : Ok P w K mg base 1 "first_syllable" ["word", "start"] spFirst := by
  refine ok_of T.fFirstSyllable fun f fd F => ?_
  refine F.ok scFirstSyllable (fun vs H Q E h => ?_) (fun cdv A outer s H vs Q E hr h => ?_)
  · obtain ⟨u, e, rfl, _⟩ := h
    rfl
  · obtain ⟨u, e, rfl, hl, hz, q⟩ := h
    refine ⟨_, pss_cons (ps_if (pt_cmpR op_eq (pe_slice sl_str (pv 0) (po_some (pv 1)) (po_some (pe_op op_add (pv 1) pe_int))) pe_str (nomark _)) (pss_one (ps_ret pe_str)) pss_nil)
      (pss_one (ps_ret (pe_ix ix_str (pv 0) (pv 1) (fun _ _ => rfl)))), ?_⟩
    have zl : (S u).length ≤ sizeLine := Nat.le_trans hz (by decide)
    have at_e : atI (S u).cps.toList (e : Int) = some u[e] := at_str (List.getElem?_eq_getElem hl)
    have ed : u.drop e = u[e] :: u.drop (e + 1) := List.drop_eq_getElem_cons hl
    refine ⟨.str (S u), rfl, .int (e : Int), rfl, (e : Int), rfl, .int (e : Int), rfl, _, _, rfl, rfl, ((e + 2 : Nat) : Int), rfl, S u, rfl, zl, rfl, _, rfl, ?_⟩
    have es : cutS (S u) (some (e : Int)) (some ((e + 2 : Nat) : Int)) = S ((u.drop e).take 2) := by
      rw [cut_slice (by omega) (by omega), show e + 2 - e = 2 by omega]
    by_cases h : (u.drop e).take 2 = [48, 50]
    · refine iteDT (by rw [es, h]; rfl) ?_
      have : ∃ q, u.drop e = 48 :: 50 :: q := by
        match u.drop e, h with
        | a :: b :: q, h => 
          have h' : [a, b] = [48, 50] := h
          cases h'
          exact ⟨q, rfl⟩
      obtain ⟨t, ht⟩ := this
      rw [ht] at q
      exact q
    · refine iteDF (fun z => h ?_) ?_
      · rw [es] at z
        exact s_inj (V.str.inj z)
      · have : (firstS (u.drop e)).1 = [u[e]] := by
          rw [ed]
          refine firstS_one ?_
          rintro ⟨e1, t, e2⟩
          rw [ed, e1, e2] at h
          exact h rfl
        rw [this] at q
        exact ⟨.str (S u), rfl, .int (e : Int), rfl, _, _, _, rfl, rfl, zl, at_e, q⟩
end
end K4

namespace K4
open PySem PySem.Spec PyProof.Rows L2 Nr Nw
theorem lastS_len : ∀ (p : List Nat), (lastS p).2 = p.drop (lastS p).1.length ∧ (lastS p).1.length ≤ p.length ∧ (p ≠ [] → 1 ≤ (lastS p).1.length) := by
  intro p
  unfold lastS
  split
  · exact ⟨rfl, Nat.succ_le_succ (Nat.succ_le_succ (Nat.zero_le _)), fun _ => Nat.succ_le_succ (Nat.zero_le _)⟩
  · exact ⟨rfl, Nat.succ_le_succ (Nat.zero_le _), fun _ => Nat.le_refl _⟩
  · exact ⟨rfl, Nat.le_refl _, fun h => absurd rfl h⟩
theorem firstS_len : ∀ (p : List Nat), (firstS p).2 = p.drop (firstS p).1.length ∧ (firstS p).1.length ≤ p.length ∧ (p ≠ [] → 1 ≤ (firstS p).1.length) := by
  intro p
  unfold firstS
  split
  · exact ⟨rfl, Nat.succ_le_succ (Nat.succ_le_succ (Nat.zero_le _)), fun _ => Nat.succ_le_succ (Nat.zero_le _)⟩
  · exact ⟨rfl, Nat.succ_le_succ (Nat.zero_le _), fun _ => Nat.le_refl _⟩
  · exact ⟨rfl, Nat.le_refl _, fun h => absurd rfl h⟩
/-- a syllable is "0", "2", "02" or "1" -/
theorem lastS_four {p : List Nat} (hp : Rd p) (np : p ≠ []) : (lastS p).1 = [48] ∨ (lastS p).1 = [50] ∨ (lastS p).1 = [48, 50] ∨ (lastS p).1 = [49] := by
  rcases lastS_of hp np with ⟨r, _, e, _⟩ | ⟨c, r, e0, e, _⟩
  · rw [e]; exact .inr (.inr (.inl rfl))
  · rw [e]
    subst e0
    rcases hp.head with z | z | z <;> subst z
    · exact .inl rfl
    · exact .inr (.inr (.inr rfl))
    · exact .inr (.inl rfl)
theorem firstS_four {p : List Nat} (hp : Fw p) (np : p ≠ []) : (firstS p).1 = [48] ∨ (firstS p).1 = [50] ∨ (firstS p).1 = [48, 50] ∨ (firstS p).1 = [49] := by
  rcases firstS_of hp np with ⟨r, _, e, _⟩ | ⟨c, r, e0, e, _⟩
  · rw [e]; exact .inr (.inr (.inl rfl))
  · rw [e]
    subst e0
    rcases hp.head with z | z | z <;> subst z
    · exact .inl rfl
    · exact .inr (.inr (.inr rfl))
    · exact .inr (.inl rfl)
theorem kd_four {K : PySem.W.Frag} {w : World} {a : Addr} (h0 : KDct K w a "0" (.int 1)) (h1 : KDct K w a "1" (.int 4)) (h2 : KDct K w a "2" (.int 2)) (h3 : KDct K w a "02" (.int 3)) {t : List Nat} (h : t = [48] ∨ t = [50] ∨ t = [48, 50] ∨ t = [49]) :
    KDct K w a (S t) (.int (cdS t : Int)) := by
  rcases h with e | e | e | e <;> subst e
  · exact h0
  · exact h2
  · exact h3
  · exact h1
theorem sg_four {a b : Nat} (ha : a = 1 ∨ a = 2 ∨ a = 3) (hb : b = 1 ∨ b = 2 ∨ b = 3) (ne : a ≠ b) : ([S [], S [48], S [50], S [48, 50], S [49]] : List Str)[a ^^^ b]? = some (S (sgS (a ^^^ b))) ∧ (sgS (a ^^^ b)).length ≤ 2 := by
  rcases ha with e | e | e <;> rcases hb with f | f | f <;> subst e <;> subst f <;> first | exact absurd rfl ne | exact ⟨rfl, by decide⟩
theorem cdS_inj {a b : List Nat} (ha : a = [48] ∨ a = [50] ∨ a = [48, 50] ∨ a = [49]) (hb : b = [48] ∨ b = [50] ∨ b = [48, 50] ∨ b = [49]) (h : cdS a = cdS b) : a = b := by
  rcases ha with e | e | e | e <;> rcases hb with f | f | f | f <;> subst e <;> subst f <;> first | rfl | (exfalso; revert h; decide)
section
variable {P : Program} {w : World} {K : PySem.W.Frag} {mg : Str → Option Value} {base : Heap}

def spJoined : Sp := fun vs H Q _ => ∃ u v : List Nat, vs = [.str (S u), .str (S v)] ∧ (Fw u ∧ u.length ≤ 20000) ∧ (Fw v ∧ v.length ≤ 20000) ∧ Q (.str (S (cut (u ++ v)))) H
theorem cut_two {u v : List Nat} (hu : Fw u) : cut (u ++ v) = (go u.reverse v).reverse := by
  unfold cut
  rw [go_append]
  have := go_self (fw_rd hu)
  rw [List.reverse_reverse] at this
  rw [this]
theorem s_app (a b : List Nat) : S a ++ S b = S (a ++ b) := by
  show (⟨a.toArray ++ b.toArray⟩ : Str) = ⟨(a ++ b).toArray⟩
  rw [List.append_toArray]
theorem ok_joined (T : Txt w K mg) : Ok P w K mg base 2 "joined_text" ["word", "other"] spJoined := by
  refine ok_of T.fJoinedText fun f fd F => ?_
  obtain ⟨aS, gS, hS⟩ := T.signs
  obtain ⟨aC, gC, k0, k1, k2, k3, _⟩ := T.codes
  refine F.ok scJoinedText (fun vs H Q E h => ?_) (fun cdv A outer s H vs Q E hr h => ?_)
  · obtain ⟨u, v, rfl, _⟩ := h
    rfl
  · obtain ⟨u, v, rfl, ⟨hu, zu⟩, ⟨hv, zv⟩, q⟩ := h
    refine ⟨_, pss_cons (ps_par (i := 2) (j := 3) (by rfl) scJoinedText.nd rfl rfl (by decide) rfl rfl (pa_cons (pe_callB call_len_str (by rfl) T.nlen PySem.boot_len (pa_cons (pv 0) pa_nil)) (pa_cons pe_int pa_nil)) (by rfl))
      (pss_cons (ps_while PassesOwn.never (PW.pt (pw_and (pt_cmpR op_gt (pv 2) pe_int (nomark _)) (pw_and1 (pt_cmpR op_lt (pv 3) (pe_callB call_len_str (by rfl) T.nlen PySem.boot_len (pa_cons (pv 1) pa_nil)) (nomark _)))))
        (pss_cons (ps_set (i := 4) scJoinedText.nd rfl (.inl rfl) (pe_callO (ok_last T) hr (by decide) (by rfl) (pa_cons (pv 0) (pa_cons (pv 2) pa_nil))))
        (pss_cons (ps_set (i := 5) scJoinedText.nd rfl (.inl rfl) (pe_callO (ok_first T) hr (by decide) (by rfl) (pa_cons (pv 1) (pa_cons (pv 3) pa_nil))))
        (pss_cons (ps_if (pt_cmpR op_ne (pv 4) (pv 5) (nomark _))
          (pss_cons (ps_if (PW.pt (pw_or (pt_cmpR op_eq (pv 4) pe_str (nomark _)) (pw_or1 (pt_cmpR op_eq (pv 5) pe_str (nomark _))))) (pss_one ps_break) pss_nil)
          (pss_cons (ps_set (i := 6) scJoinedText.nd rfl (.inl rfl) (pe_ix (r := rIxT K) ix_tup (pe_glob (v := .ref aS) rfl gS rfl) (pe_op op_xor (pe_ix ix_kdict (pe_glob (v := .ref aC) rfl gC rfl) (pv 4) (fun _ _ => rfl)) (pe_ix ix_kdict (pe_glob (v := .ref aC) rfl gC rfl) (pv 5) (fun _ _ => rfl))) (fun _ _ => rfl)))
          (pss_one (ps_ret (pe_op op_add_str (pe_op op_add_str (pe_slice sl_str (pv 0) po_none (po_some (pe_op op_sub (pv 2) (pe_callB call_len_str (by rfl) T.nlen PySem.boot_len (pa_cons (pv 4) pa_nil))))) (pv 6))
            (pe_slice sl_str (pv 1) (po_some (pe_op op_add (pv 3) (pe_callB call_len_str (by rfl) T.nlen PySem.boot_len (pa_cons (pv 5) pa_nil)))) po_none)))))) pss_nil)
        (pss_cons (ps_aug (i := 2) scJoinedText.nd rfl (.inl rfl) (pe_callB call_len_str (by rfl) T.nlen PySem.boot_len (pa_cons (pv 4) pa_nil)) ip_sub)
        (pss_one (ps_aug (i := 3) scJoinedText.nd rfl (.inl rfl) (pe_callB call_len_str (by rfl) T.nlen PySem.boot_len (pa_cons (pv 5) pa_nil)) ip_add)))))))
      (pss_one (ps_ret (pe_op op_add_str (pe_slice sl_str (pv 0) po_none (po_some (pv 2))) (pe_slice sl_str (pv 1) (po_some (pv 3)) po_none))))), ?_⟩
    have lu : (S u).length ≤ sizeLine := Nat.le_trans zu (by decide)
    have lv : (S v).length ≤ sizeLine := Nat.le_trans zv (by decide)
    rw [cut_two hu] at q
    -- what stands where nothing meets
    have fin : ∀ {e st : Nat}, go (u.take e).reverse (v.drop st) = go u.reverse v → go (u.take e).reverse (v.drop st) = (v.drop st).reverse ++ (u.take e).reverse → Q (.str (S (u.take e) ++ S (v.drop st))) H := by
      intro e st h1 h2
      rw [s_app]
      rw [← h1, h2, List.reverse_append, List.reverse_reverse, List.reverse_reverse] at q
      exact q
    have fits : ∀ e st : Nat, (S (u.take e)).length + (S (v.drop st)).length ≤ sizeLine := by
      intro e st
      have a1 : (S (u.take e)).length ≤ u.length := List.length_take_le' _ _
      have a2 : (S (v.drop st)).length ≤ v.length := by
        show (v.drop st).length ≤ _
        rw [List.length_drop]
        omega
      exact Nat.le_trans (Nat.add_le_add a1 a2) (Nat.le_trans (Nat.add_le_add zu zv) (by decide))
    refine ⟨.str (S u), rfl, S u, rfl, lu, .int (u.length : Int), .int 0, rfl, ?_⟩
    refine ⟨fun m σ H3 => ∃ (e st : Nat) (y4 y5 y6 : Option V), σ = [some (.str (S u)), some (.str (S v)), some (.int (e : Int)), some (.int (st : Int)), y4, y5, y6] ∧ m = e ∧ e ≤ u.length ∧ st ≤ v.length ∧ go (u.take e).reverse (v.drop st) = go u.reverse v ∧ H3 = H,
      ⟨u.length, u.length, 0, none, none, none, rfl, rfl, Nat.le_refl _, Nat.zero_le _, by rw [List.take_length, List.drop_zero], rfl⟩, ?_⟩
    rintro m σ H3 ⟨e, st, y4, y5, y6, rfl, rfl, he, hst, hg, rfl⟩
    -- the end of the def from here
    have out : go (u.take m).reverse (v.drop st) = (v.drop st).reverse ++ (u.take m).reverse → ∀ z4 z5 : Option V, Q (.str (cutS (S u) none (some (m : Int)) ++ cutS (S v) (some (st : Int)) none)) H3 := by
      intro h _ _
      rw [cut_upto he, cut_from hst]
      exact fin hg h
    have outL : (cutS (S u) none (some (m : Int))).length + (cutS (S v) (some (st : Int)) none).length ≤ sizeLine := by
      rw [cut_upto he, cut_from hst]
      exact fits m st
    have rdp : Rd (u.take m).reverse := by
      rw [List.reverse_take]
      exact Rd.drop _ (fw_rd hu)
    have fws : Fw (v.drop st) := Fw.drop _ hv
    refine ⟨.int (m : Int), rfl, _, _, rfl, rfl, _, rfl, ?_⟩
    by_cases h0 : m = 0
    · subst h0
      refine iteDF (by decide) (iteF ?_)
      refine ⟨.str (S u), rfl, .int ((0 : Nat) : Int), rfl, ((0 : Nat) : Int), rfl, S u, rfl, lu, .str (S v), rfl, .int (st : Int), rfl, (st : Int), rfl, S v, rfl, lv, _, _, rfl, rfl, outL, out ?_ none none⟩
      exact go_on rdp fws fun a r c t z _ => by cases z
    refine iteDT (by omega) ?_
    refine ⟨.int (st : Int), rfl, .str (S v), rfl, S v, rfl, lv, _, _, rfl, rfl, _, rfl, ?_⟩
    by_cases h1 : st = v.length
    · refine iteDF (by show ¬ ((st : Int) < ((v.length : Nat) : Int)); omega) ?_
      refine ⟨.str (S u), rfl, .int (m : Int), rfl, (m : Int), rfl, S u, rfl, lu, .str (S v), rfl, .int (st : Int), rfl, (st : Int), rfl, S v, rfl, lv, _, _, rfl, rfl, outL, out ?_ none none⟩
      rw [h1, List.drop_length]
      rfl
    refine iteDT (by show (st : Int) < ((v.length : Nat) : Int); omega) ?_
    have np : (u.take m).reverse ≠ [] := fun z => by
      have := congrArg List.length z
      rw [List.length_reverse, List.length_take] at this
      have z0 : ([] : List Nat).length = 0 := rfl
      omega
    have ns : v.drop st ≠ [] := fun z => by
      have := congrArg List.length z
      rw [List.length_drop] at this
      have z0 : ([] : List Nat).length = 0 := rfl
      omega
    obtain ⟨la, lb, lc⟩ := lastS_len (u.take m).reverse
    obtain ⟨fa, fb, fc⟩ := firstS_len (v.drop st)
    have lc := lc np
    have fc := fc ns
    have l4 := lastS_four rdp np
    have f4 := firstS_four fws ns
    rw [List.length_reverse, List.length_take, Nat.min_eq_left he] at lb
    rw [List.length_drop] at fb
    have below : (u.take m).reverse.drop (lastS (u.take m).reverse).1.length = (u.take (m - (lastS (u.take m).reverse).1.length)).reverse := by
      rw [List.drop_reverse, List.length_take, Nat.min_eq_left he, List.take_take, Nat.min_eq_left (Nat.sub_le _ _)]
    have behind : (v.drop st).drop (firstS (v.drop st)).1.length = v.drop (st + (firstS (v.drop st)).1.length) := List.drop_drop ..
    rw [below] at la
    rw [behind] at fa
    have two := fun h => meet_two rdp fws np ns h
    have same := meet_same rdp fws np ns
    have one := meet_one rdp fws np ns
    rw [la, fa] at same
    simp only [la, fa] at two
    -- tail, head
    refine ⟨fun σ' H' => ∃ (e st' : Nat) (z4 z5 z6 : Option V), σ' = [some (.str (S u)), some (.str (S v)), some (.int (e : Int)), some (.int (st' : Int)), z4, z5, z6] ∧ e < m ∧ e ≤ u.length ∧ st' ≤ v.length ∧ go (u.take e).reverse (v.drop st') = go u.reverse v ∧ H' = H3, ?_, ?_⟩
    · rintro σ' H' ⟨e, st', z4, z5, z6, rfl, h1, h2, h3, h4, rfl⟩
      exact ⟨e, h1, e, st', z4, z5, z6, rfl, rfl, h2, h3, h4, rfl⟩
    refine ⟨.str (S u), rfl, .int (m : Int), rfl, u, m, rfl, by omega, he, zu, ?_⟩
    refine ⟨.str (S v), rfl, .int (st : Int), rfl, v, st, rfl, by omega, zv, ?_⟩
    generalize (lastS (u.take m).reverse).1 = t at *
    generalize (firstS (v.drop st)).1 = hd at *
    have lt2 : t.length ≤ 2 := by rcases l4 with z | z | z | z <;> subst z <;> decide
    have lh2 : hd.length ≤ 2 := by rcases f4 with z | z | z | z <;> subst z <;> decide
    have lt : (S t).length ≤ sizeLine := Nat.le_trans lt2 (by decide)
    have lh : (S hd).length ≤ sizeLine := Nat.le_trans lh2 (by decide)
    have em : (m : Int) - ((S t).length : Int) = ((m - t.length : Nat) : Int) := by
      show (m : Int) - (t.length : Int) = _
      omega
    have es : (st : Int) + ((S hd).length : Int) = ((st + hd.length : Nat) : Int) := by
      show (st : Int) + (hd.length : Int) = _
      omega
    refine ⟨.str (S t), rfl, .str (S hd), rfl, rfl, _, rfl, ?_⟩
    by_cases e : t = hd
    · subst e
      rw [decide_eq_true rfl]
      refine iteF ?_
      refine ⟨.int (m : Int), rfl, .str (S t), rfl, S t, rfl, lt, _, _, rfl, rfl, ?_⟩
      refine ⟨.int (st : Int), rfl, .str (S t), rfl, S t, rfl, lt, _, _, rfl, rfl, ?_⟩
      refine ⟨m - t.length, st + t.length, some (.str (S t)), some (.str (S t)), y6, ?_, by omega, by omega, by omega, ?_, rfl⟩
      · rw [← em, ← es]
        rfl
      · rw [← same rfl]
        exact hg
    · have ne : ¬ V.str (S t) = V.str (S hd) := fun z => e (s_inj (V.str.inj z))
      rw [decide_eq_false ne]
      refine iteT ?_
      refine ⟨.str (S t), rfl, rfl, _, rfl, ?_⟩
      by_cases e1 : t = [49]
      · refine iteDT (by rw [e1]; rfl) (iteT ?_)
        refine ⟨.str (S u), rfl, .int (m : Int), rfl, (m : Int), rfl, S u, rfl, lu, .str (S v), rfl, .int (st : Int), rfl, (st : Int), rfl, S v, rfl, lv, _, _, rfl, rfl, outL, out ?_ none none⟩
        exact one e (.inl e1)
      refine iteDF (fun z => e1 (s_inj (V.str.inj z))) ?_
      refine ⟨.str (S hd), rfl, rfl, _, rfl, ?_⟩
      by_cases e2 : hd = [49]
      · refine iteDT (by rw [e2]; rfl) ?_
        refine ⟨.str (S u), rfl, .int (m : Int), rfl, (m : Int), rfl, S u, rfl, lu, .str (S v), rfl, .int (st : Int), rfl, (st : Int), rfl, S v, rfl, lv, _, _, rfl, rfl, outL, out ?_ none none⟩
        exact one e (.inr e2)
      refine iteDF (fun z => e2 (s_inj (V.str.inj z))) ?_
      obtain ⟨g, c3, d3⟩ := two e e1 e2
      have nc : cdS t ≠ cdS hd := fun z => e (cdS_inj l4 f4 z)
      obtain ⟨gx, gl⟩ := sg_four c3 d3 nc
      refine ⟨.str (S t), rfl, aC, S t, .int (cdS t : Int), rfl, rfl, kd_four k0 k1 k2 k3 l4, .str (S hd), rfl, aC, S hd, .int (cdS hd : Int), rfl, rfl, kd_four k0 k1 k2 k3 f4, _, _, rfl, rfl, aS, _, _, .str (S (sgS (cdS t ^^^ cdS hd))), rfl, rfl, hS _, ?_, ?_⟩
      · rw [xor_small c3 d3]
        refine atI_nat ?_
        have := congrArg (Option.map V.str) gx
        rw [← List.getElem?_map] at this
        exact this
      refine ⟨.str (S u), rfl, .int (m : Int), rfl, .str (S t), rfl, S t, rfl, lt, _, _, rfl, rfl, _, rfl, S u, rfl, lu, .str (S (sgS (cdS t ^^^ cdS hd))), rfl, _, _, rfl, rfl, ?_, .str (S v), rfl, .int (st : Int), rfl, .str (S hd), rfl, S hd, rfl, lh, _, _, rfl, rfl, _, rfl, S v, rfl, lv, _, _, rfl, rfl, ?_, ?_⟩
      · rw [em, cut_upto (by omega)]
        show (u.take (m - t.length)).length + (sgS (cdS t ^^^ cdS hd)).length ≤ sizeLine
        have : (u.take (m - t.length)).length ≤ u.length := List.length_take_le' _ _
        exact Nat.le_trans (Nat.add_le_add this gl) (Nat.le_trans (Nat.add_le_add_right zu 2) (by decide))
      · rw [em, cut_upto (by omega), es, cut_from (by omega), s_app]
        show (u.take (m - t.length) ++ sgS (cdS t ^^^ cdS hd)).length + (v.drop (st + hd.length)).length ≤ sizeLine
        have a1 : (u.take (m - t.length)).length ≤ u.length := List.length_take_le' _ _
        rw [List.length_append, List.length_drop]
        refine Nat.le_trans (Nat.add_le_add (Nat.add_le_add a1 gl) (Nat.sub_le _ _)) (Nat.le_trans (Nat.add_le_add (Nat.add_le_add_right zu 2) zv) (by decide))
      · rw [em, cut_upto (by omega), es, cut_from (by omega), s_app, s_app]
        rw [← hg, g, List.reverse_append, List.reverse_append, List.reverse_reverse, List.reverse_reverse, List.reverse_reverse] at q
        exact q
end
end K4

namespace K4
open PySem PySem.Spec PyProof.Rows L2 Nr Nw
theorem same_new {H : Hp} {p : Addr} {o : HO} (h : H p = none) : Same H (upd H p o) := fun b x e => by
  rw [upd_ne (ne_of_none e h)]
  exact e
theorem Same.to {H H1 H2 : Hp} (a : Same H H1) (b : Same H1 H2) : Same H H2 := fun x o h => b x o (a x o h)
theorem Same.id (H : Hp) : Same H H := fun _ _ h => h
theorem same_mut {H H1 : Hp} {p : Addr} {o : HO} (a : Same H H1) (n : H p = none) : Same H (upd H1 p o) := fun x u e => by
  rw [upd_ne (ne_of_none e n)]
  exact a x u e
section
variable {P : Program} {w : World} {K : PySem.W.Frag} {mg : Str → Option Value} {base : Heap}

/-! ### strange_place, need_word, limited -/
def spStrange : Sp := fun vs H Q _ => ∃ u : List Nat, vs = [.str (S u)] ∧ Wd u ∧ ∀ H', Same H H' → Q .non H'
theorem in_signs {c : Nat} (h : Sg c) : inV (.str ⟨#[c]⟩) [.str (S [48]), .str (S [49]), .str (S [50])] = true := by
  rcases h with e | e | e <;> subst e <;> rfl
theorem ok_strange (T : Txt w K mg) : Ok P w K mg base 1 "strange_place" ["text"] spStrange := by
  refine ok_of T.fStrangePlace fun f fd F => ?_
  refine F.ok scStrangePlace (fun vs H Q E h => ?_) (fun cdv A outer s H vs Q E hr h => ?_)
  · obtain ⟨u, rfl, _⟩ := h
    rfl
  · obtain ⟨u, rfl, hw, q⟩ := h
    refine ⟨_, pss_cons (ps_for PassesOwn.never rfl (pi_es (by rfl) T.nenumerate (pa_cons (pv 0) pa_nil)) (pg_tup rfl (pgs_cons (pg_name (i := 1) scStrangePlace.nd rfl (.inl rfl)) (pgs_cons (pg_name (i := 2) scStrangePlace.nd rfl (.inl rfl)) pgs_nil)))
        (pss_one (ps_if (pt_cmpR op_notIn_seq (pv 2) (pe_tup (pa_cons pe_str (pa_cons pe_str (pa_cons pe_str pa_nil)))) (by rfl)) (pss_one (ps_ret (pv 1))) pss_nil)))
      (pss_one (ps_ret pe_non)), ?_⟩
    refine ⟨.str (S u), rfl, S u, rfl, fun i m σ H3 => ∃ y1 y2, σ = [some (.str (S u)), y1, y2] ∧ i + m = u.length ∧ Same H H3, ⟨u.length, none, none, rfl, by omega, Same.id H⟩, ?_⟩
    rintro i m σ H3 ⟨y1, y2, rfl, em, sm⟩
    by_cases hi : i < u.length
    · refine .inr ⟨hi, fun σ' H' => ∃ y1 y2, σ' = [some (.str (S u)), y1, y2] ∧ Same H H', ?_, ?_⟩
      · rintro σ' H' ⟨z1, z2, e, sm'⟩
        exact ⟨m - 1, by omega, z1, z2, e, by omega, sm'⟩
      · rintro v H' ⟨Tp, c, rfl, nT, hc, rfl⟩
        have hs : Sg c := by
          have e : u[i]? = some c := by
            have e0 : (S u).cps[i]? = u[i]? := List.getElem?_toArray
            rw [← e0]
            exact hc
          exact hw c (List.mem_of_getElem? e)
        refine ⟨Tp, [.int (i : Nat), .str ⟨#[c]⟩], rfl, .inl (.inl upd_same), rfl, _, [.str ⟨#[c]⟩], rfl, _, [], rfl, rfl, ?_⟩
        refine ⟨.str ⟨#[c]⟩, rfl, by decide, fun t ht => ⟨t, _, rfl, .inr (.inl (.inl upd_same)), rfl, rfl, _, rfl, ?_⟩⟩
        show if (!inV (.str ⟨#[c]⟩) [.str (S [48]), .str (S [49]), .str (S [50])]) = true then _ else _
        rw [in_signs hs]
        refine iteF ⟨_, _, rfl, ?_⟩
        exact Same.to sm (Same.to (same_new nT) (same_new ht))
    · refine .inl ⟨by show u.length ≤ i; omega, ?_⟩
      exact q H3 sm
def spNeed : Sp := fun vs H Q _ => ∃ u : List Nat, vs = [.str (S u)] ∧ Wd u ∧ ∀ H', Same H H' → Q (.str (S u)) H'
theorem ok_need (T : Txt w K mg) : Ok P w K mg base 2 "need_word" ["word"] spNeed := by
  refine ok_of T.fNeedWord fun f fd F => ?_
  refine F.ok scNeedWord (fun vs H Q E h => ?_) (fun cdv A outer s H vs Q E hr h => ?_)
  · obtain ⟨u, rfl, _⟩ := h
    rfl
  · obtain ⟨u, rfl, hw, q⟩ := h
    refine ⟨_, pss_cons (ps_if (pt_not (pt_val (pe_callB call_isi (by rfl) T.nisinstance (by decide +kernel) (pa_cons (pv 0) (pa_cons (pe_bltn (v := .ty "str") (by rfl) T.nstr (by decide +kernel) rfl) pa_nil))))) (pss_one ps_never) pss_nil)
      (pss_cons (ps_set (i := 1) scNeedWord.nd rfl (.inl rfl) (pe_callO (ok_strange T) hr (by decide) (by rfl) (pa_cons (pv 0) pa_nil)))
      (pss_cons (ps_if (pt_cmpR op_notN (pv 1) pe_non (nomark _)) (pss_one ps_never) pss_nil)
      (pss_one (ps_ret (pv 0))))), ?_⟩
    refine ⟨.str (S u), rfl, .str (S u), .ty "str", .type "str", .type "str", true, rfl, .ty "str", .base (.str _), kit_ty (by decide +kernel), true, rfl, iteF ?_⟩
    refine ⟨.str (S u), rfl, u, rfl, hw, fun H1 sm => ?_⟩
    refine ⟨.non, rfl, rfl, _, rfl, iteF ?_⟩
    exact ⟨.str (S u), rfl, q H1 sm⟩
def spLimited : Sp := fun vs H Q _ => ∃ u : List Nat, vs = [.str (S u)] ∧ u.length ≤ 20000 ∧ Q (.str (S u)) H
theorem ok_limited (T : Txt w K mg) : Ok P w K mg base 1 "limited" ["word"] spLimited := by
  refine ok_of T.fLimited fun f fd F => ?_
  obtain ⟨tM, gM⟩ := T.most
  refine F.ok scLimited (fun vs H Q E h => ?_) (fun cdv A outer s H vs Q E hr h => ?_)
  · obtain ⟨u, rfl, _⟩ := h
    rfl
  · obtain ⟨u, rfl, hz, q⟩ := h
    refine ⟨_, pss_cons (ps_if (pt_cmpR op_gt (pe_callB call_len_str (by rfl) T.nlen PySem.boot_len (pa_cons (pv 0) pa_nil)) (pe_glob (v := .int 20000) rfl gM ⟨_, rfl⟩) (nomark _)) (pss_one ps_never) pss_nil)
      (pss_one (ps_ret (pv 0))), ?_⟩
    refine ⟨.str (S u), rfl, S u, rfl, Nat.le_trans hz (by decide), _, _, rfl, rfl, _, rfl, ?_⟩
    refine iteDF (by show ¬ ((20000 : Int) < (u.length : Nat)); omega) ?_
    exact ⟨.str (S u), rfl, q⟩

/-! ### reduced, back, then, is_reduced -/
def spReduced : Sp := fun vs H Q _ => ∃ u : List Nat, vs = [.str (S u)] ∧ Wt u ∧ ∀ H', Same H H' → Q (.str (S (cut u))) H'
theorem ok_reduced (T : Txt w K mg) : Ok P w K mg base 4 "reduced" ["word"] spReduced := by
  refine ok_of T.fReduced fun f fd F => ?_
  refine F.ok scReduced (fun vs H Q E h => ?_) (fun cdv A outer s H vs Q E hr h => ?_)
  · obtain ⟨u, rfl, _⟩ := h
    rfl
  · obtain ⟨u, rfl, hu, q⟩ := h
    refine ⟨_, pss_one (ps_ret (pe_callO (ok_limited T) hr (by decide) (by rfl) (pa_cons (pe_callO (ok_redText T) hr (by decide) (by rfl) (pa_cons (pe_callO (ok_need T) hr (by decide) (by rfl) (pa_cons (pv 0) pa_nil)) pa_nil)) pa_nil))), ?_⟩
    refine ⟨.str (S u), rfl, u, rfl, hu.1, fun H1 s1 => ⟨u, rfl, hu, fun H2 s2 => ⟨cut u, rfl, ?_, q H2 (Same.to s1 s2)⟩⟩⟩
    exact Nat.le_trans (cut_len _ u rfl hu.1) hu.2
def spBack : Sp := fun vs H Q _ => ∃ u : List Nat, vs = [.str (S u)] ∧ Wt u ∧ ∀ H', Same H H' → Q (.str (S (cut u.reverse))) H'
theorem ok_back (T : Txt w K mg) : Ok P w K mg base 4 "back" ["word"] spBack := by
  refine ok_of T.fBack fun f fd F => ?_
  refine F.ok scBack (fun vs H Q E h => ?_) (fun cdv A outer s H vs Q E hr h => ?_)
  · obtain ⟨u, rfl, _⟩ := h
    rfl
  · obtain ⟨u, rfl, hu, q⟩ := h
    refine ⟨_, pss_one (ps_ret (pe_callO (ok_limited T) hr (by decide) (by rfl) (pa_cons (pe_callO (ok_backText T) hr (by decide) (by rfl) (pa_cons (pe_callO (ok_redText T) hr (by decide) (by rfl) (pa_cons (pe_callO (ok_need T) hr (by decide) (by rfl) (pa_cons (pv 0) pa_nil)) pa_nil)) pa_nil)) pa_nil))), ?_⟩
    have lc : (cut u).length ≤ 20000 := Nat.le_trans (cut_len _ u rfl hu.1) hu.2
    have er : cut (cut u).reverse = cut u.reverse := cut_rev hu.1
    refine ⟨.str (S u), rfl, u, rfl, hu.1, fun H1 s1 => ⟨u, rfl, hu, fun H2 s2 => ⟨cut u, rfl, fw_cut hu.1, lc, cut (cut u).reverse, rfl, ?_, ?_⟩⟩⟩
    · exact Nat.le_trans (cut_len _ _ rfl (wd_rev.mpr (cut_wd hu.1))) (by rw [List.length_reverse]; exact lc)
    · rw [er]
      exact q H2 (Same.to s1 s2)
def spThen : Sp := fun vs H Q _ => ∃ u v : List Nat, vs = [.str (S u), .str (S v)] ∧ (Wd u ∧ Wd v) ∧ u.length + v.length ≤ 20000 ∧ ∀ H', Same H H' → Q (.str (S (cut (u ++ v)))) H'
theorem ok_then (T : Txt w K mg) : Ok P w K mg base 4 "then" ["word", "other_word"] spThen := by
  refine ok_of T.fThen fun f fd F => ?_
  refine F.ok scThen (fun vs H Q E h => ?_) (fun cdv A outer s H vs Q E hr h => ?_)
  · obtain ⟨u, v, rfl, _⟩ := h
    rfl
  · obtain ⟨u, v, rfl, ⟨hu, hv⟩, hz, q⟩ := h
    refine ⟨_, pss_cons (ps_expr (pe_callO (ok_need T) hr (by decide) (by rfl) (pa_cons (pv 0) pa_nil)))
      (pss_cons (ps_expr (pe_callO (ok_need T) hr (by decide) (by rfl) (pa_cons (pv 1) pa_nil)))
      (pss_one (ps_ret (pe_callO (ok_limited T) hr (by decide) (by rfl) (pa_cons (pe_callO (ok_joined T) hr (by decide) (by rfl) (pa_cons (pe_callO (ok_redText T) hr (by decide) (by rfl) (pa_cons (pv 0) pa_nil)) (pa_cons (pe_callO (ok_redText T) hr (by decide) (by rfl) (pa_cons (pv 1) pa_nil)) pa_nil))) pa_nil))))), ?_⟩
    have lu : (cut u).length ≤ u.length := cut_len _ u rfl hu
    have lv : (cut v).length ≤ v.length := cut_len _ v rfl hv
    have ec : cut (cut u ++ cut v) = cut (u ++ v) := cut_app hu hv
    refine ⟨.str (S u), rfl, u, rfl, hu, fun H1 s1 => ⟨.str (S v), rfl, v, rfl, hv, fun H2 s2 => ?_⟩⟩
    refine ⟨.str (S u), rfl, u, rfl, ⟨hu, by omega⟩, fun H3 s3 => ⟨.str (S v), rfl, v, rfl, ⟨hv, by omega⟩, fun H4 s4 => ?_⟩⟩
    refine ⟨cut u, cut v, rfl, ⟨fw_cut hu, by omega⟩, ⟨fw_cut hv, by omega⟩, cut (u ++ v), by rw [ec]; rfl, ?_, q H4 (Same.to s1 (Same.to s2 (Same.to s3 s4)))⟩
    have := cut_len _ (u ++ v) rfl (wd_append.mpr ⟨hu, hv⟩)
    rw [List.length_append] at this
    omega
end
end K4

namespace K4
open PySem PySem.Spec PyProof.Rows L2 Nr Nw
section
variable {P : Program} {w : World} {K : PySem.W.Frag} {mg : Str → Option Value} {base : Heap}

/-! ### the law's own draws -/
def spMixed : Sp := fun vs H Q _ => ∃ c n : Int, vs = [.int c, .int n] ∧ (0 ≤ c ∧ c < 4611686018427387904) ∧ (0 ≤ n ∧ n < 1000000) ∧ ∀ r : Int, 0 ≤ r → r < 2147483629 → Q (.int r) H
theorem ok_mixed (T : Txt w K mg) : Ok P w K mg base 1 "_law_mixed" ["cell", "n"] spMixed := by
  refine ok_of T.fLawMixed fun f fd F => ?_
  refine F.ok scLawMixed (fun vs H Q E h => ?_) (fun cdv A outer s H vs Q E hr h => ?_)
  · obtain ⟨c, n, rfl, _⟩ := h
    rfl
  · obtain ⟨c, n, rfl, ⟨c0, c1⟩, ⟨n0, n1⟩, q⟩ := h
    refine ⟨_, pss_cons (ps_set (i := 2) scLawMixed.nd rfl (.inl rfl) (pe_op op_add (pe_op op_add (pe_op op_mod (pe_callTy call_int1 (by rfl) T.nint (by decide +kernel) (pa_cons (pe_op op_mul (pe_op op_mul (pv 0) (pe_op op_add pe_int (pe_op op_mul pe_int (pv 1)))) pe_int) pa_nil)) pe_int)
        (pe_op op_mul (pe_op op_mul pe_int (pv 1)) (pv 1))) (pe_op op_mul pe_int (pv 1))))
      (pss_one (ps_ret (pe_op op_fdiv (pe_op op_mod (pe_callTy call_int1 (by rfl) T.nint (by decide +kernel) (pa_cons (pe_op op_mul (pv 2) pe_int) pa_nil)) pe_int) pe_int))), ?_⟩
    have k2 : CMul 2 n := .inl ⟨by decide, by decide⟩
    refine ⟨.int c, rfl, .int n, rfl, 2, n, rfl, rfl, k2, 1, 2 * n, rfl, rfl, c, 1 + 2 * n, rfl, rfl, .inl ⟨by omega, by omega⟩, c * (1 + 2 * n), 48271, rfl, rfl, .inr ⟨by decide, by decide⟩, ?_⟩
    refine .inl ⟨_, rfl, _, _, rfl, rfl, by show (0 : Int) < 2147483647; decide, .int n, rfl, 7919, n, rfl, rfl, .inl ⟨by decide, by decide⟩, .int n, rfl, 7919 * n, n, rfl, rfl, .inr ⟨by omega, by omega⟩, _, _, rfl, rfl, .int n, rfl, 104729, n, rfl, rfl, .inl ⟨by decide, by decide⟩, _, _, rfl, rfl, ?_⟩
    refine ⟨_, rfl, _, _, rfl, rfl, .inr ⟨by decide, by decide⟩, .inl ⟨_, rfl, _, _, rfl, rfl, by show (0 : Int) < 2147483629; decide, _, _, rfl, rfl, ⟨by decide, by decide⟩, ?_⟩⟩
    generalize (c * (1 + 2 * n) * 48271) % 2147483647 + 7919 * n * n + 104729 * n = b
    have h1 := Int.emod_nonneg (b * 69621) (show (2147483629 : Int) ≠ 0 by decide)
    have h2 := Int.emod_lt_of_pos (b * 69621) (show (0 : Int) < 2147483629 by decide)
    generalize (b * 69621) % 2147483629 = r at *
    exact q (r / 7) (by omega) (by omega)

def Cells (fs : List Int) : Prop := fs.length = 64 ∧ ∀ x ∈ fs, 0 ≤ x ∧ x < 2147483647
theorem Cells.get {fs : List Int} (h : Cells fs) {j : Nat} (hj : j < 64) : ∃ x, fs[j]? = some x ∧ 0 ≤ x ∧ x < 2147483647 := by
  have hl : j < fs.length := by rw [h.1]; exact hj
  exact ⟨fs[j], List.getElem?_eq_getElem hl, h.2 _ (List.getElem_mem hl)⟩
theorem Cells.set {fs : List Int} (h : Cells fs) (j : Nat) {y : Int} (h0 : 0 ≤ y) (h1 : y < 2147483647) : Cells (fs.set j y) := by
  refine ⟨by rw [List.length_set]; exact h.1, fun x hx => ?_⟩
  rcases List.mem_or_eq_of_mem_set hx with e | e
  · exact h.2 x e
  · rw [e]; exact ⟨h0, h1⟩
theorem map_int_get {fs : List Int} {j : Nat} {x : Int} (h : fs[j]? = some x) : (fs.map V.int)[j]? = some (.int x) := by
  rw [List.getElem?_map, h]
  rfl
theorem mod_cell (y : Int) : 0 ≤ y % 2147483647 ∧ y % 2147483647 < 2147483647 := ⟨Int.emod_nonneg _ (by decide), Int.emod_lt_of_pos _ (by decide)⟩
theorem ixN_nat {n j : Nat} (h : j < n) : ixN n ((j : Nat) : Int) = some j := by
  unfold ixN
  rw [if_pos (by omega), if_pos (by omega), Int.toNat_natCast]
/-- a list of cells at l, whatever they are -/
def CellsAt (H : Hp) (l : Addr) : Prop := ∃ fs : List Int, H l = some (.lst (fs.map V.int)) ∧ Cells fs
def spFolded (K : PySem.W.Frag) : Sp := fun vs H Q _ => ∃ (a : Addr) (ns : List Int), vs = [.ref a] ∧ SqL K H a (ns.map V.int) ∧ ∀ (p : Addr) (H' : Hp), Same H H' → H p = none → CellsAt H' p → Q (.ref p) H'
theorem ok_folded (T : Txt w K mg) : Ok P w K mg base 1 "_law_folded" ["script"] (spFolded K) := by
  refine ok_of T.fLawFolded fun f fd F => ?_
  refine F.ok scLawFolded (fun vs H Q E h => ?_) (fun cdv A outer s H vs Q E hr h => ?_)
  · obtain ⟨a, ns, rfl, _⟩ := h
    rfl
  · obtain ⟨a, ns, rfl, hS, q⟩ := h
    refine ⟨_, pss_cons (ps_setLc (i := 1) (own := [("n", 2)]) (g := gName 2) (tt := tYes) (by rfl) scLawFolded.nd rfl rfl (sw_true rfl rfl rfl (by decide +kernel)) (pi_range1 (by rfl) T.nrange (pa_cons pe_int pa_nil))
        (blkOk_by (N := ["script", "found", "n", "cell"]) (sc := defScope sLawFolded) (by decide +kernel)) (fun _ _ _ _ _ => pg_name (i := 2) scLawFolded.nd rfl (.inl rfl)) (fun _ _ _ _ _ => pts_nil) (fun _ _ _ _ _ => pe_op op_add pe_int (pv 2)))
      (pss_cons (ps_for PassesOwn.never rfl (pi_enum (by rfl) T.nenumerate (pa_cons (pv 0) pa_nil)) (pg_tup rfl (pgs_cons (pg_name (i := 2) scLawFolded.nd rfl (.inl rfl)) (pgs_cons (pg_name (i := 3) scLawFolded.nd rfl (.inl rfl)) pgs_nil)))
        (pss_one (ps_asg (pe_op op_mod (pe_callTy call_int1 (by rfl) T.nint (by decide +kernel) (pa_cons (pe_op op_add (pe_op op_mul (pe_ix (r := rIxL K) ix_list (pv 1) (pe_op op_mod (pe_callTy call_int1 (by rfl) T.nint (by decide +kernel) (pa_cons (pv 2) pa_nil)) pe_int) (fun _ _ => rfl)) pe_int) (pv 3)) pa_nil)) pe_int)
          (pg_sub (pv 1) (pe_op op_mod (pe_callTy call_int1 (by rfl) T.nint (by decide +kernel) (pa_cons (pv 2) pa_nil)) pe_int) set_list))))
      (pss_cons (ps_for PassesOwn.never rfl (pi_range2 (by rfl) T.nrange (pa_cons pe_int (pa_cons pe_int pa_nil))) (pg_name (i := 2) scLawFolded.nd rfl (.inl rfl))
        (pss_one (ps_asg (pe_op op_mod (pe_callTy call_int1 (by rfl) T.nint (by decide +kernel) (pa_cons (pe_op op_add (pe_ix (r := rIxL K) ix_list (pv 1) (pv 2) (fun _ _ => rfl)) (pe_op op_mul (pe_ix (r := rIxL K) ix_list (pv 1) (pe_op op_sub (pv 2) pe_int) (fun _ _ => rfl)) pe_int)) pa_nil)) pe_int)
          (pg_sub (pv 1) (pv 2) set_list))))
      (pss_one (ps_ret (pv 1))))), ?_⟩
    -- found = [17 + n for n in range(64)]
    refine ⟨64, rfl, by decide, by decide, fun l nl => ?_⟩
    refine lc_range (lo := 0) (n := 64) (fun i H' => Same H H' ∧ ∃ fs : List Int, H' l = some (.lst (fs.map V.int)) ∧ fs.length = i ∧ ∀ x ∈ fs, 0 ≤ x ∧ x < 2147483647) ⟨same_new nl, [], upd_same, rfl, fun x hx => by cases hx⟩ (fun i H' hi h => ?_) (fun H1 h => ?_)
    · obtain ⟨sm, fs, e, hl, hb⟩ := h
      refine ⟨rfl, yes (iteT ⟨.int (0 + (i : Nat)), rfl, 17, 0 + (i : Nat), rfl, rfl, _, e, ?_, same_mut sm nl, fs ++ [17 + (0 + (i : Int))], ?_, ?_, ?_⟩)⟩
      · rw [List.length_map, hl]
        exact Nat.lt_of_lt_of_le hi (by decide)
      · rw [upd_same, List.map_append]
        rfl
      · rw [List.length_append, hl]
        rfl
      · intro x hx
        rcases List.mem_append.mp hx with y | y
        · exact hb x y
        · rw [List.mem_singleton.mp y]
          omega
    obtain ⟨sm1, fs1, e1, hl1, hb1⟩ := h
    -- for n, cell in enumerate(script)
    refine ⟨.ref a, rfl, a, ns.map V.int, rfl, sm1.seq hS, ?_⟩
    refine ⟨fun i m σ H3 => ∃ y2 y3, σ = [some (.ref a), some (.ref l), y2, y3] ∧ i + m = ns.length ∧ Same H H3 ∧ CellsAt H3 l, ⟨ns.length, _, _, rfl, by omega, sm1, fs1, e1, hl1, hb1⟩, ?_⟩
    rintro i m σ H3 ⟨y2, y3, rfl, em, sm, fs, e, hc⟩
    have hA : SqL K H3 a (ns.map V.int) := sm.seq hS
    by_cases hi : i < ns.length
    · have g : (ns.map V.int)[i]? = some (.int ns[i]) := map_int_get (List.getElem?_eq_getElem hi)
      refine .inr ⟨⟨_, _, hA, g⟩, fun σ' H' => ∃ y2 y3, σ' = [some (.ref a), some (.ref l), y2, y3] ∧ Same H H' ∧ CellsAt H' l, ?_, ?_⟩
      · rintro σ' H' ⟨z2, z3, e', sm', c'⟩
        exact ⟨m - 1, by omega, z2, z3, e', by omega, sm', c'⟩
      · rintro v H' ⟨Tp, x, rfl, nT, rfl, fx⟩
        have ex : x = .int ns[i] := Option.some.inj ((fx _ hA).symm.trans g)
        subst ex
        refine ⟨Tp, [.int (i : Nat), .int ns[i]], rfl, .inl (.inl upd_same), rfl, _, [.int ns[i]], rfl, _, [], rfl, rfl, ?_⟩
        have ne : l ≠ Tp := ne_of_none e nT
        have eT : (upd H3 Tp (.tup [.int (i : Nat), .int ns[i]])) l = some (.lst (fs.map V.int)) := by
          rw [upd_ne ne]
          exact e
        obtain ⟨x, hx, x0, x1⟩ := hc.get (j := i % 64) (Nat.mod_lt _ (by decide))
        have im : ((i : Nat) : Int) % 64 = ((i % 64 : Nat) : Int) := rfl
        have pos64 : (0 : Int) < 64 := by decide
        have posM : (0 : Int) < 2147483647 := by decide
        refine ⟨.ref l, rfl, .int (i : Nat), rfl, .inl ⟨_, rfl, _, _, rfl, rfl, pos64, l, _, _, .int x, rfl, rfl, .inl (.inl eT), atI_nat (map_int_get hx), _, _, rfl, rfl, .inr ⟨by decide, by decide⟩, .int ns[i], rfl, _, _, rfl, rfl, .inl ⟨_, rfl, _, _, rfl, rfl, posM, ?_⟩⟩⟩
        have mc := mod_cell (x * 48271 + ns[i])
        refine ⟨.ref l, rfl, .int (i : Nat), rfl, .inl ⟨_, rfl, _, _, rfl, rfl, pos64, l, _, _, i % 64, rfl, rfl, eT, ?_, ?_⟩⟩
        · rw [List.length_map, hc.1]
          exact ixN_nat (Nat.mod_lt _ (by decide))
        · refine ⟨_, _, rfl, same_mut (Same.to sm (same_new nT)) nl, fs.set (i % 64) ((x * 48271 + ns[i]) % 2147483647), ?_, hc.set _ mc.1 mc.2⟩
          rw [upd_same, List.map_set]
    · refine .inl ⟨⟨_, hA, by rw [List.length_map]; omega⟩, ?_⟩
      -- for n in range(1, 64)
      refine ⟨1, 64, rfl, ⟨by decide, by decide, by decide, by decide⟩, ?_⟩
      refine ⟨fun i m σ H4 => ∃ y2 y3, σ = [some (.ref a), some (.ref l), y2, y3] ∧ i + m = 63 ∧ Same H H4 ∧ CellsAt H4 l, ⟨63, _, _, rfl, rfl, sm, fs, e, hc⟩, ?_⟩
      rintro j m' σ H4 ⟨z2, z3, rfl, em', sm', fs', e', hc'⟩
      by_cases hj : j < 63
      · refine .inr ⟨hj, fun σ' H' => ∃ y2 y3, σ' = [some (.ref a), some (.ref l), y2, y3] ∧ Same H H' ∧ CellsAt H' l, ?_, ?_⟩
        · rintro σ' H' ⟨w2, w3, ew, sw, cw⟩
          exact ⟨m' - 1, by omega, w2, w3, ew, by omega, sw, cw⟩
        · rintro v H' ⟨rfl, rfl⟩
          obtain ⟨x, hx, x0, x1⟩ := hc'.get (j := j + 1) (by omega)
          obtain ⟨y, hy, y0, y1⟩ := hc'.get (j := j) (by omega)
          have i1 : (1 : Int) + ((j : Nat) : Int) = ((j + 1 : Nat) : Int) := by omega
          have i2 : (1 : Int) + ((j : Nat) : Int) - 1 = ((j : Nat) : Int) := by omega
          have posM : (0 : Int) < 2147483647 := by decide
          have mc := mod_cell (x + y * 16807)
          refine ⟨.ref l, rfl, .int (1 + (j : Nat)), rfl, l, _, _, .int x, rfl, rfl, .inl (.inl e'), ?_, .ref l, rfl, .int (1 + (j : Nat)), rfl, _, _, rfl, rfl, l, _, _, .int y, rfl, rfl, .inl (.inl e'), ?_, _, _, rfl, rfl, .inr ⟨by decide, by decide⟩, _, _, rfl, rfl, .inl ⟨_, rfl, _, _, rfl, rfl, posM, ?_⟩⟩
          · rw [i1]
            exact atI_nat (map_int_get hx)
          · rw [i2]
            exact atI_nat (map_int_get hy)
          · refine ⟨.ref l, rfl, .int (1 + (j : Nat)), rfl, l, _, _, j + 1, rfl, rfl, e', ?_, ?_⟩
            · rw [List.length_map, hc'.1, i1]
              exact ixN_nat (by omega)
            · refine ⟨_, _, rfl, same_mut sm' nl, fs'.set (j + 1) ((x + y * 16807) % 2147483647), ?_, hc'.set _ mc.1 mc.2⟩
              rw [upd_same, List.map_set]
      · refine .inl ⟨by show 63 ≤ j; omega, ?_⟩
        exact ⟨.ref l, rfl, q l H4 sm' nl ⟨fs', e', hc'⟩⟩
end
end K4

namespace K4
open PySem PySem.Spec PyProof.Rows L2 Nr Nw
def mD (lc lg : Addr) (n : Nat) : List (Key × V) := [(.inr "cells", .ref lc), (.inr "great", .ref lg), (.inr "spot", .int (n : Int))]
theorem k_cg : ¬ (("cells" : Str) = "great") := by decide +kernel
theorem k_cs : ¬ (("cells" : Str) = "spot") := by decide +kernel
theorem k_gc : ¬ (("great" : Str) = "cells") := by decide +kernel
theorem k_gs : ¬ (("great" : Str) = "spot") := by decide +kernel
theorem inr_ne {a b : Str} (h : ¬ a = b) : ¬ ((Sum.inr a : Key) = Sum.inr b) := fun e => h (Sum.inr.inj e)
theorem mD_cells (lc lg : Addr) (n : Nat) : valV (mD lc lg n) (.inr "cells") = some (.ref lc) := valV_pos rfl
theorem mD_great (lc lg : Addr) (n : Nat) : valV (mD lc lg n) (.inr "great") = some (.ref lg) := by
  unfold mD valV
  rw [List.find?_cons_of_neg (by rw [decide_eq_true_eq]; exact inr_ne k_cg), List.find?_cons_of_pos (by rw [decide_eq_true_eq])]
  rfl
theorem mD_spot (lc lg : Addr) (n : Nat) : valV (mD lc lg n) (.inr "spot") = some (.int (n : Int)) := by
  unfold mD valV
  rw [List.find?_cons_of_neg (by rw [decide_eq_true_eq]; exact inr_ne k_cs), List.find?_cons_of_neg (by rw [decide_eq_true_eq]; exact inr_ne k_gs), List.find?_cons_of_pos (by rw [decide_eq_true_eq])]
  rfl
theorem mD_put (lc lg : Addr) (n k : Nat) : putK (mD lc lg n) (.inr "spot") (.int (k : Int)) = mD lc lg k := by
  unfold mD putK
  rw [if_pos (by rw [List.any_cons, List.any_cons, List.any_cons, decide_eq_true (show (Sum.inr "spot" : Key) = .inr "spot" from rfl)]; simp only [Bool.true_or, Bool.or_true])]
  simp only [List.map_cons, List.map_nil, if_neg (inr_ne k_cs), if_neg (inr_ne k_gs), if_true]
theorem mD_putG (lc lg lg' : Addr) (n : Nat) : putK (mD lc lg n) (.inr "great") (.ref lg') = mD lc lg' n := by
  unfold mD putK
  have k_sg : ¬ (("spot" : Str) = "great") := fun e => k_gs e.symm
  rw [if_pos (by rw [List.any_cons, List.any_cons, List.any_cons, decide_eq_true (show (Sum.inr "great" : Key) = .inr "great" from rfl)]; simp only [Bool.true_or, Bool.or_true])]
  simp only [List.map_cons, List.map_nil, if_neg (inr_ne k_cg), if_neg (inr_ne k_sg), if_true]

/-- the state of the draws: at most k numbers were drawn -/
def MS (H : Hp) (m lc lg : Addr) (k : Nat) : Prop := lc ≠ lg ∧ m ≠ lg ∧ m ≠ lc ∧ (∃ n : Nat, n ≤ k ∧ H m = some (.dK (mD lc lg n))) ∧ CellsAt H lc ∧ ∃ gs : List Int, gs.length ≤ 63 ∧ H lg = some (.lst (gs.map V.int))
/-- what was there stays, but for the state -/
def Off (m lg : Addr) (H H' : Hp) : Prop := ∀ a o, a ≠ m → a ≠ lg → H a = some o → H' a = some o
theorem Off.same {m lg : Addr} {H H' : Hp} (h : Same H H') : Off m lg H H' := fun a o _ _ e => h a o e
theorem Off.to {m lg : Addr} {H H1 H2 : Hp} (a : Off m lg H H1) (b : Off m lg H1 H2) : Off m lg H H2 := fun x o h1 h2 e => b x o h1 h2 (a x o h1 h2 e)
theorem MS.same {H H' : Hp} {m lc lg : Addr} {k : Nat} (h : MS H m lc lg k) (s : Same H H') : MS H' m lc lg k := by
  obtain ⟨a, b, c, ⟨n, hn, e⟩, ⟨fs, ef, hf⟩, gs, hg, eg⟩ := h
  exact ⟨a, b, c, ⟨n, hn, s _ _ e⟩, ⟨fs, s _ _ ef, hf⟩, gs, hg, s _ _ eg⟩
theorem MS.le {H : Hp} {m lc lg : Addr} {k j : Nat} (h : MS H m lc lg k) (hj : k ≤ j) : MS H m lc lg j := by
  obtain ⟨a, b, c, ⟨n, hn, e⟩, r⟩ := h
  exact ⟨a, b, c, ⟨n, Nat.le_trans hn hj, e⟩, r⟩
/-- an object that is no part of the state may change -/
theorem MS.mut {H : Hp} {m lc lg p : Addr} {o : HO} {k : Nat} (h : MS H m lc lg k) (h1 : p ≠ m) (h2 : p ≠ lc) (h3 : p ≠ lg) : MS (upd H p o) m lc lg k := by
  obtain ⟨a, b, c, ⟨n, hn, e⟩, ⟨fs, ef, hf⟩, gs, hg, eg⟩ := h
  exact ⟨a, b, c, ⟨n, hn, by rw [upd_ne h1.symm]; exact e⟩, ⟨fs, by rw [upd_ne h2.symm]; exact ef, hf⟩, gs, hg, by rw [upd_ne h3.symm]; exact eg⟩
/-- a new object is no part of the state -/
theorem MS.new {H : Hp} {m lc lg p : Addr} {k : Nat} (h : MS H m lc lg k) (hp : H p = none) : p ≠ m ∧ p ≠ lc ∧ p ≠ lg := by
  obtain ⟨_, _, _, ⟨n, _, e⟩, ⟨fs, ef, _⟩, gs, _, eg⟩ := h
  exact ⟨(ne_of_none e hp).symm, (ne_of_none ef hp).symm, (ne_of_none eg hp).symm⟩

theorem lay_ints : ∀ gs : List Int, PyData.canLay0 (.list (gs.map PyData.int)) = true ∧ PyData.depth (.list (gs.map PyData.int)) ≤ 1 := by
  intro gs
  have h : ∀ gs : List Int, PyData.canLayAll0 (gs.map PyData.int) = true ∧ PyData.depthAll (gs.map PyData.int) = 0 := by
    intro gs
    induction gs with
    | nil => exact ⟨by rfl, by rfl⟩
    | cons x r ih =>
      refine ⟨?_, ?_⟩
      · rw [List.map_cons]
        unfold PyData.canLayAll0
        rw [ih.1]
        rfl
      · rw [List.map_cons]
        unfold PyData.depthAll
        rw [ih.2]
        rfl
  refine ⟨?_, ?_⟩
  · unfold PyData.canLay0
    exact (h gs).1
  · unfold PyData.depth
    rw [(h gs).2]
    exact Nat.le_refl _
theorem shaped_ints (gs : List Int) : SeqAt.shaped (.list (gs.map PyData.int)) = true := by
  unfold SeqAt.shaped
  rw [(lay_ints gs).1, decide_eq_true (Nat.le_trans (lay_ints gs).2 (by decide))]
  rfl
theorem eqv_nil (gs : List Int) : PyData.eqv (.list (gs.map PyData.int)) (.list []) = gs.isEmpty := by
  cases gs <;> (unfold PyData.eqv; rfl)
theorem dpAll_ints {K : PySem.W.Frag} {H : Hp} : ∀ gs : List Int, DpAll K H (gs.map V.int) (gs.map PyData.int)
  | [] => .nil
  | x :: r => .cons (.int x) (dpAll_ints r)
section
variable {P : Program} {w : World} {K : PySem.W.Frag} {mg : Str → Option Value} {base : Heap}
def spDraw : Sp := fun vs H Q _ => ∃ (m lc lg : Addr) (k : Nat) (z : Int), vs = [.ref m, .int z] ∧ (0 < z ∧ z < 1000000) ∧ MS H m lc lg k ∧ k < 900000 ∧
  ∀ (d : Nat) (H' : Hp), (d : Int) < z → MS H' m lc lg (k + 1) → Off m lg H H' → Q (.int (d : Int)) H'
theorem ok_draw (T : Txt w K mg) : Ok P w K mg base 2 "_law_draw" ["m", "limit"] spDraw := by
  refine ok_of T.fLawDraw fun f fd F => ?_
  refine F.ok scLawDraw (fun vs H Q E h => ?_) (fun cdv A outer s H vs Q E hr h => ?_)
  · obtain ⟨m, lc, lg, k, z, rfl, _⟩ := h
    rfl
  · obtain ⟨m, lc, lg, k, z, rfl, ⟨z0, z1⟩, ⟨d1, d2, d3, ⟨n, hn, em⟩, ⟨fs, ef, hf⟩, gs, hg, eg⟩, hk, q⟩ := h
    have hu := hu_of hr
    refine ⟨_, pss_cons (ps_set (i := 2) scLawDraw.nd rfl (.inl rfl) (pe_dget hu (pv 0) pe_str (fun _ _ => rfl)))
      (pss_cons (ps_dput hu (pv 0) pe_str (pe_op op_add (pv 2) pe_int) rfl)
      (pss_cons (ps_if (pt_cmpR (op_neD hr.units) (pe_dget hu (pv 0) pe_str (fun _ _ => rfl)) (pe_lst pa_nil) (nomark _))
        (pss_cons (ps_set (i := 3) scLawDraw.nd rfl (.inl rfl) (pe_dget hu (pv 0) pe_str (fun _ _ => rfl)))
        (pss_cons (ps_set (i := 4) scLawDraw.nd rfl (.inl rfl) (pe_op op_mod (pe_callTy call_int1 (by rfl) T.nint (by decide +kernel) (pa_cons (pv 2) pa_nil)) (pe_callB call_len_seq (by rfl) T.nlen PySem.boot_len (pa_cons (pv 3) pa_nil))))
        (pss_cons (ps_set (i := 5) scLawDraw.nd rfl (.inl rfl) (pe_ix (r := rIxL K) ix_list (pv 3) (pv 4) (fun _ _ => rfl)))
        (pss_one (ps_if (pt_cmpR op_gt (pv 5) pe_int (nomark _))
          (pss_cons (ps_asg (pe_op op_fdivW (pv 5) (pv 1)) (pg_sub (pv 3) (pv 4) set_list))
          (pss_one (ps_ret (pe_op op_mod (pe_callTy call_int1 (by rfl) T.nint (by decide +kernel) (pa_cons (pv 5) pa_nil)) (pv 1))))) pss_nil))))) pss_nil)
      (pss_cons (ps_set (i := 3) scLawDraw.nd rfl (.inl rfl) (pe_dget hu (pv 0) pe_str (fun _ _ => rfl)))
      (pss_one (ps_ret (pe_op op_mod (pe_callTy call_int1 (by rfl) T.nint (by decide +kernel) (pa_cons (pe_callO (ok_mixed T) hr (by decide) (by rfl)
        (pa_cons (pe_callO (ok_mixed T) hr (by decide) (by rfl) (pa_cons (pe_op op_add (pe_ix (r := rIxL K) ix_list (pv 3) (pe_op op_mod (pe_callTy call_int1 (by rfl) T.nint (by decide +kernel) (pa_cons (pv 2) pa_nil)) pe_int) (fun _ _ => rfl)) (pe_op op_mul pe_int (pe_op op_fdiv (pv 2) pe_int))) (pa_cons (pv 2) pa_nil)))
          (pa_cons (pe_op op_add (pv 2) pe_int) pa_nil))) pa_nil)) (pv 1))))))), ?_⟩
    have getk : ∀ {H' : Hp} {n' : Nat} {x : Str} {v : V}, H' m = some (.dK (mD lc lg n')) → valV (mD lc lg n') (.inr x) = some v → DGet H' m (.str x) (some v) := by
      intro H' n' x v e1 e2
      exact .inl ⟨_, .inr x, .inl e1, rfl, e2.symm⟩
    -- n = m['spot']
    refine ⟨.ref m, rfl, m, .int (n : Int), rfl, getk em (mD_spot lc lg n), ?_⟩
    -- m['spot'] = n + 1
    refine ⟨.int (n : Int), rfl, _, _, rfl, rfl, .ref m, rfl, m, upd H m (.dK (mD lc lg (n + 1))), rfl, .inl ⟨_, .inr "spot", em, rfl, by show 3 < sizeLine; decide, ?_⟩, ?_⟩
    · have e : (n : Int) + 1 = ((n + 1 : Nat) : Int) := by omega
      show _ = upd H m (.dK (putK (mD lc lg n) (.inr "spot") (.int ((n : Int) + 1))))
      rw [e, mD_put]
    generalize eH : upd H m (.dK (mD lc lg (n + 1))) = H1
    have em1 : H1 m = some (.dK (mD lc lg (n + 1))) := by rw [← eH]; exact upd_same
    have ef1 : H1 lc = some (.lst (fs.map V.int)) := by rw [← eH, upd_ne d3.symm]; exact ef
    have eg1 : H1 lg = some (.lst (gs.map V.int)) := by rw [← eH, upd_ne d2.symm]; exact eg
    have off1 : Off m lg H H1 := fun a o h1 _ e => by rw [← eH, upd_ne h1]; exact e
    -- if m['great'] != []
    refine ⟨.ref m, rfl, m, .ref lg, rfl, getk em1 (mD_great lc lg _), Nat.zero_le _, fun b nb => ?_⟩
    have s2 : Same H1 (upd H1 b (.lst [])) := same_new nb
    have em2 := s2 _ _ em1
    have ef2 := s2 _ _ ef1
    have eg2 := s2 _ _ eg1
    have eb2 : (upd H1 b (.lst [])) b = some (.lst []) := upd_same
    have off2 : Off m lg H (upd H1 b (.lst [])) := off1.to (Off.same s2)
    generalize upd H1 b (.lst []) = H2 at em2 ef2 eg2 eb2 off2 ⊢
    obtain ⟨x, hx, x0, x1⟩ := hf.get (j := n % 64) (Nat.mod_lt _ (by decide))
    have pos64 : (0 : Int) < 64 := by decide
    -- a number and its rest
    have fin : ∀ (t : Int) (H' : Hp), Off m lg H H' → (∃ n : Nat, n ≤ k + 1 ∧ H' m = some (.dK (mD lc lg n))) → H' lc = some (.lst (fs.map V.int)) → (∃ gs : List Int, gs.length ≤ 63 ∧ H' lg = some (.lst (gs.map V.int))) → Q (.int (t % z)) H' := by
      intro t H' o e1 e2 e3
      have h0 := Int.emod_nonneg t (show z ≠ 0 by omega)
      have h1 := Int.emod_lt_of_pos t z0
      obtain ⟨d, hd⟩ := Int.eq_ofNat_of_zero_le h0
      rw [hd] at h1 ⊢
      exact q d H' h1 ⟨d1, d2, d3, e1, ⟨fs, e2, hf⟩, e3⟩ o
    refine ⟨.list (gs.map PyData.int), .list [], .lst (.inl (.inl eg2)) (dpAll_ints gs), .lst (.inl (.inl eb2)) .nil, shaped_ints gs, shaped_ints [], _, rfl, ?_⟩
    rw [eqv_nil]
    cases gs with
    | nil =>
      refine iteF ?_
      refine ⟨.ref m, rfl, m, .ref lc, rfl, getk em2 (mD_cells lc lg _), ?_⟩
      refine ⟨.ref lc, rfl, .int (n : Int), rfl, .inl ⟨_, rfl, _, _, rfl, rfl, pos64, lc, _, _, .int x, rfl, rfl, .inl (.inl ef2), atI_nat (map_int_get hx), .int (n : Int), rfl, _, _, rfl, rfl, ⟨by decide, by decide⟩, _, _, rfl, rfl, .inl ⟨by decide, by decide⟩, _, _, rfl, rfl, .int (n : Int), rfl, ?_⟩⟩
      refine ⟨x + 31 * ((n : Int) / 64), (n : Int), rfl, by omega, by omega, fun r r0 r1 => ⟨.int (n : Int), rfl, _, _, rfl, rfl, ?_⟩⟩
      refine ⟨r, (n : Int) + 7, rfl, by omega, by omega, fun t t0 t1 => .inl ⟨_, rfl, .int z, rfl, _, _, rfl, rfl, z0, ?_⟩⟩
      exact fin t H2 off2 ⟨n + 1, by omega, em2⟩ ef2 ⟨[], hg, eg2⟩
    | cons g0 gr =>
      refine iteT ?_
      refine ⟨.ref m, rfl, m, .ref lg, rfl, getk em2 (mD_great lc lg _), ?_⟩
      have posL : (0 : Int) < (((g0 :: gr).map V.int).length : Nat) := by
        rw [List.length_map, List.length_cons]
        omega
      refine ⟨.int (n : Int), rfl, .inl ⟨_, rfl, .ref lg, rfl, lg, _, rfl, .inl (.inl (.inl eg2)), _, _, rfl, rfl, posL, ?_⟩⟩
      have il : ((n : Nat) : Int) % (((g0 :: gr).map V.int).length : Nat) = ((n % (g0 :: gr).length : Nat) : Int) := by
        rw [List.length_map]
        rfl
      have hlt : n % (g0 :: gr).length < (g0 :: gr).length := Nat.mod_lt _ (by rw [List.length_cons]; omega)
      have hg2 : (g0 :: gr)[n % (g0 :: gr).length]? = some (g0 :: gr)[n % (g0 :: gr).length] := List.getElem?_eq_getElem hlt
      generalize (g0 :: gr)[n % (g0 :: gr).length] = c at hg2
      generalize n % (g0 :: gr).length = here at hlt hg2 il
      have idx : (((n : Nat) : Int) % (((g0 :: gr).map V.int).length : Nat)) = (here : Int) := il
      refine ⟨.ref lg, rfl, .int (((n : Nat) : Int) % (((g0 :: gr).map V.int).length : Nat)), rfl, lg, _, _, .int c, rfl, rfl, .inl (.inl eg2), by rw [idx]; exact atI_nat (map_int_get hg2), ?_⟩
      refine ⟨.int c, rfl, _, _, rfl, rfl, _, rfl, ?_⟩
      by_cases hc : 0 < c
      · refine iteDT hc ?_
        have zw : z.natAbs < 2 ^ 30 := by omega
        refine ⟨.int c, rfl, .int z, rfl, _, _, rfl, rfl, wide_div z0 zw (by decide) (by decide), .ref lg, rfl, .int (((n : Nat) : Int) % (((g0 :: gr).map V.int).length : Nat)), rfl, lg, _, _, here, rfl, rfl, eg2, ?_, ?_⟩
        · rw [idx, List.length_map]
          exact ixN_nat hlt
        · refine ⟨.int c, rfl, .inl ⟨_, rfl, .int z, rfl, _, _, rfl, rfl, z0, ?_⟩⟩
          have nm : m ≠ lg := d2
          have nc : lc ≠ lg := d1
          refine fin c _ (fun a o h1 h2 e => ?_) ⟨n + 1, by omega, ?_⟩ ?_ ⟨(g0 :: gr).set here (c / z), ?_, ?_⟩
          · rw [upd_ne h2]
            exact off2 a o h1 h2 e
          · rw [upd_ne nm]
            exact em2
          · rw [upd_ne nc]
            exact ef2
          · rw [List.length_set]
            exact hg
          · rw [upd_same, List.map_set]
      · refine iteDF hc ?_
        refine ⟨.ref m, rfl, m, .ref lc, rfl, getk em2 (mD_cells lc lg _), ?_⟩
        refine ⟨.ref lc, rfl, .int (n : Int), rfl, .inl ⟨_, rfl, _, _, rfl, rfl, pos64, lc, _, _, .int x, rfl, rfl, .inl (.inl ef2), atI_nat (map_int_get hx), .int (n : Int), rfl, _, _, rfl, rfl, ⟨by decide, by decide⟩, _, _, rfl, rfl, .inl ⟨by decide, by decide⟩, _, _, rfl, rfl, .int (n : Int), rfl, ?_⟩⟩
        refine ⟨x + 31 * ((n : Int) / 64), (n : Int), rfl, by omega, by omega, fun r r0 r1 => ⟨.int (n : Int), rfl, _, _, rfl, rfl, ?_⟩⟩
        refine ⟨r, (n : Int) + 7, rfl, by omega, by omega, fun t t0 t1 => .inl ⟨_, rfl, .int z, rfl, _, _, rfl, rfl, z0, ?_⟩⟩
        exact fin t H2 off2 ⟨n + 1, by omega, em2⟩ ef2 ⟨g0 :: gr, hg, eg2⟩
end
end K4

namespace K4
open PySem PySem.Spec PyProof.Rows L2 Nr Nw
theorem ends_iff (a b : List Nat) : Txt.endswith (S a) (S b) = true ↔ ∃ t, a = t ++ b := by
  unfold Txt.endswith
  rw [PySem.StrLaws.subAt_eq, Bool.and_eq_true, decide_eq_true_eq, beq_iff_eq]
  show (0 + b.length ≤ a.length ∧ (a.drop (a.length - b.length)).take b.length = b) ↔ _
  constructor
  · rintro ⟨h1, h2⟩
    refine ⟨a.take (a.length - b.length), ?_⟩
    have h3 : (a.drop (a.length - b.length)).take b.length = a.drop (a.length - b.length) := List.take_of_length_le (by rw [List.length_drop]; omega)
    rw [h3] at h2
    rw [← h2]
    conv => lhs; rw [← List.take_append_drop (a.length - b.length) a]
    rw [h2]
  · rintro ⟨t, rfl⟩
    rw [List.length_append, Nat.add_sub_cancel, List.drop_left, List.take_length]
    exact ⟨by omega, rfl⟩
theorem cut_neg (t b : List Nat) (k : Nat) (hk : b.length = k) (h : 0 < k) : cutS (S (t ++ b)) none (some (-(k : Int))) = S t := by
  unfold cutS
  have h1 : (S (t ++ b)).length = t.length + b.length := by
    show (t ++ b).length = _
    rw [List.length_append]
  have h2 : HT.sIx (t.length + b.length) (t.length + b.length) (some (-(k : Int))) = t.length := by
    show (if (-(k : Int)) < 0 then (-(k : Int) + ((t.length + b.length : Nat) : Int)).toNat else _) = _
    rw [if_pos (by omega)]
    omega
  rw [h1, h2, HT.sIx_none]
  show (⟨((t ++ b).take (t.length - 0)).toArray⟩ : Str) = S t
  rw [Nat.sub_zero, List.take_left]
  rfl
theorem go_len {w : List Nat} (h : Wd w) : (go [] w).length ≤ w.length := by
  have := cut_len _ w rfl h
  unfold cut at this
  rw [List.length_reverse] at this
  exact this
section
variable {P : Program} {w : World} {K : PySem.W.Frag} {mg : Str → Option Value} {base : Heap}

/-! ### _law_cut -/
def spCut : Sp := fun vs H Q _ => ∃ u : List Nat, vs = [.str (S u)] ∧ Wt u ∧ Q (.str (S (cut u))) H
theorem ends_c {s : List Nat} {c : Nat} : Txt.endswith (S s.reverse) (S [c]) = true ↔ ∃ r, s = c :: r := by
  rw [ends_iff]
  constructor
  · rintro ⟨t, e⟩
    refine ⟨t.reverse, ?_⟩
    have := congrArg List.reverse e
    rw [List.reverse_reverse, List.reverse_append] at this
    exact this
  · rintro ⟨r, rfl⟩
    exact ⟨r.reverse, List.reverse_cons⟩
theorem ends_02 {s : List Nat} : Txt.endswith (S s.reverse) (S [48, 50]) = true ↔ ∃ r, s = 50 :: 48 :: r := by
  rw [ends_iff]
  constructor
  · rintro ⟨t, e⟩
    refine ⟨t.reverse, ?_⟩
    have := congrArg List.reverse e
    rw [List.reverse_reverse, List.reverse_append] at this
    exact this
  · rintro ⟨r, rfl⟩
    refine ⟨r.reverse, ?_⟩
    rw [List.reverse_cons, List.reverse_cons, List.append_assoc]
    rfl
theorem ok_cut (T : Txt w K mg) : Ok P w K mg base 1 "_law_cut" ["word"] spCut := by
  refine ok_of T.fLawCut fun f fd F => ?_
  refine F.ok scLawCut (fun vs H Q E h => ?_) (fun cdv A outer s H vs Q E hr h => ?_)
  · obtain ⟨u, rfl, _⟩ := h
    rfl
  · obtain ⟨u, rfl, ⟨hw, hz⟩, q⟩ := h
    refine ⟨_, pss_cons (ps_set (i := 1) scLawCut.nd rfl (.inl rfl) pe_str)
      (pss_cons (ps_for PassesOwn.never rfl (pi_str (pv 0)) (pg_name (i := 2) scLawCut.nd rfl (.inl rfl))
        (pss_one (ps_if (pt_val (pe_m1 PySem.F.slot_str_endswith PySem.F.type_str_endswith mt_endswith (pv 1) (pv 2)))
          (pss_one (ps_set (i := 1) scLawCut.nd rfl (.inl rfl) (pe_slice sl_str (pv 1) po_none (po_some (pe_un un_neg pe_int)))))
          (pss_one (ps_if (PW.pt (pw_and (pt_cmpR op_eq (pv 2) pe_str (nomark _)) (pw_and1 (pt_val (pe_m1 PySem.F.slot_str_endswith PySem.F.type_str_endswith mt_endswith (pv 1) pe_str)))))
            (pss_one (ps_set (i := 1) scLawCut.nd rfl (.inl rfl) (pe_op op_add_str (pe_slice sl_str (pv 1) po_none (po_some (pe_un un_neg pe_int))) pe_str)))
            (pss_one (ps_if (PW.pt (pw_and (pt_cmpR op_eq (pv 2) pe_str (nomark _)) (pw_and1 (pt_val (pe_m1 PySem.F.slot_str_endswith PySem.F.type_str_endswith mt_endswith (pv 1) pe_str)))))
              (pss_one (ps_set (i := 1) scLawCut.nd rfl (.inl rfl) (pe_op op_add_str (pe_slice sl_str (pv 1) po_none (po_some (pe_un un_neg pe_int))) pe_str)))
              (pss_one (ps_set (i := 1) scLawCut.nd rfl (.inl rfl) (pe_op op_add_str (pv 1) (pv 2)))))))))))
      (pss_one (ps_ret (pv 1)))), ?_⟩
    refine ⟨.str (S u), rfl, S u, rfl, fun i m σ H3 => ∃ y2, σ = [some (.str (S u)), some (.str (S (go [] (u.take i)).reverse)), y2] ∧ i + m = u.length ∧ H3 = H, ⟨u.length, none, rfl, by omega, rfl⟩, ?_⟩
    rintro i m σ H3 ⟨y2, rfl, em, rfl⟩
    have hwt : Wd (u.take i) := fun c hc => hw c (List.mem_of_mem_take hc)
    by_cases hi : i < u.length
    · refine .inr ⟨hi, fun σ' H' => ∃ y2, σ' = [some (.str (S u)), some (.str (S (go [] (u.take (i + 1))).reverse)), y2] ∧ H' = H3, ?_, ?_⟩
      · rintro σ' H' ⟨z2, e, e2⟩
        exact ⟨m - 1, by omega, z2, e, by omega, e2⟩
      · rintro v H' ⟨rfl, c, hc, rfl⟩
        have e : u[i]? = some c := by
          have e0 : (S u).cps[i]? = u[i]? := List.getElem?_toArray
          rw [← e0]
          exact hc
        have hsg : Sg c := hw c (List.mem_of_getElem? e)
        have et : u.take (i + 1) = u.take i ++ [c] := by
          rw [List.take_add_one, e]
          rfl
        have rd := go_rd rd_nil hwt
        have ln := go_len hwt
        rw [List.length_take] at ln
        rw [et, go_snoc]
        generalize go [] (u.take i) = st at rd ln ⊢
        have lst : (S st.reverse).length ≤ 20000 := by
          show st.reverse.length ≤ _
          rw [List.length_reverse]
          omega
        have lsz : (S st.reverse).length ≤ sizeLine := Nat.le_trans lst (by decide)
        have neg1 : -(1 : Int) = -((1 : Nat) : Int) := rfl
        refine ⟨.str (S st.reverse), rfl, ⟨_, rfl⟩, .str (S [c]), rfl, _, _, rfl, rfl, _, rfl, ?_⟩
        cases h1 : Txt.endswith (S st.reverse) (S [c]) with
        | true =>
          obtain ⟨r, rfl⟩ := ends_c.mp h1
          refine iteT ⟨.str (S (c :: r).reverse), rfl, 1, rfl, -1, rfl, _, rfl, lsz, some (.str (S [c])), ?_, rfl⟩
          have : cutS (S (c :: r).reverse) none (some (-1)) = S r.reverse := by
            rw [List.reverse_cons]
            exact cut_neg r.reverse [c] 1 rfl (by decide)
          show [some (V.str (S u)), some (V.str (cutS (S (c :: r).reverse) none (some (-1)))), some (V.str (S [c]))] = _
          rw [this, Nw.step_same]
        | false =>
        have n1 : ∀ r, st ≠ c :: r := fun r z => by
          rw [ends_c.mpr ⟨r, z⟩] at h1
          cases h1
        refine iteF ⟨.str (S [c]), rfl, rfl, _, rfl, ?_⟩
        by_cases c48 : c = 48
        · refine iteDT (str_is c48) ⟨.str (S st.reverse), rfl, ⟨_, rfl⟩, S st.reverse, S [48, 50], rfl, rfl, _, rfl, ?_⟩
          subst c48
          cases h2 : Txt.endswith (S st.reverse) (S [48, 50]) with
          | true =>
            obtain ⟨r, rfl⟩ := ends_02.mp h2
            have ec : cutS (S (50 :: 48 :: r).reverse) none (some (-2)) = S r.reverse := by
              rw [List.reverse_cons, List.reverse_cons, List.append_assoc]
              exact cut_neg r.reverse [48, 50] 2 rfl (by decide)
            refine iteT ⟨.str (S (50 :: 48 :: r).reverse), rfl, 2, rfl, -2, rfl, _, rfl, lsz, _, S [50], rfl, rfl, ?_, some (.str (S [48])), ?_, rfl⟩
            · refine Nat.le_trans (Nat.add_le_add_right (cutS_length _ _ _) _) (Nat.le_trans (Nat.add_le_add_right lst 1) (by decide))
            · show [some (V.str (S u)), some (V.str (cutS (S (50 :: 48 :: r).reverse) none (some (-2)) ++ S [50])), some (V.str (S [48]))] = _
              rw [ec, s_app, step_02, List.reverse_cons]
          | false =>
            have n2 : ∀ r, st ≠ 50 :: 48 :: r := fun r z => by
              rw [ends_02.mpr ⟨r, z⟩] at h2
              cases h2
            refine iteF ⟨.str (S [48]), rfl, rfl, _, rfl, iteDT rfl ⟨.str (S st.reverse), rfl, ⟨_, rfl⟩, S st.reverse, S [50], rfl, rfl, _, rfl, ?_⟩⟩
            cases h3 : Txt.endswith (S st.reverse) (S [50]) with
            | true =>
              obtain ⟨r, rfl⟩ := ends_c.mp h3
              have ec : cutS (S (50 :: r).reverse) none (some (-1)) = S r.reverse := by
                rw [List.reverse_cons]
                exact cut_neg r.reverse [50] 1 rfl (by decide)
              refine iteT ⟨.str (S (50 :: r).reverse), rfl, 1, rfl, -1, rfl, _, rfl, lsz, _, S [48, 50], rfl, rfl, ?_, some (.str (S [48])), ?_, rfl⟩
              · refine Nat.le_trans (Nat.add_le_add_right (cutS_length _ _ _) _) (Nat.le_trans (Nat.add_le_add_right lst 2) (by decide))
              · show [some (V.str (S u)), some (V.str (cutS (S (50 :: r).reverse) none (some (-1)) ++ S [48, 50])), some (V.str (S [48]))] = _
                rw [ec, s_app, step_2 (fun q z => n2 q (by rw [z])), List.reverse_cons, List.reverse_cons, List.append_assoc]
                rfl
            | false =>
              have n3 : ∀ r, st ≠ 50 :: r := fun r z => by
                rw [ends_c.mpr ⟨r, z⟩] at h3
                cases h3
              refine iteF ⟨.str (S st.reverse), rfl, .str (S [48]), rfl, _, _, rfl, rfl, ?_, some (.str (S [48])), ?_, rfl⟩
              · exact Nat.le_trans (Nat.add_le_add_right lst 1) (by decide)
              · have es : step st 48 = 48 :: st := by
                  rcases step_ways rd hsg with ⟨r, z, _⟩ | ⟨r, _, z, _⟩ | ⟨r, _, z, _, _⟩ | ⟨z, _⟩
                  · exact absurd z (n1 r)
                  · exact absurd z (n2 r)
                  · exact absurd z (n3 r)
                  · exact z
                show [some (V.str (S u)), some (V.str (S st.reverse ++ S [48])), some (V.str (S [48]))] = _
                rw [s_app, es, List.reverse_cons]
        · refine iteDF (str_one c48) (iteF ⟨.str (S [c]), rfl, rfl, _, rfl, iteDF (str_one c48) (iteF ⟨.str (S st.reverse), rfl, .str (S [c]), rfl, _, _, rfl, rfl, ?_, some (.str (S [c])), ?_, rfl⟩)⟩)
          · exact Nat.le_trans (Nat.add_le_add_right lst 1) (by decide)
          · have es : step st c = c :: st := by
              rcases step_ways rd hsg with ⟨r, z, _⟩ | ⟨r, y, z, _⟩ | ⟨r, y, z, _, _⟩ | ⟨z, _⟩
              · exact absurd z (n1 r)
              · exact absurd y c48
              · exact absurd y c48
              · exact z
            show [some (V.str (S u)), some (V.str (S st.reverse ++ S [c])), some (V.str (S [c]))] = _
            rw [s_app, es, List.reverse_cons]
    · refine .inl ⟨by show u.length ≤ i; omega, ?_⟩
      rw [List.take_of_length_le (by omega)]
      exact ⟨_, rfl, q⟩
end
end K4

namespace K4
open PySem PySem.Spec PyProof.Rows L2 Nr Nw
/-! ### nets -/
/-- the rows of the three changes -/
structure Net where
  a : List Nat
  b : List Nat
  c : List Nat
def Net.row (N : Net) (s : Nat) : List Nat := if s = 48 then N.a else if s = 49 then N.b else N.c
def Net.stp (N : Net) (x s : Nat) : Nat := (N.row s)[x]?.getD 0
def Net.lead (N : Net) (x : Nat) (u : List Nat) : Nat := u.foldl N.stp x
/-- rows of n flags -/
def Net.Of (N : Net) (n : Nat) : Prop := ∀ s, (N.row s).length = n ∧ ∀ x ∈ N.row s, x < n
def NetAt (K : PySem.W.Frag) (H : Hp) (p : Addr) (N : Net) : Prop := ∃ t0 t1 t2 : Addr, SqT K H p [.ref t0, .ref t1, .ref t2] ∧ SqT K H t0 (Vi N.a) ∧ SqT K H t1 (Vi N.b) ∧ SqT K H t2 (Vi N.c)
theorem rd_keep {H H' : Hp} {a : Addr} {u : HO} (s : ∀ o, H a = some o → H' a = some o) (h : Rd H a u) : Rd H' a u := by
  rcases h with h | ⟨o, h⟩
  · exact .inl (s _ h)
  · exact .inr ⟨o, s _ h⟩
theorem Net.Of.get {N : Net} {n x : Nat} (h : N.Of n) (hx : x < n) (s : Nat) : (N.row s)[x]? = some (N.stp x s) ∧ N.stp x s < n := by
  have hl : x < (N.row s).length := by rw [(h s).1]; exact hx
  have e : (N.row s)[x]? = some (N.row s)[x] := List.getElem?_eq_getElem hl
  have e2 : N.stp x s = (N.row s)[x] := by
    unfold Net.stp
    rw [e]
    rfl
  rw [e2]
  exact ⟨e, (h s).2 _ (List.getElem_mem hl)⟩
theorem vi_get {cs : List Nat} {i x : Nat} (h : cs[i]? = some x) : (Vi cs)[i]? = some (.int (x : Int)) := by
  unfold Vi
  rw [List.getElem?_map, h]
  rfl
theorem digit {c : Nat} (h : Sg c) : PySem.intText? (S [c]) = some (((c - 48 : Nat) : Int)) := by
  rcases h with e | e | e <;> subst e <;> decide +kernel
section
variable {P : Program} {w : World} {K : PySem.W.Frag} {mg : Str → Option Value} {base : Heap}
theorem NetAt.rows {H : Hp} {p : Addr} {N : Net} (h : NetAt K H p N) : ∃ t0 t1 t2 : Addr, SqT K H p [.ref t0, .ref t1, .ref t2] ∧ ∀ s, Sg s → ∃ t, ([V.ref t0, .ref t1, .ref t2] : List V)[s - 48]? = some (.ref t) ∧ SqT K H t (Vi (N.row s)) := by
  obtain ⟨t0, t1, t2, h1, h2, h3, h4⟩ := h
  refine ⟨t0, t1, t2, h1, fun s hs => ?_⟩
  rcases hs with e | e | e <;> subst e
  · exact ⟨t0, rfl, h2⟩
  · exact ⟨t1, rfl, h3⟩
  · exact ⟨t2, rfl, h4⟩
/-! ### _law_lead -/
def spLead (K : PySem.W.Frag) : Sp := fun vs H Q _ => ∃ (p : Addr) (N : Net) (n x : Nat) (u : List Nat), vs = [.ref p, .int (x : Int), .str (S u)] ∧ NetAt K H p N ∧ N.Of n ∧ x < n ∧ Wd u ∧ Q (.int (N.lead x u : Int)) H
theorem ok_lead (T : Txt w K mg) : Ok P w K mg base 1 "_law_lead" ["net", "flag", "word"] (spLead K) := by
  refine ok_of T.fLawLead fun f fd F => ?_
  refine F.ok scLawLead (fun vs H Q E h => ?_) (fun cdv A outer s H vs Q E hr h => ?_)
  · obtain ⟨p, N, n, x, u, rfl, _⟩ := h
    rfl
  · obtain ⟨p, N, n, x, u, rfl, hN, hO, hx, hw, q⟩ := h
    refine ⟨_, pss_cons (ps_for PassesOwn.never rfl (pi_str (pv 2)) (pg_name (i := 3) scLawLead.nd rfl (.inl rfl))
        (pss_one (ps_set (i := 1) scLawLead.nd rfl (.inl rfl) (pe_ix (r := rIxT K) ix_tup (pe_ix (r := rIxT K) ix_tup (pv 0) (pe_callTy call_int_str (by rfl) T.nint (by decide +kernel) (pa_cons (pv 3) pa_nil)) (fun _ _ => rfl)) (pv 1) (fun _ _ => rfl)))))
      (pss_one (ps_ret (pv 1))), ?_⟩
    obtain ⟨t0, t1, t2, hP, hR⟩ := hN.rows
    refine ⟨.str (S u), rfl, S u, rfl, fun i m σ H3 => ∃ y3, σ = [some (.ref p), some (.int (N.lead x (u.take i) : Int)), some (.str (S u)), y3] ∧ i + m = u.length ∧ N.lead x (u.take i) < n ∧ H3 = H, ⟨u.length, none, rfl, by omega, hx, rfl⟩, ?_⟩
    rintro i m σ H3 ⟨y3, rfl, em, lt, rfl⟩
    by_cases hi : i < u.length
    · refine .inr ⟨hi, fun σ' H' => ∃ y3, σ' = [some (.ref p), some (.int (N.lead x (u.take (i + 1)) : Int)), some (.str (S u)), y3] ∧ N.lead x (u.take (i + 1)) < n ∧ H' = H3, ?_, ?_⟩
      · rintro σ' H' ⟨z2, e, e2, e3⟩
        exact ⟨m - 1, by omega, z2, e, by omega, e2, e3⟩
      · rintro v H' ⟨rfl, c, hc, rfl⟩
        have e : u[i]? = some c := by
          have e0 : (S u).cps[i]? = u[i]? := List.getElem?_toArray
          rw [← e0]
          exact hc
        have hsg : Sg c := hw c (List.mem_of_getElem? e)
        have et : N.lead x (u.take (i + 1)) = N.stp (N.lead x (u.take i)) c := by
          unfold Net.lead
          rw [List.take_add_one, e, List.foldl_append]
          rfl
        obtain ⟨g1, g2⟩ := hO.get lt c
        obtain ⟨t, ht, hs⟩ := hR c hsg
        rw [et]
        refine ⟨.ref p, rfl, .str (S [c]), rfl, S [c], _, rfl, digit hsg, by show 1 ≤ 640; decide, p, _, _, .ref t, rfl, rfl, hP, atI_nat ht, .int (N.lead x (u.take i) : Int), rfl, t, _, _, .int (N.stp (N.lead x (u.take i)) c : Int), rfl, rfl, hs, atI_nat (vi_get g1), some (.str (S [c])), rfl, g2, rfl⟩
    · refine .inl ⟨by show u.length ≤ i; omega, ?_⟩
      rw [List.take_of_length_le (by omega)]
      exact ⟨_, rfl, q⟩
/-! ### _law_same_lead -/
end
end K4

namespace K4
open PySem PySem.Spec PyProof.Rows L2 Nr Nw
/-- a promise where no repr is under way -/
def OkG (P : Program) (w : World) (K : PySem.W.Frag) (mg : Str → Option Value) (base : Heap) (k : Nat) (x : String) (ps : List Str) (sp : Sp) : Prop :=
  ∃ (f : Addr) (fd : FuncData), mg x = some (.ref f) ∧ PySem.W.keepIn K (.ref f) = true ∧ Binds K fd ps [] ∧ FnG P w K mg base CX0 k f fd ps sp
theorem pe_callOG {X : Cx} {k j : Nat} {x : String} {ps : List Str} {sp : Sp} {p pos : Pos} {e : Expr} {es : List Expr} {t : TA} (O : OkG X.prog X.w X.K X.mg X.base k x ps sp) (hA : X.A.guards = some []) (hr : Room j X.A) (hkj : k ≤ j) (hg : Gl X x) (ha : PA X (e :: es) t)
    (hdb : ((x : Str) == ("__debug__" : Str)) = false := by decide) (he : starEach (e :: es) X.env = (false, eval e X.env) :: starEach es X.env := by rfl) (hpl : (backTo pos (starEach es X.env)).any (·.1) = false := by rfl) :
    PE X (.Call (.Name x p) (e :: es) [] pos) (fun σ H Q => t σ H fun vs H1 => sp vs H1 Q E0) := by
  obtain ⟨f, fd, h1, h2, h3, h4⟩ := O
  exact pe_callG h4 hA (hr.mono hkj) hg h1 h2 h3 pass0 ha hdb he hpl
section
variable {P : Program} {w : World} {K : PySem.W.Frag} {mg : Str → Option Value} {base : Heap}

/-! ### _law_like -/
def Shows (d : PyData) : Prop := d.showable = true ∧ d.hasDict = false ∧ d.depth ≤ 60 ∧ d.shown.length ≤ sizeLine
def spLike (K : PySem.W.Frag) : Sp := fun vs H Q _ => ∃ (a b : Addr) (d : PyData), vs = [.ref a, .ref b] ∧ Dp K H (.ref a) d ∧ Dp K H (.ref b) d ∧ Shows d ∧ Q (.bl true) H
theorem ok_like (T : Txt w K mg) : OkG P w K mg base 1 "_law_like" ["got", "due"] (spLike K) := by
  obtain ⟨f, fd, h1, F, h3⟩ := T.fLawLike
  refine ⟨f, fd, h1, F.kp, h3, ?_⟩
  refine Nr.Fun.okG F scLawLike (fun vs H Q E h => ?_) (fun cdv A outer s H vs Q E hg hr h => ?_)
  · obtain ⟨a, b, d, rfl, _⟩ := h
    rfl
  · obtain ⟨a, b, d, rfl, da, db, sh, q⟩ := h
    refine ⟨_, pss_one (ps_ret (pe_cmpR op_eq (pe_callB (call_reprD hg hr.units) (by rfl) T.nrepr (by decide +kernel) (pa_cons (pv 0) pa_nil)) (pe_callB (call_reprD hg hr.units) (by rfl) T.nrepr (by decide +kernel) (pa_cons (pv 1) pa_nil)) (nomark _))), ?_⟩
    refine ⟨.ref a, rfl, a, d, rfl, da, sh, .ref b, rfl, b, d, rfl, db, sh, rfl, ?_⟩
    rw [decide_eq_true rfl]
    exact q

/-! ### _law_begun -/
theorem merge_m (lc lg : Addr) : mergeK [] ([(Sum.inr "cells", V.ref lc), (Sum.inr "great", V.ref lg), (Sum.inr "spot", V.int 0)] : List (Key × V)) = mD lc lg 0 := by
  have p1 : putK ([] : List (Key × V)) (.inr "cells") (.ref lc) = [(.inr "cells", .ref lc)] := rfl
  have p2 : putK ([(Sum.inr "cells", V.ref lc)] : List (Key × V)) (.inr "great") (.ref lg) = [(.inr "cells", .ref lc), (.inr "great", .ref lg)] := by
    unfold putK
    rw [if_neg (by rw [List.any_cons, List.any_nil, decide_eq_false (inr_ne k_cg)]; decide)]
    rfl
  have p3 : putK ([(Sum.inr "cells", V.ref lc), (Sum.inr "great", V.ref lg)] : List (Key × V)) (.inr "spot") (.int 0) = mD lc lg 0 := by
    unfold putK
    rw [if_neg (by rw [List.any_cons, List.any_cons, List.any_nil, decide_eq_false (inr_ne k_cs), decide_eq_false (inr_ne k_gs)]; decide)]
    rfl
  unfold mergeK
  rw [List.foldl_cons, List.foldl_cons, List.foldl_cons, List.foldl_nil]
  show putK (putK (putK ([] : List (Key × V)) (Sum.inr "cells" : Key) (V.ref lc)) (Sum.inr "great" : Key) (V.ref lg)) (Sum.inr "spot" : Key) (V.int 0) = _
  rw [p1, p2, p3]
def spBegun (K : PySem.W.Frag) : Sp := fun vs H Q _ => ∃ (a : Addr) (ns : List Int), vs = [.ref a] ∧ SqL K H a (ns.map V.int) ∧ ns.length ≤ 63 ∧ ∀ (m lc lg : Addr) (H' : Hp), Same H H' → H m = none → H lc = none → H lg = none → MS H' m lc lg 0 → Q (.ref m) H'
theorem ok_begun (T : Txt w K mg) : Ok P w K mg base 2 "_law_begun" ["script"] (spBegun K) := by
  refine ok_of T.fLawBegun fun f fd F => ?_
  refine F.ok scLawBegun (fun vs H Q E h => ?_) (fun cdv A outer s H vs Q E hr h => ?_)
  · obtain ⟨a, ns, rfl, _⟩ := h
    rfl
  · obtain ⟨a, ns, rfl, hS, hz, q⟩ := h
    refine ⟨_, pss_cons (ps_set (i := 1) scLawBegun.nd rfl (.inl rfl) (pe_disp (pps_cons pe_str (pe_callO (ok_folded T) hr (by decide) (by rfl) (pa_cons (pv 0) pa_nil)) (pps_cons pe_str (pe_lst pa_nil) (pps_cons pe_str pe_int pps_nil))) (by rfl) (by rfl) (fun z => by cases z) (by decide)))
      (pss_cons (ps_dput (hu_of hr) (pv 1) pe_str (pe_lc (own := [("cell", 2)]) (g := gName 2) (tt := tYes) (by rfl) scLawBegun.nd (pi_list (pv 0)) (blkOk_by (N := ["script", "m", "cell"]) (sc := defScope sLawBegun) (by decide +kernel)) (fun _ _ _ _ _ => pg_name (i := 2) scLawBegun.nd rfl (.inl rfl)) (fun _ _ _ _ _ => pts_nil)
        (fun _ _ _ _ _ => pe_ifExp (pt_cmpR op_ge (pv 2) (pe_op op_pow pe_int pe_int) (nomark _)) (pv 2) pe_int)) (by rfl))
      (pss_one (ps_ret (pv 1)))), ?_⟩
    intro m nm
    have s0 : Same H (upd H m (.dK [])) := same_new nm
    refine ⟨.ref a, rfl, a, ns, rfl, s0.seq hS, fun lc H1 s1 nlc hc => ⟨Nat.zero_le _, fun l0 nl0 => ?_⟩⟩
    have em1 : H1 m = some (.dK []) := s1 _ _ upd_same
    have ne0 : m ≠ l0 := ne_of_none em1 nl0
    refine ⟨by rw [upd_ne ne0]; exact em1, [(Sum.inr "cells", V.ref lc), (Sum.inr "great", V.ref l0), (Sum.inr "spot", V.int 0)], rfl, by show 3 ≤ 15; decide, ?_⟩
    rw [merge_m]
    obtain ⟨fs, ef, hf⟩ := hc
    have nmc : m ≠ lc := fun e => by
      rw [← e, upd_same] at nlc
      cases nlc
    have sH : Same H H1 := fun b x e => s1 b x (s0 b x e)
    have ncl : H lc = none := by
      have := nlc
      rw [upd_ne nmc.symm] at this
      exact this
    have nh0 : H l0 = none := by
      cases z : H l0 with
      | none => rfl
      | some o => 
        rw [sH _ _ z] at nl0
        cases nl0
    have s2 : Same H (upd (upd H1 l0 (.lst [])) m (.dK (mD lc l0 0))) := same_mut (same_mut sH nh0) nm
    have em2 : (upd (upd H1 l0 (.lst [])) m (.dK (mD lc l0 0))) m = some (.dK (mD lc l0 0)) := upd_same
    have elc : lc ≠ l0 := ne_of_none ef nl0
    have ec2 : (upd (upd H1 l0 (.lst [])) m (.dK (mD lc l0 0))) lc = some (.lst (fs.map V.int)) := by
      rw [upd_ne nmc.symm, upd_ne elc]
      exact ef
    generalize upd (upd H1 l0 (.lst [])) m (.dK (mD lc l0 0)) = H2 at s2 em2 ec2 ⊢
    refine ⟨.ref a, rfl, a, rfl, ⟨_, s2.seq hS⟩, fun D nD => ?_⟩
    have nD0 : H D = none := by
      cases z : H D with
      | none => rfl
      | some o => 
        rw [s2 _ _ z] at nD
        cases nD
    refine lc_list (K := K) (a := a) (xs := ns.map V.int) (fun i H' => Same H2 H' ∧ ∃ gs : List Int, gs.length = i ∧ H' D = some (.lst (gs.map V.int))) ⟨same_new nD, [], rfl, upd_same⟩ (fun i H' hi h => h.1.seq (s2.seq hS)) (fun i x H' hx h => ?_) (fun H' h => ?_)
    · obtain ⟨sm, gs, hl, eD⟩ := h
      have hlt : i < ns.length := by
        have := (List.getElem?_eq_some_iff.mp hx).1
        rw [List.length_map] at this
        exact this
      have ex : x = .int ns[i] := by
        rw [List.getElem?_map, List.getElem?_eq_getElem hlt] at hx
        exact (Option.some.inj hx).symm
      subst ex
      have put : ∀ y : Int, ∃ acc, H' D = some (.lst acc) ∧ acc.length < sizeLine ∧ (Same H2 (upd H' D (.lst (acc ++ [V.int y]))) ∧ ∃ gs : List Int, gs.length = i + 1 ∧ (upd H' D (.lst (acc ++ [V.int y]))) D = some (.lst (gs.map V.int))) := by
        intro y
        refine ⟨_, eD, ?_, same_mut sm nD, gs ++ [y], ?_, ?_⟩
        · rw [List.length_map, hl]
          exact Nat.lt_of_lt_of_le hlt (Nat.le_trans hz (by decide))
        · rw [List.length_append, hl]
          rfl
        · rw [upd_same, List.map_append]
          rfl
      refine ⟨rfl, yes (iteT ?_)⟩
      refine ⟨.int ns[i], rfl, 10, 18, rfl, rfl, ⟨by decide, by decide, by decide⟩, _, _, rfl, rfl, _, rfl, ?_⟩
      refine ite2 (fun _ => ⟨.int ns[i], rfl, put _⟩) (fun _ => put 0)
    · obtain ⟨sm, gs, hl, eD⟩ := h
      have em3 := sm _ _ em2
      have nmD : m ≠ D := ne_of_none em2 nD
      have ncD : lc ≠ D := ne_of_none ec2 nD
      refine ⟨.ref m, rfl, m, upd H' m (.dK (mD lc D 0)), rfl, .inl ⟨_, .inr "great", em3, rfl, by show 3 < sizeLine; decide, by rw [mD_putG]⟩, .ref m, rfl, ?_⟩
      refine q m lc D _ (same_mut (fun b x e => sm b x (s2 b x e)) nm) nm ncl nD0 ⟨ncD, nmD, nmc, ⟨0, Nat.le_refl _, upd_same⟩, ⟨fs, ?_, hf⟩, gs, ?_, ?_⟩
      · rw [upd_ne nmc.symm]
        exact sm _ _ ec2
      · rw [hl, List.length_map]
        exact hz
      · rw [upd_ne nmD.symm]
        exact eD

/-! ### _law_word -/
theorem none_of {H H' : Hp} {p : Addr} (s : Same H H') (h : H' p = none) : H p = none := by
  cases z : H p with
  | none => rfl
  | some o =>
    rw [s _ _ z] at h
    cases h
theorem ones_sum : ∀ ws : List Nat, ((ws.map fun c => S [c]).map (·.length)).sum = ws.length
  | [] => rfl
  | c :: r => by
    rw [List.map_cons, List.map_cons, List.sum_cons, ones_sum r, List.length_cons]
    show 1 + r.length = _
    omega
theorem join_ones (ws : List Nat) : Txt.join (S []) (ws.map fun c => S [c]) = S ws := by
  have e : (ws.map fun c => S [c]) = (ws.map fun c => [c]).map S := by
    rw [List.map_map]
    rfl
  rw [e, join_flat]
  refine congrArg S ?_
  clear e
  induction ws with
  | nil => rfl
  | cons c r ih => rw [List.map_cons, List.flatten_cons, ih]; rfl
def spWord : Sp := fun vs H Q _ => ∃ (m lc lg : Addr) (k most : Nat), vs = [.ref m, .int (most : Int)] ∧ MS H m lc lg k ∧ most ≤ 1000 ∧ k + most < 800000 ∧
  ∀ (u : List Nat) (H' : Hp), Wd u → u.length ≤ most → MS H' m lc lg (k + 1 + most) → Off m lg H H' → Q (.str (S u)) H'
theorem ok_word (T : Txt w K mg) : Ok P w K mg base 3 "_law_word" ["m", "most"] spWord := by
  refine ok_of T.fLawWord fun f fd F => ?_
  refine F.ok scLawWord (fun vs H Q E h => ?_) (fun cdv A outer s H vs Q E hr h => ?_)
  · obtain ⟨m, lc, lg, k, most, rfl, _⟩ := h
    rfl
  · obtain ⟨m, lc, lg, k, most, rfl, hM, hm, hk, q⟩ := h
    refine ⟨_, pss_one (ps_ret (pe_join pe_str (pe_lc (own := [("turn", 2)]) (g := gName 2) (tt := tYes) (by rfl) scLawWord.nd (pi_range1 (by rfl) T.nrange (pa_cons (pe_callO (ok_draw T) hr (by decide) (by rfl) (pa_cons (pv 0) (pa_cons (pe_op op_add (pv 1) pe_int) pa_nil))) pa_nil))
      (blkOk_by (N := ["m", "most", "turn"]) (sc := defScope sLawWord) (by decide +kernel)) (fun _ _ _ _ _ => pg_name (i := 2) scLawWord.nd rfl (.inl rfl)) (fun _ _ _ _ _ => pts_nil)
      (fun _ _ _ _ _ => pe_ix ix_str pe_str (pe_callO (ok_draw T) hr (by decide) (by rfl) (pa_cons (pv 0) (pa_cons pe_int pa_nil))) (fun _ _ => rfl))))), ?_⟩
    refine ⟨⟨_, rfl⟩, .ref m, rfl, .int (most : Int), rfl, _, _, rfl, rfl, m, lc, lg, k, _, rfl, ⟨by omega, by omega⟩, hM, by omega, fun d H1 hd M1 o1 => ?_⟩
    refine ⟨(d : Int), rfl, by omega, by omega, fun D nD => ?_⟩
    obtain ⟨n1, n2, n3⟩ := M1.new nD
    have dn : ((d : Nat) : Int).toNat = d := Int.toNat_natCast d
    rw [dn]
    refine lc_range (lo := 0) (n := d) (fun i H' => ∃ ws : List Nat, H' D = some (.lst ((ws.map fun c => S [c]).map V.str)) ∧ ws.length = i ∧ Wd ws ∧ MS H' m lc lg (k + 1 + i) ∧ Off m lg H1 H') ⟨[], upd_same, rfl, (fun c hc => by cases hc), M1.mut n1 n2 n3, Off.same (same_new nD)⟩ (fun i H' hi h => ?_) (fun H' h => ?_)
    · obtain ⟨ws, eD, hl, hw, M, o⟩ := h
      refine ⟨rfl, yes (iteT ?_)⟩
      refine ⟨.ref m, rfl, m, lc, lg, k + 1 + i, 3, rfl, ⟨by decide, by decide⟩, M, by omega, fun c H2 hc M2 o2 => ?_⟩
      have hc3 : c < 3 := by omega
      have sgn : ([48, 49, 50] : List Nat)[c]? = some (c + 48) := by
        rcases c with _ | _ | _ | c
        · rfl
        · rfl
        · rfl
        · omega
      have wsg : Sg (c + 48) := by
        rcases c with _ | _ | _ | c
        · exact .inl rfl
        · exact .inr (.inl rfl)
        · exact .inr (.inr rfl)
        · omega
      refine ⟨S [48, 49, 50], _, c + 48, rfl, rfl, by show 3 ≤ sizeLine; decide, at_str sgn, _, o2 D _ n1 n3 eD, ?_, ws ++ [c + 48], ?_, ?_, ?_, M2.mut n1 n2 n3, ?_⟩
      · rw [List.length_map, List.length_map, hl]
        exact Nat.lt_of_lt_of_le hi (Nat.le_trans (show d ≤ 1001 by omega) (by decide))
      · rw [upd_same, List.map_append, List.map_append]
        rfl
      · rw [List.length_append, hl]
        rfl
      · exact wd_append.mpr ⟨hw, fun z hz => by rw [List.mem_singleton.mp hz]; exact wsg⟩
      · intro a ob h1 h2 e
        by_cases ea : a = D
        · rw [ea, nD] at e
          cases e
        · rw [upd_ne ea]
          exact o2 a ob h1 h2 (o a ob h1 h2 e)
    · obtain ⟨ws, eD, hl, hw, M, o⟩ := h
      refine ⟨_, D, ws.map (fun c => S [c]), rfl, rfl, .inl (.inl (.inl eD)), ?_, ?_⟩
      · rw [ones_sum, hl, List.length_map, hl]
        show d + d * (S ([] : List Nat)).length ≤ _
        have e0 : (S ([] : List Nat)).length = 0 := rfl
        rw [e0]
        omega
      · show Q (.str (Txt.join (S []) (ws.map fun c => S [c]))) H'
        rw [join_ones]
        exact q ws H' hw (by omega) (M.le (by omega)) (o1.to o)

/-! ### _law_order -/
def spOrder : Sp := fun vs H Q _ => ∃ (m lc lg : Addr) (k many : Nat), vs = [.ref m, .int (many : Int)] ∧ MS H m lc lg k ∧ many ≤ 1000 ∧ k + many < 800000 ∧
  ∀ (os : List Nat) (p : Addr) (H' : Hp), os.Perm (List.range many) → H p = none → H' p = some (.lst (Vi os)) → MS H' m lc lg (k + many) → Off m lg H H' → Q (.ref p) H'
theorem vi_erase (ls : List Nat) (d : Nat) : (Vi ls).eraseIdx d = Vi (ls.eraseIdx d) := by
  unfold Vi
  induction ls generalizing d with
  | nil => rfl
  | cons x r ih =>
    cases d with
    | zero => rfl
    | succ d => 
      rw [List.map_cons, List.eraseIdx_cons_succ, List.eraseIdx_cons_succ, List.map_cons, ih]
theorem erase_perm : ∀ (ls : List Nat) (d x : Nat), ls[d]? = some x → (x :: ls.eraseIdx d).Perm ls
  | [], d, x, h => by cases h
  | y :: r, 0, x, h => by
    cases h
    exact .refl _
  | y :: r, d + 1, x, h => by
    rw [List.eraseIdx_cons_succ]
    exact (List.Perm.swap y x _).trans ((erase_perm r d x h).cons y)
theorem ok_order (T : Txt w K mg) : Ok P w K mg base 3 "_law_order" ["m", "many"] spOrder := by
  refine ok_of T.fLawOrder fun f fd F => ?_
  refine F.ok scLawOrder (fun vs H Q E h => ?_) (fun cdv A outer s H vs Q E hr h => ?_)
  · obtain ⟨m, lc, lg, k, many, rfl, _⟩ := h
    rfl
  · obtain ⟨m, lc, lg, k, many, rfl, hM, hm, hk, q⟩ := h
    refine ⟨_, pss_cons (ps_set (i := 2) scLawOrder.nd rfl (.inr rfl) (pe_listRg (by rfl) (by rfl) T.nlist (prg_1 (by rfl) T.nrange (pv 1))))
      (pss_one (ps_ret (pe_lc (own := [("turn", 3)]) (g := gName 3) (tt := tYes) (te := tBM K "list" rPopAt (tVar 2) (tCons (tCall spDraw [] E0 (tCons (tVar 0) (tCons (tCB (Evl.rLenS K) (tCons (tVar 2) tNil)) tNil))) tNil)) (by rfl) scLawOrder.nd (pi_range1 (by rfl) T.nrange (pa_cons (pv 1) pa_nil)) (blkOk_by (N := ["m", "many", "left", "turn"]) (sc := defScope sLawOrder) (by decide +kernel))
        (fun _ _ _ _ _ => pg_name (i := 3) scLawOrder.nd rfl (.inl rfl)) (fun _ _ _ _ _ => pts_nil)
        (fun _ _ _ _ _ => pe_bm PySem.F.plainAttrs_list PySem.F.slot_list_pop PySem.F.type_list_pop mt_popAt (pv 2) (pa_cons (pe_callO (ok_draw T) hr (by decide) (by rfl) (pa_cons (pv 0) (pa_cons (pe_callB call_len_seq (by rfl) T.nlen PySem.boot_len (pa_cons (pv 2) pa_nil)) pa_nil))) pa_nil))))), ?_⟩
    refine ⟨.int (many : Int), rfl, (many : Int), rfl, RgOk.of_le (by omega) (by omega) (by omega) (by omega), fun l nl => ?_⟩
    have er : rgV 0 (many : Int) = Vi (List.range many) := by
      unfold rgV Vi
      have e0 : ((many : Int) - 0).toNat = many := by omega
      rw [e0]
      refine List.map_congr_left fun x _ => ?_
      rw [Int.zero_add]
    rw [er]
    obtain ⟨a1, a2, a3⟩ := hM.new nl
    refine ⟨.int (many : Int), rfl, (many : Int), rfl, by omega, by omega, fun D nD => ?_⟩
    have ne : l ≠ D := fun e => by
      rw [← e, upd_same] at nD
      cases nD
    have nD0 : H D = none := none_of (same_new nl) nD
    obtain ⟨n1, n2, n3⟩ := hM.new nD0
    have dn : ((many : Nat) : Int).toNat = many := Int.toNat_natCast many
    rw [dn]
    refine lc_range (lo := 0) (n := many) (fun i H' => ∃ os ls : List Nat, os.length = i ∧ (os ++ ls).Perm (List.range many) ∧ H' D = some (.lst (Vi os)) ∧ H' l = some (.lst (Vi ls)) ∧ MS H' m lc lg (k + i) ∧ Off m lg H H')
      ⟨[], List.range many, rfl, .refl _, upd_same, by rw [upd_ne ne]; exact upd_same, (hM.mut a1 a2 a3).mut n1 n2 n3, Off.same (same_mut (same_new nl) nD0)⟩ (fun i H' hi h => ?_) (fun H' h => ?_)
    · obtain ⟨os, ls, hl, hp, eD, el, M, o⟩ := h
      have hlen : ls.length = many - i := by
        have := hp.length_eq
        rw [List.length_append, List.length_range, hl] at this
        omega
      refine ⟨rfl, yes (iteT ?_)⟩
      refine ⟨.ref l, rfl, .inl ⟨rfl, _, .inl (.inl el)⟩, .ref m, rfl, .ref l, rfl, l, _, rfl, .inl (.inl (.inl el)), m, lc, lg, k + i, _, rfl, ⟨by rw [vi_len]; omega, by rw [vi_len]; omega⟩, M, by omega, fun d H2 hd M2 o2 => ?_⟩
      rw [vi_len] at hd
      have hd' : d < ls.length := by omega
      have el2 := o2 l _ a1 a3 el
      have eD2 := o2 D _ n1 n3 eD
      have gx : ls[d]? = some ls[d] := List.getElem?_eq_getElem hd'
      have si : seqIndex? (d : Int) (Vi ls).length = some d := (ixN_seq (ixN_nat (by rw [vi_len]; exact hd'))).1
      refine ⟨l, Vi ls, (d : Int), d, .int (ls[d] : Int), rfl, rfl, el2, by omega, by omega, si, vi_get gx, ?_⟩
      refine ⟨Vi os, by rw [upd_ne ne.symm]; exact eD2, ?_, os ++ [ls[d]], ls.eraseIdx d, ?_, ?_, ?_, ?_, (M2.mut a1 a2 a3).mut n1 n2 n3, ?_⟩
      · rw [vi_len, hl]
        exact Nat.lt_of_lt_of_le hi (Nat.le_trans hm (by decide))
      · rw [List.length_append, hl]
        rfl
      · rw [List.append_assoc]
        exact ((erase_perm ls d _ gx).append_left os).trans hp
      · rw [upd_same]
        unfold Vi
        rw [List.map_append]
        rfl
      · rw [upd_ne ne, upd_same, vi_erase]
      · intro a ob h1 h2 e
        have b1 : a ≠ D := fun z => by rw [z, nD0] at e; cases e
        have b2 : a ≠ l := fun z => by rw [z, nl] at e; cases e
        rw [upd_ne b1, upd_ne b2]
        exact o2 a ob h1 h2 (o a ob h1 h2 e)
    · obtain ⟨os, ls, hl, hp, eD, el, M, o⟩ := h
      have l0 : ls = [] := by
        have := hp.length_eq
        rw [List.length_append, List.length_range, hl] at this
        exact List.length_eq_zero_iff.mp (by omega)
      rw [l0, List.append_nil] at hp
      exact q os D H' hp nD0 eD M o
end
end K4

namespace K4
open PySem PySem.Spec PyProof.Rows L2 Nr Nw
/-- the net with its flags told in an order -/
def newRow (N : Net) (os : List Nat) (s : Nat) : List Nat := os.map fun x => os.idxOf (N.stp x s)
def Net.ren (N : Net) (os : List Nat) : Net := ⟨newRow N os 48, newRow N os 49, newRow N os 50⟩
theorem ren_row {N : Net} {os : List Nat} {s : Nat} (h : Sg s) : (N.ren os).row s = newRow N os s := by
  rcases h with e | e | e <;> subst e <;> rfl
theorem perm_mem {os : List Nat} {n : Nat} (h : os.Perm (List.range n)) (x : Nat) : x ∈ os ↔ x < n := by
  rw [h.mem_iff, List.mem_range]
theorem idx_get {os : List Nat} {x : Nat} (h : x ∈ os) : os[os.idxOf x]? = some x := by
  have := List.idxOf_lt_length_of_mem h
  rw [List.getElem?_eq_getElem this, List.getElem_idxOf this]
theorem ren_of {N : Net} {os : List Nat} {n : Nat} (hN : N.Of n) (h : os.Perm (List.range n)) : (N.ren os).Of n := by
  have hl : os.length = n := by rw [h.length_eq, List.length_range]
  have key : ∀ s, (newRow N os s).length = n ∧ ∀ x ∈ newRow N os s, x < n := by
    intro s
    refine ⟨by unfold newRow; rw [List.length_map]; exact hl, fun x hx => ?_⟩
    unfold newRow at hx
    obtain ⟨y, hy, rfl⟩ := List.mem_map.mp hx
    rw [← hl]
    exact List.idxOf_lt_length_of_mem ((perm_mem h _).mpr (hN.get ((perm_mem h y).mp hy) s).2)
  intro s
  unfold Net.row
  split
  · exact key 48
  · split
    · exact key 49
    · exact key 50
theorem ren_stp {N : Net} {os : List Nat} {n : Nat} (hN : N.Of n) (h : os.Perm (List.range n)) {i x s : Nat} (hx : os[i]? = some x) (hs : Sg s) : (N.ren os).stp i s = os.idxOf (N.stp x s) := by
  unfold Net.stp
  rw [ren_row hs]
  unfold newRow
  rw [List.getElem?_map, hx]
  rfl
/-- what the changes do, they do in every order of the flags -/
theorem ren_acts {N : Net} {os : List Nat} {n : Nat} (hN : N.Of n) (h : os.Perm (List.range n)) (A : Nw.Acts N.stp (· < n)) : Nw.Acts (N.ren os).stp (· < n) := by
  have hl : os.length = n := by rw [h.length_eq, List.length_range]
  have nd : os.Nodup := h.nodup_iff.mpr List.nodup_range
  have at_ : ∀ {i : Nat}, i < n → ∃ x, os[i]? = some x ∧ x < n := by
    intro i hi
    have h1 : i < os.length := by omega
    exact ⟨os[i], List.getElem?_eq_getElem h1, (perm_mem h _).mp (List.getElem_mem h1)⟩
  have idx : ∀ {i x : Nat}, os[i]? = some x → os.idxOf x = i := by
    intro i x e
    obtain ⟨h1, h2⟩ := List.getElem?_eq_some_iff.mp e
    rw [← h2]
    exact List.Nodup.idxOf_getElem nd i h1
  have st := fun {i x s : Nat} (hx : os[i]? = some x) (hs : Sg s) => ren_stp (s := s) hN h hx hs
  have nx : ∀ {i x s : Nat}, os[i]? = some x → x < n → Sg s → os[(N.ren os).stp i s]? = some (N.stp x s) ∧ N.stp x s < n := by
    intro i x s e hx hs
    rw [st e hs]
    have lt := (hN.get hx s).2
    exact ⟨idx_get ((perm_mem h _).mpr lt), lt⟩
  refine ⟨fun i s hi hs => ((ren_of hN h).get hi s).2, fun i s hi hs => ?_, fun i hi => ?_⟩
  · obtain ⟨x, e, hx⟩ := at_ hi
    obtain ⟨e1, l1⟩ := nx e hx hs
    rw [st e1 hs, A.back x s hx hs, idx e]
  · obtain ⟨x, e, hx⟩ := at_ hi
    have h0 : Sg 48 := .inl rfl
    have h2 : Sg 50 := .inr (.inr rfl)
    obtain ⟨e1, l1⟩ := nx e hx h0
    obtain ⟨e2, l2⟩ := nx e hx h2
    rw [st e1 h2, st e2 h0, A.comm x hx]
theorem sqt {K : PySem.W.Frag} {H H' : Hp} {a : Addr} {xs : List V} (e : Same H H') (h : SqT K H a xs) : SqT K H' a xs := by
  rcases h with h | h
  · exact .inl (rd_keep (fun o => e a o) h)
  · exact .inr h
section
variable {P : Program} {w : World} {K : PySem.W.Frag} {mg : Str → Option Value} {base : Heap}
/-- the names of the outer comprehension -/
def scCh : Scope := { kind := .function, names := [(".0", .local), ("change", .cell), ("tuple", .globalImplicit), ("order", .free), ("spots", .free)], isGenerator := false, isCoroutine := false }
def rTupOf (K : PySem.W.Frag) : List V → Hp → VK → Prop := fun xs H Q => ∃ p ys, xs = [.ref p] ∧ ((SqL K H p ys ∧ ∀ l, H l = none → Q (.ref l) (upd H l (.tup ys))) ∨ (SqT K H p ys ∧ Q (.ref p) H))
def spNumbered (K : PySem.W.Frag) : Sp := fun vs H Q _ => ∃ (p q : Addr) (N : Net) (n : Nat) (os : List Nat), vs = [.ref p, .ref q] ∧ NetAt K H p N ∧ N.Of n ∧ SqL K H q (Vi os) ∧ os.Perm (List.range n) ∧ n ≤ 1000 ∧
  ∀ (p' : Addr) (H' : Hp), Same H H' → NetAt K H' p' (N.ren os) → Q (.ref p') H'
theorem ok_numbered (T : Txt w K mg) : Ok P w K mg base 1 "_law_numbered" ["net", "order"] (spNumbered K) := by
  refine ok_of T.fLawNumbered fun f fd F => ?_
  refine F.ok scLawNumbered (fun vs H Q E h => ?_) (fun cdv A outer s H vs Q E hr h => ?_)
  · obtain ⟨p, q, N, n, os, rfl, _⟩ := h
    rfl
  · obtain ⟨p, q, N, n, os, rfl, hN, hO, hS, hP, hn, q'⟩ := h
    have hu := hu_of hr
    refine ⟨_, pss_cons (ps_set (i := 2) scLawNumbered.nd rfl (.inr rfl) pe_dnewK)
      (pss_cons (ps_for PassesOwn.never rfl (pi_enum (by rfl) T.nenumerate (pa_cons (pv 1) pa_nil)) (pg_tup rfl (pgs_cons (pg_name (i := 3) scLawNumbered.nd rfl (.inl rfl)) (pgs_cons (pg_name (i := 4) scLawNumbered.nd rfl (.inl rfl)) pgs_nil)))
        (pss_one (ps_dput hu (pv 2) (pv 4) (pv 3) rfl)))
      (pss_one (ps_ret (pe_callTy call_tuple_of (by rfl) T.ntuple (by decide +kernel) (pa_cons
        (pe_lc (own := [("change", 5)]) (g := gName 5) (tt := tYes) (te := tCB (rTupOf K) (tCons (tLc (iList K (tVar 1)) (gName 4) tYes (tDGet (tVar 2) (tOp (rIxT K) (tVar 5) (tVar 4))) [4]) tNil)) (by rfl) scLawNumbered.nd (pi_tup (pv 0)) (blkOk_by (N := ["net", "order", "spots", "n", "flag", "change"]) (sc := defScope sLawNumbered) (by decide +kernel))
          (fun _ _ _ _ _ => pg_name (i := 5) scLawNumbered.nd rfl (.inr rfl)) (fun _ _ _ _ _ => pts_nil)
          (fun _ _ _ _ _ => pe_callTy call_tuple_of (by rfl) T.ntuple (by decide +kernel) (pa_cons
            (pe_lc (own := [("flag", 4)]) (g := gName 4) (tt := tYes) (te := tDGet (tVar 2) (tOp (rIxT K) (tVar 5) (tVar 4))) (by rfl) scLawNumbered.nd (pi_list (pv 1)) (blkOk_by (by with_unfolding_all rfl))
              (fun _ _ _ _ _ => pg_name (i := 4) scLawNumbered.nd rfl (.inl rfl)) (fun _ _ _ _ _ => pts_nil) (fun _ _ _ _ _ => pe_dget hu (pv 2) (pe_ix ix_tup (pv 5) (pv 4) (fun _ _ => rfl)) (fun _ _ => rfl))) pa_nil))) pa_nil))))), ?_⟩
    intro sp nsp
    have s0 : Same H (upd H sp (.dK [])) := same_new nsp
    -- for n, flag in enumerate(order): spots[flag] = n
    refine ⟨.ref q, rfl, q, Vi os, rfl, s0.seq hS, ?_⟩
    have hl : os.length = n := by rw [hP.length_eq, List.length_range]
    have ndp : os.Nodup := hP.nodup_iff.mpr List.nodup_range
    refine ⟨fun i m σ H3 => ∃ y3 y4 y5, σ = [some (.ref p), some (.ref q), some (.ref sp), y3, y4, y5] ∧ i + m = n ∧ Same H H3 ∧ ∃ kvs : List (Key × V), H3 sp = some (.dK kvs) ∧ kvs.length ≤ i ∧ ∀ j x, j < i → os[j]? = some x → valV kvs (.inl (x : Int)) = some (.int (j : Int)),
      ⟨n, none, none, none, rfl, by omega, s0, [], upd_same, Nat.le_refl _, fun j x hj => absurd hj (Nat.not_lt_zero _)⟩, ?_⟩
    rintro i m σ H3 ⟨y3, y4, y5, rfl, em, sm, kvs, ek, kl, hk⟩
    have hQ : SqL K H3 q (Vi os) := sm.seq hS
    by_cases hi : i < n
    · have gi : os[i]? = some os[i] := List.getElem?_eq_getElem (by omega)
      generalize os[i] = x at gi
      refine .inr ⟨⟨_, _, hQ, vi_get gi⟩, fun σ' H' => ∃ y3 y4 y5, σ' = [some (.ref p), some (.ref q), some (.ref sp), y3, y4, y5] ∧ Same H H' ∧ ∃ kvs : List (Key × V), H' sp = some (.dK kvs) ∧ kvs.length ≤ i + 1 ∧ ∀ j x, j < i + 1 → os[j]? = some x → valV kvs (.inl (x : Int)) = some (.int (j : Int)), ?_, ?_⟩
      · rintro σ' H' ⟨z3, z4, z5, e, sm', r⟩
        exact ⟨m - 1, by omega, z3, z4, z5, e, by omega, sm', r⟩
      · rintro v H' ⟨Tp, xv, rfl, nT, rfl, fx⟩
        have ex : xv = .int (x : Int) := Option.some.inj ((fx _ hQ).symm.trans (vi_get gi))
        subst ex
        refine ⟨Tp, [.int (i : Nat), .int (x : Int)], rfl, .inl (.inl upd_same), rfl, _, [.int (x : Int)], rfl, _, [], rfl, rfl, ?_⟩
        have ne : sp ≠ Tp := ne_of_none ek nT
        have eT : (upd H3 Tp (.tup [.int (i : Nat), .int (x : Int)])) sp = some (.dK kvs) := by
          rw [upd_ne ne]
          exact ek
        refine ⟨.int (i : Nat), rfl, .ref sp, rfl, .int (x : Int), rfl, sp, _, rfl, .inl ⟨kvs, .inl (x : Int), eT, rfl, ?_, rfl⟩, ?_⟩
        · exact Nat.lt_of_le_of_lt kl (Nat.lt_of_lt_of_le (show i < 1001 by omega) (by decide))
        · refine ⟨_, _, _, rfl, same_mut (Same.to sm (same_new nT)) nsp, _, upd_same, ?_, ?_⟩
          · have := length_putK kvs (.inl (x : Int)) (.int (i : Int))
            omega
          · intro j z hj hz
            rw [valV_put]
            by_cases ez : z = x
            · subst ez
              rw [if_pos rfl]
              have ji : j = i := by
                obtain ⟨h1, h2⟩ := List.getElem?_eq_some_iff.mp hz
                obtain ⟨h3, h4⟩ := List.getElem?_eq_some_iff.mp gi
                have a1 := List.Nodup.idxOf_getElem ndp j h1
                have a2 := List.Nodup.idxOf_getElem ndp i h3
                rw [h2] at a1
                rw [h4] at a2
                exact a1.symm.trans a2
              rw [ji]
            · have nz : ¬ ((Sum.inl (z : Int) : Key) = .inl (x : Int)) := fun e => ez (by have := Sum.inl.inj e; omega)
              rw [if_neg nz]
              refine hk j z ?_ hz
              rcases Nat.lt_succ_iff_lt_or_eq.mp hj with h | h
              · exact h
              · rw [h, gi] at hz
                exact absurd (Option.some.inj hz).symm ez
    · refine .inl ⟨⟨_, hQ, by rw [vi_len]; omega⟩, ?_⟩
      have look : ∀ x, x < n → valV kvs (.inl (x : Int)) = some (.int (os.idxOf x : Int)) := fun x hx => hk _ x (by
        have := List.idxOf_lt_length_of_mem ((perm_mem hP x).mpr hx)
        omega) (idx_get ((perm_mem hP x).mpr hx))
      obtain ⟨t0, t1, t2, hT, hR⟩ := hN.rows
      have hT3 : SqT K H3 p [.ref t0, .ref t1, .ref t2] := sqt sm hT
      refine ⟨.ref p, rfl, p, rfl, ⟨_, hT3⟩, fun D nD => ?_⟩
      have nD0 : H D = none := none_of sm nD
      refine lc_tup (K := K) (a := p) (xs := [.ref t0, .ref t1, .ref t2]) (fun i H' => Same H3 H' ∧ ∃ ts : List Addr, ts.length = i ∧ H' D = some (.lst (ts.map V.ref)) ∧ ∀ j t, ts[j]? = some t → SqT K H' t (Vi (newRow N os (j + 48)))) ⟨same_new nD, [], rfl, upd_same, fun j t h => by cases h⟩ (fun i H' hi h => sqt h.1 hT3) (fun i x H' hx h => ?_) (fun H' h => ?_)
      · obtain ⟨s3, ts, hts, eD, hrow⟩ := h
        have i3 : i < 3 := (List.getElem?_eq_some_iff.mp hx).1
        have hsg : Sg (i + 48) := by
          rcases i with _ | _ | _ | i
          · exact .inl rfl
          · exact .inr (.inl rfl)
          · exact .inr (.inr rfl)
          · omega
        obtain ⟨t, ht, hrt⟩ := hR (i + 48) hsg
        rw [Nat.add_sub_cancel, hx] at ht
        have ex := Option.some.inj ht
        subst ex
        have hrt3 : SqT K H' t (Vi (N.row (i + 48))) := sqt s3 (sqt sm hrt)
        refine ⟨rfl, yes (iteT ?_)⟩
        refine ⟨.ref q, rfl, q, rfl, ⟨_, s3.seq hQ⟩, fun D2 nD2 => ?_⟩
        refine lc_list (K := K) (a := q) (xs := Vi os) (fun j H'' => Same H' H'' ∧ H'' D2 = some (.lst (Vi ((newRow N os (i + 48)).take j)))) ⟨same_new nD2, upd_same⟩ (fun j H'' hj h => h.1.seq (s3.seq hQ)) (fun j y H'' hy h => ?_) (fun H'' h => ?_)
        · obtain ⟨s4, e2⟩ := h
          obtain ⟨x, gx, rfl⟩ : ∃ x : Nat, os[j]? = some x ∧ y = .int (x : Int) := by
            unfold Vi at hy
            rw [List.getElem?_map] at hy
            cases e : os[j]? with
            | none => rw [e] at hy; cases hy
            | some c => rw [e] at hy; exact ⟨c, rfl, (Option.some.inj hy).symm⟩
          have xlt : x < n := (perm_mem hP x).mp (List.mem_of_getElem? gx)
          obtain ⟨g1, g2⟩ := hO.get xlt (i + 48)
          refine ⟨rfl, yes (iteT ?_)⟩
          refine ⟨.ref sp, rfl, .ref t, rfl, .int (x : Int), rfl, t, _, _, .int (N.stp x (i + 48) : Int), rfl, rfl, sqt s4 hrt3, atI_nat (vi_get g1), sp, .int (os.idxOf (N.stp x (i + 48)) : Int), rfl, .inl ⟨kvs, .inl (N.stp x (i + 48) : Int), .inl (s4 _ _ (s3 _ _ ek)), rfl, (look _ g2).symm⟩, ?_⟩
          refine ⟨_, e2, ?_, same_mut s4 nD2, ?_⟩
          · rw [vi_len, List.length_take]
            have : (newRow N os (i + 48)).length = n := by unfold newRow; rw [List.length_map]; exact hl
            rw [this]
            exact Nat.lt_of_le_of_lt (Nat.min_le_right _ _) (Nat.lt_of_le_of_lt hn (by decide))
          · rw [upd_same]
            have gn : (newRow N os (i + 48))[j]? = some (os.idxOf (N.stp x (i + 48))) := by
              unfold newRow
              rw [List.getElem?_map, gx]
              rfl
            rw [List.take_add_one, gn]
            unfold Vi
            rw [List.map_append]
            rfl
        · obtain ⟨s4, e2⟩ := h
          have full : (newRow N os (i + 48)).take (Vi os).length = newRow N os (i + 48) := List.take_of_length_le (by
            rw [vi_len]
            unfold newRow
            rw [List.length_map]
            exact Nat.le_refl _)
          rw [full] at e2
          refine ⟨D2, _, rfl, .inl ⟨.inl (.inl e2), fun t' nt' => ?_⟩⟩
          have s5 : Same H' (upd H'' t' (.tup (Vi (newRow N os (i + 48))))) := Same.to s4 (same_new nt')
          refine ⟨_, s5 _ _ eD, ?_, ?_, ts ++ [t'], ?_, ?_, ?_⟩
          · rw [List.length_map, hts]
            exact Nat.lt_of_lt_of_le i3 (by decide)
          · exact same_mut (Same.to s3 s5) nD
          · rw [List.length_append, hts]
            rfl
          · rw [upd_same, List.map_append]
            rfl
          · intro j u hu'
            have neu : ∀ {o : HO} {a : Addr}, (upd H'' t' (.tup (Vi (newRow N os (i + 48))))) a = some o → H' a = some o ∨ a = t' ∨ True := fun _ => .inr (.inr trivial)
            have keepD : ∀ a xs, SqT K (upd H'' t' (.tup (Vi (newRow N os (i + 48))))) a xs → SqT K (upd (upd H'' t' (.tup (Vi (newRow N os (i + 48))))) D (.lst (ts.map V.ref ++ [.ref t']))) a xs := by
              intro a xs h
              rcases h with h | h
              · refine .inl (rd_keep (fun o e => ?_) h)
                by_cases eD' : a = D
                · subst eD'
                  have := s5 _ _ eD
                  rcases h with h | ⟨ob, h⟩
                  · rw [this] at h; cases h
                  · rw [this] at h; cases h
                · rw [upd_ne eD']
                  exact e
              · exact .inr h
            by_cases hj : j < ts.length
            · rw [List.getElem?_append_left hj] at hu'
              exact keepD _ _ (sqt s5 (hrow j u hu'))
            · rw [List.getElem?_append_right (by omega)] at hu'
              have j0 : j - ts.length = 0 := by
                have := (List.getElem?_eq_some_iff.mp hu').1
                have e1 : ([t'] : List Addr).length = 1 := rfl
                omega
              rw [j0] at hu'
              cases hu'
              have ji : j = i := by omega
              rw [ji]
              exact keepD _ _ (.inl (.inl upd_same))
      · obtain ⟨s3, ts, hts, eD, hrow⟩ := h
        obtain ⟨a, b, c, rfl⟩ : ∃ a b c, ts = [a, b, c] := by
          match ts, hts with
          | [a, b, c], _ => exact ⟨a, b, c, rfl⟩
        refine ⟨D, _, rfl, .inl ⟨.inl (.inl eD), fun p' np' => ?_⟩⟩
        have s6 : Same H' (upd H' p' (.tup [.ref a, .ref b, .ref c])) := same_new np'
        refine q' p' _ (Same.to sm (Same.to s3 s6)) ⟨a, b, c, .inl (.inl upd_same), sqt s6 (hrow 0 a rfl), sqt s6 (hrow 1 b rfl), sqt s6 (hrow 2 c rfl)⟩
end
end K4

namespace K4
open PySem PySem.Spec PyProof.Rows L2 Nr Nw
def endF (x : Nat) : Nat := if x % 2 = 0 then x + 1 else x - 1
def sideF (x : Nat) : Nat := if x % 4 < 2 then x + 2 else x - 2
/-- the net of squares whose flags change 1 leads as told -/
def pairN (ps : List Nat) : Net := ⟨(List.range ps.length).map endF, ps, (List.range ps.length).map sideF⟩
def PairOk (ps : List Nat) (n : Nat) : Prop := ps.length = n ∧ ∀ x, x < n → ∃ y, y < n ∧ ps[x]? = some y ∧ ps[y]? = some x
theorem endF_lt {x n : Nat} (h : n % 4 = 0) (hx : x < n) : endF x < n := by
  unfold endF
  split <;> omega
theorem sideF_lt {x n : Nat} (h : n % 4 = 0) (hx : x < n) : sideF x < n := by
  unfold sideF
  split <;> omega
theorem endF_back (x : Nat) : endF (endF x) = x := by
  unfold endF
  split <;> split <;> omega
theorem sideF_back (x : Nat) : sideF (sideF x) = x := by
  unfold sideF
  split <;> split <;> omega
theorem end_side (x : Nat) : sideF (endF x) = endF (sideF x) := by
  unfold sideF endF
  split <;> split <;> split <;> split <;> omega
theorem range_map_get {f : Nat → Nat} {n x : Nat} (h : x < n) : ((List.range n).map f)[x]? = some (f x) := by
  rw [List.getElem?_map, List.getElem?_range h]
  rfl
theorem pair_of {ps : List Nat} {n : Nat} (h : PairOk ps n) (h4 : n % 4 = 0) : (pairN ps).Of n := by
  have r1 : ∀ {f : Nat → Nat}, (∀ x, x < n → f x < n) → ((List.range ps.length).map f).length = n ∧ ∀ x ∈ (List.range ps.length).map f, x < n := by
    intro f hf
    refine ⟨by rw [List.length_map, List.length_range]; exact h.1, fun x hx => ?_⟩
    obtain ⟨y, hy, rfl⟩ := List.mem_map.mp hx
    refine hf y ?_
    rw [List.mem_range, h.1] at hy
    exact hy
  intro s
  unfold Net.row
  split
  · exact r1 fun x hx => endF_lt h4 hx
  · split
    · refine ⟨h.1, fun x hx => ?_⟩
      obtain ⟨i, hi, e⟩ := List.mem_iff_getElem.mp (show x ∈ ps from hx)
      obtain ⟨y, hy, e1, _⟩ := h.2 i (by rw [← h.1]; exact hi)
      have : ps[i]? = some x := by rw [List.getElem?_eq_getElem hi, e]
      rw [this] at e1
      cases e1
      exact hy
    · exact r1 fun x hx => sideF_lt h4 hx
theorem pair_stp {ps : List Nat} {n x : Nat} (h : PairOk ps n) (hx : x < n) : (pairN ps).stp x 48 = endF x ∧ (pairN ps).stp x 50 = sideF x ∧ (pairN ps).stp x 49 = ps[x]?.getD 0 := by
  refine ⟨?_, ?_, rfl⟩
  · show ((List.range ps.length).map endF)[x]?.getD 0 = _
    rw [range_map_get (by rw [h.1]; exact hx)]
    rfl
  · show ((List.range ps.length).map sideF)[x]?.getD 0 = _
    rw [range_map_get (by rw [h.1]; exact hx)]
    rfl
theorem pair_acts {ps : List Nat} {n : Nat} (h : PairOk ps n) (h4 : n % 4 = 0) : Nw.Acts (pairN ps).stp (· < n) := by
  have st := fun {x : Nat} (hx : x < n) => pair_stp h hx
  refine ⟨fun x s hx _ => ((pair_of h h4).get hx s).2, fun x s hx hs => ?_, fun x hx => ?_⟩
  · rcases hs with e | e | e <;> subst e
    · rw [(st hx).1, (st (endF_lt h4 hx)).1, endF_back]
    · obtain ⟨y, hy, e1, e2⟩ := h.2 x hx
      have s1 : (pairN ps).stp x 49 = y := by
        rw [(st hx).2.2, e1]
        rfl
      rw [s1, (st hy).2.2, e2]
      rfl
    · rw [(st hx).2.1, (st (sideF_lt h4 hx)).2.1, sideF_back]
  · rw [(st hx).1, (st hx).2.1, (st (endF_lt h4 hx)).2.1, (st (sideF_lt h4 hx)).1, end_side]
section
variable {P : Program} {w : World} {K : PySem.W.Frag} {mg : Str → Option Value} {base : Heap}
theorem vi_snoc (cs : List Nat) (c : Nat) : Vi cs ++ [.int (c : Int)] = Vi (cs ++ [c]) := by
  unfold Vi
  rw [List.map_append]
  rfl
def spPaired (K : PySem.W.Frag) : Sp := fun vs H Q _ => ∃ (l : Addr) (ps : List Nat), vs = [.ref l] ∧ SqL K H l (Vi ps) ∧ ps.length ≤ 1000 ∧ ∀ (p' : Addr) (H' : Hp), Same H H' → NetAt K H' p' (pairN ps) → Q (.ref p') H'
theorem ok_paired (T : Txt w K mg) : Ok P w K mg base 1 "_law_paired" ["partners"] (spPaired K) := by
  refine ok_of T.fLawPaired fun f fd F => ?_
  refine F.ok scLawPaired (fun vs H Q E h => ?_) (fun cdv A outer s H vs Q E hr h => ?_)
  · obtain ⟨l, ps, rfl, _⟩ := h
    rfl
  · obtain ⟨l, ps, rfl, hS, hz, q⟩ := h
    refine ⟨_, pss_cons (ps_set (i := 1) scLawPaired.nd rfl (.inl rfl) (pe_callB call_len_seq (by rfl) T.nlen PySem.boot_len (pa_cons (pv 0) pa_nil)))
      (pss_cons (ps_set (i := 2) scLawPaired.nd rfl (.inl rfl) (pe_callTy call_tuple_of (by rfl) T.ntuple (by decide +kernel) (pa_cons (pe_lc (own := [("n", 4)]) (g := gName 4) (tt := tYes) (by rfl) scLawPaired.nd (pi_range1 (by rfl) T.nrange (pa_cons (pv 1) pa_nil)) (blkOk_by (N := ["partners", "many", "ends", "sides", "n"]) (sc := defScope sLawPaired) (by decide +kernel))
        (fun _ _ _ _ _ => pg_name (i := 4) scLawPaired.nd rfl (.inl rfl)) (fun _ _ _ _ _ => pts_nil) (fun _ _ _ _ _ => pe_ifExp (pt_cmpR op_eq (pe_op op_mod (pv 4) pe_int) pe_int (nomark _)) (pe_op op_add (pv 4) pe_int) (pe_op op_sub (pv 4) pe_int))) pa_nil)))
      (pss_cons (ps_set (i := 3) scLawPaired.nd rfl (.inl rfl) (pe_callTy call_tuple_of (by rfl) T.ntuple (by decide +kernel) (pa_cons (pe_lc (own := [("n", 4)]) (g := gName 4) (tt := tYes) (by rfl) scLawPaired.nd (pi_range1 (by rfl) T.nrange (pa_cons (pv 1) pa_nil)) (blkOk_by (N := ["partners", "many", "ends", "sides", "n"]) (sc := defScope sLawPaired) (by decide +kernel))
        (fun _ _ _ _ _ => pg_name (i := 4) scLawPaired.nd rfl (.inl rfl)) (fun _ _ _ _ _ => pts_nil) (fun _ _ _ _ _ => pe_ifExp (pt_cmpR op_lt (pe_op op_mod (pv 4) pe_int) pe_int (nomark _)) (pe_op op_add (pv 4) pe_int) (pe_op op_sub (pv 4) pe_int))) pa_nil)))
      (pss_one (ps_ret (pe_tup (pa_cons (pv 2) (pa_cons (pe_callTy call_tuple_of (by rfl) T.ntuple (by decide +kernel) (pa_cons (pv 0) pa_nil)) (pa_cons (pv 3) pa_nil)))))))), ?_⟩
    have toN : ((ps.length : Nat) : Int).toNat = ps.length := Int.toNat_natCast _
    refine ⟨.ref l, rfl, l, _, rfl, .inl hS, ?_⟩
    rw [vi_len]
    refine ⟨.int (ps.length : Nat), rfl, (ps.length : Nat), rfl, by omega, by omega, fun D nD => ?_⟩
    rw [toN]
    refine lc_range (lo := 0) (n := ps.length) (fun i H' => Same H H' ∧ H' D = some (.lst (Vi ((List.range i).map endF)))) ⟨same_new nD, upd_same⟩ (fun i H' hi h => ?_) (fun H1 h => ?_)
    · obtain ⟨sm, e⟩ := h
      have put : ∃ acc, H' D = some (.lst acc) ∧ acc.length < sizeLine ∧ (Same H (upd H' D (.lst (acc ++ [.int (endF i : Int)]))) ∧ (upd H' D (.lst (acc ++ [.int (endF i : Int)]))) D = some (.lst (Vi ((List.range (i + 1)).map endF)))) := by
        refine ⟨_, e, ?_, same_mut sm nD, ?_⟩
        · rw [vi_len, List.length_map, List.length_range]
          exact Nat.lt_of_lt_of_le hi (Nat.le_trans hz (by decide))
        · rw [upd_same, vi_snoc, List.range_succ, List.map_append]
          rfl
      have z0 : (0 : Int) + ((i : Nat) : Int) = (i : Int) := by omega
      rw [z0]
      have pos2 : (0 : Int) < 2 := by decide
      refine ⟨rfl, yes (iteT ⟨.int (i : Int), rfl, _, _, rfl, rfl, pos2, rfl, _, rfl, ?_⟩)⟩
      by_cases h2 : i % 2 = 0
      · refine iteDT (congrArg V.int (show (i : Int) % 2 = 0 by omega)) ⟨.int (i : Int), rfl, _, _, rfl, rfl, ?_⟩
        have : endF i = i + 1 := by unfold endF; rw [if_pos h2]
        rw [this] at put
        exact put
      · refine iteDF (fun z => h2 (by have := V.int.inj z; omega)) ⟨.int (i : Int), rfl, _, _, rfl, rfl, ?_⟩
        have : endF i = i - 1 := by unfold endF; rw [if_neg h2]
        rw [this] at put
        have e1 : ((i - 1 : Nat) : Int) = (i : Int) - 1 := by omega
        rw [e1] at put
        exact put
    obtain ⟨s1, e1⟩ := h
    refine ⟨D, _, rfl, .inl ⟨.inl (.inl e1), fun tE nE => ?_⟩⟩
    have s2 : Same H1 (upd H1 tE (.tup (Vi ((List.range ps.length).map endF)))) := same_new nE
    have eE : (upd H1 tE (.tup (Vi ((List.range ps.length).map endF)))) tE = some (.tup (Vi ((List.range ps.length).map endF))) := upd_same
    have s12 := Same.to s1 s2
    generalize upd H1 tE (.tup (Vi ((List.range ps.length).map endF))) = H2 at s2 eE s12 ⊢
    refine ⟨.int (ps.length : Nat), rfl, (ps.length : Nat), rfl, by omega, by omega, fun D2 nD2 => ?_⟩
    rw [toN]
    refine lc_range (lo := 0) (n := ps.length) (fun i H' => Same H2 H' ∧ H' D2 = some (.lst (Vi ((List.range i).map sideF)))) ⟨same_new nD2, upd_same⟩ (fun i H' hi h => ?_) (fun H3 h => ?_)
    · obtain ⟨sm, e⟩ := h
      have put : ∃ acc, H' D2 = some (.lst acc) ∧ acc.length < sizeLine ∧ (Same H2 (upd H' D2 (.lst (acc ++ [.int (sideF i : Int)]))) ∧ (upd H' D2 (.lst (acc ++ [.int (sideF i : Int)]))) D2 = some (.lst (Vi ((List.range (i + 1)).map sideF)))) := by
        refine ⟨_, e, ?_, same_mut sm nD2, ?_⟩
        · rw [vi_len, List.length_map, List.length_range]
          exact Nat.lt_of_lt_of_le hi (Nat.le_trans hz (by decide))
        · rw [upd_same, vi_snoc, List.range_succ, List.map_append]
          rfl
      have z0 : (0 : Int) + ((i : Nat) : Int) = (i : Int) := by omega
      rw [z0]
      have pos4 : (0 : Int) < 4 := by decide
      refine ⟨rfl, yes (iteT ⟨.int (i : Int), rfl, _, _, rfl, rfl, pos4, _, _, rfl, rfl, _, rfl, ?_⟩)⟩
      by_cases h2 : i % 4 < 2
      · refine iteDT (by show (i : Int) % 4 < 2; omega) ⟨.int (i : Int), rfl, _, _, rfl, rfl, ?_⟩
        have : sideF i = i + 2 := by unfold sideF; rw [if_pos h2]
        rw [this] at put
        exact put
      · refine iteDF (by show ¬ (i : Int) % 4 < 2; omega) ⟨.int (i : Int), rfl, _, _, rfl, rfl, ?_⟩
        have : sideF i = i - 2 := by unfold sideF; rw [if_neg h2]
        rw [this] at put
        have e1 : ((i - 2 : Nat) : Int) = (i : Int) - 2 := by omega
        rw [e1] at put
        exact put
    obtain ⟨s3, e3⟩ := h
    refine ⟨D2, _, rfl, .inl ⟨.inl (.inl e3), fun tS nS => ?_⟩⟩
    have s4 : Same H3 (upd H3 tS (.tup (Vi ((List.range ps.length).map sideF)))) := same_new nS
    have eS : (upd H3 tS (.tup (Vi ((List.range ps.length).map sideF)))) tS = some (.tup (Vi ((List.range ps.length).map sideF))) := upd_same
    have eE4 := s4 _ _ (s3 _ _ eE)
    have s14 := Same.to s12 (Same.to s3 s4)
    generalize upd H3 tS (.tup (Vi ((List.range ps.length).map sideF))) = H4 at s4 eS eE4 s14 ⊢
    refine ⟨.ref tE, rfl, .ref l, rfl, l, _, rfl, .inl ⟨s14.seq hS, fun tP nP => ⟨.ref tS, rfl, by show 3 ≤ sizeLine; decide, fun p' np' => ?_⟩⟩⟩
    have s5 : Same H4 (upd (upd H4 tP (.tup (Vi ps))) p' (.tup [.ref tE, .ref tP, .ref tS])) := Same.to (same_new nP) (same_new np')
    refine q p' _ (Same.to s14 s5) ⟨tE, tP, tS, .inl (.inl upd_same), .inl (.inl (s5 _ _ eE4)), .inl (.inl (same_new np' _ _ upd_same)), .inl (.inl (s5 _ _ eS))⟩
end
end K4

namespace K4
open PySem PySem.Spec PyProof.Rows L2 Nr Nw
/-- ls: flags without a partner; the others have one -/
structure Half (n : Nat) (ls ps : List Nat) : Prop where
  len : ps.length = n
  nd : ls.Nodup
  low : ∀ x ∈ ls, x < n
  has : ∀ x, x < n → x ∉ ls → ∃ y, y < n ∧ y ∉ ls ∧ ps[x]? = some y ∧ ps[y]? = some x
  mv : ∀ x, x < n → x ∉ ls → ps[x]? ≠ some x
theorem Half.moved {n : Nat} {ps : List Nat} (h : Half n [] ps) : ∀ x, x < n → ps[x]? ≠ some x := fun x hx => h.mv x hx List.not_mem_nil
theorem Half.ok {n : Nat} {ps : List Nat} (h : Half n [] ps) : PairOk ps n := ⟨h.len, fun x hx => by
  obtain ⟨y, h1, _, h3⟩ := h.has x hx (List.not_mem_nil)
  exact ⟨y, h1, h3⟩⟩
theorem set_get {ps : List Nat} {a b x : Nat} (ha : a < ps.length) : (ps.set a b)[x]? = if x = a then some b else ps[x]? := by
  by_cases e : x = a
  · rw [if_pos e, e, List.getElem?_set_self ha]
  · rw [if_neg e, List.getElem?_set_ne (Ne.symm e)]
/-- two flags are put together -/
theorem Half.put {n : Nat} {ls ps ls' : List Nat} {a b : Nat} (h : Half n ls ps) (hp : (a :: b :: ls').Perm ls) : Half n ls' ((ps.set a b).set b a) := by
  have nd : (a :: b :: ls').Nodup := hp.nodup_iff.mpr h.nd
  have mem : ∀ x, x ∈ ls ↔ x = a ∨ x = b ∨ x ∈ ls' := by
    intro x
    rw [← hp.mem_iff, List.mem_cons, List.mem_cons]
  have na : a ≠ b ∧ a ∉ ls' := by
    have := (List.nodup_cons.mp nd).1
    exact ⟨fun e => this (by rw [e]; exact List.mem_cons_self), fun e => this (List.mem_cons_of_mem _ e)⟩
  have nb : b ∉ ls' := (List.nodup_cons.mp (List.nodup_cons.mp nd).2).1
  have la : a < n := h.low a ((mem a).mpr (.inl rfl))
  have lb : b < n := h.low b ((mem b).mpr (.inr (.inl rfl)))
  have g : ∀ x, ((ps.set a b).set b a)[x]? = if x = b then some a else if x = a then some b else ps[x]? := by
    intro x
    rw [set_get (by rw [List.length_set, h.len]; exact lb), set_get (by rw [h.len]; exact la)]
  refine ⟨by rw [List.length_set, List.length_set]; exact h.len, (List.nodup_cons.mp (List.nodup_cons.mp nd).2).2, fun x hx => h.low x ((mem x).mpr (.inr (.inr hx))), fun x hx hn => ?_, fun x hx hn => ?_⟩
  rotate_left
  · rw [g]
    by_cases eb : x = b
    · rw [if_pos eb]
      exact fun z => na.1 (by rw [← eb]; exact Option.some.inj z)
    · rw [if_neg eb]
      by_cases ea : x = a
      · rw [if_pos ea]
        exact fun z => na.1 (by rw [← ea]; exact (Option.some.inj z).symm)
      · rw [if_neg ea]
        refine h.mv x hx fun z => ?_
        rcases (mem x).mp z with y | y | y
        · exact ea y
        · exact eb y
        · exact hn y
  by_cases ea : x = a
  · subst ea
    exact ⟨b, lb, nb, by rw [g, if_neg na.1, if_pos rfl], by rw [g, if_pos rfl]⟩
  · by_cases eb : x = b
    · subst eb
      exact ⟨a, la, na.2, by rw [g, if_pos rfl], by rw [g, if_neg na.1, if_pos rfl]⟩
    · have hx' : x ∉ ls := fun z => by
        rcases (mem x).mp z with y | y | y
        · exact ea y
        · exact eb y
        · exact hn y
      obtain ⟨y, h1, h2, h3, h4⟩ := h.has x hx hx'
      have ya : y ≠ a := fun z => h2 ((mem y).mpr (.inl z))
      have yb : y ≠ b := fun z => h2 ((mem y).mpr (.inr (.inl z)))
      exact ⟨y, h1, fun z => h2 ((mem y).mpr (.inr (.inr z))), by rw [g, if_neg eb, if_neg ea]; exact h3, by rw [g, if_neg yb, if_neg ya]; exact h4⟩
/-- no flag stays where it is -/
def Net.Free (N : Net) (n : Nat) : Prop := ∀ x, x < n → N.stp x 48 ≠ x ∧ N.stp x 49 ≠ x ∧ N.stp x 50 ≠ x ∧ N.stp (N.stp x 48) 50 ≠ x
theorem endF_ne (x : Nat) : endF x ≠ x := by
  unfold endF
  split <;> omega
theorem sideF_ne (x : Nat) : sideF x ≠ x := by
  unfold sideF
  split <;> omega
theorem both_ne (x : Nat) : sideF (endF x) ≠ x := by
  unfold sideF endF
  split <;> split <;> omega
theorem pair_free {ps : List Nat} {n : Nat} (h : PairOk ps n) (h4 : n % 4 = 0) (hm : ∀ x, x < n → ps[x]? ≠ some x) : (pairN ps).Free n := by
  intro x hx
  obtain ⟨s0, s2, s1⟩ := pair_stp h hx
  refine ⟨by rw [s0]; exact endF_ne x, ?_, by rw [s2]; exact sideF_ne x, ?_⟩
  · rw [s1]
    obtain ⟨y, _, e1, _⟩ := h.2 x hx
    have := hm x hx
    rw [e1] at this ⊢
    exact fun z => this (by rw [show y = x from z])
  · rw [s0, (pair_stp h (endF_lt h4 hx)).2.1]
    exact both_ne x
theorem ren_free {N : Net} {os : List Nat} {n : Nat} (hN : N.Of n) (h : os.Perm (List.range n)) (F : N.Free n) : (N.ren os).Free n := by
  intro i hi
  have lo : os.length = n := by rw [h.length_eq, List.length_range]
  have ndp : os.Nodup := h.nodup_iff.mpr List.nodup_range
  have gi : os[i]? = some os[i] := List.getElem?_eq_getElem (by omega)
  have xl : os[i] < n := (perm_mem h _).mp (List.getElem_mem (by omega))
  have back : os.idxOf os[i] = i := List.Nodup.idxOf_getElem ndp i (by omega)
  generalize os[i] = x at gi xl back
  obtain ⟨f0, f1, f2, f3⟩ := F x xl
  have inj : ∀ y, y < n → y ≠ x → os.idxOf y ≠ i := fun y hy ne z => ne (by
    have h1 := idx_get ((perm_mem h y).mpr hy)
    rw [z, gi] at h1
    exact (Option.some.inj h1).symm)
  have st := fun {j y s : Nat} (hy : os[j]? = some y) (hs : Sg s) => ren_stp hN h hy hs
  refine ⟨?_, ?_, ?_, ?_⟩
  · rw [st gi (.inl rfl)]
    exact inj _ (hN.get xl 48).2 f0
  · rw [st gi (.inr (.inl rfl))]
    exact inj _ (hN.get xl 49).2 f1
  · rw [st gi (.inr (.inr rfl))]
    exact inj _ (hN.get xl 50).2 f2
  · have l0 := (hN.get xl 48).2
    rw [st gi (.inl rfl), st (idx_get ((perm_mem h _).mpr l0)) (.inr (.inr rfl))]
    exact inj _ (hN.get l0 50).2 f3
section
variable {P : Program} {w : World} {K : PySem.W.Frag} {mg : Str → Option Value} {base : Heap}
theorem vi_set (cs : List Nat) (i c : Nat) : (Vi cs).set i (.int (c : Int)) = Vi (cs.set i c) := by
  unfold Vi
  rw [List.map_set]
def spNet (K : PySem.W.Frag) : Sp := fun vs H Q _ => ∃ (m lc lg : Addr) (k most : Nat), vs = [.ref m, .int (most : Int)] ∧ (0 < most ∧ most ≤ 20) ∧ MS H m lc lg k ∧ k < 700000 ∧
  ∀ (N : Net) (n : Nat) (p' : Addr) (H' : Hp), N.Of n → 0 < n → n ≤ 80 → Nw.Acts N.stp (· < n) → N.Free n → NetAt K H' p' N → MS H' m lc lg (k + 200) → Off m lg H H' → Q (.ref p') H'
theorem ok_net (T : Txt w K mg) : Ok P w K mg base 4 "_law_net" ["m", "most"] (spNet K) := by
  refine ok_of T.fLawNet fun f fd F => ?_
  refine F.ok scLawNet (fun vs H Q E h => ?_) (fun cdv A outer s H vs Q E hr h => ?_)
  · obtain ⟨m, lc, lg, k, most, rfl, _⟩ := h
    rfl
  · obtain ⟨m, lc, lg, k, most, rfl, ⟨m0, m1⟩, hM, hk, q⟩ := h
    refine ⟨_, pss_cons (ps_set (i := 2) scLawNet.nd rfl (.inl rfl) (pe_op op_mul pe_int (pe_op op_add pe_int (pe_callO (ok_draw T) hr (by decide) (by rfl) (pa_cons (pv 0) (pa_cons (pv 1) pa_nil))))))
      (pss_cons (ps_par (i := 4) (j := 5) (by rfl) scLawNet.nd rfl rfl (by decide) rfl rfl (pa_cons (pe_listRg (by rfl) (by rfl) T.nlist (prg_1 (by rfl) T.nrange (pv 2))) (pa_cons (pe_lc (own := [("n", 8)]) (g := gName 8) (tt := tYes) (by rfl) scLawNet.nd (pi_range1 (by rfl) T.nrange (pa_cons (pv 2) pa_nil))
          (blkOk_by (N := ["m", "most", "many", "turn", "left", "partners", "one", "two", "n"]) (sc := defScope sLawNet) (by decide +kernel)) (fun _ _ _ _ _ => pg_name (i := 8) scLawNet.nd rfl (.inl rfl)) (fun _ _ _ _ _ => pts_nil) (fun _ _ _ _ _ => pe_int)) pa_nil)) (by rfl))
      (pss_cons (ps_for PassesOwn.never rfl (pi_range1 (by rfl) T.nrange (pa_cons (pe_op op_fdiv (pv 2) pe_int) pa_nil)) (pg_name (i := 3) scLawNet.nd rfl (.inl rfl))
        (pss_cons (ps_set (i := 6) scLawNet.nd rfl (.inl rfl) (pe_bm PySem.F.plainAttrs_list PySem.F.slot_list_pop PySem.F.type_list_pop mt_popAt (pv 4) (pa_cons pe_int pa_nil)))
        (pss_cons (ps_set (i := 7) scLawNet.nd rfl (.inl rfl) (pe_bm PySem.F.plainAttrs_list PySem.F.slot_list_pop PySem.F.type_list_pop mt_popAt (pv 4) (pa_cons (pe_callO (ok_draw T) hr (by decide) (by rfl) (pa_cons (pv 0) (pa_cons (pe_callB call_len_seq (by rfl) T.nlen PySem.boot_len (pa_cons (pv 4) pa_nil)) pa_nil))) pa_nil)))
        (pss_one (ps_asg (pe_tup (pa_cons (pv 7) (pa_cons (pv 6) pa_nil))) (pg_tup rfl (pgs_cons (pg_sub (pv 5) (pv 6) set_list) (pgs_cons (pg_sub (pv 5) (pv 7) set_list) pgs_nil))))))))
      (pss_one (ps_ret (pe_callO (ok_numbered T) hr (by decide) (by rfl) (pa_cons (pe_callO (ok_paired T) hr (by decide) (by rfl) (pa_cons (pv 5) pa_nil)) (pa_cons (pe_callO (ok_order T) hr (by decide) (by rfl) (pa_cons (pv 0) (pa_cons (pv 2) pa_nil))) pa_nil))))))), ?_⟩
    refine ⟨.ref m, rfl, .int (most : Int), rfl, m, lc, lg, k, _, rfl, ⟨by omega, by omega⟩, hM, by omega, fun d H1 hd M1 o1 => ?_⟩
    refine ⟨_, _, rfl, rfl, _, _, rfl, rfl, .inl ⟨by decide, by decide⟩, ?_⟩
    obtain ⟨n, hn⟩ : ∃ n : Nat, n = 4 * (1 + d) := ⟨_, rfl⟩
    have hnI : (4 : Int) * (1 + (d : Int)) = (n : Int) := by omega
    have h4 : n % 4 = 0 := by omega
    show (fun x H1 => gName 2 x _ H1 _) (V.int ((4 : Int) * (1 + (d : Int)))) H1
    rw [hnI]
    refine ⟨.int (n : Int), rfl, (n : Int), rfl, RgOk.of_le (by omega) (by omega) (by omega) (by omega), fun l nl => ?_⟩
    have er : rgV 0 (n : Int) = Vi (List.range n) := by
      unfold rgV Vi
      have e0 : ((n : Int) - 0).toNat = n := by omega
      rw [e0]
      refine List.map_congr_left fun x _ => ?_
      rw [Int.zero_add]
    rw [er]
    obtain ⟨a1, a2, a3⟩ := M1.new nl
    refine ⟨.int (n : Int), rfl, (n : Int), rfl, by omega, by omega, fun D nD => ?_⟩
    have ne : l ≠ D := fun e => by
      rw [← e, upd_same] at nD
      cases nD
    have nD1 : H1 D = none := none_of (same_new nl) nD
    obtain ⟨b1, b2, b3⟩ := M1.new nD1
    have toN : ((n : Nat) : Int).toNat = n := Int.toNat_natCast n
    rw [toN]
    refine lc_range (lo := 0) (n := n) (fun i H' => (H' l = some (.lst (Vi (List.range n))) ∧ MS H' m lc lg (k + 1) ∧ Same H1 H') ∧ H' D = some (.lst (Vi (List.replicate i 0)))) ⟨⟨by rw [upd_ne ne]; exact upd_same, (M1.mut a1 a2 a3).mut b1 b2 b3, same_mut (same_new nl) nD1⟩, upd_same⟩ (fun i H' hi h => ?_) (fun H2 h => ?_)
    · obtain ⟨⟨el, M, sm⟩, e⟩ := h
      refine ⟨rfl, yes (iteT ⟨_, e, ?_, ⟨?_, M.mut b1 b2 b3, same_mut sm nD1⟩, ?_⟩)⟩
      · rw [vi_len, List.length_replicate]
        exact Nat.lt_of_lt_of_le hi (Nat.le_trans (show n ≤ 84 by omega) (by decide))
      · rw [upd_ne ne]
        exact el
      · rw [upd_same, List.replicate_succ']
        exact congrArg (fun z => some (HO.lst z)) (vi_snoc _ 0)
    obtain ⟨⟨el, M2, s2⟩, eD⟩ := h
    have o2 : Off m lg H H2 := o1.to (Off.same s2)
    refine ⟨_, _, rfl, ?_⟩
    -- the loop
    have half : ((n : Int) / 2) = ((2 * (1 + d) : Nat) : Int) := by omega
    refine ⟨.int (n : Int), rfl, _, _, rfl, rfl, ⟨by decide, by decide⟩, (n : Int) / 2, rfl, by omega, by omega, ?_⟩
    rw [half, Int.toNat_natCast]
    have hl0 : H l = none := by
      cases z : H l with
      | none => rfl
      | some ob => rw [o1 l ob a1 a3 z] at nl; cases nl
    have hD0 : H D = none := by
      cases z : H D with
      | none => rfl
      | some ob => rw [o1 D ob b1 b3 z] at nD1; cases nD1
    refine ⟨fun i mm σ H3 => ∃ (y3 y6 y7 y8 : Option V) (ls ps : List Nat), σ = [some (.ref m), some (.int (most : Int)), some (.int (n : Int)), y3, some (.ref l), some (.ref D), y6, y7, y8] ∧ i + mm = 2 * (1 + d) ∧ ls.length + 2 * i = n ∧ Half n ls ps ∧ H3 l = some (.lst (Vi ls)) ∧ H3 D = some (.lst (Vi ps)) ∧ MS H3 m lc lg (k + 1 + i) ∧ Off m lg H H3,
      ⟨2 * (1 + d), none, none, none, none, List.range n, List.replicate n 0, rfl, by omega, by rw [List.length_range]; omega, ⟨List.length_replicate, List.nodup_range, fun x hx => List.mem_range.mp hx, fun x hx hnx => absurd (List.mem_range.mpr hx) hnx, fun x hx hnx => absurd (List.mem_range.mpr hx) hnx⟩, el, eD, M2, o2⟩, ?_⟩
    rintro i mm σ H3 ⟨y3, y6, y7, y8, ls, ps, rfl, em, hlen, hH, el3, eD3, M3, o3⟩
    by_cases hi : i < 2 * (1 + d)
    · obtain ⟨a, r, rfl⟩ : ∃ a r, ls = a :: r := by
        cases ls with
        | nil => simp only [List.length_nil] at hlen; omega
        | cons a r => exact ⟨a, r, rfl⟩
      simp only [List.length_cons] at hlen
      refine .inr ⟨hi, fun σ' H' => ∃ (y3 y6 y7 y8 : Option V) (ls ps : List Nat), σ' = [some (.ref m), some (.int (most : Int)), some (.int (n : Int)), y3, some (.ref l), some (.ref D), y6, y7, y8] ∧ ls.length + 2 * (i + 1) = n ∧ Half n ls ps ∧ H' l = some (.lst (Vi ls)) ∧ H' D = some (.lst (Vi ps)) ∧ MS H' m lc lg (k + 1 + (i + 1)) ∧ Off m lg H H', ?_, ?_⟩
      · rintro σ' H' ⟨z3, z6, z7, z8, ls', ps', e, r1, r2, r3, r4, r5, r6⟩
        exact ⟨mm - 1, by omega, z3, z6, z7, z8, ls', ps', e, by omega, r1, r2, r3, r4, r5, r6⟩
      · rintro v H' ⟨rfl, rfl⟩
        -- one = left.pop(0)
        refine ⟨.ref l, rfl, .inl ⟨rfl, _, .inl (.inl el3)⟩, l, Vi (a :: r), 0, 0, .int (a : Int), rfl, rfl, el3, by decide, by decide, (ixN_seq (ixN_nat (n := (Vi (a :: r)).length) (j := 0) (by rw [vi_len, List.length_cons]; omega))).1, rfl, ?_⟩
        have M4 : MS (upd H' l (.lst (Vi r))) m lc lg (k + 1 + i) := M3.mut a1 a2 a3
        have el4 : (upd H' l (.lst (Vi r))) l = some (.lst (Vi r)) := upd_same
        have eD4 : (upd H' l (.lst (Vi r))) D = some (.lst (Vi ps)) := by rw [upd_ne ne.symm]; exact eD3
        have o4 : Off m lg H (upd H' l (.lst (Vi r))) := fun x ob h1 h2 e => by
          have : x ≠ l := fun z => by rw [z, hl0] at e; cases e
          rw [upd_ne this]
          exact o3 x ob h1 h2 e
        have ee : (Vi (a :: r)).eraseIdx 0 = Vi r := rfl
        rw [ee]
        generalize upd H' l (.lst (Vi r)) = H4 at M4 el4 eD4 o4 ⊢
        -- two = left.pop(draw)
        refine ⟨.ref l, rfl, .inl ⟨rfl, _, .inl (.inl el4)⟩, .ref m, rfl, .ref l, rfl, l, _, rfl, .inl (.inl (.inl el4)), m, lc, lg, k + 1 + i, _, rfl, ⟨by rw [vi_len]; omega, by rw [vi_len]; omega⟩, M4, by omega, fun dd H5 hdd M5 o5 => ?_⟩
        rw [vi_len] at hdd
        have hdd' : dd < r.length := by omega
        have gb : r[dd]? = some r[dd] := List.getElem?_eq_getElem hdd'
        have el5 := o5 l _ a1 a3 el4
        have eD5 := o5 D _ b1 b3 eD4
        generalize r[dd] = b at gb
        have perm : (a :: b :: r.eraseIdx dd).Perm (a :: r) := (erase_perm r dd b gb).cons a
        have hH' := hH.put perm
        have ha : a < n := hH.low a List.mem_cons_self
        have hb : b < n := hH.low b (List.mem_cons_of_mem _ (List.mem_of_getElem? gb))
        refine ⟨l, Vi r, (dd : Int), dd, .int (b : Int), rfl, rfl, el5, by omega, by omega, (ixN_seq (ixN_nat (by rw [vi_len]; exact hdd'))).1, vi_get gb, ?_⟩
        rw [vi_erase]
        have M6 : MS (upd H5 l (.lst (Vi (r.eraseIdx dd)))) m lc lg (k + 1 + i + 1) := M5.mut a1 a2 a3
        have el6 : (upd H5 l (.lst (Vi (r.eraseIdx dd)))) l = some (.lst (Vi (r.eraseIdx dd))) := upd_same
        have eD6 : (upd H5 l (.lst (Vi (r.eraseIdx dd)))) D = some (.lst (Vi ps)) := by rw [upd_ne ne.symm]; exact eD5
        have o6 : Off m lg H (upd H5 l (.lst (Vi (r.eraseIdx dd)))) := fun x ob h1 h2 e => by
          have : x ≠ l := fun z => by rw [z, hl0] at e; cases e
          rw [upd_ne this]
          exact o5 x ob h1 h2 (o4 x ob h1 h2 e)
        generalize upd H5 l (.lst (Vi (r.eraseIdx dd))) = H6 at M6 el6 eD6 o6 ⊢
        -- partners[one], partners[two] = (two, one)
        refine ⟨.int (b : Int), rfl, .int (a : Int), rfl, by show 2 ≤ sizeLine; decide, fun t nt => ?_⟩
        have lD : D ≠ t := ne_of_none eD6 nt
        have ll : l ≠ t := ne_of_none el6 nt
        obtain ⟨t1, t2, t3⟩ := M6.new nt
        have lps : ps.length = n := hH.len
        refine ⟨t, [.int (b : Int), .int (a : Int)], rfl, .inl (.inl upd_same), rfl, .int (b : Int), [.int (a : Int)], rfl, .ref D, rfl, .int (a : Int), rfl, D, Vi ps, (a : Int), a, rfl, rfl, by rw [upd_ne lD]; exact eD6, ixN_nat (by rw [vi_len, lps]; exact ha), ?_⟩
        refine ⟨.int (a : Int), [], rfl, .ref D, rfl, .int (b : Int), rfl, D, (Vi ps).set a (.int (b : Int)), (b : Int), b, rfl, rfl, upd_same, ixN_nat (by rw [List.length_set, vi_len, lps]; exact hb), rfl, ?_⟩
        refine ⟨some (.int (0 + (i : Nat))), some (.int (a : Int)), some (.int (b : Int)), y8, r.eraseIdx dd, (ps.set a b).set b a, ?_, ?_, hH', ?_, ?_, ?_, ?_⟩
        · rfl
        · rw [List.length_eraseIdx, if_pos hdd']
          omega
        · rw [upd_ne ne, upd_ne ne, upd_ne ll]
          exact el6
        · rw [upd_same, vi_set, vi_set]
        · exact ((M6.mut t1 t2 t3).mut b1 b2 b3).mut b1 b2 b3
        · intro x ob h1 h2 e
          have x1 : x ≠ D := fun z => by rw [z, hD0] at e; cases e
          have e6 := o6 x ob h1 h2 e
          have x2 : x ≠ t := ne_of_none e6 nt
          rw [upd_ne x1, upd_ne x1, upd_ne x2]
          exact e6
    · refine .inl ⟨by show 2 * (1 + d) ≤ i; omega, ?_⟩
      have l0 : ls = [] := List.length_eq_zero_iff.mp (by omega)
      subst l0
      have pok := hH.ok
      have i2 : i = 2 * (1 + d) := by omega
      refine ⟨.ref D, rfl, D, ps, rfl, .inl (.inl eD3), by rw [pok.1]; omega, fun p1 H4 s4 hN => ?_⟩
      refine ⟨.ref m, rfl, .int (n : Int), rfl, m, lc, lg, k + 1 + i, n, rfl, M3.same s4, by omega, by omega, fun os p2 H5 hP np2 e2 M5 o5 => ?_⟩
      have hN5 : NetAt K H5 p1 (pairN ps) := by
        obtain ⟨t0, t1, t2, h1, h2, h3, h4⟩ := hN
        have kp : ∀ {a : Addr} {xs : List V}, SqT K H4 a xs → SqT K H5 a xs := by
          intro a xs h
          obtain ⟨d1, d2, d3, ⟨nn, _, em4⟩, _, gs, _, eg4⟩ := M3.same s4
          rcases h with h | h
          · refine .inl (rd_keep (fun ob e => o5 a ob ?_ ?_ e) h)
            · intro z
              rw [z, em4] at e
              rcases h with h | ⟨oz, h⟩
              · rw [z, em4] at h; cases h
              · rw [z, em4] at h; cases h
            · intro z
              rw [z, eg4] at e
              rcases h with h | ⟨oz, h⟩
              · rw [z, eg4] at h; cases h
              · rw [z, eg4] at h; cases h
          · exact .inr h
        exact ⟨t0, t1, t2, kp h1, kp h2, kp h3, kp h4⟩
      have pof := pair_of pok h4
      refine ⟨p1, p2, pairN ps, n, os, rfl, hN5, pof, .inl (.inl e2), hP, by omega, fun p' H6 s6 hN6 => ?_⟩
      refine q _ n p' H6 (ren_of pof hP) (by omega) (by omega) (ren_acts pof hP (pair_acts pok h4)) (ren_free pof hP (pair_free pok h4 hH.moved)) hN6 ((M5.same s6).le (by omega)) ((o3.to (Off.same s4)).to (o5.to (Off.same s6)))
end
end K4

namespace K4
open PySem PySem.Spec PyProof.Rows L2 Nr Nw
/-- texts of words -/
def Vs (ws : List (List Nat)) : List V := ws.map fun u => V.str (S u)
theorem vs_len (ws : List (List Nat)) : (Vs ws).length = ws.length := List.length_map ..
theorem vs_get {ws : List (List Nat)} {i : Nat} {u : List Nat} (h : ws[i]? = some u) : (Vs ws)[i]? = some (.str (S u)) := by
  unfold Vs
  rw [List.getElem?_map, h]
  rfl
theorem vs_snoc (ws : List (List Nat)) (u : List Nat) : Vs ws ++ [.str (S u)] = Vs (ws ++ [u]) := by
  unfold Vs
  rw [List.map_append]
  rfl
/-! ### pieces -/
def pst (st : List (List Nat)) (c : Nat) : List (List Nat) := if c = 50 ∧ st.head? = some [48] then [48, 50] :: st.tail else [c] :: st
def P4 (p : List Nat) : Prop := p = [48] ∨ p = [50] ∨ p = [48, 50] ∨ p = [49]
/-- pieces, the last one first: one of two neighbors is "1" -/
def Pal : List (List Nat) → Prop
  | [] => True
  | [p] => P4 p
  | p :: q :: r => P4 p ∧ ((p = [49] ∧ q ≠ [49]) ∨ (p ≠ [49] ∧ q = [49])) ∧ Pal (q :: r)
theorem Pal.tail {p : List Nat} {r : List (List Nat)} (h : Pal (p :: r)) : Pal r := by
  cases r with
  | nil => trivial
  | cons q r => exact h.2.2
theorem Pal.head {p : List Nat} {r : List (List Nat)} (h : Pal (p :: r)) : P4 p := by
  cases r with
  | nil => exact h
  | cons q r => exact h.1
theorem Pal.all : ∀ {st : List (List Nat)}, Pal st → ∀ p ∈ st, P4 p
  | [], _, p, hp => by cases hp
  | q :: r, h, p, hp => by
    rcases List.mem_cons.mp hp with e | e
    · rw [e]; exact h.head
    · exact Pal.all h.tail p e
def pcs (u : List Nat) : List (List Nat) := u.foldl pst []
theorem pcs_snoc (u : List Nat) (c : Nat) : pcs (u ++ [c]) = pst (pcs u) c := by
  unfold pcs
  rw [List.foldl_append]
  rfl
theorem fw_snoc {u : List Nat} {c : Nat} (h : Fw (u ++ [c])) : Fw u ∧ Sg c ∧ ∀ a, u.getLast? = some a → Nb c a := by
  have hr := fw_rd h
  rw [List.reverse_append] at hr
  have hr' : Rd (c :: u.reverse) := hr
  refine ⟨rd_fw hr'.tail, hr'.head, fun a e => ?_⟩
  rw [← List.head?_reverse] at e
  cases e2 : u.reverse with
  | nil => rw [e2] at e; cases e
  | cons b r =>
    rw [e2] at e hr'
    cases e
    exact nb_of hr'
theorem pcs_pal : ∀ (n : Nat) (u : List Nat), u.length = n → Fw u → Pal (pcs u) ∧ (pcs u).reverse.flatten = u ∧ (∀ p, (pcs u).head? = some p → p.getLast? = u.getLast?)
  | 0, u, hn, _ => by
    rw [List.length_eq_zero_iff.mp hn]
    exact ⟨trivial, rfl, fun p h => by cases h⟩
  | n + 1, u, hn, hf => by
    have hne : u ≠ [] := fun z => by rw [z] at hn; cases hn
    have eu := (List.dropLast_concat_getLast hne).symm
    have hl : u.dropLast.length = n := by rw [List.length_dropLast]; omega
    rw [eu] at hf ⊢
    generalize u.dropLast = v at hf hl ⊢
    generalize u.getLast hne = c at hf ⊢
    obtain ⟨hv, hc, hnb⟩ := fw_snoc hf
    obtain ⟨h1, h2, h3⟩ := pcs_pal n v hl hv
    rw [pcs_snoc]
    have lastc : (v ++ [c]).getLast? = some c := List.getLast?_concat ..
    rw [lastc]
    generalize hst : pcs v = st at h1 h2 h3
    unfold pst
    by_cases e : c = 50 ∧ st.head? = some [48]
    · rw [if_pos e]
      obtain ⟨rfl, e2⟩ := e
      cases st with
      | nil => cases e2
      | cons p r =>
        cases e2
        refine ⟨?_, ?_, fun p hp => by cases hp; rfl⟩
        · cases r with
          | nil => exact .inr (.inr (.inl rfl))
          | cons q r =>
            refine ⟨.inr (.inr (.inl rfl)), ?_, h1.2.2⟩
            rcases h1.2.1 with ⟨z, _⟩ | ⟨_, z⟩
            · cases z
            · exact .inr ⟨by decide, z⟩
        · rw [← h2]
          rw [List.tail_cons, List.reverse_cons, List.reverse_cons, List.flatten_append, List.flatten_append, List.append_assoc]
          rfl
    · rw [if_neg e]
      have p4 : P4 [c] := by
        rcases hc with z | z | z <;> subst z
        · exact .inl rfl
        · exact .inr (.inr (.inr rfl))
        · exact .inr (.inl rfl)
      refine ⟨?_, ?_, fun p hp => by cases hp; rfl⟩
      · cases st with
        | nil => exact p4
        | cons q r =>
          refine ⟨p4, ?_, h1⟩
          have hq := h3 q rfl
          have q4 := h1.head
          have nb := fun a (ha : q.getLast? = some a) => hnb a (by rw [← hq]; exact ha)
          rcases q4 with z | z | z | z <;> subst z
          · have n1 := nb 48 rfl
            rcases hc with y | y | y
            · exact absurd y n1.1
            · subst y; exact .inl ⟨rfl, by decide⟩
            · exact absurd ⟨y, rfl⟩ e
          · have n1 := nb 50 rfl
            rcases hc with y | y | y
            · exact absurd ⟨rfl, y⟩ n1.2
            · subst y; exact .inl ⟨rfl, by decide⟩
            · exact absurd y n1.1
          · have n1 := nb 50 rfl
            rcases hc with y | y | y
            · exact absurd ⟨rfl, y⟩ n1.2
            · subst y; exact .inl ⟨rfl, by decide⟩
            · exact absurd y n1.1
          · have n1 := nb 49 rfl
            rcases hc with y | y | y
            · subst y; exact .inr ⟨by decide, rfl⟩
            · exact absurd y n1.1
            · subst y; exact .inr ⟨by decide, rfl⟩
      · rw [List.reverse_cons, List.flatten_append, h2]
        rfl
theorem lay_four : ∀ ps : List (List Nat), (∀ p ∈ ps, P4 p) → PyData.canLayAll0 (ps.map fun p => PyData.str (S p)) = true ∧ PyData.depthAll (ps.map fun p => PyData.str (S p)) = 0
  | [], _ => ⟨by rfl, by rfl⟩
  | p :: r, h => by
    have ih := lay_four r fun q hq => h q (List.mem_cons_of_mem _ hq)
    have hp := h p List.mem_cons_self
    refine ⟨?_, ?_⟩
    · rw [List.map_cons]
      unfold PyData.canLayAll0
      rw [ih.1]
      rcases hp with e | e | e | e <;> subst e <;> decide +kernel
    · rw [List.map_cons]
      unfold PyData.depthAll
      rw [ih.2]
      rfl
theorem shaped_four {ps : List (List Nat)} (h : ∀ p ∈ ps, P4 p) : SeqAt.shaped (.list (ps.map fun p => PyData.str (S p))) = true := by
  unfold SeqAt.shaped PyData.canLay0 PyData.depth
  rw [(lay_four ps h).1, (lay_four ps h).2]
  decide
theorem eqv_nilS (ps : List (List Nat)) : PyData.eqv (.list (ps.map fun p => PyData.str (S p))) (.list []) = ps.isEmpty := by
  cases ps <;> (unfold PyData.eqv; rfl)
theorem dpAll_strs {K : PySem.W.Frag} {H : Hp} : ∀ ps : List (List Nat), DpAll K H (Vs ps) (ps.map fun p => PyData.str (S p))
  | [] => .nil
  | p :: r => .cons (.str (S p)) (dpAll_strs r)
section
variable {P : Program} {w : World} {K : PySem.W.Frag} {mg : Str → Option Value} {base : Heap}
def spPieces : Sp := fun vs H Q _ => ∃ u : List Nat, vs = [.str (S u)] ∧ Fw u ∧ u.length ≤ 20000 ∧ ∀ (p : Addr) (H' : Hp), Same H H' → H p = none → H' p = some (.lst (Vs (pcs u).reverse)) → Q (.ref p) H'
theorem pcs_len : ∀ (n : Nat) (u : List Nat), u.length = n → (pcs u).length ≤ n
  | 0, u, hn => by
    rw [List.length_eq_zero_iff.mp hn]
    exact Nat.le_refl _
  | n + 1, u, hn => by
    have hne : u ≠ [] := fun z => by rw [z] at hn; cases hn
    rw [(List.dropLast_concat_getLast hne).symm, pcs_snoc]
    have ih := pcs_len n u.dropLast (by rw [List.length_dropLast]; omega)
    unfold pst
    split
    · simp only [List.length_cons, List.length_tail]
      omega
    · simp only [List.length_cons]
      omega
theorem ok_pieces (T : Txt w K mg) : Ok P w K mg base 1 "_law_pieces" ["word"] spPieces := by
  refine ok_of T.fLawPieces fun f fd F => ?_
  refine F.ok scLawPieces (fun vs H Q E h => ?_) (fun cdv A outer s H vs Q E hr h => ?_)
  · obtain ⟨u, rfl, _⟩ := h
    rfl
  · obtain ⟨u, rfl, hf, hz, q⟩ := h
    refine ⟨_, pss_cons (ps_set (i := 1) scLawPieces.nd rfl (.inl rfl) (pe_lst pa_nil))
      (pss_cons (ps_for PassesOwn.never rfl (pi_str (pv 0)) (pg_name (i := 2) scLawPieces.nd rfl (.inl rfl))
        (pss_one (ps_if (PW.pt (pw_and (pt_cmpR op_eq (pv 2) pe_str (nomark _)) (pw_and (pt_cmpR (op_neD hr.units) (pv 1) (pe_lst pa_nil) (nomark _)) (pw_and1 (pt_cmpR op_eq (pe_ix (r := rIxL K) ix_list (pv 1) (pe_un un_neg pe_int) (fun _ _ => rfl)) pe_str (nomark _))))))
          (pss_one (ps_asg pe_str (pg_sub (pv 1) (pe_un un_neg pe_int) set_list)))
          (pss_one (ps_expr (pe_bm PySem.F.plainAttrs_list PySem.F.slot_list_append PySem.F.type_list_append mt_append (pv 1) (pa_cons (pv 2) pa_nil)))))))
      (pss_one (ps_ret (pv 1)))), ?_⟩
    refine ⟨Nat.zero_le _, fun l nl => ?_⟩
    refine ⟨.str (S u), rfl, S u, rfl, fun i m σ H3 => ∃ y2, σ = [some (.str (S u)), some (.ref l), y2] ∧ i + m = u.length ∧ Same H H3 ∧ H3 l = some (.lst (Vs (pcs (u.take i)).reverse)), ⟨u.length, none, rfl, by omega, same_new nl, upd_same⟩, ?_⟩
    rintro i m σ H3 ⟨y2, rfl, em, sm, el⟩
    by_cases hi : i < u.length
    · refine .inr ⟨hi, fun σ' H' => ∃ y2, σ' = [some (.str (S u)), some (.ref l), y2] ∧ Same H H' ∧ H' l = some (.lst (Vs (pcs (u.take (i + 1))).reverse)), ?_, ?_⟩
      · rintro σ' H' ⟨z2, e, sm', el'⟩
        exact ⟨m - 1, by omega, z2, e, by omega, sm', el'⟩
      · rintro v H' ⟨rfl, c, hc, rfl⟩
        have e : u[i]? = some c := (List.getElem?_toArray).symm.trans hc
        have et : u.take (i + 1) = u.take i ++ [c] := by
          rw [List.take_add_one, e]
          rfl
        have hft : Fw (u.take i) := by
          have h1 := fw_rd hf
          refine rd_fw ?_
          rw [List.reverse_take]
          exact Rd.drop _ h1
        have pal := (pcs_pal _ (u.take i) rfl hft).1
        have pl := pcs_len _ (u.take i) rfl
        rw [List.length_take] at pl
        rw [et, pcs_snoc]
        generalize pcs (u.take i) = st at pal el pl ⊢
        have four : ∀ p ∈ st.reverse, P4 p := fun p hp => pal.all p (List.mem_reverse.mp hp)
        have stl : (Vs st.reverse).length < sizeLine := by
          rw [vs_len, List.length_reverse]
          exact Nat.lt_of_le_of_lt (show st.length ≤ 20000 by omega) (by decide)
        -- put on as it is
        have push : ∀ {Hx : Hp}, Same H' Hx → Hx l = some (.lst (Vs st.reverse)) → pst st c = [c] :: st → ∃ y, (fun (y : Option V) => True) y ∧ Same H (upd Hx l (.lst (Vs st.reverse ++ [.str (S [c])]))) ∧ (upd Hx l (.lst (Vs st.reverse ++ [.str (S [c])]))) l = some (.lst (Vs (pst st c).reverse)) := by
          intro Hx sx ex ep
          refine ⟨none, trivial, same_mut (Same.to sm sx) nl, ?_⟩
          rw [upd_same, vs_snoc, ep, List.reverse_cons]
        refine ⟨.str (S [c]), rfl, rfl, _, rfl, ?_⟩
        by_cases c50 : c = 50
        · refine iteDT (str_is c50) ⟨.ref l, rfl, Nat.zero_le _, fun b nb => ?_⟩
          have sb : Same H' (upd H' b (.lst [])) := same_new nb
          have elb := sb _ _ el
          have eb : (upd H' b (.lst [])) b = some (.lst []) := upd_same
          generalize upd H' b (.lst []) = Hb at sb elb eb ⊢
          refine ⟨_, .list [], .lst (.inl (.inl elb)) (dpAll_strs st.reverse), .lst (.inl (.inl eb)) .nil, shaped_four four, shaped_ints [], _, rfl, ?_⟩
          rw [eqv_nilS]
          cases st with
          | nil =>
            refine iteF (iteF ?_)
            obtain ⟨_, _, h1, h2⟩ := push (Hx := Hb) sb elb (by unfold pst; rw [if_neg (by rintro ⟨_, z⟩; cases z)])
            exact ⟨.ref l, rfl, .inl ⟨rfl, _, .inl (.inl elb)⟩, .str (S [c]), rfl, l, _, _, rfl, rfl, elb, stl, _, rfl, h1, h2⟩
          | cons p r =>
            have ne : (p :: r).reverse.isEmpty = false := by
              rw [List.reverse_cons]
              cases r.reverse <;> rfl
            rw [ne]
            have ev : Vs (p :: r).reverse = Vs r.reverse ++ [.str (S p)] := by rw [List.reverse_cons, vs_snoc]
            have elb2 := elb
            rw [ev] at elb2
            refine iteT ⟨.ref l, rfl, 1, rfl, l, _, _, .str (S p), rfl, rfl, .inl (.inl elb2), atI_last _ _, rfl, _, rfl, ?_⟩
            by_cases e48 : p = [48]
            · refine iteDT (by rw [e48]; rfl) ?_
              refine ⟨.ref l, rfl, 1, rfl, l, Vs r.reverse ++ [.str (S p)], -1, r.length, rfl, rfl, elb2, ?_, ?_⟩
              · unfold ixN
                rw [List.length_append, vs_len, List.length_reverse, if_neg (by decide)]
                have e1 : ([V.str (S p)] : List V).length = 1 := rfl
                rw [e1, if_pos (by omega)]
                congr 1
                omega
              · refine ⟨_, rfl, same_mut (Same.to sm sb) nl, ?_⟩
                have lr : r.length = (Vs r.reverse).length := by rw [vs_len, List.length_reverse]
                rw [upd_same, lr, List.set_append_right _ _ (Nat.le_refl _), Nat.sub_self]
                have ep : pst (p :: r) c = [48, 50] :: r := by
                  unfold pst
                  rw [if_pos ⟨c50, by rw [e48]; rfl⟩]
                  rfl
                rw [ep, List.reverse_cons, ← vs_snoc]
                rfl
            · refine iteDF (fun z => e48 (s_inj (V.str.inj z))) ?_
              obtain ⟨_, _, h1, h2⟩ := push (Hx := Hb) sb elb (by unfold pst; rw [if_neg (by rintro ⟨_, z⟩; exact e48 (Option.some.inj z))])
              exact ⟨.ref l, rfl, .inl ⟨rfl, _, .inl (.inl elb)⟩, .str (S [c]), rfl, l, _, _, rfl, rfl, elb, stl, _, rfl, h1, h2⟩
        · refine iteDF (str_one c50) (iteF ?_)
          obtain ⟨_, _, h1, h2⟩ := push (Hx := H') (Same.id _) el (by unfold pst; rw [if_neg (fun z => c50 z.1)])
          exact ⟨.ref l, rfl, .inl ⟨rfl, _, .inl (.inl el)⟩, .str (S [c]), rfl, l, _, _, rfl, rfl, el, stl, _, rfl, h1, h2⟩
    · refine .inl ⟨by show u.length ≤ i; omega, ?_⟩
      rw [List.take_of_length_le (by omega)] at el
      exact ⟨.ref l, rfl, q l H3 sm nl el⟩
end
end K4

namespace K4
open PySem PySem.Spec PyProof.Rows L2 Nr Nw
/-- a dict of partners: ls are the flags without one -/
structure HD (n : Nat) (ls ps : List Nat) (kvs : List (Key × V)) : Prop where
  half : Half n ls ps
  on : ∀ x y, x < n → x ∉ ls → ps[x]? = some y → valV kvs (.inl (x : Int)) = some (.int (y : Int))
  off : ∀ x, x ∈ ls → valV kvs (.inl (x : Int)) = none
theorem keyne {x y : Nat} (h : ¬ x = y) : ¬ ((Sum.inl (x : Int) : Key) = .inl (y : Int)) := fun e => h (by have := Sum.inl.inj e; omega)
theorem put_get {n a b x : Nat} {ps : List Nat} (hl : ps.length = n) (la : a < n) (lb : b < n) : ((ps.set a b).set b a)[x]? = if x = b then some a else if x = a then some b else ps[x]? := by
  rw [set_get (by rw [List.length_set, hl]; exact lb), set_get (by rw [hl]; exact la)]
theorem HD.put {n a b : Nat} {ls ps : List Nat} {kvs : List (Key × V)} (h : HD n (a :: b :: ls) ps kvs) : HD n ls ((ps.set a b).set b a) (putK (putK kvs (.inl (a : Int)) (.int (b : Int))) (.inl (b : Int)) (.int (a : Int))) := by
  have la : a < n := h.half.low a List.mem_cons_self
  have lb : b < n := h.half.low b (List.mem_cons_of_mem _ List.mem_cons_self)
  have nd := h.half.nd
  have nab : a ≠ b := fun e => (List.nodup_cons.mp nd).1 (by rw [e]; exact List.mem_cons_self)
  have na : a ∉ ls := fun e => (List.nodup_cons.mp nd).1 (List.mem_cons_of_mem _ e)
  have nb : b ∉ ls := (List.nodup_cons.mp (List.nodup_cons.mp nd).2).1
  refine ⟨h.half.put (List.Perm.refl _), fun x y hx hn hp => ?_, fun x hx => ?_⟩
  · rw [put_get h.half.len la lb] at hp
    rw [valV_put, valV_put]
    by_cases e1 : x = b
    · rw [if_pos e1] at hp
      cases hp
      rw [e1, if_pos rfl]
    · rw [if_neg e1] at hp
      rw [if_neg (keyne e1)]
      by_cases e2 : x = a
      · rw [if_pos e2] at hp
        cases hp
        rw [e2, if_pos rfl]
      · rw [if_neg e2] at hp
        rw [if_neg (keyne e2)]
        refine h.on x y hx (fun z => ?_) hp
        rcases List.mem_cons.mp z with z | z
        · exact e2 z
        · rcases List.mem_cons.mp z with z | z
          · exact e1 z
          · exact hn z
  · rw [valV_put, valV_put, if_neg (keyne fun e => nb (by rw [← e]; exact hx)), if_neg (keyne fun e => na (by rw [← e]; exact hx))]
    exact h.off x (List.mem_cons_of_mem _ (List.mem_cons_of_mem _ hx))
/-- links that are laid -/
def Kept (es : List (Nat × Nat)) (ls ps : List Nat) : Prop := ∀ e ∈ es, e.1 ∉ ls ∧ e.2 ∉ ls ∧ ps[e.1]? = some e.2 ∧ ps[e.2]? = some e.1
theorem Kept.put {n a b : Nat} {ls ps : List Nat} {es : List (Nat × Nat)} (h : Kept es (a :: b :: ls) ps) (hh : Half n (a :: b :: ls) ps) : Kept es ls ((ps.set a b).set b a) := by
  intro e he
  obtain ⟨h1, h2, h3, h4⟩ := h e he
  have la : a < n := hh.low a List.mem_cons_self
  have lb : b < n := hh.low b (List.mem_cons_of_mem _ List.mem_cons_self)
  have mem : ∀ x, x ∉ a :: b :: ls → x ≠ a ∧ x ≠ b ∧ x ∉ ls := fun x hx => ⟨fun z => hx (by rw [z]; exact List.mem_cons_self), fun z => hx (by rw [z]; exact List.mem_cons_of_mem _ List.mem_cons_self), fun z => hx (List.mem_cons_of_mem _ (List.mem_cons_of_mem _ z))⟩
  obtain ⟨x1, x2, x3⟩ := mem _ h1
  obtain ⟨y1, y2, y3⟩ := mem _ h2
  refine ⟨x3, y3, ?_, ?_⟩
  · rw [put_get hh.len la lb, if_neg x2, if_neg x1]
    exact h3
  · rw [put_get hh.len la lb, if_neg y2, if_neg y1]
    exact h4
theorem Kept.new {n a b : Nat} {ls ps : List Nat} {es : List (Nat × Nat)} (h : Kept es (a :: b :: ls) ps) (hh : Half n (a :: b :: ls) ps) : Kept (es ++ [(a, b)]) ls ((ps.set a b).set b a) := by
  intro e he
  have la : a < n := hh.low a List.mem_cons_self
  have lb : b < n := hh.low b (List.mem_cons_of_mem _ List.mem_cons_self)
  have nd := hh.nd
  have nab : a ≠ b := fun e => (List.nodup_cons.mp nd).1 (by rw [e]; exact List.mem_cons_self)
  have na : a ∉ ls := fun e => (List.nodup_cons.mp nd).1 (List.mem_cons_of_mem _ e)
  have nb : b ∉ ls := (List.nodup_cons.mp (List.nodup_cons.mp nd).2).1
  rcases List.mem_append.mp he with he | he
  · exact h.put hh e he
  · rw [List.mem_singleton.mp he]
    refine ⟨na, nb, ?_, ?_⟩
    · show ((ps.set a b).set b a)[a]? = some b
      rw [put_get hh.len la lb, if_neg nab, if_pos rfl]
    · show ((ps.set a b).set b a)[b]? = some a
      rw [put_get hh.len la lb, if_pos rfl]
def ends (es : List (Nat × Nat)) : List Nat := es.flatMap fun e => [e.1, e.2]
theorem ends_len : ∀ es : List (Nat × Nat), (ends es).length = 2 * es.length
  | [] => rfl
  | e :: r => by
    show (e.1 :: e.2 :: ends r).length = 2 * (r.length + 1)
    have := ends_len r
    simp only [List.length_cons]
    omega
theorem ends_drop {es : List (Nat × Nat)} {i : Nat} {e : Nat × Nat} (h : es[i]? = some e) : ends (es.drop i) = e.1 :: e.2 :: ends (es.drop (i + 1)) := by
  obtain ⟨h1, h2⟩ := List.getElem?_eq_some_iff.mp h
  rw [List.drop_eq_getElem_cons h1, h2]
  rfl
theorem take_get {α : Type} {u : List α} {i : Nat} {e : α} (h : u[i]? = some e) : u.take (i + 1) = u.take i ++ [e] := by
  obtain ⟨h1, h2⟩ := List.getElem?_eq_some_iff.mp h
  rw [take_next h1, h2]
theorem drop_get {α : Type} {u : List α} {i : Nat} {e : α} (h : u[i]? = some e) : u.drop i = e :: u.drop (i + 1) := by
  obtain ⟨h1, h2⟩ := List.getElem?_eq_some_iff.mp h
  rw [List.drop_eq_getElem_cons h1, h2]
section
variable {P : Program} {w : World} {K : PySem.W.Frag} {mg : Str → Option Value} {base : Heap}
/-- a list of links -/
def LinksAt (H : Hp) (l : Addr) (es : List (Nat × Nat)) : Prop := ∃ rs : List Addr, rs.length = es.length ∧ H l = some (.lst (rs.map V.ref)) ∧ ∀ (i : Nat) (e : Nat × Nat), es[i]? = some e → ∃ t, rs[i]? = some t ∧ H t = some (.tup [.int (e.1 : Int), .int (e.2 : Int)])
theorem LinksAt.same {H H' : Hp} {l : Addr} {es : List (Nat × Nat)} (h : LinksAt H l es) (s : Same H H') : LinksAt H' l es := by
  obtain ⟨rs, h1, h2, h3⟩ := h
  refine ⟨rs, h1, s _ _ h2, fun i e he => ?_⟩
  obtain ⟨t, h4, h5⟩ := h3 i e he
  exact ⟨t, h4, s _ _ h5⟩
def spHung (K : PySem.W.Frag) : Sp := fun vs H Q _ => ∃ (m lc lg l : Addr) (k many : Nat) (es : List (Nat × Nat)), vs = [.ref m, .int (many : Int), .ref l] ∧ many ≤ 30 ∧ MS H m lc lg k ∧ k < 700000 ∧ LinksAt H l es ∧ (ends es).Nodup ∧ (∀ x ∈ ends es, x < 4 * many) ∧
  ∀ (ps : List Nat) (p' : Addr) (H' : Hp), PairOk ps (4 * many) → (∀ x, x < 4 * many → ps[x]? ≠ some x) → Kept es [] ps → NetAt K H' p' (pairN ps) → MS H' m lc lg (k + 120) → Off m lg H H' → Q (.ref p') H'
theorem ok_hung (T : Txt w K mg) : Ok P w K mg base 4 "_law_hung" ["m", "many", "links"] (spHung K) := by
  refine ok_of T.fLawHung fun f fd F => ?_
  refine F.ok scLawHung (fun vs H Q E h => ?_) (fun cdv A outer s H vs Q E hr h => ?_)
  · obtain ⟨m, lc, lg, l, k, many, es, rfl, _⟩ := h
    rfl
  · obtain ⟨m, lc, lg, l, k, many, es, rfl, hm, hM, hk, hL, nde, lowe, q⟩ := h
    have hu := hu_of hr
    refine ⟨_, pss_cons (ps_set (i := 3) scLawHung.nd rfl (.inr rfl) pe_dnewK)
      (pss_cons (ps_for PassesOwn.never rfl (pi_list (pv 2)) (pg_tup rfl (pgs_cons (pg_name (i := 7) scLawHung.nd rfl (.inl rfl)) (pgs_cons (pg_name (i := 8) scLawHung.nd rfl (.inl rfl)) pgs_nil)))
        (pss_one (ps_asg (pe_tup (pa_cons (pv 8) (pa_cons (pv 7) pa_nil))) (pg_tup rfl (pgs_cons (pg_sub (pv 3) (pv 7) (set_dict hu)) (pgs_cons (pg_sub (pv 3) (pv 8) (set_dict hu)) pgs_nil))))))
      (pss_cons (ps_setLc (i := 4) (own := [("flag", 9)]) (g := gName 9) (tt := tB (tDNotIn (tVar 9) (tVar 3))) (te := tVar 9) (by rfl) scLawHung.nd rfl rfl (sw_true rfl rfl (by rfl) (by rfl)) (pi_range1 (by rfl) T.nrange (pa_cons (pe_op op_mul pe_int (pv 1)) pa_nil)) (blkOk_by (N := ["m", "many", "links", "partners", "left", "order", "n", "one", "two", "flag"]) (sc := defScope sLawHung) (by decide +kernel))
        (fun _ _ _ _ _ => pg_name (i := 9) scLawHung.nd rfl (.inl rfl)) (fun _ _ _ _ _ => pts_one (pt_cmp (pc_dnotin hu (pv 9) (pv 3)))) (fun _ _ _ _ _ => pv 9))
      (pss_cons (ps_set (i := 5) scLawHung.nd rfl (.inl rfl) (pe_callO (ok_order T) hr (by decide) (by rfl) (pa_cons (pv 0) (pa_cons (pe_callB call_len_seq (by rfl) T.nlen PySem.boot_len (pa_cons (pv 4) pa_nil)) pa_nil))))
      (pss_cons (ps_for PassesOwn.never rfl (pi_range1 (by rfl) T.nrange (pa_cons (pe_op op_fdiv (pe_callB call_len_seq (by rfl) T.nlen PySem.boot_len (pa_cons (pv 4) pa_nil)) pe_int) pa_nil)) (pg_name (i := 6) scLawHung.nd rfl (.inl rfl))
        (pss_cons (ps_par (i := 7) (j := 8) (by rfl) scLawHung.nd rfl rfl (by decide) rfl rfl (pa_cons (pe_ix (r := rIxL K) ix_list (pv 4) (pe_ix (r := rIxL K) ix_list (pv 5) (pe_op op_mul pe_int (pv 6)) (fun _ _ => rfl)) (fun _ _ => rfl)) (pa_cons (pe_ix (r := rIxL K) ix_list (pv 4) (pe_ix (r := rIxL K) ix_list (pv 5) (pe_op op_add (pe_op op_mul pe_int (pv 6)) pe_int) (fun _ _ => rfl)) (fun _ _ => rfl)) pa_nil)) (by rfl))
        (pss_one (ps_asg (pe_tup (pa_cons (pv 8) (pa_cons (pv 7) pa_nil))) (pg_tup rfl (pgs_cons (pg_sub (pv 3) (pv 7) (set_dict hu)) (pgs_cons (pg_sub (pv 3) (pv 8) (set_dict hu)) pgs_nil)))))))
      (pss_one (ps_ret (pe_callO (ok_paired T) hr (by decide) (by rfl) (pa_cons (pe_lc (own := [("flag", 9)]) (g := gName 9) (tt := tYes) (te := tDGet (tVar 3) (tVar 9)) (by rfl) scLawHung.nd (pi_range1 (by rfl) T.nrange (pa_cons (pe_op op_mul pe_int (pv 1)) pa_nil)) (blkOk_by (N := ["m", "many", "links", "partners", "left", "order", "n", "one", "two", "flag"]) (sc := defScope sLawHung) (by decide +kernel))
        (fun _ _ _ _ _ => pg_name (i := 9) scLawHung.nd rfl (.inl rfl)) (fun _ _ _ _ _ => pts_nil) (fun _ _ _ _ _ => pe_dget hu (pv 3) (pv 9) (fun _ _ => rfl))) pa_nil)))))))), ?_⟩
    obtain ⟨n, hn⟩ : ∃ n, n = 4 * many := ⟨_, rfl⟩
    have hnI : (4 : Int) * (many : Int) = (n : Int) := by omega
    have n120 : n ≤ 120 := by omega
    have toN : ((n : Nat) : Int).toNat = n := Int.toNat_natCast n
    rw [← hn] at lowe
    -- the free flags
    obtain ⟨fs, hfs⟩ : ∃ fs, fs = (List.range n).filter fun x => decide (x ∉ ends es) := ⟨_, rfl⟩
    have memf : ∀ x, x ∈ fs ↔ x < n ∧ x ∉ ends es := by
      intro x
      rw [hfs, List.mem_filter, List.mem_range, decide_eq_true_iff]
    have ndf : fs.Nodup := by rw [hfs]; exact List.nodup_range.filter _
    have nda : (ends es ++ fs).Nodup := by
      rw [List.nodup_append]
      refine ⟨nde, ndf, fun a ha b hb e => ?_⟩
      rw [← e] at hb
      exact ((memf a).mp hb).2 ha
    have perm : (ends es ++ fs).Perm (List.range n) := by
      rw [List.perm_ext_iff_of_nodup nda List.nodup_range]
      intro x
      rw [List.mem_append, List.mem_range, memf]
      constructor
      · rintro (h | h)
        · exact lowe x h
        · exact h.1
      · intro h
        by_cases e : x ∈ ends es
        · exact .inl e
        · exact .inr ⟨h, e⟩
    have hd0 : HD n (ends (es.drop 0) ++ fs) (List.replicate n 0) [] := by
      refine ⟨⟨List.length_replicate, nda, fun x hx => List.mem_range.mp (perm.mem_iff.mp hx), fun x hx hn' => absurd (perm.mem_iff.mpr (List.mem_range.mpr hx)) hn', fun x hx hn' => absurd (perm.mem_iff.mpr (List.mem_range.mpr hx)) hn'⟩, fun x y hx hn' => absurd (perm.mem_iff.mpr (List.mem_range.mpr hx)) hn', fun x _ => rfl⟩
    have lsz : 2 * es.length + fs.length = n := by
      have := perm.length_eq
      rw [List.length_append, List.length_range] at this
      have e2 := ends_len es
      omega
    intro D nD
    have s0 : Same H (upd H D (.dK [])) := same_new nD
    obtain ⟨b1, b2, b3⟩ := hM.new nD
    obtain ⟨rs, hrl, hrs, hrt⟩ := hL
    -- the links
    refine ⟨.ref l, rfl, l, rfl, ⟨rs.map V.ref, .inl (.inl (s0 _ _ hrs))⟩, ?_⟩
    refine ⟨fun i mm σ H3 => ∃ y4 y5 y6 y7 y8 y9, σ = [some (.ref m), some (.int (many : Int)), some (.ref l), some (.ref D), y4, y5, y6, y7, y8, y9] ∧ i + mm = es.length ∧ Same H H3 ∧ ∃ kvs ps, H3 D = some (.dK kvs) ∧ kvs.length ≤ 2 * i ∧ HD n (ends (es.drop i) ++ fs) ps kvs ∧ Kept (es.take i) (ends (es.drop i) ++ fs) ps,
      ⟨es.length, none, none, none, none, none, none, rfl, by omega, s0, [], List.replicate n 0, upd_same, Nat.le_refl _, hd0, fun e he => absurd he List.not_mem_nil⟩, ?_⟩
    rintro i mm σ H3 ⟨y4, y5, y6, y7, y8, y9, rfl, em, sm, kvs, ps, ek, kl, hHD, hKp⟩
    have hS3 : SqL K H3 l (rs.map V.ref) := .inl (.inl (sm _ _ hrs))
    by_cases hi : i < es.length
    · have ge : es[i]? = some es[i] := List.getElem?_eq_getElem hi
      generalize es[i] = e at ge
      obtain ⟨t, ht, hT⟩ := hrt i e ge
      have hT3 := sm _ _ hT
      have gv : (rs.map V.ref)[i]? = some (.ref t) := by rw [List.getElem?_map, ht]; rfl
      rw [ends_drop ge] at hHD hKp
      have lae : e.1 < n := hHD.half.low _ List.mem_cons_self
      have lbe : e.2 < n := hHD.half.low _ (List.mem_cons_of_mem _ List.mem_cons_self)
      refine .inr ⟨⟨_, _, hS3, gv⟩, fun σ' H' => ∃ y4 y5 y6 y7 y8 y9, σ' = [some (.ref m), some (.int (many : Int)), some (.ref l), some (.ref D), y4, y5, y6, y7, y8, y9] ∧ Same H H' ∧ ∃ kvs ps, H' D = some (.dK kvs) ∧ kvs.length ≤ 2 * (i + 1) ∧ HD n (ends (es.drop (i + 1)) ++ fs) ps kvs ∧ Kept (es.take (i + 1)) (ends (es.drop (i + 1)) ++ fs) ps, ?_, ?_⟩
      · rintro σ' H' ⟨z4, z5, z6, z7, z8, z9, e', r⟩
        exact ⟨mm - 1, by omega, z4, z5, z6, z7, z8, z9, e', by omega, r⟩
      · rintro v H' ⟨rfl, fv⟩
        have ev := Option.some.inj ((fv _ hS3).symm.trans gv)
        subst ev
        refine ⟨t, [.int (e.1 : Int), .int (e.2 : Int)], rfl, .inl (.inl hT3), rfl, _, [.int (e.2 : Int)], rfl, _, [], rfl, rfl, ?_⟩
        refine ⟨.int (e.2 : Int), rfl, .int (e.1 : Int), rfl, by show 2 ≤ sizeLine; decide, fun tt nt => ?_⟩
        have lD : D ≠ tt := ne_of_none ek nt
        have eD : (upd H' tt (.tup [.int (e.2 : Int), .int (e.1 : Int)])) D = some (.dK kvs) := by rw [upd_ne lD]; exact ek
        have lk := length_putK kvs (.inl (e.1 : Int)) (.int (e.2 : Int))
        have lk2 := length_putK (putK kvs (.inl (e.1 : Int)) (.int (e.2 : Int))) (.inl (e.2 : Int)) (.int (e.1 : Int))
        have fit : ∀ z : Nat, z ≤ 1000 → z < sizeLine := fun z hz => Nat.lt_of_le_of_lt hz (by decide)
        refine ⟨tt, [.int (e.2 : Int), .int (e.1 : Int)], rfl, .inl (.inl upd_same), rfl, .int (e.2 : Int), [.int (e.1 : Int)], rfl, .ref D, rfl, .int (e.1 : Int), rfl, D, _, rfl, .inl ⟨kvs, .inl (e.1 : Int), eD, rfl, fit _ (by omega), rfl⟩, ?_⟩
        refine ⟨.int (e.1 : Int), [], rfl, .ref D, rfl, .int (e.2 : Int), rfl, D, _, rfl, .inl ⟨_, .inl (e.2 : Int), upd_same, rfl, fit _ (by omega), rfl⟩, rfl, ?_⟩
        refine ⟨_, _, _, _, _, _, rfl, same_mut (same_mut (Same.to sm (same_new nt)) nD) nD, _, _, upd_same, by omega, hHD.put, ?_⟩
        rw [take_get ge]
        exact Kept.new hKp hHD.half
    · refine .inl ⟨⟨_, hS3, by rw [List.length_map]; omega⟩, ?_⟩
      have i0 : i = es.length := by omega
      subst i0
      rw [List.drop_length, List.take_length] at hKp
      rw [List.drop_length] at hHD
      have hKp' : Kept es fs ps := hKp
      have hHD' : HD n fs ps kvs := hHD
      clear hKp hHD
      have M3 := hM.same sm
      -- left
      have z0 : ∀ i : Nat, (0 : Int) + (i : Int) = (i : Int) := fun i => by omega
      have fit : ∀ z : Nat, z ≤ 1000 → z < sizeLine := fun z hz => Nat.lt_of_le_of_lt hz (by decide)
      obtain ⟨lf, hlf⟩ : ∃ lf, lf = (List.range n).filter fun x => decide (x ∈ fs) := ⟨_, rfl⟩
      have pl : lf.Perm fs := by
        rw [List.perm_ext_iff_of_nodup (by rw [hlf]; exact List.nodup_range.filter _) ndf]
        intro x
        rw [hlf, List.mem_filter, List.mem_range, decide_eq_true_iff]
        exact ⟨fun h => h.2, fun h => ⟨hHD'.half.low x h, h⟩⟩
      have lenl : lf.length + 2 * es.length = n := by
        have := pl.length_eq
        omega
      refine ⟨.int (many : Int), rfl, 4, (many : Int), rfl, rfl, .inl ⟨by decide, by omega⟩, ?_⟩
      refine ⟨(4 : Int) * (many : Int), rfl, by omega, by omega, fun L nL => ?_⟩
      have toN4 : ((4 : Int) * (many : Int)).toNat = n := by omega
      rw [toN4]
      obtain ⟨c1, c2, c3⟩ := M3.new nL
      have DL : D ≠ L := ne_of_none ek nL
      refine lc_range (lo := 0) (n := n) (fun i H' => Same H3 H' ∧ H' L = some (.lst (Vi ((List.range i).filter fun x => decide (x ∈ fs))))) ⟨same_new nL, upd_same⟩ (fun i H' hi h => ?_) (fun H4 h => ?_)
      · obtain ⟨s4, e4⟩ := h
        rw [z0]
        have ek' := s4 _ _ ek
        refine ⟨rfl, .int (i : Int), rfl, .ref D, rfl, D, valV kvs (.inl (i : Int)), rfl, .inl ⟨kvs, .inl (i : Int), .inl ek', rfl, rfl⟩, _, rfl, ?_⟩
        have er : (List.range (i + 1)).filter (fun x => decide (x ∈ fs)) = ((List.range i).filter fun x => decide (x ∈ fs)) ++ (if i ∈ fs then [i] else []) := by
          rw [List.range_succ, List.filter_append]
          congr 1
          by_cases e : i ∈ fs
          · rw [if_pos e, List.filter_cons_of_pos (by rw [decide_eq_true e])]
            rfl
          · rw [if_neg e, List.filter_cons_of_neg (by rw [decide_eq_false e]; decide)]
            rfl
        rw [er]
        by_cases hf : i ∈ fs
        · rw [hHD'.off i hf, if_pos hf]
          refine iteT ⟨.int (i : Int), rfl, _, e4, ?_, same_mut s4 nL, ?_⟩
          · rw [vi_len]
            exact fit _ (Nat.le_trans (List.length_filter_le _ _) (by rw [List.length_range]; omega))
          · rw [upd_same, vi_snoc]
        · obtain ⟨y, hy, _, py, _⟩ := hHD'.half.has i hi hf
          rw [hHD'.on i y hi hf py, if_neg hf, List.append_nil]
          exact iteF ⟨s4, e4⟩
      · obtain ⟨s4, e4⟩ := h
        rw [← hlf] at e4
        have ek4 := s4 _ _ ek
        have M4 := M3.same s4
        have o4 : Off m lg H H4 := Off.same (Same.to sm s4)
        refine ⟨.ref m, rfl, .ref L, rfl, L, Vi lf, rfl, .inl (.inl (.inl e4)), m, lc, lg, k, (Vi lf).length, rfl, M4, by rw [vi_len]; omega, by rw [vi_len]; omega, fun os p2 H5 hP np2 e5 M5 o5 => ?_⟩
        rw [vi_len] at hP M5
        have oL5 := o5 L _ c1 c3 e4
        have oD5 := o5 D _ b1 b3 ek4
        have DL5 : D ≠ p2 := fun z => by rw [z, np2] at ek4; cases ek4
        -- the drawn list of the free flags
        obtain ⟨qs, hqs⟩ : ∃ qs, qs = os.map fun j => lf[j]?.getD 0 := ⟨_, rfl⟩
        have plq : qs.Perm lf := by
          have h1 : qs.Perm ((List.range lf.length).map fun j => lf[j]?.getD 0) := by rw [hqs]; exact hP.map _
          have h2 : ((List.range lf.length).map fun j => lf[j]?.getD 0) = lf := by
            refine List.ext_getElem (by rw [List.length_map, List.length_range]) fun i h1 h2 => ?_
            rw [List.getElem_map, List.getElem_range, List.getElem?_eq_getElem h2]
            rfl
          rw [h2] at h1
          exact h1
        have pq : qs.Perm fs := plq.trans pl
        have lq : qs.length = lf.length := plq.length_eq
        have lo : os.length = lf.length := by rw [hP.length_eq, List.length_range]
        have get2 : ∀ j, j < lf.length → ∃ (a b : Nat), os[j]? = some a ∧ lf[a]? = some b ∧ qs[j]? = some b := by
          intro j hj
          have g1 : os[j]? = some os[j] := List.getElem?_eq_getElem (by omega)
          have lt : os[j] < lf.length := List.mem_range.mp (hP.mem_iff.mp (List.getElem_mem (by omega)))
          refine ⟨os[j], lf[os[j]], g1, List.getElem?_eq_getElem lt, ?_⟩
          rw [hqs, List.getElem?_map, g1]
          show some (lf[os[j]]?.getD 0) = _
          rw [List.getElem?_eq_getElem lt]
          rfl
        have hd5 : HD n (qs.drop (2 * 0)) ps kvs := by
          refine ⟨⟨hHD'.half.len, pq.nodup_iff.mpr hHD'.half.nd, fun x hx => hHD'.half.low x (pq.mem_iff.mp hx), fun x hx hn' => ?_, fun x hx hn' => hHD'.half.mv x hx fun z => hn' (pq.mem_iff.mpr z)⟩, fun x y hx hn' => hHD'.on x y hx fun z => hn' (pq.mem_iff.mpr z), fun x hx => hHD'.off x (pq.mem_iff.mp hx)⟩
          obtain ⟨y, h1, h2, h3⟩ := hHD'.half.has x hx fun z => hn' (pq.mem_iff.mpr z)
          exact ⟨y, h1, fun z => h2 (pq.mem_iff.mp z), h3⟩
        have kp5 : Kept es (qs.drop (2 * 0)) ps := fun e he => by
          obtain ⟨h1, h2, h3⟩ := hKp' e he
          exact ⟨fun z => h1 (pq.mem_iff.mp z), fun z => h2 (pq.mem_iff.mp z), h3⟩
        clear hHD' hKp'
        have e2 : ((lf.length : Int)) / 2 = ((lf.length / 2 : Nat) : Int) := by omega
        refine ⟨.ref L, rfl, L, Vi lf, rfl, .inl (.inl (.inl oL5)), _, _, rfl, rfl, ⟨by decide, by decide⟩, ((Vi lf).length : Int) / 2, rfl, by rw [vi_len]; omega, by rw [vi_len]; omega, ?_⟩
        rw [vi_len, e2, Int.toNat_natCast]
        refine ⟨fun i mm σ H6 => ∃ y6 y7 y8 y9 ps kvs, σ = [some (.ref m), some (.int (many : Int)), some (.ref l), some (.ref D), some (.ref L), some (.ref p2), y6, y7, y8, y9] ∧ i + mm = lf.length / 2 ∧ H6 D = some (.dK kvs) ∧ kvs.length ≤ 2 * es.length + 2 * i ∧ H6 L = some (.lst (Vi lf)) ∧ H6 p2 = some (.lst (Vi os)) ∧ HD n (qs.drop (2 * i)) ps kvs ∧ Kept es (qs.drop (2 * i)) ps ∧ MS H6 m lc lg (k + lf.length) ∧ Off m lg H H6,
          ⟨lf.length / 2, y6, y7, y8, y9, ps, kvs, rfl, by omega, oD5, kl, oL5, e5, hd5, kp5, M5, o4.to o5⟩, ?_⟩
        clear hd5 kp5 ek4 ek M4 oD5 kl
        rintro i mm σ H6 ⟨y6, y7, y8, y9, ps, kvs, rfl, em2, ek, kl, el6, ep6, hHD, hKp, M6, o6⟩
        by_cases hi : i < lf.length / 2
        · obtain ⟨ja, a, oa, la, qa⟩ := get2 (2 * i) (by omega)
          obtain ⟨jb, b, ob, lb, qb⟩ := get2 (2 * i + 1) (by omega)
          have dq : qs.drop (2 * i) = a :: b :: qs.drop (2 * (i + 1)) := by
            rw [drop_get qa, drop_get qb]
            rfl
          rw [dq] at hHD hKp
          refine .inr ⟨hi, fun σ' H' => ∃ y6 y7 y8 y9 ps kvs, σ' = [some (.ref m), some (.int (many : Int)), some (.ref l), some (.ref D), some (.ref L), some (.ref p2), y6, y7, y8, y9] ∧ H' D = some (.dK kvs) ∧ kvs.length ≤ 2 * es.length + 2 * (i + 1) ∧ H' L = some (.lst (Vi lf)) ∧ H' p2 = some (.lst (Vi os)) ∧ HD n (qs.drop (2 * (i + 1))) ps kvs ∧ Kept es (qs.drop (2 * (i + 1))) ps ∧ MS H' m lc lg (k + lf.length) ∧ Off m lg H H', ?_, ?_⟩
          · rintro σ' H' ⟨z6, z7, z8, z9, ps', kvs', e', r⟩
            exact ⟨mm - 1, by omega, z6, z7, z8, z9, ps', kvs', e', by omega, r⟩
          · rintro v H' ⟨rfl, rfl⟩
            have ixa : (2 : Int) * (0 + (i : Nat)) = ((2 * i : Nat) : Int) := by omega
            have ixb : (2 : Int) * (0 + (i : Nat)) + 1 = ((2 * i + 1 : Nat) : Int) := by omega
            refine ⟨.ref L, rfl, .ref p2, rfl, .int (0 + (i : Nat)), rfl, 2, 0 + (i : Nat), rfl, rfl, .inl ⟨by decide, by omega⟩, p2, Vi os, (2 : Int) * (0 + (i : Nat)), .int (ja : Int), rfl, rfl, .inl (.inl ep6), by rw [ixa]; exact atI_nat (vi_get oa), L, Vi lf, (ja : Int), .int (a : Int), rfl, rfl, .inl (.inl el6), atI_nat (vi_get la), ?_⟩
            refine ⟨.ref L, rfl, .ref p2, rfl, .int (0 + (i : Nat)), rfl, 2, 0 + (i : Nat), rfl, rfl, .inl ⟨by decide, by omega⟩, _, _, rfl, rfl, p2, Vi os, (2 : Int) * (0 + (i : Nat)) + 1, .int (jb : Int), rfl, rfl, .inl (.inl ep6), by rw [ixb]; exact atI_nat (vi_get ob), L, Vi lf, (jb : Int), .int (b : Int), rfl, rfl, .inl (.inl el6), atI_nat (vi_get lb), ?_⟩
            refine ⟨_, _, rfl, ?_⟩
            refine ⟨.int (b : Int), rfl, .int (a : Int), rfl, by show 2 ≤ sizeLine; decide, fun tt nt => ?_⟩
            have lD : D ≠ tt := ne_of_none ek nt
            have lL : L ≠ tt := ne_of_none el6 nt
            have lp : p2 ≠ tt := ne_of_none ep6 nt
            have LD : L ≠ D := DL.symm
            have pD : p2 ≠ D := DL5.symm
            obtain ⟨t1, t2, t3⟩ := M6.new nt
            have eD : (upd H' tt (.tup [.int (b : Int), .int (a : Int)])) D = some (.dK kvs) := by rw [upd_ne lD]; exact ek
            have lk := length_putK kvs (.inl (a : Int)) (.int (b : Int))
            have lk2 := length_putK (putK kvs (.inl (a : Int)) (.int (b : Int))) (.inl (b : Int)) (.int (a : Int))
            refine ⟨tt, [.int (b : Int), .int (a : Int)], rfl, .inl (.inl upd_same), rfl, .int (b : Int), [.int (a : Int)], rfl, .ref D, rfl, .int (a : Int), rfl, D, _, rfl, .inl ⟨kvs, .inl (a : Int), eD, rfl, fit _ (by omega), rfl⟩, ?_⟩
            refine ⟨.int (a : Int), [], rfl, .ref D, rfl, .int (b : Int), rfl, D, _, rfl, .inl ⟨_, .inl (b : Int), upd_same, rfl, fit _ (by omega), rfl⟩, rfl, ?_⟩
            refine ⟨_, _, _, _, _, _, rfl, upd_same, by omega, ?_, ?_, hHD.put, hKp.put hHD.half, ?_, ?_⟩
            · rw [upd_ne LD, upd_ne LD, upd_ne lL]
              exact el6
            · rw [upd_ne pD, upd_ne pD, upd_ne lp]
              exact ep6
            · exact ((M6.mut t1 t2 t3).mut b1 b2 b3).mut b1 b2 b3
            · intro x ob h1 h2 e
              have x1 : x ≠ D := fun z => by rw [z, nD] at e; cases e
              have e6 := o6 x ob h1 h2 e
              have x2 : x ≠ tt := ne_of_none e6 nt
              rw [upd_ne x1, upd_ne x1, upd_ne x2]
              exact e6
        · refine .inl ⟨by show lf.length / 2 ≤ i; omega, ?_⟩
          have i2 : 2 * i = lf.length := by omega
          rw [i2, ← lq, List.drop_length] at hHD hKp
          have pok := hHD.half.ok
          have lps : ps.length = n := pok.1
          refine ⟨.int (many : Int), rfl, 4, (many : Int), rfl, rfl, .inl ⟨by decide, by omega⟩, ?_⟩
          refine ⟨(4 : Int) * (many : Int), rfl, by omega, by omega, fun L2 nL2 => ?_⟩
          rw [toN4]
          obtain ⟨d1, d2, d3⟩ := M6.new nL2
          refine lc_range (lo := 0) (n := n) (fun i H' => Same H6 H' ∧ H' L2 = some (.lst (Vi (ps.take i)))) ⟨same_new nL2, upd_same⟩ (fun i H' hi h => ?_) (fun H7 h => ?_)
          · obtain ⟨s7, e7⟩ := h
            rw [z0]
            obtain ⟨y, hy, _, py, _⟩ := hHD.half.has i hi List.not_mem_nil
            refine ⟨rfl, yes (iteT ?_)⟩
            refine ⟨.ref D, rfl, .int (i : Int), rfl, D, .int (y : Int), rfl, .inl ⟨kvs, .inl (i : Int), .inl (s7 _ _ ek), rfl, (hHD.on i y hi List.not_mem_nil py).symm⟩, ?_⟩
            refine ⟨_, e7, ?_, same_mut s7 nL2, ?_⟩
            · rw [vi_len]
              exact fit _ (Nat.le_trans (by rw [List.length_take]; exact Nat.min_le_left _ _) (show i ≤ 1000 by omega))
            · rw [upd_same, vi_snoc, take_get py]
          · obtain ⟨s7, e7⟩ := h
            rw [List.take_of_length_le (by omega)] at e7
            refine ⟨L2, ps, rfl, .inl (.inl e7), by omega, fun p' H8 s8 hN8 => ?_⟩
            have mvd := hHD.half.moved
            rw [hn] at pok mvd
            exact q ps p' H8 pok mvd hKp hN8 (((M6.same s7).same s8).le (by omega)) ((o6.to (Off.same s7)).to (Off.same s8))
end
end K4

namespace K4
open PySem PySem.Spec PyProof.Rows L2 Nr Nw
/-- the worth of a piece that is not "1" -/
def pv4 (p : List Nat) : Nat := if p = [48] then 1 else if p = [50] then 2 else 3
/-- where a walk over pieces is: flag, links, edges -/
structure Wk where
  h : Nat
  es : List (Nat × Nat)
  k : Nat
def wst (s : Wk) (p : List Nat) : Wk := if p = [49] then ⟨4 * (s.k + 1), s.es ++ [(s.h, 4 * (s.k + 1))], s.k + 1⟩ else ⟨s.h + pv4 p, s.es, s.k⟩
def wOf (ps : List (List Nat)) : Wk := ps.foldl wst ⟨0, [], 0⟩
theorem wOf_snoc (ps : List (List Nat)) (p : List Nat) : wOf (ps ++ [p]) = wst (wOf ps) p := by
  unfold wOf
  rw [List.foldl_append]
  rfl
theorem wst_one (s : Wk) : wst s [49] = ⟨4 * (s.k + 1), s.es ++ [(s.h, 4 * (s.k + 1))], s.k + 1⟩ := if_pos rfl
theorem wst_ne (s : Wk) {p : List Nat} (h : p ≠ [49]) : wst s p = ⟨s.h + pv4 p, s.es, s.k⟩ := if_neg h
theorem pv4_le (p : List Nat) : 1 ≤ pv4 p ∧ pv4 p ≤ 3 := by
  unfold pv4
  split
  · omega
  · split <;> omega
theorem ends_app (es : List (Nat × Nat)) (a b : Nat) : ends (es ++ [(a, b)]) = ends es ++ [a, b] := by
  unfold ends
  rw [List.flatMap_append]
  rfl
structure WInv (st : List (List Nat)) (s : Wk) : Prop where
  one : st.head? = some [49] → s.h = 4 * s.k ∧ 0 < s.k
  nil : st = [] → s.h = 0 ∧ s.k = 0 ∧ s.es = []
  oth : ∀ p, st.head? = some p → p ≠ [49] → s.h = 4 * s.k + pv4 p
  nd : (ends s.es).Nodup
  low : ∀ x ∈ ends s.es, x ≤ 4 * s.k
  len : s.es.length = s.k
  kl : s.k ≤ st.length
theorem w_inv : ∀ {st : List (List Nat)}, Pal st → WInv st (wOf st.reverse)
  | [], _ => by
    have e : wOf ([] : List (List Nat)).reverse = ⟨0, [], 0⟩ := rfl
    rw [e]
    exact ⟨(fun z => by cases z), (fun _ => ⟨rfl, rfl, rfl⟩), (fun p z => by cases z), List.nodup_nil, fun x hx => (by cases hx), rfl, Nat.le_refl _⟩
  | p :: r, hp => by
    have ih := w_inv hp.tail
    rw [List.reverse_cons, wOf_snoc]
    generalize wOf r.reverse = s at ih ⊢
    by_cases e : p = [49]
    · subst e
      rw [wst_one]
      have hh : s.h ∉ ends s.es ∧ s.h ≤ 4 * s.k + 3 := by
        cases r with
        | nil =>
          obtain ⟨h1, h2, h3⟩ := ih.nil rfl
          rw [h3, h1]
          exact ⟨List.not_mem_nil, by omega⟩
        | cons q r =>
          have nq : q ≠ [49] := by
            rcases hp.2.1 with z | z
            · exact z.2
            · exact absurd rfl z.1
          have := ih.oth q rfl nq
          have := pv4_le q
          exact ⟨fun z => by have := ih.low _ z; omega, by omega⟩
      refine ⟨fun _ => ⟨rfl, Nat.succ_pos _⟩, (fun z => by cases z), (fun p z hz => by cases z; exact absurd rfl hz), ?_, ?_, ?_, ?_⟩
      · show (ends (s.es ++ [(s.h, 4 * (s.k + 1))])).Nodup
        rw [ends_app, List.nodup_append]
        refine ⟨ih.nd, ?_, ?_⟩
        · refine List.nodup_cons.mpr ⟨fun z => ?_, List.nodup_cons.mpr ⟨List.not_mem_nil, List.nodup_nil⟩⟩
          have := List.mem_singleton.mp z
          omega
        · intro a ha b hb e
          subst e
          have l1 := ih.low a ha
          rcases List.mem_cons.mp hb with z | z
          · exact hh.1 (by rw [← z]; exact ha)
          · have := List.mem_singleton.mp z
            omega
      · intro x hx
        have hx' : x ∈ ends (s.es ++ [(s.h, 4 * (s.k + 1))]) := hx
        show x ≤ 4 * (s.k + 1)
        rw [ends_app] at hx'
        rcases List.mem_append.mp hx' with z | z
        · have := ih.low x z
          omega
        · rcases List.mem_cons.mp z with z | z
          · omega
          · have := List.mem_singleton.mp z
            omega
      · show (s.es ++ [(s.h, 4 * (s.k + 1))]).length = s.k + 1
        rw [List.length_append, ih.len]
        rfl
      · show s.k + 1 ≤ r.length + 1
        have := ih.kl
        omega
    · rw [wst_ne s e]
      have hh : s.h = 4 * s.k := by
        cases r with
        | nil =>
          obtain ⟨h1, h2, h3⟩ := ih.nil rfl
          omega
        | cons q r =>
          have nq : q = [49] := by
            rcases hp.2.1 with z | z
            · exact absurd z.1 e
            · exact z.2
          exact (ih.one (by rw [nq]; rfl)).1
      refine ⟨fun z => absurd (Option.some.inj z) e, (fun z => by cases z), (fun p z hz => by cases z; show s.h + pv4 _ = 4 * s.k + pv4 _; omega), ih.nd, ih.low, ih.len, ?_⟩
      show s.k ≤ r.length + 1
      have := ih.kl
      omega
theorem w_pos {st : List (List Nat)} {s : Wk} (h : WInv st s) (hne : st ≠ []) : s.h ≠ 0 := by
  cases st with
  | nil => exact absurd rfl hne
  | cons p r =>
    by_cases e : p = [49]
    · have := h.one (by rw [e]; rfl)
      omega
    · have := h.oth p rfl e
      have := pv4_le p
      omega
theorem w_h {st : List (List Nat)} {s : Wk} (h : WInv st s) : s.h < 4 * (s.k + 1) := by
  cases st with
  | nil =>
    have := h.nil rfl
    omega
  | cons p r =>
    by_cases e : p = [49]
    · have := h.one (by rw [e]; rfl)
      omega
    · have := h.oth p rfl e
      have := pv4_le p
      omega
/-- the told net leads as the walk goes -/
theorem w_lead {ps : List Nat} {n : Nat} (hok : PairOk ps n) : ∀ {st : List (List Nat)}, Pal st → (∀ e ∈ (wOf st.reverse).es, ps[e.1]? = some e.2) → 4 * ((wOf st.reverse).k + 1) ≤ n → (pairN ps).lead 0 st.reverse.flatten = (wOf st.reverse).h
  | [], _, _, _ => rfl
  | p :: r, hp, hk, hn => by
    have inv := w_inv hp.tail
    rw [List.reverse_cons, wOf_snoc] at hk hn ⊢
    have kk : (wOf r.reverse).k ≤ (wst (wOf r.reverse) p).k ∧ ∀ e ∈ (wOf r.reverse).es, e ∈ (wst (wOf r.reverse) p).es := by
      unfold wst
      split
      · exact ⟨Nat.le_succ _, fun e he => List.mem_append_left _ he⟩
      · exact ⟨Nat.le_refl _, fun e he => he⟩
    have ih := w_lead hok hp.tail (fun e he => hk e (kk.2 e he)) (by have := kk.1; omega)
    have el : (pairN ps).lead 0 (r.reverse ++ [p]).flatten = p.foldl (pairN ps).stp ((pairN ps).lead 0 r.reverse.flatten) := by
      unfold Net.lead
      rw [List.flatten_append, List.foldl_append]
      have : ([p] : List (List Nat)).flatten = p := List.append_nil p
      rw [this]
    rw [el, ih]
    generalize hs : wOf r.reverse = s at inv hk hn kk ⊢
    have hlt := w_h inv
    have k1 := kk.1
    have hx : s.h < n := by omega
    by_cases e : p = [49]
    · subst e
      rw [wst_one] at hk ⊢
      show (pairN ps).stp s.h 49 = 4 * (s.k + 1)
      rw [(pair_stp hok hx).2.2, hk (s.h, 4 * (s.k + 1)) (List.mem_append_right _ List.mem_cons_self)]
      rfl
    · rw [wst_ne s e] at hn ⊢
      show p.foldl (pairN ps).stp s.h = s.h + pv4 p
      have hn' : 4 * (s.k + 1) ≤ n := hn
      have h4 : s.h % 4 = 0 := by
        cases r with
        | nil =>
          have := inv.nil rfl
          omega
        | cons q r =>
          have nq : q = [49] := by
            rcases hp.2.1 with z | z
            · exact absurd z.1 e
            · exact z.2
          have := (inv.one (by rw [nq]; rfl)).1
          omega
      have s0 : (pairN ps).stp s.h 48 = s.h + 1 := by
        rw [(pair_stp hok hx).1]
        unfold endF
        rw [if_pos (by omega)]
      have s2 : (pairN ps).stp s.h 50 = s.h + 2 := by
        rw [(pair_stp hok hx).2.1]
        unfold sideF
        rw [if_pos (by omega)]
      have s3 : (pairN ps).stp (s.h + 1) 50 = s.h + 3 := by
        rw [(pair_stp hok (show s.h + 1 < n by omega)).2.1]
        unfold sideF
        rw [if_pos (by omega)]
      rcases hp.head with z | z | z | z
      · subst z; exact s0
      · subst z; exact s2
      · subst z
        show (pairN ps).stp ((pairN ps).stp s.h 48) 50 = _
        rw [s0, s3]
        rfl
      · exact absurd z e
theorem worth {p : List Nat} (h : P4 p) (hn : p ≠ [49]) : valV (mergeK [] ([(Sum.inr "0", V.int 1), (Sum.inr "2", V.int 2), (Sum.inr "02", V.int 3)] : List (Key × V))) (.inr (S p)) = some (.int (pv4 p : Int)) := by
  unfold mergeK
  rw [List.foldl_cons, List.foldl_cons, List.foldl_cons, List.foldl_nil, valV_put, valV_put, valV_put]
  rcases h with e | e | e | e
  · subst e
    rw [if_neg (inr_ne (by decide +kernel)), if_neg (inr_ne (by decide +kernel)), if_pos (by rfl)]
    rfl
  · subst e
    rw [if_neg (inr_ne (by decide +kernel)), if_pos (by rfl)]
    rfl
  · subst e
    rw [if_pos (by rfl)]
    rfl
  · exact absurd e hn
theorem vs_mem {ws : List (List Nat)} {i : Nat} (h : i < ws.length) : ∃ u, ws[i]? = some u ∧ u ∈ ws ∧ (Vs ws)[i]? = some (.str (S u)) := ⟨ws[i], List.getElem?_eq_getElem h, List.getElem_mem h, vs_get (List.getElem?_eq_getElem h)⟩
end K4

namespace K4
open PySem PySem.Spec PyProof.Rows L2 Nr Nw
theorem call_reprS {X : Cx} : CallR X (.builtin "repr") (fun xs H Q => ∃ z, xs = [.str z] ∧ (reprText z).length ≤ sizeLine ∧ Q (.str (reprText z)) H) := by
  intro pins s σ H xs us Q I r h
  obtain ⟨z, rfl, hz, q⟩ := h
  obtain ⟨u, rfl, t, rfl⟩ := vals1 r
  exact P.repr_of_str ⟨.str (reprText z), H, I.tok _, ⟨_, rfl⟩, q⟩ hz
theorem repr_short {u : List Nat} (h : Wd u) (hl : u.length ≤ 100) : (reprText (S u)).length ≤ 1002 := by
  have := StrLaws.reprText_len (S u) (fun c hc => by
    have hc' : c ∈ u := hc
    rcases h c hc' with e | e | e <;> subst e <;> decide)
  have e : (S u).length = u.length := rfl
  omega
def Leaf (d : PyData) : Prop := (∃ u, d = .str (S u) ∧ Wd u ∧ u.length ≤ 100) ∨ ∃ b, d = .bool b
theorem Leaf.shown {d : PyData} (h : Leaf d) : d.showable = true ∧ d.hasDict = false ∧ d.depth = 0 ∧ d.shown.length ≤ 1002 := by
  rcases h with ⟨u, rfl, hu, hl⟩ | ⟨b, rfl⟩
  · exact ⟨by unfold PyData.showable; rfl, by unfold PyData.hasDict; rfl, by unfold PyData.depth; rfl, by unfold PyData.shown; exact repr_short hu hl⟩
  · exact ⟨by unfold PyData.showable; rfl, by unfold PyData.hasDict; rfl, by unfold PyData.depth; rfl, by unfold PyData.shown; cases b <;> decide +kernel⟩
theorem leaf_all : ∀ {ds : List PyData}, (∀ d ∈ ds, Leaf d) → PyData.showableAll ds = true ∧ PyData.hasDictAll ds = false ∧ PyData.depthAll ds = 0 ∧ (PyData.shownAll ds).length = ds.length ∧ ∀ t ∈ PyData.shownAll ds, t.length ≤ 1002
  | [], _ => ⟨by unfold PyData.showableAll; rfl, by unfold PyData.hasDictAll; rfl, by unfold PyData.depthAll; rfl, by unfold PyData.shownAll; rfl, fun t ht => by unfold PyData.shownAll at ht; cases ht⟩
  | d :: r, h => by
    obtain ⟨h1, h2, h3, h4⟩ := (h d List.mem_cons_self).shown
    obtain ⟨i1, i2, i3, i4, i5⟩ := leaf_all fun x hx => h x (List.mem_cons_of_mem _ hx)
    refine ⟨?_, ?_, ?_, ?_, fun t ht => ?_⟩
    · unfold PyData.showableAll
      rw [h1, i1]
      rfl
    · unfold PyData.hasDictAll
      rw [h2, i2]
      rfl
    · unfold PyData.depthAll
      rw [h3, i3]
      rfl
    · unfold PyData.shownAll
      simp only [List.length_cons, i4]
    · unfold PyData.shownAll at ht
      rcases List.mem_cons.mp ht with e | e
      · rw [e]; exact h4
      · exact i5 t e
theorem textFrom_le : ∀ (ts : List Str) (k : Nat) (acc : Str), (∀ t ∈ ts, t.length ≤ 1002) → (textFrom k acc ts).length ≤ acc.length + 1004 * ts.length
  | [], k, acc, _ => Nat.le_refl _
  | t :: r, k, acc, h => by
    have ih := textFrom_le r (k + 1) (acc ++ (if k > 0 then ", " else "" : String) ++ t) fun x hx => h x (List.mem_cons_of_mem _ hx)
    have ht := h t List.mem_cons_self
    have e : textFrom k acc (t :: r) = textFrom (k + 1) (acc ++ (if k > 0 then ", " else "" : String) ++ t) r := rfl
    rw [e]
    have l : (acc ++ ((if k > 0 then ", " else "" : String) : Str) ++ t).length ≤ acc.length + 2 + t.length := by
      rw [strLen_append, strLen_append]
      split
      · exact Nat.le_refl _
      · show acc.length + 0 + t.length ≤ _
        omega
    simp only [List.length_cons]
    omega
theorem shows_list {ds : List PyData} (h : ∀ d ∈ ds, Leaf d) (hl : ds.length ≤ 10) : Shows (.list ds) := by
  obtain ⟨h1, h2, h3, h4, h5⟩ := leaf_all h
  refine ⟨?_, ?_, ?_, ?_⟩
  · unfold PyData.showable; exact h1
  · unfold PyData.hasDict; exact h2
  · unfold PyData.depth
    rw [h3]
    decide
  · unfold PyData.shown
    have := textFrom_le (PyData.shownAll ds) 0 "[" h5
    unfold listText
    rw [strLen_append]
    rw [h4] at this
    have e1 : ("[" : Str).length = 1 := rfl
    have e2 : ("]" : Str).length = 1 := rfl
    rw [e1] at this
    show _ + ("]" : Str).length ≤ _
    rw [e2]
    exact Nat.le_trans (show _ ≤ 20000 by omega) (by decide)
section
variable {P : Program} {w : World} {K : PySem.W.Frag} {mg : Str → Option Value} {base : Heap}
def spLk (K : PySem.W.Frag) : Sp := fun vs H Q _ => (∃ (a b : Addr) (d : PyData), vs = [.ref a, .ref b] ∧ Dp K H (.ref a) d ∧ Dp K H (.ref b) d ∧ Shows d ∧ Q (.bl true) H) ∨ ∃ u : List Nat, vs = [.str (S u), .str (S u)] ∧ Wd u ∧ u.length ≤ 100 ∧ Q (.bl true) H
theorem ok_lk (T : Txt w K mg) : OkG P w K mg base 1 "_law_like" ["got", "due"] (spLk K) := by
  obtain ⟨f, fd, h1, F, h3⟩ := T.fLawLike
  refine ⟨f, fd, h1, F.kp, h3, ?_⟩
  refine Nr.Fun.okG F scLawLike (fun vs H Q E h => ?_) (fun cdv A outer s H vs Q E hg hr h => ?_)
  · rcases h with ⟨a, b, d, rfl, _⟩ | ⟨u, rfl, _⟩ <;> rfl
  · refine ⟨_, pss_one (ps_ret (pe_cmpR op_eq (pe_callB ((call_reprD hg hr.units).or call_reprS) (by rfl) T.nrepr (by decide +kernel) (pa_cons (pv 0) pa_nil)) (pe_callB ((call_reprD hg hr.units).or call_reprS) (by rfl) T.nrepr (by decide +kernel) (pa_cons (pv 1) pa_nil)) (nomark _))), ?_⟩
    rcases h with ⟨a, b, d, rfl, da, db, sh, q⟩ | ⟨u, rfl, hu, hl, q⟩
    · refine ⟨.ref a, rfl, .inl ⟨a, d, rfl, da, sh, .ref b, rfl, .inl ⟨b, d, rfl, db, sh, rfl, ?_⟩⟩⟩
      rw [decide_eq_true rfl]
      exact q
    · have lz : (reprText (S u)).length ≤ sizeLine := Nat.le_trans (repr_short hu hl) (by decide)
      refine ⟨.str (S u), rfl, .inr ⟨S u, rfl, lz, .str (S u), rfl, .inr ⟨S u, rfl, lz, rfl, ?_⟩⟩⟩
      rw [decide_eq_true rfl]
      exact q
end
end K4

namespace K4
open PySem PySem.Spec PyProof.Rows L2 Nr Nw
/-! ### codes: a row of them, both ways; mirrors -/
abbrev Ty (a : Nat) : Bool := decide (a = 4)
theorem ty_ne {a b : Nat} : Ty a ≠ Ty b ↔ (a = 4 ∧ b ≠ 4) ∨ (a ≠ 4 ∧ b = 4) := by
  unfold Ty
  by_cases h1 : a = 4 <;> by_cases h2 : b = 4 <;> simp [h1, h2]
theorem alt_cons {a : Nat} {r : List Nat} : Alt (a :: r) ↔ Cd a ∧ Alt r ∧ ∀ b, r.head? = some b → Ty a ≠ Ty b := by
  cases r with
  | nil => exact ⟨fun h => ⟨h, trivial, (fun b hb => by cases hb)⟩, fun h => h.1⟩
  | cons b q =>
    constructor
    · intro h
      exact ⟨h.1, h.2.2, fun c hc => by cases hc; exact ty_ne.mpr h.2.1⟩
    · intro h
      exact ⟨h.1, ty_ne.mp (h.2.2 b rfl), h.2.1⟩
theorem alt_app : ∀ {A B : List Nat}, Alt (A ++ B) ↔ Alt A ∧ Alt B ∧ ∀ a b, A.getLast? = some a → B.head? = some b → Ty a ≠ Ty b
  | [], B => ⟨fun h => ⟨trivial, h, (fun a b ha => by cases ha)⟩, fun h => h.2.1⟩
  | [x], B => by
    show Alt (x :: B) ↔ _
    rw [alt_cons]
    constructor
    · rintro ⟨h1, h2, h3⟩
      exact ⟨h1, h2, fun a b ha hb => by cases ha; exact h3 b hb⟩
    · rintro ⟨h1, h2, h3⟩
      exact ⟨h1, h2, fun b hb => h3 x b rfl hb⟩
  | x :: y :: r, B => by
    show Alt (x :: ((y :: r) ++ B)) ↔ _
    rw [alt_cons, alt_app, alt_cons (r := y :: r)]
    have e : (x :: y :: r).getLast? = (y :: r).getLast? := List.getLast?_cons_cons
    rw [e]
    constructor
    · rintro ⟨h1, ⟨h2, h3, h4⟩, h5⟩
      exact ⟨⟨h1, h2, fun b hb => h5 b hb⟩, h3, h4⟩
    · rintro ⟨⟨h1, h2, h5⟩, h3, h4⟩
      exact ⟨h1, ⟨h2, h3, h4⟩, fun b hb => h5 b hb⟩
theorem alt_rev : ∀ {A : List Nat}, Alt A → Alt A.reverse
  | [], _ => trivial
  | a :: r, h => by
    obtain ⟨h1, h2, h3⟩ := alt_cons.mp h
    rw [List.reverse_cons, alt_app]
    refine ⟨alt_rev h2, h1, fun x y hx hy => ?_⟩
    cases hy
    rw [List.getLast?_reverse] at hx
    exact (h3 x hx).symm
/-- led on by the codes of a word's signs -/
def Fo (s u : List Nat) : List Nat := u.foldl (fun s c => put s (cd c)) s
theorem fo_app (s u v : List Nat) : Fo s (u ++ v) = Fo (Fo s u) v := List.foldl_append ..
theorem put_ty {s : List Nat} {c : Nat} (h : ∀ b, s.head? = some b → Ty b ≠ Ty c) : put s c = c :: s := by
  cases s with
  | nil => rfl
  | cons a r =>
    rw [put_cons]
    exact if_pos (h a rfl)
theorem fo_sg {s : List Nat} {a : Nat} (ha : Cd a) (h : ∀ b, s.head? = some b → Ty b ≠ Ty a) : Fo s (sg a) = a :: s ∧ Fo s (sg a).reverse = a :: s := by
  rcases ha with e | e | e | e <;> subst e
  · exact ⟨put_ty h, put_ty h⟩
  · exact ⟨put_ty h, put_ty h⟩
  · have h1 : put s 1 = 1 :: s := put_ty h
    have h2 : put s 2 = 2 :: s := put_ty h
    constructor
    · show put (put s 2) 1 = _
      rw [h2]
      rfl
    · show put (put s 1) 2 = _
      rw [h1]
      rfl
  · exact ⟨put_ty h, put_ty h⟩
theorem fo_spell : ∀ {st s0 : List Nat}, Alt st → (∀ a b, s0.head? = some a → st.head? = some b → Ty a ≠ Ty b) → Fo s0 (spell st) = st.reverse ++ s0
  | [], s0, _, _ => rfl
  | a :: r, s0, h, hd => by
    obtain ⟨h1, h2, h3⟩ := alt_cons.mp h
    rw [spell_cons, fo_app, (fo_sg h1 fun b hb => hd b a hb rfl).1, fo_spell h2 (fun x y hx hy => by cases hx; exact h3 y hy), List.reverse_cons, List.append_assoc]
    rfl
theorem codes_back {st : List Nat} (h : Alt st) : codesOf (spell st) = st.reverse := by
  have := fo_spell (s0 := []) h (fun a b ha => by cases ha)
  rw [List.append_nil] at this
  exact this
theorem codes_word : ∀ {st : List Nat}, Alt st → codesOf (spell st).reverse = st
  | [], _ => rfl
  | a :: r, h => by
    obtain ⟨h1, h2, h3⟩ := alt_cons.mp h
    rw [spell_cons, List.reverse_append]
    show Fo [] ((spell r).reverse ++ (sg a).reverse) = _
    rw [fo_app]
    have ih : Fo [] (spell r).reverse = r := codes_word h2
    rw [ih, (fo_sg h1 fun b hb => (h3 b hb).symm).2]
theorem spell_inj {s t : List Nat} (hs : Alt s) (ht : Alt t) (h : spell s = spell t) : s = t := by
  rw [← codes_word hs, ← codes_word ht, h]
theorem spell_codes {u : List Nat} (h : Wd u) : spell (codesOf u) = go [] u := (codes_go (s := []) trivial h).2
theorem cut_codes {u : List Nat} (h : Wd u) : cut u = (spell (codesOf u)).reverse := by rw [spell_codes h]; rfl
theorem codes_same {u v : List Nat} (hu : Wd u) (hv : Wd v) : codesOf u = codesOf v ↔ cut u = cut v := by
  constructor
  · intro h
    rw [cut_codes hu, cut_codes hv, h]
  · intro h
    refine spell_inj (codes_alt hu) (codes_alt hv) ?_
    have := congrArg List.reverse h
    rw [cut_codes hu, cut_codes hv, List.reverse_reverse, List.reverse_reverse] at this
    exact this
theorem sg_wd (c : Nat) : Wd (sg c) := by
  unfold sg
  intro x hx
  split at hx
  · rw [List.mem_singleton.mp hx]; exact .inl rfl
  · split at hx
    · rw [List.mem_singleton.mp hx]; exact .inr (.inr rfl)
    · split at hx
      · rcases List.mem_cons.mp hx with e | e
        · rw [e]; exact .inr (.inr rfl)
        · rw [List.mem_singleton.mp e]; exact .inl rfl
      · rw [List.mem_singleton.mp hx]; exact .inr (.inl rfl)
theorem spell_wd (s : List Nat) : Wd (spell s) := fun x hx => by
  obtain ⟨c, _, h⟩ := List.mem_flatMap.mp hx
  exact sg_wd c x h
theorem codes_rev {u : List Nat} (h : Wd u) : codesOf u.reverse = (codesOf u).reverse := by
  rw [← codes_back (codes_alt h), codes_same (wd_rev.mpr h) (spell_wd _)]
  have := cut_rev h
  rw [cut_codes h, List.reverse_reverse] at this
  exact this.symm
/-- words that lead alike -/
def E2 (u v : List Nat) : Prop := ∀ s, Rd s → go s u = go s v
theorem e2_of {u v : List Nat} (hu : Wd u) (hv : Wd v) (h : cut u = cut v) : E2 u v := fun s hs => by
  rw [← go_cut hs hu, ← go_cut hs hv, h]
theorem cut_of {u v : List Nat} (h : E2 u v) : cut u = cut v := by
  unfold cut
  rw [h [] rd_nil]
theorem E2.app {u v x y : List Nat} (hu : Wd u) (h : E2 u v) (k : E2 x y) : E2 (u ++ x) (v ++ y) := fun s hs => by
  rw [go_append, go_append, ← h s hs, k _ (go_rd hs hu)]
theorem E2.sym {u v : List Nat} (h : E2 u v) : E2 v u := fun s hs => (h s hs).symm
theorem E2.trans {u v x : List Nat} (h : E2 u v) (k : E2 v x) : E2 u x := fun s hs => (h s hs).trans (k s hs)
theorem E2.id (u : List Nat) : E2 u u := fun _ _ => rfl
theorem E2.home {u : List Nat} (h : Wd u) : E2 (u ++ u.reverse) [] := fun s hs => by
  rw [go_append, go_home hs h]
  rfl
theorem E2.home' {u : List Nat} (h : Wd u) : E2 (u.reverse ++ u) [] := by
  have := E2.home (wd_rev.mpr h)
  rw [List.reverse_reverse] at this
  exact this
/-- a word done twice vanishes if the word is its own back -/
theorem twice_iff {u : List Nat} (h : Wd u) : cut (u ++ u) = [] ↔ codesOf u = (codesOf u).reverse := by
  rw [← codes_rev h, codes_same h (wd_rev.mpr h)]
  constructor
  · intro e
    have := cut_eq_of (u := u.reverse) (wd_rev.mpr h) h (by rw [List.reverse_reverse]; exact e)
    exact this.symm
  · intro e
    have := E2.app h (E2.id u) (e2_of h (wd_rev.mpr h) e)
    rw [cut_of (this.trans (E2.home h))]
    rfl
/-- rows of codes of even length have unlike ends -/
theorem alt_ends : ∀ (n : Nat) {s : List Nat}, s.length = n → Alt s → ∀ a b, s.head? = some a → s.getLast? = some b → (Ty a = Ty b ↔ n % 2 = 1)
  | 0, s, hn, _, a, b, ha, _ => by
    rw [List.length_eq_zero_iff.mp hn] at ha
    cases ha
  | 1, s, hn, _, a, b, ha, hb => by
    match s, hn with
    | [x], _ =>
      cases ha
      cases hb
      exact ⟨fun _ => rfl, fun _ => rfl⟩
  | n + 2, s, hn, h, a, b, ha, hb => by
    match s, hn with
    | x :: y :: r, hn =>
      cases ha
      obtain ⟨_, h2, h3⟩ := alt_cons.mp h
      have ih := alt_ends (n + 1) (s := y :: r) (by simpa using hn) h2 y b rfl (by rw [← hb]; exact (List.getLast?_cons_cons).symm)
      have hxy := h3 y rfl
      have key : ∀ p q r : Bool, p ≠ q → ((p = r) ↔ ¬ (q = r)) := by decide
      rw [key _ _ _ hxy, ih]
      omega
/-- one's own back: exactly odd rows -/
theorem pal_odd {s : List Nat} (h : Alt s) (hp : s = s.reverse) : s ≠ [] ↔ s.length % 2 = 1 := by
  constructor
  · intro hne
    cases s with
    | nil => exact absurd rfl hne
    | cons a r =>
      have hl : (a :: r).getLast? = some a := by
        rw [hp, List.getLast?_reverse]
        rfl
      exact (alt_ends _ rfl h a a rfl hl).mp rfl
  · intro ho hn
    rw [hn] at ho
    cases ho
def isMir (u : List Nat) : Bool := decide ((codesOf u).length % 2 = 1) && decide (codesOf u = (codesOf u).reverse)
theorem cut_nil {u : List Nat} (h : Wd u) : cut u = [] ↔ codesOf u = [] := by
  have := codes_same h (v := []) (fun c hc => by cases hc)
  exact this.symm
theorem isMir_iff {u : List Nat} (h : Wd u) : isMir u = true ↔ cut u ≠ [] ∧ cut (u ++ u) = [] := by
  unfold isMir
  rw [Bool.and_eq_true, decide_eq_true_iff, decide_eq_true_iff, twice_iff h]
  constructor
  · rintro ⟨h1, h2⟩
    exact ⟨fun z => (pal_odd (codes_alt h) h2).mpr h1 ((cut_nil h).mp z), h2⟩
  · rintro ⟨h1, h2⟩
    exact ⟨(pal_odd (codes_alt h) h2).mp fun z => h1 ((cut_nil h).mpr z), h2⟩
end K4

namespace K4
open PySem PySem.Spec PyProof.Rows L2 Nr Nw
theorem eqv_nats : ∀ cs ds : List Nat, PyData.eqvAll (cs.map fun (n : Nat) => PyData.int (n : Int)) (ds.map fun (n : Nat) => PyData.int (n : Int)) = decide (cs = ds)
  | [], [] => by unfold PyData.eqvAll; rfl
  | [], d :: q => by unfold PyData.eqvAll; exact (decide_eq_false (fun z : [] = d :: q => by cases z)).symm
  | c :: r, [] => by unfold PyData.eqvAll; exact (decide_eq_false (fun z : c :: r = [] => by cases z)).symm
  | c :: r, d :: q => by
    have ih := eqv_nats r q
    rw [List.map_cons, List.map_cons]
    unfold PyData.eqvAll
    rw [ih]
    have e1 : PyData.eqv (.int (c : Int)) (.int (d : Int)) = decide (c = d) := by
      unfold PyData.eqv
      by_cases e : c = d
      · rw [e, decide_eq_true rfl]
        exact beq_self_eq_true _
      · rw [decide_eq_false e]
        exact beq_false_of_ne fun z => e (by omega)
    rw [e1]
    by_cases e : c = d <;> by_cases e2 : r = q <;> simp [e, e2]
theorem dp_vi {K : PySem.W.Frag} {H : Hp} : ∀ cs : List Nat, DpAll K H (Vi cs) (cs.map fun (n : Nat) => PyData.int (n : Int))
  | [] => .nil
  | c :: r => .cons (.int (c : Int)) (dp_vi r)
theorem shaped_nats (cs : List Nat) : SeqAt.shaped (.list (cs.map fun (n : Nat) => PyData.int (n : Int))) = true := by
  have := shaped_ints (cs.map fun (n : Nat) => (n : Int))
  rw [List.map_map] at this
  exact this
theorem vi_rev' (cs : List Nat) : (Vi cs).reverse = Vi cs.reverse := by
  unfold Vi
  rw [List.map_reverse]
theorem spell_len : ∀ s : List Nat, (spell s).length ≤ 2 * s.length
  | [] => Nat.le_refl _
  | c :: r => by
    have ih := spell_len r
    rw [spell_cons, List.length_append, List.length_cons]
    have h : (sg c).length ≤ 2 := by
      unfold sg
      split
      · decide
      · split
        · decide
        · split <;> decide
    omega
theorem alt_take {st : List Nat} (h : Alt st) (m : Nat) : Alt (st.take m) := by
  rw [← List.take_append_drop m st] at h
  exact (alt_app.mp h).1
section
variable {P : Program} {w : World} {K : PySem.W.Frag} {mg : Str → Option Value} {base : Heap}
def palB (st : List Nat) : Bool := decide (st.length % 2 = 1) && decide (st = st.reverse)
def spMirRow (K : PySem.W.Frag) : Sp := fun vs H Q _ => ∃ (l : Addr) (st : List Nat), vs = [.ref l] ∧ SqL K H l (Vi st.reverse) ∧ st.length ≤ 20000 ∧ ∀ H', Same H H' → Q (.bl (palB st)) H'
theorem ok_mirRow (T : Txt w K mg) : Ok P w K mg base 1 "is_mirror_row" ["codes"] (spMirRow K) := by
  refine ok_of T.fIsMirrorRow fun f fd F => ?_
  refine F.ok scIsMirrorRow (fun vs H Q E h => ?_) (fun cdv A outer s H vs Q E hr h => ?_)
  · obtain ⟨l, st, rfl, _⟩ := h
    rfl
  · obtain ⟨l, st, rfl, hS, hz, q⟩ := h
    refine ⟨_, pss_one (ps_ret (pe_and (pe_cmpR op_eq (pe_op op_mod (pe_callB call_len_seq (by rfl) T.nlen PySem.boot_len (pa_cons (pv 0) pa_nil)) pe_int) pe_int (nomark _)) (pe_one (pe_cmpR (op_eqD hr.units) (pv 0) (pe_revL (pv 0)) (nomark _))))), ?_⟩
    have pos2 : (0 : Int) < 2 := by decide
    have hl : (Vi st.reverse).length = st.length := by rw [vi_len, List.length_reverse]
    refine ⟨.ref l, rfl, l, _, rfl, .inl hS, _, _, rfl, rfl, pos2, rfl, _, rfl, ?_⟩
    rw [hl]
    by_cases e : st.length % 2 = 1
    · refine iteDT (congrArg V.int (show ((st.length : Int)) % 2 = 1 by omega)) ⟨.ref l, rfl, .ref l, rfl, l, _, rfl, hS, fun p np => ?_⟩
      have sn : Same H (upd H p (.lst (Vi st.reverse).reverse)) := same_new np
      refine ⟨_, _, .lst (sn.seq hS) (dp_vi _), .lst (.inl (.inl upd_same)) (by rw [vi_rev']; exact dp_vi _), shaped_nats _, shaped_nats _, ?_⟩
      have ee : PyData.eqv (.list (st.reverse.map fun (n : Nat) => PyData.int (n : Int))) (.list (st.reverse.reverse.map fun (n : Nat) => PyData.int (n : Int))) = palB st := by
        unfold PyData.eqv
        rw [eqv_nats, List.reverse_reverse]
        unfold palB
        rw [decide_eq_true e, Bool.true_and]
        by_cases e2 : st = st.reverse
        · rw [decide_eq_true e2, decide_eq_true e2.symm]
        · rw [decide_eq_false e2, decide_eq_false fun z => e2 z.symm]
      rw [ee]
      exact q _ sn
    · refine iteDF (fun z => e (by have := V.int.inj z; omega)) ?_
      have : palB st = false := by
        unfold palB
        rw [decide_eq_false e]
        rfl
      rw [← this]
      exact q H (Same.id H)
def spIsMirror : Sp := fun vs H Q _ => ∃ u : List Nat, vs = [.str (S u)] ∧ Wt u ∧ ∀ H', Same H H' → Q (.bl (isMir u)) H'
theorem ok_isMirror (T : Txt w K mg) : Ok P w K mg base 3 "is_mirror" ["word"] spIsMirror := by
  refine ok_of T.fIsMirror fun f fd F => ?_
  refine F.ok scIsMirror (fun vs H Q E h => ?_) (fun cdv A outer s H vs Q E hr h => ?_)
  · obtain ⟨u, rfl, _⟩ := h
    rfl
  · obtain ⟨u, rfl, hu, q⟩ := h
    refine ⟨_, pss_one (ps_ret (pe_callO (ok_mirRow T) hr (by decide) (by rfl) (pa_cons (pe_callO (ok_coded T) hr (by decide) (by rfl) (pa_cons (pe_callO (ok_need T) hr (by decide) (by rfl) (pa_cons (pv 0) pa_nil)) pa_nil)) pa_nil))), ?_⟩
    have cl := codes_len _ u rfl
    have := hu.2
    exact ⟨.str (S u), rfl, u, rfl, hu.1, fun H1 s1 => ⟨u, rfl, hu, fun H2 p s2 np ep => ⟨p, codesOf u, rfl, .inl (.inl ep), by omega, fun H3 s3 => q H3 (Same.to s1 (Same.to s2 s3))⟩⟩⟩
def homeN (u : List Nat) : Nat := if cut u = [] then 1 else if isMir u = true then 2 else 0
def spTimesHome : Sp := fun vs H Q _ => ∃ u : List Nat, vs = [.str (S u)] ∧ Wt u ∧ ∀ H', Same H H' → Q (.int (homeN u : Int)) H'
theorem ok_timesHome (T : Txt w K mg) : Ok P w K mg base 3 "times_home" ["word"] spTimesHome := by
  refine ok_of T.fTimesHome fun f fd F => ?_
  refine F.ok scTimesHome (fun vs H Q E h => ?_) (fun cdv A outer s H vs Q E hr h => ?_)
  · obtain ⟨u, rfl, _⟩ := h
    rfl
  · obtain ⟨u, rfl, hu, q⟩ := h
    refine ⟨_, pss_cons (ps_set (i := 1) scTimesHome.nd rfl (.inl rfl) (pe_callO (ok_coded T) hr (by decide) (by rfl) (pa_cons (pe_callO (ok_need T) hr (by decide) (by rfl) (pa_cons (pv 0) pa_nil)) pa_nil)))
      (pss_cons (ps_if (pt_not (pt_truth (pv 1) (by intro _; rfl))) (pss_one (ps_ret pe_int)) pss_nil)
      (pss_cons (ps_if (pt_val (pe_callO (ok_mirRow T) hr (by decide) (by rfl) (pa_cons (pv 1) pa_nil))) (pss_one (ps_ret pe_int)) pss_nil)
      (pss_one (ps_ret pe_int)))), ?_⟩
    have cl := codes_len _ u rfl
    have := hu.2
    refine ⟨.str (S u), rfl, u, rfl, hu.1, fun H1 s1 => ⟨u, rfl, hu, fun H2 p s2 np ep => ?_⟩⟩
    have s12 := Same.to s1 s2
    by_cases e : cut u = []
    · have e0 := (cut_nil hu.1).mp e
      have hh : homeN u = 1 := if_pos e
      rw [e0] at ep
      refine ⟨.ref p, rfl, false, .inl ⟨[], .inl (.inl ep), rfl⟩, iteT ?_⟩
      have := q H2 s12
      rw [hh] at this
      exact this
    · have e0 : codesOf u ≠ [] := fun z => e ((cut_nil hu.1).mpr z)
      refine ⟨.ref p, rfl, true, .inl ⟨_, .inl (.inl ep), ?_⟩, iteF ?_⟩
      · cases hc : (codesOf u).reverse with
        | nil => exact absurd (by rw [← List.reverse_reverse (codesOf u), hc]; rfl) e0
        | cons a r => rfl
      · refine ⟨.ref p, rfl, p, codesOf u, rfl, .inl (.inl ep), by omega, fun H3 s3 => ⟨isMir u, rfl, ?_⟩⟩
        have qq := q H3 (Same.to s12 s3)
        cases hm : isMir u with
        | true =>
          have hh : homeN u = 2 := by unfold homeN; rw [if_neg e, if_pos hm]
          rw [hh] at qq
          exact iteT qq
        | false =>
          have hh : homeN u = 0 := by unfold homeN; rw [if_neg e, hm, if_neg (by decide)]
          rw [hh] at qq
          exact iteF qq
def spMirrorOf : Sp := fun vs H Q _ => ∃ u : List Nat, vs = [.str (S u)] ∧ Wt u ∧ (isMir u = false → ∀ H', Same H H' → Q .non H') ∧
  (isMir u = true → ∀ (c : Nat) (p : Addr) (H' : Hp), (codesOf u)[(codesOf u).length / 2]? = some c → Same H H' → H p = none → H' p = some (.tup [.str (S (spell ((codesOf u).take ((codesOf u).length / 2))).reverse), .str (S (sg c).reverse)]) → Q (.ref p) H')
theorem ok_mirrorOf (T : Txt w K mg) : Ok P w K mg base 3 "mirror_of" ["word"] spMirrorOf := by
  refine ok_of T.fMirrorOf fun f fd F => ?_
  refine F.ok scMirrorOf (fun vs H Q E h => ?_) (fun cdv A outer s H vs Q E hr h => ?_)
  · obtain ⟨u, rfl, _⟩ := h
    rfl
  · obtain ⟨u, rfl, hu, q0, q1⟩ := h
    refine ⟨_, pss_cons (ps_set (i := 1) scMirrorOf.nd rfl (.inl rfl) (pe_callO (ok_coded T) hr (by decide) (by rfl) (pa_cons (pe_callO (ok_need T) hr (by decide) (by rfl) (pa_cons (pv 0) (pa_nil))) (pa_nil))))
         (pss_cons (ps_if (pt_not (pt_val (pe_callO (ok_mirRow T) hr (by decide) (by rfl) (pa_cons (pv 1) (pa_nil))))) (pss_one (ps_ret (pe_non))) (pss_nil))
         (pss_cons (ps_set (i := 2) scMirrorOf.nd rfl (.inl rfl) (pe_op op_fdiv (pe_callB call_len_seq (by rfl) T.nlen PySem.boot_len (pa_cons (pv 1) (pa_nil))) (pe_int)))
         (pss_one (ps_ret (pe_tup (pa_cons (pe_callO (ok_limited T) hr (by decide) (by rfl) (pa_cons (pe_callO (ok_spelled T) hr (by decide) (by rfl) (pa_cons (pe_slice sl_list (pv 1) (po_some (pe_op op_add (pv 2) pe_int)) po_none) (pa_nil))) (pa_nil))) (pa_cons (pe_callO (ok_spelled T) hr (by decide) (by rfl) (pa_cons (pe_lst (pa_cons (pe_ix (r := rIxL K) ix_list (pv 1) (pv 2) (fun _ _ => rfl)) (pa_nil))) (pa_nil))) (pa_nil)))))))), ?_⟩
    have cl := codes_len _ u rfl
    have := hu.2
    refine ⟨.str (S u), rfl, u, rfl, hu.1, fun H1 s1 => ⟨u, rfl, hu, fun H2 p s2 np ep => ?_⟩⟩
    have s12 := Same.to s1 s2
    refine ⟨.ref p, rfl, p, codesOf u, rfl, .inl (.inl ep), by omega, fun H3 s3 => ⟨isMir u, rfl, ?_⟩⟩
    have s13 := Same.to s12 s3
    have ep3 := s3 _ _ ep
    cases hm : isMir u with
    | false => exact iteT (q0 hm H3 s13)
    | true =>
      have hm' := hm
      unfold isMir at hm'
      rw [Bool.and_eq_true, decide_eq_true_iff, decide_eq_true_iff] at hm'
      obtain ⟨odd, pal⟩ := hm'
      have alt := codes_alt hu.1
      have q1 := q1 hm
      rw [← pal] at ep3
      generalize codesOf u = st at odd pal alt q1 ep3 cl
      obtain ⟨m, hm2⟩ : ∃ m, m = st.length / 2 := ⟨_, rfl⟩
      have lst : st.length = 2 * m + 1 := by omega
      rw [← hm2] at q1
      obtain ⟨c, hc⟩ : ∃ c, st[m]? = some c := ⟨_, List.getElem?_eq_getElem (by omega)⟩
      have hcd : Cd c := alt.all c (List.mem_of_getElem? hc)
      have edm : ((Vi st).length : Int) / 2 = (m : Int) := by rw [vi_len]; omega
      refine iteF ⟨.ref p, rfl, p, Vi st, rfl, .inl (.inl (.inl ep3)), _, _, rfl, rfl, ⟨by decide, by decide⟩, ?_⟩
      show (fun x H1 => gName 2 x _ H1 _) (V.int (((Vi st).length : Int) / 2)) H3
      rw [edm]
      refine ⟨.ref p, rfl, .int (m : Int), rfl, _, _, rfl, rfl, (m : Int) + 1, rfl, p, Vi st, rfl, .inl (.inl ep3), fun p2 np2 => ?_⟩
      have ecut : cutV (Vi st) (some ((m : Int) + 1)) none = Vi (st.drop (m + 1)) := by
        unfold cutV
        have h1 : HT.sIx (Vi st).length 0 (some ((m : Int) + 1)) = m + 1 := by
          rw [vi_len]
          exact (HT.sIx_nat _ _ (m + 1)).trans (Nat.min_eq_left (by omega))
        have h2 : HT.sIx (Vi st).length (Vi st).length none = (Vi st).length := rfl
        rw [h1, h2]
        unfold Vi
        rw [← List.map_drop, List.take_of_length_le (by rw [List.length_map, List.length_map, List.length_drop]; omega)]
      have edrop : st.drop (m + 1) = (st.take m).reverse := by
        have : st.drop (m + 1) = st.reverse.drop (m + 1) := by rw [← pal]
        rw [this, List.drop_reverse]
        congr 2
        omega
      have s4 : Same H3 (upd H3 p2 (.lst (cutV (Vi st) (some ((m : Int) + 1)) none))) := same_new np2
      refine ⟨p2, st.take m, rfl, .inl (.inl (by rw [upd_same, ecut, edrop])), alt_take alt m, by rw [List.length_take]; omega, fun H5 s5 => ⟨(spell (st.take m)).reverse, rfl, ?_, ?_⟩⟩
      · rw [List.length_reverse]
        have := spell_len (st.take m)
        rw [List.length_take] at this
        omega
      · have ep5 := s5 _ _ (s4 _ _ ep3)
        refine ⟨.ref p, rfl, .int (m : Int), rfl, p, Vi st, _, _, rfl, rfl, .inl (.inl ep5), atI_nat (vi_get hc), by show 1 ≤ sizeLine; decide, fun p3 np3 => ?_⟩
        refine ⟨p3, [c], rfl, .inl (.inl upd_same), hcd, by show 1 ≤ 20000; decide, fun H6 s6 => ⟨by show 2 ≤ sizeLine; decide, fun p4 np4 => ?_⟩⟩
        have sAll := Same.to s13 (Same.to s4 (Same.to s5 (Same.to (same_new np3) s6)))
        have ev : spell [c] = sg c := List.append_nil _
        rw [ev]
        refine q1 c p4 _ hc (Same.to sAll (same_new np4)) (none_of sAll np4) upd_same
end
end K4

namespace K4
open PySem PySem.Spec PyProof.Rows L2 Nr Nw
section
variable {P : Program} {w : World} {K : PySem.W.Frag} {mg : Str → Option Value} {base : Heap}
theorem tyx_tup {H : Hp} {a : Addr} {xs : List V} (h : SqT K H a xs) : TyX K H (.ref a) (.type "tuple") := by
  rcases h with (h | ⟨o, h⟩) | ⟨o, its, n, h, c, _⟩
  · exact .base (.tup h)
  · exact .fTuple h
  · exact .kTuple h c
/-! ### _law_of, _law_is_int, _law_turned_back, _law_is_mirror -/
def spOf : Sp := fun vs H Q _ => ∃ (m lc lg l : Addr) (k : Nat) (ws : List (List Nat)), vs = [.ref m, .ref l] ∧ MS H m lc lg k ∧ k < 900000 ∧ H l = some (.lst (Vs ws)) ∧ l ≠ m ∧ l ≠ lg ∧ 0 < ws.length ∧ ws.length < 1000 ∧
  ∀ (u : List Nat) (H' : Hp), u ∈ ws → MS H' m lc lg (k + 1) → Off m lg H H' → Q (.str (S u)) H'
theorem ok_of' (T : Txt w K mg) : Ok P w K mg base 3 "_law_of" ["m", "some"] spOf := by
  refine ok_of T.fLawOf fun f fd F => ?_
  refine F.ok scLawOf (fun vs H Q E h => ?_) (fun cdv A outer s H vs Q E hr h => ?_)
  · obtain ⟨m, lc, lg, l, k, ws, rfl, _⟩ := h
    rfl
  · obtain ⟨m, lc, lg, l, k, ws, rfl, hM, hk, el, lm, llg, w0, w1, q⟩ := h
    refine ⟨_, pss_one (ps_ret (pe_ix (r := rIxL K) ix_list (pv 1) (pe_callO (ok_draw T) hr (by decide) (by rfl) (pa_cons (pv 0) (pa_cons (pe_callB call_len_seq (by rfl) T.nlen PySem.boot_len (pa_cons (pv 1) (pa_nil))) (pa_nil)))) (fun _ _ => rfl))), ?_⟩
    refine ⟨.ref l, rfl, .ref m, rfl, .ref l, rfl, l, Vs ws, rfl, .inl (.inl (.inl el)), m, lc, lg, k, _, rfl, ⟨by rw [vs_len]; omega, by rw [vs_len]; omega⟩, hM, hk, fun d H' hd M' o' => ?_⟩
    rw [vs_len] at hd
    obtain ⟨u, gu, mu, gv⟩ := vs_mem (show d < ws.length by omega)
    exact ⟨l, Vs ws, (d : Int), _, rfl, rfl, .inl (.inl (o' l _ lm llg el)), atI_nat gv, q u H' mu M' o'⟩
def spIsInt : Sp := fun vs H Q _ => ∃ (x : Nat) (hi : Int), vs = [.int (x : Int), .int 0, .int hi] ∧ (x : Int) ≤ hi ∧ Q (.bl true) H
theorem ok_isInt (T : Txt w K mg) : Ok P w K mg base 1 "_law_is_int" ["thing", "low", "high"] spIsInt := by
  refine ok_of T.fLawIsInt fun f fd F => ?_
  refine F.ok scLawIsInt (fun vs H Q E h => ?_) (fun cdv A outer s H vs Q E hr h => ?_)
  · obtain ⟨x, hi, rfl, _⟩ := h
    rfl
  · obtain ⟨x, hi, rfl, hx, q⟩ := h
    refine ⟨_, pss_one (ps_ret (pe_and (pe_callB call_isi (by rfl) T.nisinstance (by decide +kernel) (pa_cons (pv 0) (pa_cons (pe_bltn (v := .ty "int") (by rfl) T.nint (by decide +kernel) rfl) pa_nil))) (pe_and (pe_not (pe_callB call_isi (by rfl) T.nisinstance (by decide +kernel) (pa_cons (pv 0) (pa_cons (pe_bltn (v := .ty "bool") (by rfl) T.nbool (by decide +kernel) rfl) pa_nil)))) (pe_one (pe_chain op_le op_le (pv 1) (pv 0) (pv 2)))))), ?_⟩
    refine ⟨.int (x : Int), rfl, .int (x : Int), .ty "int", .type "int", .type "int", true, rfl, .ty "int", .base (.int _), kit_ty (by decide +kernel), true, rfl, iteT ?_⟩
    refine ⟨.int (x : Int), rfl, .int (x : Int), .ty "bool", .type "int", .type "bool", false, rfl, .ty "bool", .base (.int _), kit_ty (by decide +kernel), false, rfl, true, rfl, iteT ?_⟩
    refine ⟨.int 0, rfl, .int (x : Int), rfl, 0, (x : Int), rfl, rfl, _, rfl, iteDT (by omega) ⟨.int hi, rfl, (x : Int), hi, rfl, rfl, ?_⟩⟩
    show Q (.bl (decide ((x : Int) ≤ hi))) H
    rw [decide_eq_true hx]
    exact q
def spBackL : Sp := fun vs H Q _ => ∃ u : List Nat, vs = [.str (S u)] ∧ Wt u ∧ Q (.str (S (cut u.reverse))) H
theorem ok_backL (T : Txt w K mg) : Ok P w K mg base 2 "_law_turned_back" ["word"] spBackL := by
  refine ok_of T.fLawTurnedBack fun f fd F => ?_
  refine F.ok scLawTurnedBack (fun vs H Q E h => ?_) (fun cdv A outer s H vs Q E hr h => ?_)
  · obtain ⟨u, rfl, _⟩ := h
    rfl
  · obtain ⟨u, rfl, hu, q⟩ := h
    refine ⟨_, pss_one (ps_ret (pe_callO (ok_cut T) hr (by decide) (by rfl) (pa_cons (pe_revS (pv 0)) (pa_nil)))), ?_⟩
    have := hu.2
    exact ⟨.str (S u), rfl, S u, rfl, Nat.le_trans (show u.length ≤ 20000 by omega) (by decide), u.reverse, rfl, ⟨wd_rev.mpr hu.1, by rw [List.length_reverse]; exact hu.2⟩, q⟩
def spIsMirL : Sp := fun vs H Q _ => ∃ u : List Nat, vs = [.str (S u)] ∧ Wd u ∧ u.length ≤ 1000 ∧ Q (.bl (decide (u ≠ []) && decide (cut (u ++ u) = []))) H
theorem ok_isMirL (T : Txt w K mg) : Ok P w K mg base 2 "_law_is_mirror" ["word"] spIsMirL := by
  refine ok_of T.fLawIsMirror fun f fd F => ?_
  refine F.ok scLawIsMirror (fun vs H Q E h => ?_) (fun cdv A outer s H vs Q E hr h => ?_)
  · obtain ⟨u, rfl, _⟩ := h
    rfl
  · obtain ⟨u, rfl, hu, hz, q⟩ := h
    refine ⟨_, pss_one (ps_ret (pe_and (pe_cmpR (op_ne) (pv 0) (pe_str) (nomark _)) (pe_one (pe_cmpR (op_eq) (pe_callO (ok_cut T) hr (by decide) (by rfl) (pa_cons (pe_op op_add_str (pv 0) (pv 0)) (pa_nil))) (pe_str) (nomark _))))), ?_⟩
    refine ⟨.str (S u), rfl, rfl, _, rfl, ?_⟩
    have hs : (V.str (S u) = V.str (S [])) ↔ u = [] := ⟨fun z => s_inj (V.str.inj z), fun z => by rw [z]⟩
    have fits : (S u).length + (S u).length ≤ sizeLine := Nat.le_trans (show u.length + u.length ≤ 10000 by omega) (by decide)
    by_cases e : u = []
    · have hf : (decide (u ≠ []) && decide (cut (u ++ u) = [])) = false := by rw [decide_eq_false (fun z => z e)]; rfl
      rw [hf] at q
      have e1 : (!decide (V.str (S u) = V.str (S []))) = false := by rw [decide_eq_true (hs.mpr e)]; rfl
      show if (!decide (V.str (S u) = V.str (S []))) = true then _ else _
      rw [e1]
      exact iteF q
    · have e1 : (!decide (V.str (S u) = V.str (S []))) = true := by rw [decide_eq_false fun z => e (hs.mp z)]; rfl
      show if (!decide (V.str (S u) = V.str (S []))) = true then _ else _
      rw [e1]
      refine iteT ⟨.str (S u), rfl, .str (S u), rfl, S u, S u, rfl, rfl, fits, u ++ u, congrArg (fun z => [V.str z]) (s_app u u), ⟨wd_append.mpr ⟨hu, hu⟩, by rw [List.length_append]; omega⟩, rfl, ?_⟩
      have e2 : decide (V.str (S (cut (u ++ u))) = V.str (S [])) = (decide (u ≠ []) && decide (cut (u ++ u) = [])) := by
        rw [decide_eq_true e, Bool.true_and]
        by_cases c : cut (u ++ u) = []
        · rw [decide_eq_true c, c]
          exact decide_eq_true rfl
        · rw [decide_eq_false c]
          exact decide_eq_false fun z => c (s_inj (V.str.inj z))
      show Q (.bl (decide (V.str (S (cut (u ++ u))) = V.str (S [])))) H
      rw [e2]
      exact q
/-! ### _law_is_net -/
theorem none_ones {H : Hp} {D : Addr} (e : H D = some (.lst [])) : Dp K H (.ref D) (.list []) := .lst (.inl (.inl e)) .nil
def spIsNet (K : PySem.W.Frag) : Sp := fun vs H Q _ => ∃ (p : Addr) (N : Net) (n : Nat), vs = [.ref p, .int (n : Int)] ∧ NetAt K H p N ∧ N.Of n ∧ 0 < n ∧ n ≤ 1000 ∧ Nw.Acts N.stp (· < n) ∧ N.Free n ∧ ∀ H', Same H H' → Q (.bl true) H'
theorem ok_isNet (T : Txt w K mg) : Ok P w K mg base 2 "_law_is_net" ["value", "many"] (spIsNet K) := by
  refine ok_of T.fLawIsNet fun f fd F => ?_
  refine F.ok scLawIsNet (fun vs H Q E h => ?_) (fun cdv A outer s H vs Q E hr h => ?_)
  · obtain ⟨p, N, n, rfl, _⟩ := h
    rfl
  · obtain ⟨p, N, n, rfl, hN, hO, n0, n1, hA, hF, q⟩ := h
    refine ⟨_, pss_cons (ps_if (PW.pt (pw_or (pt_not (pt_val (pe_callB call_isi (by rfl) T.nisinstance (by decide +kernel) (pa_cons (pv 0) (pa_cons (pe_bltn (v := .ty "tuple") (by rfl) T.ntuple (by decide +kernel) rfl) pa_nil))))) (pw_or1 (pt_cmpR (op_ne) (pe_callB call_len_seq (by rfl) T.nlen PySem.boot_len (pa_cons (pv 0) (pa_nil))) (pe_int) (nomark _))))) (pss_one (ps_ret (pe_bl))) (pss_nil))
         (pss_cons (ps_for PassesOwn.never rfl (pi_tup (pv 0)) (pg_name (i := 2) scLawIsNet.nd rfl (.inl rfl)) (pss_cons (ps_if (PW.pt (pw_or (pt_not (pt_val (pe_callB call_isi (by rfl) T.nisinstance (by decide +kernel) (pa_cons (pv 2) (pa_cons (pe_bltn (v := .ty "tuple") (by rfl) T.ntuple (by decide +kernel) rfl) pa_nil))))) (pw_or1 (pt_cmpR (op_ne) (pe_callB call_len_seq (by rfl) T.nlen PySem.boot_len (pa_cons (pv 2) (pa_nil))) (pv 1) (nomark _))))) (pss_one (ps_ret (pe_bl))) (pss_nil))
         (pss_one (ps_if (pt_cmpR (op_neD hr.units) (pe_lc (own := [("flag", 3)]) (g := gName 3) (tt := _) (by rfl) scLawIsNet.nd (pi_tup (pv 2)) (blkOk_by (N := ["value", "many", "change", "flag", "across"]) (sc := defScope sLawIsNet) (by decide +kernel)) (fun _ _ _ _ _ => pg_name (i := 3) scLawIsNet.nd rfl (.inl rfl)) (fun _ _ _ _ _ => pts_one (pt_not (pt_val (pe_callO (ok_isInt T) hr (by decide) (by rfl) (pa_cons (pv 3) (pa_cons (pe_int) (pa_cons (pe_op op_sub (pv 1) (pe_int)) (pa_nil)))))))) (fun _ _ _ _ _ => pe_int)) (pe_lst pa_nil) (nomark _)) (pss_one (ps_ret (pe_bl))) (pss_nil)))))
         (pss_cons (ps_for PassesOwn.never rfl (pi_range1 (by rfl) T.nrange (pa_cons (pv 1) (pa_nil))) (pg_name (i := 3) scLawIsNet.nd rfl (.inr rfl)) (pss_cons (ps_if (pt_cmpR (op_neD hr.units) (pe_lc (own := [("change", 2)]) (g := gName 2) (tt := _) (by rfl) scLawIsNet.nd (pi_tup (pv 0)) (blkOk_by (N := ["value", "many", "change", "flag", "across"]) (sc := defScope sLawIsNet) (by decide +kernel)) (fun _ _ _ _ _ => pg_name (i := 2) scLawIsNet.nd rfl (.inl rfl)) (fun _ _ _ _ _ => pts_one (PW.pt (pw_or (pt_cmpR (op_eq) (pe_ix (r := rIxT K) ix_tup (pv 2) (pv 3) (fun _ _ => rfl)) (pv 3) (nomark _)) (pw_or1 (pt_cmpR (op_ne) (pe_ix (r := rIxT K) ix_tup (pv 2) (pe_ix (r := rIxT K) ix_tup (pv 2) (pv 3) (fun _ _ => rfl)) (fun _ _ => rfl)) (pv 3) (nomark _)))))) (fun _ _ _ _ _ => pe_int)) (pe_lst pa_nil) (nomark _)) (pss_one (ps_ret (pe_bl))) (pss_nil))
         (pss_cons (ps_set (i := 4) scLawIsNet.nd rfl (.inl rfl) (pe_ix (r := rIxT K) ix_tup (pe_ix (r := rIxT K) ix_tup (pv 0) (pe_int) (fun _ _ => rfl)) (pe_ix (r := rIxT K) ix_tup (pe_ix (r := rIxT K) ix_tup (pv 0) (pe_int) (fun _ _ => rfl)) (pv 3) (fun _ _ => rfl)) (fun _ _ => rfl)))
         (pss_one (ps_if (PW.pt (pw_or (pt_cmpR (op_eq) (pv 4) (pv 3) (nomark _)) (pw_or1 (pt_cmpR (op_ne) (pv 4) (pe_ix (r := rIxT K) ix_tup (pe_ix (r := rIxT K) ix_tup (pv 0) (pe_int) (fun _ _ => rfl)) (pe_ix (r := rIxT K) ix_tup (pe_ix (r := rIxT K) ix_tup (pv 0) (pe_int) (fun _ _ => rfl)) (pv 3) (fun _ _ => rfl)) (fun _ _ => rfl)) (nomark _))))) (pss_one (ps_ret (pe_bl))) (pss_nil))))))
         (pss_one (ps_ret (pe_cmpR (op_gt) (pv 1) (pe_int) (nomark _)))))), ?_⟩
    obtain ⟨t0, t1, t2, hT, hR⟩ := hN.rows
    have hT' := hT
    have z0 : ∀ i : Nat, (0 : Int) + (i : Int) = (i : Int) := fun i => by omega
    have no : PyData.eqv (.list []) (.list []) = true := by unfold PyData.eqv PyData.eqvAll; rfl
    refine ⟨.ref p, rfl, .ref p, .ty "tuple", .type "tuple", .type "tuple", true, rfl, .ty "tuple", tyx_tup hT, kit_ty (by decide +kernel), true, rfl, iteF ⟨.ref p, rfl, p, _, rfl, .inr hT, rfl, _, rfl, iteF ?_⟩⟩
    refine ⟨.ref p, rfl, p, rfl, ⟨_, hT⟩, ?_⟩
    refine ⟨fun i mm σ H3 => ∃ y2 y3 y4, σ = [some (.ref p), some (.int (n : Int)), y2, y3, y4] ∧ i + mm = 3 ∧ Same H H3,
      ⟨3, none, none, none, rfl, rfl, Same.id H⟩, ?_⟩
    rintro i mm σ H3 ⟨y2, y3, y4, rfl, em, sm⟩
    by_cases hi : i < 3
    · have hsg : Sg (i + 48) := by
        rcases i with _ | _ | _ | i
        · exact .inl rfl
        · exact .inr (.inl rfl)
        · exact .inr (.inr rfl)
        · omega
      obtain ⟨t, ht, hrt⟩ := hR (i + 48) hsg
      rw [Nat.add_sub_cancel] at ht
      have hT3 := sqt sm hT
      have hrt3 := sqt sm hrt
      have lr : ((Vi (N.row (i + 48))).length : Int) = (n : Int) := by rw [vi_len, (hO (i + 48)).1]
      have lowr := (hO (i + 48)).2
      generalize N.row (i + 48) = row at hrt hrt3 lr lowr
      refine .inr ⟨⟨_, _, hT3, ht⟩, fun σ' H' => ∃ y2 y3 y4, σ' = [some (.ref p), some (.int (n : Int)), y2, y3, y4] ∧ Same H H', ?_, ?_⟩
      · rintro σ' H' ⟨z2, z3, z4, e, r⟩
        exact ⟨mm - 1, by omega, z2, z3, z4, e, by omega, r⟩
      · rintro v H' ⟨rfl, fv⟩
        have ev := Option.some.inj ((fv _ hT3).symm.trans ht)
        subst ev
        refine ⟨.ref t, rfl, .ref t, .ty "tuple", .type "tuple", .type "tuple", true, rfl, .ty "tuple", tyx_tup hrt3, kit_ty (by decide +kernel), true, rfl, iteF ⟨.ref t, rfl, t, _, rfl, .inr hrt3, .int (n : Int), rfl, rfl, _, rfl, ?_⟩⟩
        rw [lr]
        have nn : (!decide (V.int (n : Int) = V.int (n : Int))) = false := by rw [decide_eq_true rfl]; rfl
        show if (!decide (V.int (n : Int) = V.int (n : Int))) = true then _ else _
        rw [nn]
        refine iteF ?_
        refine ⟨.ref t, rfl, t, rfl, ⟨_, hrt3⟩, fun D nD => ?_⟩
        refine lc_tup (K := K) (a := t) (xs := Vi row) (fun j H'' => Same H' H'' ∧ H'' D = some (.lst [])) ⟨same_new nD, upd_same⟩ (fun j H'' hj h => sqt h.1 hrt3) (fun j x H'' hx h => ?_) (fun H'' h => ?_)
        · obtain ⟨s4, e4⟩ := h
          obtain ⟨y, gy, rfl⟩ : ∃ y : Nat, row[j]? = some y ∧ x = .int (y : Int) := by
            unfold Vi at hx
            rw [List.getElem?_map] at hx
            cases e : row[j]? with
            | none => rw [e] at hx; cases hx
            | some c => rw [e] at hx; exact ⟨c, rfl, (Option.some.inj hx).symm⟩
          have ylt := lowr y (List.mem_of_getElem? gy)
          exact ⟨rfl, .int (y : Int), rfl, .int (n : Int), rfl, _, _, rfl, rfl, y, (n : Int) - 1, rfl, by omega, true, rfl, iteF ⟨s4, e4⟩⟩
        · obtain ⟨s4, e4⟩ := h
          refine ⟨Nat.zero_le _, fun b nb => ?_⟩
          have s5 : Same H'' (upd H'' b (.lst [])) := same_new nb
          refine ⟨.list [], .list [], none_ones (s5 _ _ e4), none_ones upd_same, shaped_ints [], shaped_ints [], _, rfl, ?_⟩
          rw [no]
          exact iteF ⟨_, _, _, rfl, Same.to sm (Same.to s4 s5)⟩
    · refine .inl ⟨⟨_, sqt sm hT, by show 3 ≤ i; omega⟩, ?_⟩
      have toN : ((n : Nat) : Int).toNat = n := Int.toNat_natCast n
      refine ⟨.int (n : Int), rfl, (n : Int), rfl, by omega, by omega, ?_⟩
      rw [toN]
      refine ⟨fun x mm σ H4 => ∃ y2 y3 y4, σ = [some (.ref p), some (.int (n : Int)), y2, y3, y4] ∧ x + mm = n ∧ Same H H4,
        ⟨n, y2, y3, y4, rfl, by omega, sm⟩, ?_⟩
      clear sm hi em
      rintro x mm σ H4 ⟨y2, y3, y4, rfl, em, sm⟩
      by_cases hx : x < n
      · refine .inr ⟨hx, fun σ' H' => ∃ y2 y3 y4, σ' = [some (.ref p), some (.int (n : Int)), y2, y3, y4] ∧ Same H H', ?_, ?_⟩
        · rintro σ' H' ⟨z2, z3, z4, e, r⟩
          exact ⟨mm - 1, by omega, z2, z3, z4, e, by omega, r⟩
        · rintro v H' ⟨rfl, rfl⟩
          rw [z0]
          have hT4 := sqt sm hT
          refine ⟨.ref p, rfl, p, rfl, ⟨_, hT4⟩, fun D nD => ?_⟩
          refine lc_tup (K := K) (a := p) (xs := [.ref t0, .ref t1, .ref t2]) (fun j H'' => Same H' H'' ∧ H'' D = some (.lst [])) ⟨same_new nD, upd_same⟩ (fun j H'' hj h => sqt h.1 hT4) (fun j c H'' hc h => ?_) (fun H'' h => ?_)
          · obtain ⟨s4, e4⟩ := h
            have j3 : j < 3 := (List.getElem?_eq_some_iff.mp hc).1
            have hsg : Sg (j + 48) := by
              rcases j with _ | _ | _ | j
              · exact .inl rfl
              · exact .inr (.inl rfl)
              · exact .inr (.inr rfl)
              · omega
            obtain ⟨t, ht, hrt⟩ := hR (j + 48) hsg
            rw [Nat.add_sub_cancel, hc] at ht
            cases ht
            have hrt5 := sqt s4 (sqt sm hrt)
            obtain ⟨g1, l1⟩ := hO.get hx (j + 48)
            obtain ⟨g2, l2⟩ := hO.get l1 (j + 48)
            have bk := hA.back x (j + 48) hx hsg
            have nf : N.stp x (j + 48) ≠ x := by
              obtain ⟨f0, f1, f2, _⟩ := hF x hx
              rcases j with _ | _ | _ | j
              · exact f0
              · exact f1
              · exact f2
              · omega
            rw [bk] at g2
            have r1 : ∀ {Q2 : V → Hp → Prop}, Q2 (.int (N.stp x (j + 48) : Int)) H'' → rIxT K (.ref t) (.int (x : Int)) H'' Q2 := fun {Q2} h2 => ⟨t, Vi (N.row (j + 48)), (x : Int), _, rfl, rfl, hrt5, atI_nat (vi_get g1), h2⟩
            refine ⟨rfl, .ref t, rfl, .int (x : Int), rfl, t, Vi (N.row (j + 48)), (x : Int), _, rfl, rfl, hrt5, atI_nat (vi_get g1), .int (x : Int), rfl, rfl, _, rfl, iteDF (fun z => nf (by have := V.int.inj z; omega)) ?_⟩
            refine ⟨.ref t, rfl, .ref t, rfl, .int (x : Int), rfl, t, Vi (N.row (j + 48)), (x : Int), _, rfl, rfl, hrt5, atI_nat (vi_get g1), t, Vi (N.row (j + 48)), (N.stp x (j + 48) : Int), _, rfl, rfl, hrt5, atI_nat (vi_get g2), .int (x : Int), rfl, rfl, _, rfl, ?_⟩
            have nn : (!decide (V.int (x : Int) = V.int (x : Int))) = false := by rw [decide_eq_true rfl]; rfl
            show if (!decide (V.int (x : Int) = V.int (x : Int))) = true then _ else _
            rw [nn]
            exact iteF ⟨s4, e4⟩
          · obtain ⟨s4, e4⟩ := h
            refine ⟨Nat.zero_le _, fun b nb => ?_⟩
            have s5 : Same H'' (upd H'' b (.lst [])) := same_new nb
            have s6 := Same.to sm (Same.to s4 s5)
            refine ⟨.list [], .list [], none_ones (s5 _ _ e4), none_ones upd_same, shaped_ints [], shaped_ints [], _, rfl, ?_⟩
            rw [no]
            have hT6 := sqt s6 hT
            obtain ⟨r0, hr0, q0⟩ := hR 48 (.inl rfl)
            obtain ⟨r2, hr2, q2⟩ := hR 50 (.inr (.inr rfl))
            cases hr0
            cases hr2
            have q0' := sqt s6 q0
            have q2' := sqt s6 q2
            generalize upd H'' b (.lst []) = H6 at s5 s6 hT6 q0' q2' ⊢
            obtain ⟨a1, b1⟩ := hO.get hx 48
            obtain ⟨a2, b2⟩ := hO.get b1 50
            obtain ⟨a3, b3⟩ := hO.get hx 50
            obtain ⟨a4, b4⟩ := hO.get b3 48
            have cm := hA.comm x hx
            obtain ⟨_, _, _, f3⟩ := hF x hx
            refine iteF ⟨.ref p, rfl, p, _, _, .ref t2, rfl, rfl, hT6, atI_nat (j := 2) rfl, .ref p, rfl, p, _, _, .ref t0, rfl, rfl, hT6, atI_nat (j := 0) rfl, .int (x : Int), rfl, t0, _, _, _, rfl, rfl, q0', atI_nat (vi_get a1), t2, _, _, _, rfl, rfl, q2', atI_nat (vi_get a2), ?_⟩
            refine ⟨.int (N.stp (N.stp x 48) 50 : Int), rfl, .int (x : Int), rfl, rfl, _, rfl, iteDF (fun z => f3 (by have := V.int.inj z; omega)) ?_⟩
            refine ⟨.int (N.stp (N.stp x 48) 50 : Int), rfl, .ref p, rfl, p, _, _, .ref t0, rfl, rfl, hT6, atI_nat (j := 0) rfl, .ref p, rfl, p, _, _, .ref t2, rfl, rfl, hT6, atI_nat (j := 2) rfl, .int (x : Int), rfl, t2, _, _, _, rfl, rfl, q2', atI_nat (vi_get a3), t0, _, _, _, rfl, rfl, q0', atI_nat (vi_get a4), rfl, _, rfl, ?_⟩
            rw [cm]
            have nn : (!decide (V.int (N.stp (N.stp x 50) 48 : Int) = V.int (N.stp (N.stp x 50) 48 : Int))) = false := by rw [decide_eq_true rfl]; rfl
            show if (!decide (V.int (N.stp (N.stp x 50) 48 : Int) = V.int (N.stp (N.stp x 50) 48 : Int))) = true then _ else _
            rw [nn]
            exact iteF ⟨_, _, _, rfl, s6⟩
      · refine .inl ⟨by show n ≤ x; omega, ?_⟩
        refine ⟨.int (n : Int), rfl, (n : Int), 0, rfl, rfl, ?_⟩
        show Q (.bl (decide ((0 : Int) < (n : Int)))) H4
        rw [decide_eq_true (show (0 : Int) < (n : Int) by omega)]
        exact q H4 sm
end
end K4

namespace K4
open PySem PySem.Spec PyProof.Rows L2 Nr Nw
/-! ### rows of codes as words, and rings -/
def pw (c : Nat) : List Nat := (sg c).reverse
def flat (L : List Nat) : List Nat := L.flatMap pw
theorem flat_app (L M : List Nat) : flat (L ++ M) = flat L ++ flat M := List.flatMap_append ..
theorem flat_cons (a : Nat) (L : List Nat) : flat (a :: L) = pw a ++ flat L := rfl
theorem flat_eq : ∀ L : List Nat, flat L = (spell L.reverse).reverse
  | [] => rfl
  | a :: r => by
    have h : spell (r.reverse ++ [a]) = spell r.reverse ++ sg a := by
      unfold spell
      rw [List.flatMap_append]
      exact congrArg (_ ++ ·) (List.append_nil _)
    rw [flat_cons, flat_eq r, List.reverse_cons, h, List.reverse_append]
    rfl
theorem pw_wd (c : Nat) : Wd (pw c) := wd_rev.mpr (sg_wd c)
theorem flat_wd (L : List Nat) : Wd (flat L) := by
  rw [flat_eq]
  exact wd_rev.mpr (spell_wd _)
theorem codes_flat {L : List Nat} (h : Alt L) : codesOf (flat L) = L.reverse := by
  rw [flat_eq]
  exact codes_word (alt_rev h)
theorem cut_flat {L : List Nat} (h : Alt L) : cut (flat L) = flat L := by
  rw [cut_codes (flat_wd L), codes_flat h, ← flat_eq]
theorem cut_flat_rev {L : List Nat} (h : Alt L) : cut (flat L).reverse = flat L.reverse := by
  rw [cut_codes (wd_rev.mpr (flat_wd L)), codes_rev (flat_wd L), codes_flat h, List.reverse_reverse, flat_eq, List.reverse_reverse]
theorem flat_len : ∀ L : List Nat, (flat L).length ≤ 2 * L.length := fun L => by
  rw [flat_eq, List.length_reverse]
  have := spell_len L.reverse
  rw [List.length_reverse] at this
  exact this
theorem flat_ne {L : List Nat} (h : Alt L) (hn : L ≠ []) : flat L ≠ [] := fun z => by
  have := codes_flat h
  rw [z] at this
  exact hn (by rw [← List.reverse_reverse L, ← this]; rfl)
/-- a piece done twice leads home -/
theorem pw_twice {c : Nat} (h : Cd c) : E2 (pw c ++ pw c) [] := by
  rcases h with e | e | e | e <;> subst e
  · exact E2.home (u := [48]) (pw_wd 1)
  · exact E2.home (u := [50]) (pw_wd 2)
  · intro s hs
    show go s [48, 50, 48, 50] = s
    have h1 : go s [48, 50] = go s [50, 48] := step_comm hs
    have h2 : go s ([48, 50] ++ [48, 50]) = go (go s [50, 48]) [48, 50] := by rw [go_append, h1]
    have h3 := go_home (s := s) (w := [50, 48]) hs (fun c hc => by
      rcases List.mem_cons.mp hc with e | e
      · exact .inr (.inr e)
      · exact .inl (List.mem_singleton.mp e))
    exact h2.trans h3
  · exact E2.home (u := [49]) (pw_wd 4)
theorem pw_rev {c : Nat} (h : Cd c) : E2 (pw c).reverse (pw c) := by
  have h1 : E2 ((pw c).reverse ++ (pw c ++ pw c)) ((pw c).reverse ++ []) := E2.app (wd_rev.mpr (pw_wd c)) (E2.id _) (pw_twice h)
  have h2 : E2 ((pw c).reverse ++ pw c ++ pw c) ([] ++ pw c) := E2.app (wd_append.mpr ⟨wd_rev.mpr (pw_wd c), pw_wd c⟩) (E2.home' (pw_wd c)) (E2.id _)
  rw [List.append_assoc] at h2
  rw [List.append_nil] at h1
  exact h1.sym.trans h2
/-- two pieces that aren't 1 -/
theorem pw_two {a b : Nat} (ha : Cd a) (hb : Cd b) (a4 : a ≠ 4) (b4 : b ≠ 4) (hab : a ≠ b) : cut (pw b ++ pw a) = pw (b ^^^ a) ∧ Cd (b ^^^ a) ∧ b ^^^ a ≠ 4 := by
  rcases ha with e | e | e | e <;> rcases hb with f | f | f | f <;> subst e <;> subst f <;> first | exact absurd rfl hab | exact absurd rfl a4 | exact absurd rfl b4 | decide
theorem pcs_codes : ∀ (n : Nat) (u : List Nat), u.length = n → Fw u → pcs u = (codesOf u).map pw
  | 0, u, hn, _ => by
    rw [List.length_eq_zero_iff.mp hn]
    rfl
  | n + 1, u, hn, hf => by
    have hne : u ≠ [] := fun z => by rw [z] at hn; cases hn
    have eu := (List.dropLast_concat_getLast hne).symm
    have hl : u.dropLast.length = n := by rw [List.length_dropLast]; omega
    rw [eu] at hf ⊢
    generalize u.dropLast = v at hf hl ⊢
    generalize u.getLast hne = c at hf ⊢
    obtain ⟨hv, hc, hnb⟩ := fw_snoc hf
    have ih := pcs_codes n v hl hv
    obtain ⟨_, _, h3⟩ := pcs_pal n v hl hv
    rw [pcs_snoc, codes_snoc, ih]
    rw [ih] at h3
    have alt := codes_alt hv.wd
    generalize codesOf v = st at h3 alt
    cases st with
    | nil =>
      rcases hc with e | e | e <;> subst e <;> rfl
    | cons a r =>
      have hh := h3 (pw a) rfl
      have nb := fun x (hx : (pw a).getLast? = some x) => hnb x (by rw [← hh]; exact hx)
      rcases alt.head with e | e | e | e <;> subst e
      · have n1 := nb 48 rfl
        rcases hc with y | y | y <;> subst y
        · exact absurd rfl n1.1
        · rfl
        · rfl
      · have n1 := nb 50 rfl
        rcases hc with y | y | y <;> subst y
        · exact absurd ⟨rfl, rfl⟩ n1.2
        · rfl
        · exact absurd rfl n1.1
      · have n1 := nb 50 rfl
        rcases hc with y | y | y <;> subst y
        · exact absurd ⟨rfl, rfl⟩ n1.2
        · rfl
        · exact absurd rfl n1.1
      · have n1 := nb 49 rfl
        rcases hc with y | y | y <;> subst y
        · rfl
        · exact absurd rfl n1.1
        · rfl
/-! ### one turn of a ring -/
/-- the ring's state: L the codes, y the way, u the word -/
structure RInv (u L y : List Nat) : Prop where
  alt : Alt L
  ne : L ≠ []
  wd : Wd y
  eq : E2 (y.reverse ++ flat L ++ y) u
/-- both ends of one kind -/
theorem ends_split {L : List Nat} {a b : Nat} (ha : L.head? = some a) (hb : L.getLast? = some b) (hl : 1 < L.length) : ∃ M, L = a :: (M ++ [b]) := by
  cases L with
  | nil => cases ha
  | cons x r =>
    cases ha
    cases r with
    | nil => exact absurd hl (Nat.lt_irrefl 1)
    | cons y q =>
      have hne : (y :: q) ≠ [] := by intro z; cases z
      refine ⟨(y :: q).dropLast, ?_⟩
      have e : (y :: q).getLast hne = b := by
        rw [List.getLast?_cons_cons, List.getLast?_eq_getLast hne] at hb
        exact Option.some.inj hb
      rw [← e, List.dropLast_concat_getLast hne]
theorem rinv_step {u M y : List Nat} {a b : Nat} (h : RInv u (a :: (M ++ [b])) y) (ht : Ty a = Ty b) : M ≠ [] ∧ Cd a ∧ Cd b ∧
    (a = b → RInv u M (cut (pw b ++ y))) ∧ (a ≠ b → cut (pw b ++ pw a) = pw (b ^^^ a) ∧ RInv u ((b ^^^ a) :: M) (cut (pw b ++ y))) := by
  obtain ⟨h1, h2, h3⟩ := alt_cons.mp h.alt
  obtain ⟨m1, m2, m3⟩ := alt_app.mp h2
  have hb : Cd b := m2
  have hM : M ≠ [] := fun z => by
    subst z
    exact h3 b rfl ht
  have wy : Wd (pw b ++ y) := wd_append.mpr ⟨pw_wd b, h.wd⟩
  have wc := cut_wd wy
  -- the way's back, then the way
  have ey : E2 (cut (pw b ++ y)) (pw b ++ y) := e2_of wc wy (cut_cut wy)
  have eyr : E2 (cut (pw b ++ y)).reverse (y.reverse ++ pw b) := by
    have h1 : E2 (cut (pw b ++ y)).reverse (pw b ++ y).reverse := e2_of (wd_rev.mpr wc) (wd_rev.mpr wy) (cut_rev wy)
    rw [List.reverse_append] at h1
    exact h1.trans (E2.app (wd_rev.mpr h.wd) (E2.id _) (pw_rev hb))
  have old := h.eq
  rw [flat_cons, flat_app] at old
  have one : flat [b] = pw b := List.append_nil _
  rw [one] at old
  have mk : ∀ X : List Nat, Wd X → E2 (pw b ++ X ++ pw b) (pw a ++ (flat M ++ pw b)) → E2 ((cut (pw b ++ y)).reverse ++ X ++ cut (pw b ++ y)) u := by
    intro X hX hE
    have g1 : E2 ((cut (pw b ++ y)).reverse ++ X ++ cut (pw b ++ y)) ((y.reverse ++ pw b) ++ X ++ (pw b ++ y)) := E2.app (wd_append.mpr ⟨wd_rev.mpr wc, hX⟩) (E2.app (wd_rev.mpr wc) eyr (E2.id X)) ey
    have g2 : (y.reverse ++ pw b) ++ X ++ (pw b ++ y) = y.reverse ++ (pw b ++ X ++ pw b) ++ y := by simp only [List.append_assoc]
    rw [g2] at g1
    refine g1.trans (E2.trans ?_ old)
    exact E2.app (wd_append.mpr ⟨wd_rev.mpr h.wd, wd_append.mpr ⟨wd_append.mpr ⟨pw_wd b, hX⟩, pw_wd b⟩⟩) (E2.app (wd_rev.mpr h.wd) (E2.id _) hE) (E2.id y)
  refine ⟨hM, h1, hb, fun e => ?_, fun e => ?_⟩
  · subst e
    refine ⟨m1, hM, wc, mk (flat M) (flat_wd M) ?_⟩
    rw [List.append_assoc]
    exact E2.id _
  · have a4 : a ≠ 4 := fun z => e (by
      subst z
      exact (of_decide_eq_true (ht.symm.trans (decide_eq_true rfl))).symm)
    have b4 : b ≠ 4 := fun z => e (by
      subst z
      exact of_decide_eq_true (ht.trans (decide_eq_true rfl)))
    obtain ⟨c1, c2, c3⟩ := pw_two h1 hb a4 b4 e
    refine ⟨c1, ?_, (by intro z; cases z), wc, mk _ (flat_wd _) ?_⟩
    · rw [alt_cons]
      refine ⟨c2, m1, fun x hx => ?_⟩
      have hxx : (M ++ [b]).head? = some x := by
        cases M with
        | nil => cases hx
        | cons z q => exact hx
      have := h3 x hxx
      have t1 : Ty (b ^^^ a) = false := decide_eq_false c3
      have t2 : Ty a = false := decide_eq_false a4
      rw [t1]
      rw [t2] at this
      exact this
    · have e1 : E2 (pw (b ^^^ a)) (pw b ++ pw a) := by
        have : E2 (cut (pw b ++ pw a)) (pw b ++ pw a) := e2_of (cut_wd (wd_append.mpr ⟨pw_wd b, pw_wd a⟩)) (wd_append.mpr ⟨pw_wd b, pw_wd a⟩) (cut_cut (wd_append.mpr ⟨pw_wd b, pw_wd a⟩))
        rw [c1] at this
        exact this
      rw [flat_cons]
      have s1 : E2 (pw b ++ (pw (b ^^^ a) ++ flat M) ++ pw b) (pw b ++ ((pw b ++ pw a) ++ flat M) ++ pw b) := E2.app (wd_append.mpr ⟨pw_wd b, wd_append.mpr ⟨pw_wd _, flat_wd M⟩⟩) (E2.app (pw_wd b) (E2.id _) (E2.app (pw_wd _) e1 (E2.id _))) (E2.id _)
      refine s1.trans ?_
      have s2 : pw b ++ ((pw b ++ pw a) ++ flat M) ++ pw b = (pw b ++ pw b) ++ (pw a ++ (flat M ++ pw b)) := by simp only [List.append_assoc]
      rw [s2]
      show E2 _ ([] ++ (pw a ++ (flat M ++ pw b)))
      exact E2.app (wd_append.mpr ⟨pw_wd b, pw_wd b⟩) (pw_twice hb) (E2.id _)
end K4

namespace K4
open PySem PySem.Spec PyProof.Rows L2 Nr Nw
def PV (L : List Nat) : List V := Vs (L.map pw)
theorem pv_len (L : List Nat) : (PV L).length = L.length := by
  unfold PV
  rw [vs_len, List.length_map]
theorem pv_app (L M : List Nat) : PV (L ++ M) = PV L ++ PV M := by
  unfold PV Vs
  rw [List.map_append, List.map_append]
theorem cut_tail (x : V) (r : List V) : cutV (x :: r) (some 1) none = r := by
  unfold cutV
  have h1 : HT.sIx (x :: r).length 0 (some ((1 : Nat) : Int)) = 1 := (HT.sIx_nat _ _ 1).trans (Nat.min_eq_left (by rw [List.length_cons]; omega))
  have h1' : HT.sIx (x :: r).length 0 (some 1) = 1 := h1
  have h2 : HT.sIx (x :: r).length (x :: r).length none = (x :: r).length := rfl
  rw [h1', h2]
  show List.take _ r = r
  exact List.take_of_length_le (by rw [List.length_cons]; omega)
theorem pw_one {a : Nat} (h : Cd a) : decide (V.str (S (pw a)) = V.str (S [49])) = Ty a := by
  have hs : (V.str (S (pw a)) = V.str (S [49])) ↔ pw a = [49] := ⟨fun z => s_inj (V.str.inj z), fun z => by rw [z]⟩
  have h2 : pw a = [49] ↔ a = 4 := by rcases h with e | e | e | e <;> subst e <;> decide
  by_cases e : a = 4
  · rw [decide_eq_true (hs.mpr (h2.mpr e))]
    exact (decide_eq_true e).symm
  · rw [decide_eq_false fun z => e (h2.mp (hs.mp z))]
    exact (decide_eq_false e).symm
theorem pw_len {c : Nat} (h : Cd c) : (pw c).length ≤ 2 ∧ pw c ≠ [] := by
  rcases h with e | e | e | e <;> subst e <;> decide
def Done (L : List Nat) : Prop := ∀ a b, L.head? = some a → L.getLast? = some b → 1 < L.length → Ty a ≠ Ty b
def PalX (cs L y : List Nat) : Prop := cs = cs.reverse → ∃ X, cs = X.reverse ++ L ++ X ∧ y = flat X ∧ L = L.reverse
theorem palx_step {cs M y : List Nat} {a b : Nat} (hc : Alt cs) (h : PalX cs (a :: (M ++ [b])) y) (hy : a = b → True) (hp : cs = cs.reverse) : a = b ∧ PalX cs M (cut (pw b ++ y)) := by
  obtain ⟨X, h1, h2, h3⟩ := h hp
  have e : b = a := by
    have : (a :: (M ++ [b])).head? = (a :: (M ++ [b])).reverse.head? := by rw [← h3]
    rw [List.head?_reverse] at this
    have l : (a :: (M ++ [b])).getLast? = some b := by
      rw [← List.cons_append]
      exact List.getLast?_concat ..
    rw [l] at this
    exact (Option.some.inj this).symm
  subst e
  refine ⟨rfl, fun _ => ⟨b :: X, ?_, ?_, ?_⟩⟩
  · rw [h1, List.reverse_cons]
    simp only [List.append_assoc, List.cons_append, List.nil_append]
  · rw [h2]
    have ab : Alt (b :: X) := by
      rw [h1] at hc
      have e2 : X.reverse ++ b :: (M ++ [b]) ++ X = (X.reverse ++ b :: M) ++ (b :: X) := by simp only [List.append_assoc, List.cons_append, List.nil_append]
      rw [e2] at hc
      exact (alt_app.mp hc).2.1
    exact cut_flat ab
  · rw [List.reverse_cons, List.reverse_append] at h3
    have h4 : (b :: (M ++ [b])) = b :: (M.reverse ++ [b]) := by
      rw [h3]
      rfl
    exact List.append_cancel_right (List.cons.inj h4).2
def RingA (u L y : List Nat) : Prop := isMir u = true ∧ ∃ c X, L = [c] ∧ y = flat X ∧ codesOf u = X.reverse ++ [c] ++ X
def RingB (u L y : List Nat) : Prop := isMir u = false ∧ Alt L ∧ Wd y ∧ (∃ a, L.head? = some a ∧ a ≠ 4) ∧ L.getLast? = some 4 ∧ E2 (y.reverse ++ flat L ++ y) u ∧ y.length ≤ 1000 ∧ L.length ≤ u.length
/-- a single piece is left: the word is its own back -/
theorem one_mir {u y : List Nat} {c : Nat} (hu : Wd u) (hn : cut u ≠ []) (h : RInv u [c] y) : isMir u = true := by
  rw [isMir_iff hu]
  refine ⟨hn, ?_⟩
  have hc : Cd c := h.alt
  have one : flat [c] = pw c := List.append_nil _
  have hE := h.eq
  rw [one] at hE
  have wy := h.wd
  have wz : Wd (y.reverse ++ pw c ++ y) := wd_append.mpr ⟨wd_append.mpr ⟨wd_rev.mpr wy, pw_wd c⟩, wy⟩
  have g : E2 ((y.reverse ++ pw c ++ y) ++ (y.reverse ++ pw c ++ y)) (u ++ u) := E2.app wz hE hE
  have e : (y.reverse ++ pw c ++ y) ++ (y.reverse ++ pw c ++ y) = (y.reverse ++ pw c) ++ ((y ++ y.reverse) ++ (pw c ++ y)) := by simp only [List.append_assoc]
  rw [e] at g
  have k1 : E2 ((y.reverse ++ pw c) ++ ((y ++ y.reverse) ++ (pw c ++ y))) ((y.reverse ++ pw c) ++ ([] ++ (pw c ++ y))) := E2.app (wd_append.mpr ⟨wd_rev.mpr wy, pw_wd c⟩) (E2.id _) (E2.app (wd_append.mpr ⟨wy, wd_rev.mpr wy⟩) (E2.home wy) (E2.id _))
  have e2 : (y.reverse ++ pw c) ++ ([] ++ (pw c ++ y)) = y.reverse ++ ((pw c ++ pw c) ++ y) := by simp only [List.append_assoc, List.nil_append]
  rw [e2] at k1
  have k2 : E2 (y.reverse ++ ((pw c ++ pw c) ++ y)) (y.reverse ++ ([] ++ y)) := E2.app (wd_rev.mpr wy) (E2.id _) (E2.app (wd_append.mpr ⟨pw_wd c, pw_wd c⟩) (pw_twice hc) (E2.id _))
  have k3 : E2 (y.reverse ++ ([] ++ y)) [] := E2.home' wy
  have := cut_of (g.sym.trans (k1.trans (k2.trans k3)))
  exact this
section
variable {P : Program} {w : World} {K : PySem.W.Frag} {mg : Str → Option Value} {base : Heap}
def spRing : Sp := fun vs H Q _ => ∃ u : List Nat, vs = [.str (S u)] ∧ Fw u ∧ u ≠ [] ∧ u.length ≤ 100 ∧
  ∀ (L y : List Nat) (p q : Addr) (H' : Hp), Same H H' → H p = none → H q = none → H' q = some (.lst (PV L)) → H' p = some (.tup [.ref q, .str (S y)]) → (RingA u L y ∨ RingB u L y) → Q (.ref p) H'
theorem ok_ring (T : Txt w K mg) : Ok P w K mg base 2 "_law_ring" ["word"] spRing := by
  refine ok_of T.fLawRing fun f fd F => ?_
  refine F.ok scLawRing (fun vs H Q E h => ?_) (fun cdv A outer s H vs Q E hr h => ?_)
  · obtain ⟨u, rfl, _⟩ := h
    rfl
  · obtain ⟨u, rfl, hf, hne, hz, q⟩ := h
    refine ⟨_, pss_cons (ps_par (i := 2) (j := 3) (by rfl) scLawRing.nd rfl rfl (by decide) rfl rfl (pa_cons (pe_callO (ok_pieces T) hr (by decide) (by rfl) (pa_cons (pv 0) (pa_nil))) (pa_cons (pe_str) (pa_nil))) (by rfl))
         (pss_cons (ps_for PassesOwn.never rfl (pi_range1 (by rfl) T.nrange (pa_cons (pe_callB call_len_seq (by rfl) T.nlen PySem.boot_len (pa_cons (pv 2) (pa_nil))) (pa_nil))) (pg_name (i := 1) scLawRing.nd rfl (.inl rfl)) (pss_one (ps_if (PW.pt (pw_and (pt_cmpR (op_gt) (pe_callB call_len_seq (by rfl) T.nlen PySem.boot_len (pa_cons (pv 2) (pa_nil))) (pe_int) (nomark _)) (pw_and1 (pt_cmpR (op_eq) (pe_cmpR (op_eq) (pe_ix (r := rIxL K) ix_list (pv 2) (pe_int) (fun _ _ => rfl)) (pe_str) (nomark _)) (pe_cmpR (op_eq) (pe_ix (r := rIxL K) ix_list (pv 2) (pe_un un_neg pe_int) (fun _ _ => rfl)) (pe_str) (nomark _)) (nomark _))))) (pss_cons (ps_set (i := 4) scLawRing.nd rfl (.inl rfl) (pe_bm0 PySem.F.plainAttrs_list PySem.F.slot_list_pop PySem.F.type_list_pop mt_pop (pv 2)))
         (pss_cons (ps_set (i := 3) scLawRing.nd rfl (.inl rfl) (pe_callO (ok_cut T) hr (by decide) (by rfl) (pa_cons (pe_op op_add_str (pv 4) (pv 3)) (pa_nil))))
         (pss_cons (ps_set (i := 5) scLawRing.nd rfl (.inl rfl) (pe_callO (ok_cut T) hr (by decide) (by rfl) (pa_cons (pe_op op_add_str (pv 4) (pe_ix (r := rIxL K) ix_list (pv 2) (pe_int) (fun _ _ => rfl))) (pa_nil))))
         (pss_one (ps_set (i := 2) scLawRing.nd rfl (.inl rfl) (pe_ifExp (pt_cmpR (op_eq) (pv 5) (pe_str) (nomark _)) (pe_slice sl_list (pv 2) (po_some pe_int) po_none) (pe_op op_cat (pe_lst (pa_cons (pv 5) (pa_nil))) (pe_slice sl_list (pv 2) (po_some pe_int) po_none)))))))) (pss_nil))))
         (pss_cons (ps_if (PW.pt (pw_and (pt_cmpR (op_gt) (pe_callB call_len_seq (by rfl) T.nlen PySem.boot_len (pa_cons (pv 2) (pa_nil))) (pe_int) (nomark _)) (pw_and1 (pt_cmpR (op_eq) (pe_ix (r := rIxL K) ix_list (pv 2) (pe_int) (fun _ _ => rfl)) (pe_str) (nomark _))))) (pss_one (ps_par (i := 2) (j := 3) (by rfl) scLawRing.nd rfl rfl (by decide) rfl rfl (pa_cons (pe_op op_cat (pe_slice sl_list (pv 2) (po_some pe_int) po_none) (pe_lst (pa_cons (pe_str) (pa_nil)))) (pa_cons (pe_callO (ok_cut T) hr (by decide) (by rfl) (pa_cons (pe_op op_add_str (pe_str) (pv 3)) (pa_nil))) (pa_nil))) (by rfl))) (pss_nil))
         (pss_one (ps_ret (pe_tup (pa_cons (pv 2) (pa_cons (pv 3) (pa_nil)))))))), ?_⟩
    have hu := hf.wd
    have hcu : cut u = u := cut_of_fw hf
    have pcu := pcs_codes _ u rfl hf
    have alt := codes_alt hu
    have clen := codes_len _ u rfl
    obtain ⟨cs, hcs⟩ : ∃ cs, cs = (codesOf u).reverse := ⟨_, rfl⟩
    have acs : Alt cs := by rw [hcs]; exact alt_rev alt
    have fit : ∀ z : Nat, z ≤ 10000 → z ≤ sizeLine := fun z hz => Nat.le_trans hz (by decide)
    have fcs : flat cs = u := by
      rw [flat_eq, hcs, List.reverse_reverse, ← cut_codes hu, hcu]
    have cne : cs ≠ [] := fun z => by rw [z] at fcs; exact hne fcs.symm
    have lcs : cs.length ≤ 100 := by rw [hcs, List.length_reverse]; omega
    have lcu : cs.length ≤ u.length := by rw [hcs, List.length_reverse]; exact clen
    refine ⟨.str (S u), rfl, u, rfl, hf, by omega, fun q0 H1 s1 nq e1 => ?_⟩
    have e1' : H1 q0 = some (.lst (PV cs)) := by
      rw [e1, pcu, ← List.map_reverse, ← hcs]
      rfl
    refine ⟨_, _, rfl, ?_⟩
    refine ⟨.ref q0, rfl, q0, PV cs, rfl, .inl (.inl (.inl e1')), ((PV cs).length : Int), rfl, by rw [pv_len]; omega, by rw [pv_len]; omega, ?_⟩
    rw [pv_len, Int.toNat_natCast]
    refine ⟨fun i mm σ H3 => ∃ y1 y4 y5 q1 L y, σ = [some (.str (S u)), y1, some (.ref q1), some (.str (S y)), y4, y5] ∧ i + mm = cs.length ∧ Same H H3 ∧ H q1 = none ∧ H3 q1 = some (.lst (PV L)) ∧ RInv u L y ∧ y.length ≤ 2 * i ∧ L.length ≤ cs.length ∧ (Done L ∨ L.length + i ≤ cs.length) ∧ PalX cs L y,
      ⟨cs.length, none, none, none, q0, cs, [], rfl, by omega, s1, nq, e1', ⟨acs, cne, fun c hc => absurd hc List.not_mem_nil, by show E2 ([] ++ flat cs ++ []) u; rw [List.append_nil, fcs]; exact E2.id u⟩, Nat.le_refl _, Nat.le_refl _, .inr (Nat.le_refl _), fun hp => ⟨[], by simp, rfl, hp⟩⟩, ?_⟩
    rintro i mm σ H3 ⟨y1, y4, y5, q1, L, y, rfl, em, sm, nq1, eq1, hI, ly, lL, hD, hP⟩
    have altL := hI.alt
    by_cases hi : i < cs.length
    · refine .inr ⟨hi, fun σ' H' => ∃ y1 y4 y5 q1 L y, σ' = [some (.str (S u)), y1, some (.ref q1), some (.str (S y)), y4, y5] ∧ Same H H' ∧ H q1 = none ∧ H' q1 = some (.lst (PV L)) ∧ RInv u L y ∧ y.length ≤ 2 * (i + 1) ∧ L.length ≤ cs.length ∧ (Done L ∨ L.length + (i + 1) ≤ cs.length) ∧ PalX cs L y, ?_, ?_⟩
      · rintro σ' H' ⟨z1, z4, z5, q', L', y', e, r⟩
        exact ⟨mm - 1, by omega, z1, z4, z5, q', L', y', e, by omega, r⟩
      · rintro v H' ⟨rfl, rfl⟩
        refine ⟨.ref q1, rfl, q1, PV L, rfl, .inl (.inl (.inl eq1)), ((PV L).length : Int), 1, rfl, rfl, _, rfl, ?_⟩
        rw [pv_len]
        by_cases hl : 1 < L.length
        · refine iteDT (by omega) ?_
          obtain ⟨a, ha⟩ : ∃ a, L.head? = some a := by
            cases L with
            | nil => exact absurd rfl hI.ne
            | cons a r => exact ⟨a, rfl⟩
          obtain ⟨b, hb⟩ : ∃ b, L.getLast? = some b := ⟨_, List.getLast?_eq_getLast hI.ne⟩
          obtain ⟨M, rfl⟩ := ends_split ha hb hl
          clear ha hb
          have ca : Cd a := altL.head
          have cb : Cd b := altL.all b (by simp)
          have pe : PV (a :: (M ++ [b])) = PV (a :: M) ++ [.str (S (pw b))] := by
            rw [← List.cons_append, pv_app]
            rfl
          have t1 := pw_one ca
          have t2 := pw_one cb
          have e1q := eq1
          rw [pe] at e1q
          refine ⟨.ref q1, rfl, q1, PV (a :: (M ++ [b])), 0, .str (S (pw a)), rfl, rfl, .inl (.inl eq1), atI_nat (j := 0) rfl, rfl, .ref q1, rfl, 1, rfl, q1, _, _, .str (S (pw b)), rfl, rfl, .inl (.inl e1q), atI_last _ _, rfl, rfl, _, rfl, ?_⟩
          by_cases ht : Ty a = Ty b
          · refine iteDT (congrArg V.bl (t1.trans (ht.trans t2.symm))) ?_
            obtain ⟨hM, _, _, stepS, stepN⟩ := rinv_step hI ht
            have hPs := fun hp => palx_step acs hP (fun _ => trivial) hp
            have wby : Wd (pw b ++ y) := wd_append.mpr ⟨pw_wd b, hI.wd⟩
            have lby : (pw b ++ y).length ≤ 2 * (i + 1) := by
              rw [List.length_append]
              have := (pw_len cb).1
              omega
            have lc := cut_len _ _ rfl wby
            have wba : Wd (pw b ++ pw a) := wd_append.mpr ⟨pw_wd b, pw_wd a⟩
            have lba : (pw b ++ pw a).length ≤ 4 := by
              rw [List.length_append]
              have h1 := (pw_len ca).1
              have h2 := (pw_len cb).1
              omega
            have lLM : (a :: (M ++ [b])).length = M.length + 2 := by simp
            rw [lLM] at lL hD
            have hD' : M.length + 2 + i ≤ cs.length := by
              rcases hD with h | h
              · exact absurd ht (h a b rfl (by rw [← List.cons_append]; exact List.getLast?_concat ..) (by rw [lLM]; omega))
              · exact h
            refine ⟨.ref q1, rfl, .inl ⟨rfl, _, .inl (.inl eq1)⟩, q1, PV (a :: M) ++ [.str (S (pw b))], .str (S (pw b)), rfl, rfl, e1q, by rw [List.length_append]; exact List.getElem?_concat_length, ?_⟩
            rw [List.dropLast_concat]
            have s2 := same_mut (o := .lst (PV (a :: M))) sm nq1
            have e2 : (upd H' q1 (.lst (PV (a :: M)))) q1 = some (.lst (PV (a :: M))) := upd_same
            show (fun x H1 => gName 4 x _ H1 _) (V.str (S (pw b))) (upd H' q1 (.lst (PV (a :: M))))
            generalize upd H' q1 (.lst (PV (a :: M))) = H4 at s2 e2 ⊢
            refine ⟨.str (S (pw b)), rfl, .str (S y), rfl, S (pw b), S y, rfl, rfl, fit _ (show (pw b).length + y.length ≤ 10000 by rw [List.length_append] at lby; omega), pw b ++ y, congrArg (fun z => [V.str z]) (s_app _ _), ⟨wby, by omega⟩, ?_⟩
            refine ⟨.str (S (pw b)), rfl, .ref q1, rfl, q1, PV (a :: M), 0, .str (S (pw a)), rfl, rfl, .inl (.inl e2), atI_nat (j := 0) rfl, S (pw b), S (pw a), rfl, rfl, fit _ (show (pw b).length + (pw a).length ≤ 10000 by rw [List.length_append] at lba; omega), pw b ++ pw a, congrArg (fun z => [V.str z]) (s_app _ _), ⟨wba, by omega⟩, ?_⟩
            refine ⟨.str (S (cut (pw b ++ pw a))), rfl, rfl, _, rfl, ?_⟩
            by_cases eab : a = b
            · have c0 : cut (pw b ++ pw a) = [] := by
                rw [eab, cut_of (pw_twice cb)]
                rfl
              refine iteDT (by rw [c0]; rfl) ⟨.ref q1, rfl, 1, rfl, q1, PV (a :: M), rfl, .inl (.inl e2), fun q2 nq2 => ?_⟩
              refine ⟨_, _, _, q2, M, cut (pw b ++ y), rfl, Same.to s2 (same_new nq2), none_of s2 nq2, ?_, stepS eab, by omega, by omega, .inr (by omega), fun hp => (hPs hp).2 hp⟩
              rw [upd_same]
              exact congrArg (fun z => some (HO.lst z)) (cut_tail _ _)
            · obtain ⟨c1, rI⟩ := stepN eab
              have cne' : cut (pw b ++ pw a) ≠ [] := by
                rw [c1]
                exact (pw_len (rI.alt.head)).2
              refine iteDF (fun z => cne' (s_inj (V.str.inj z))) ⟨.str (S (cut (pw b ++ pw a))), rfl, by show 1 ≤ sizeLine; decide, fun q2 nq2 => ?_⟩
              have n12 : q1 ≠ q2 := ne_of_none e2 nq2
              have e3 : (upd H4 q2 (.lst [.str (S (cut (pw b ++ pw a)))])) q2 = some (.lst [.str (S (cut (pw b ++ pw a)))]) := upd_same
              have e4 : (upd H4 q2 (.lst [.str (S (cut (pw b ++ pw a)))])) q1 = some (.lst (PV (a :: M))) := by rw [upd_ne n12]; exact e2
              have s3 := Same.to s2 (same_new (o := .lst [.str (S (cut (pw b ++ pw a)))]) nq2)
              refine ⟨.ref q1, rfl, 1, rfl, q1, PV (a :: M), rfl, .inl (.inl e4), fun q3 nq3 => ?_⟩
              have n23 : q2 ≠ q3 := ne_of_none e3 nq3
              have s4 := Same.to s3 (same_new (o := .lst (cutV (PV (a :: M)) (some 1) none)) nq3)
              have ect : cutV (PV (a :: M)) (some 1) none = PV M := cut_tail _ _
              refine ⟨q2, q3, [.str (S (cut (pw b ++ pw a)))], cutV (PV (a :: M)) (some 1) none, rfl, rfl, by rw [upd_ne n23]; exact e3, upd_same, ?_, fun q4 nq4 => ?_⟩
              · rw [ect, pv_len]
                exact fit _ (show 1 + M.length ≤ 10000 by omega)
              · refine ⟨_, _, _, q4, (b ^^^ a) :: M, cut (pw b ++ y), rfl, Same.to s4 (same_new nq4), none_of s4 nq4, ?_, rI, by omega, by rw [List.length_cons]; omega, .inr (by rw [List.length_cons]; omega), fun hp => absurd (hPs hp).1 eab⟩
                rw [upd_same, ect, c1]
                rfl
          · refine iteDF (fun z => ht (t1.symm.trans ((V.bl.inj z).trans t2))) ?_
            refine ⟨_, _, _, q1, a :: (M ++ [b]), y, rfl, sm, nq1, eq1, hI, by omega, lL, .inl fun a' b' ha' hb' _ => ?_, hP⟩
            cases ha'
            rw [← List.cons_append, List.getLast?_concat] at hb'
            cases hb'
            exact ht
        · refine iteDF (by omega) ?_
          exact iteF ⟨_, _, _, q1, L, y, rfl, sm, nq1, eq1, hI, by omega, lL, .inl fun _ _ _ _ h => absurd h hl, hP⟩
    · refine .inl ⟨by show cs.length ≤ i; omega, ?_⟩
      have i0 : i = cs.length := by omega
      have done : Done L := by
        rcases hD with h | h
        · exact h
        · exact absurd (List.length_eq_zero_iff.mp (by omega)) hI.ne
      refine ⟨.ref q1, rfl, q1, PV L, rfl, .inl (.inl (.inl eq1)), ((PV L).length : Int), 1, rfl, rfl, _, rfl, ?_⟩
      rw [pv_len]
      have fin : ∀ (L' y' : List Nat) (q2 : Addr) (H4 : Hp) (r1 r4 r5 : Option V), Same H H4 → H q2 = none → H4 q2 = some (.lst (PV L')) → (RingA u L' y' ∨ RingB u L' y') →
          (tTup (tCons (tVar 2) (tCons (tVar 3) tNil))) [some (.str (S u)), r1, some (.ref q2), some (.str (S y')), r4, r5] H4 (fun x H' => Q x H') := by
        intro L' y' q2 H4 r1 r4 r5 s4 n2 e2 hR
        refine ⟨.ref q2, rfl, .str (S y'), rfl, by show 2 ≤ sizeLine; decide, fun p np => ?_⟩
        exact q L' y' p q2 _ (Same.to s4 (same_new np)) (none_of s4 np) n2 (same_new np _ _ e2) upd_same hR
      by_cases hl : 1 < L.length
      · refine iteDT (by omega) ?_
        obtain ⟨a, ha⟩ : ∃ a, L.head? = some a := by
          cases L with
          | nil => exact absurd rfl hI.ne
          | cons a r => exact ⟨a, rfl⟩
        obtain ⟨b, hb⟩ : ∃ b, L.getLast? = some b := ⟨_, List.getLast?_eq_getLast hI.ne⟩
        have dab := done a b ha hb hl
        obtain ⟨M, rfl⟩ := ends_split ha hb hl
        have ca : Cd a := altL.head
        have cb : Cd b := altL.all b (by simp)
        have t1 := pw_one ca
        have notm : isMir u = false := by
          cases e : isMir u with
          | false => rfl
          | true =>
            exfalso
            have hp : cs = cs.reverse := by
              unfold isMir at e
              rw [Bool.and_eq_true, decide_eq_true_iff, decide_eq_true_iff] at e
              rw [hcs, List.reverse_reverse]
              exact e.2.symm
            obtain ⟨X, _, _, h3⟩ := hP hp
            have h4 : (a :: (M ++ [b])).head? = (a :: (M ++ [b])).reverse.head? := by rw [← h3]
            rw [List.head?_reverse, hb] at h4
            exact dab (by rw [Option.some.inj h4])
        refine ⟨.ref q1, rfl, q1, PV (a :: (M ++ [b])), 0, .str (S (pw a)), rfl, rfl, .inl (.inl eq1), atI_nat (j := 0) rfl, rfl, _, rfl, ?_⟩
        by_cases a4 : a = 4
        · have wy' : Wd ([49] ++ y) := wd_append.mpr ⟨fun c hc => by rw [List.mem_singleton.mp hc]; exact .inr (.inl rfl), hI.wd⟩
          have ly' : ([49] ++ y).length ≤ 300 := by
            rw [List.length_append]
            show 1 + y.length ≤ 300
            omega
          have lcy := cut_len _ _ rfl wy'
          refine iteDT (of_decide_eq_true (t1.trans (decide_eq_true a4))) ?_
          refine ⟨.ref q1, rfl, 1, rfl, q1, PV (a :: (M ++ [b])), rfl, .inl (.inl eq1), fun q2 nq2 => ?_⟩
          have s2 := Same.to sm (same_new (o := .lst (cutV (PV (a :: (M ++ [b]))) (some 1) none)) nq2)
          have e2 : (upd H3 q2 (.lst (cutV (PV (a :: (M ++ [b]))) (some 1) none))) q2 = some (.lst (cutV (PV (a :: (M ++ [b]))) (some 1) none)) := upd_same
          refine ⟨by show 1 ≤ sizeLine; decide, fun q3 nq3 => ?_⟩
          have n23 : q2 ≠ q3 := ne_of_none e2 nq3
          have s3 := Same.to s2 (same_new (o := .lst [.str (S [49])]) nq3)
          have ect : cutV (PV (a :: (M ++ [b]))) (some 1) none = PV (M ++ [b]) := cut_tail _ _
          refine ⟨q2, q3, cutV (PV (a :: (M ++ [b]))) (some 1) none, [.str (S [49])], rfl, rfl, by rw [upd_ne n23]; exact e2, upd_same, ?_, fun q4 nq4 => ?_⟩
          · rw [ect, pv_len]
            exact fit _ (by simp only [List.length_cons, List.length_append, List.length_nil] at lL ⊢; omega)
          · have s4 := Same.to s3 (same_new (o := .lst (cutV (PV (a :: (M ++ [b]))) (some 1) none ++ [.str (S [49])])) nq4)
            refine ⟨.str (S y), rfl, S [49], S y, rfl, rfl, fit _ (show 1 + y.length ≤ 10000 by omega), [49] ++ y, congrArg (fun z => [V.str z]) (s_app _ _), ⟨wy', by omega⟩, _, _, rfl, ?_⟩
            refine fin (M ++ [b] ++ [4]) (cut ([49] ++ y)) q4 _ _ _ _ s4 (none_of s3 nq4) ?_ (.inr ⟨notm, ?_, cut_wd wy', ?_, ?_, ?_, by omega, ?_⟩)
            · rw [upd_same, ect, pv_app (M ++ [b]) [4]]
              rfl
            · obtain ⟨h1, h2, h3⟩ := alt_cons.mp altL
              refine alt_app.mpr ⟨h2, (show Cd 4 by decide), fun x y hx hy => ?_⟩
              cases hy
              rw [List.getLast?_concat] at hx
              cases hx
              rw [a4] at dab
              exact dab.symm
            · obtain ⟨h1, h2, h3⟩ := alt_cons.mp altL
              cases M with
              | nil =>
                refine ⟨b, rfl, fun z => ?_⟩
                exact dab (by rw [a4, z])
              | cons x r =>
                refine ⟨x, rfl, fun z => ?_⟩
                exact h3 x rfl (by rw [a4, z])
            · exact List.getLast?_concat ..
            · subst a4
              have ey : E2 (cut ([49] ++ y)) ([49] ++ y) := e2_of (cut_wd wy') wy' (cut_cut wy')
              have eyr : E2 (cut ([49] ++ y)).reverse (y.reverse ++ [49]) := by
                have h1 : E2 (cut ([49] ++ y)).reverse ([49] ++ y).reverse := e2_of (wd_rev.mpr (cut_wd wy')) (wd_rev.mpr wy') (cut_rev wy')
                rw [List.reverse_append] at h1
                exact h1
              have w49 : Wd [49] := pw_wd 4
              have wfl := flat_wd (M ++ [b])
              have g1 : E2 ((cut ([49] ++ y)).reverse ++ flat (M ++ [b] ++ [4]) ++ cut ([49] ++ y)) ((y.reverse ++ [49]) ++ (flat (M ++ [b]) ++ [49]) ++ ([49] ++ y)) := by
                refine E2.app (wd_append.mpr ⟨wd_rev.mpr (cut_wd wy'), flat_wd _⟩) (E2.app (wd_rev.mpr (cut_wd wy')) eyr ?_) ey
                rw [flat_app (M ++ [b]) [4]]
                exact E2.id _
              have g2 : (y.reverse ++ [49]) ++ (flat (M ++ [b]) ++ [49]) ++ ([49] ++ y) = (y.reverse ++ ([49] ++ flat (M ++ [b]))) ++ (([49] ++ [49]) ++ y) := by simp only [List.append_assoc]
              rw [g2] at g1
              have g3 : E2 ((y.reverse ++ ([49] ++ flat (M ++ [b]))) ++ (([49] ++ [49]) ++ y)) ((y.reverse ++ ([49] ++ flat (M ++ [b]))) ++ ([] ++ y)) :=
                E2.app (wd_append.mpr ⟨wd_rev.mpr hI.wd, wd_append.mpr ⟨w49, wfl⟩⟩) (E2.id _) (E2.app (wd_append.mpr ⟨w49, w49⟩) (pw_twice (c := 4) (by decide)) (E2.id _))
              exact g1.trans (g3.trans hI.eq)
            · simp only [List.length_cons, List.length_append, List.length_nil] at lL ⊢
              omega
        · refine iteDF (fun z => a4 (of_decide_eq_true (t1.symm.trans (decide_eq_true z)))) ?_
          have b4 : b = 4 := by
            by_cases e : b = 4
            · exact e
            · exact absurd (show Ty a = Ty b by unfold Ty; rw [decide_eq_false a4, decide_eq_false e]) dab
          exact fin _ y q1 H3 _ _ _ sm nq1 eq1 (.inr ⟨notm, altL, hI.wd, ⟨a, rfl, a4⟩, by rw [hb, b4], hI.eq, by omega, by omega⟩)
      · refine iteDF (by omega) ?_
        obtain ⟨c, rfl⟩ : ∃ c, L = [c] := by
          cases L with
          | nil => exact absurd rfl hI.ne
          | cons c r =>
            cases r with
            | nil => exact ⟨c, rfl⟩
            | cons d t => exact absurd (by simp) hl
        have mir := one_mir hu (by rw [hcu]; exact hne) hI
        have hp : cs = cs.reverse := by
          have e := mir
          unfold isMir at e
          rw [Bool.and_eq_true, decide_eq_true_iff, decide_eq_true_iff] at e
          rw [hcs, List.reverse_reverse]
          exact e.2.symm
        obtain ⟨X, h1, h2, h3⟩ := hP hp
        refine iteF (fin [c] y q1 H3 _ _ _ sm nq1 eq1 (.inl ⟨mir, c, X, rfl, h2, ?_⟩))
        have : codesOf u = cs := by rw [hp, hcs, List.reverse_reverse]
        rw [this, h1]
end
end K4

namespace K4
open PySem PySem.Spec PyProof.Rows L2 Nr Nw
theorem pw_p4 {c : Nat} (h : Cd c) : P4 (pw c) := by
  rcases h with e | e | e | e <;> subst e
  · exact .inl rfl
  · exact .inr (.inl rfl)
  · exact .inr (.inr (.inl rfl))
  · exact .inr (.inr (.inr rfl))
theorem pw_49 {c : Nat} (h : Cd c) : pw c = [49] ↔ c = 4 := by rcases h with e | e | e | e <;> subst e <;> decide
theorem pal_of : ∀ {st : List Nat}, Alt st → Pal (st.map pw)
  | [], _ => trivial
  | [c], h => pw_p4 h
  | a :: b :: r, h => by
    obtain ⟨h1, h2, h3⟩ := alt_cons.mp h
    refine ⟨pw_p4 h1, ?_, pal_of h2⟩
    have := ty_ne.mp (h3 b rfl)
    rcases this with ⟨x, y⟩ | ⟨x, y⟩
    · exact .inl ⟨(pw_49 h1).mpr x, fun z => y ((pw_49 h2.head).mp z)⟩
    · exact .inr ⟨fun z => x ((pw_49 h1).mp z), (pw_49 h2.head).mpr y⟩
/-- where the first piece isn't "1", flag 0 has no link -/
theorem w_gt : ∀ {st : List (List Nat)} {p : List Nat}, st.getLast? = some p → p ≠ [49] → 0 < (wOf st.reverse).h ∧ ∀ x ∈ ends (wOf st.reverse).es, 0 < x
  | [], p, h, _ => by cases h
  | [a], p, h, hp => by
    cases h
    have hp : a ≠ [49] := hp
    have e : wOf [a].reverse = wst ⟨0, [], 0⟩ a := rfl
    rw [e, wst_ne _ hp]
    have := pv4_le a
    exact ⟨by show 0 < 0 + pv4 a; omega, fun x hx => by cases hx⟩
  | a :: b :: r, p, h, hp => by
    rw [List.getLast?_cons_cons] at h
    obtain ⟨h1, h2⟩ := w_gt h hp
    rw [List.reverse_cons, wOf_snoc]
    generalize wOf (b :: r).reverse = s at h1 h2 ⊢
    by_cases e : a = [49]
    · subst e
      rw [wst_one]
      refine ⟨by show 0 < 4 * (s.k + 1); omega, fun x hx => ?_⟩
      have hx' : x ∈ ends (s.es ++ [(s.h, 4 * (s.k + 1))]) := hx
      rw [ends_app] at hx'
      rcases List.mem_append.mp hx' with z | z
      · exact h2 x z
      · rcases List.mem_cons.mp z with z | z
        · rw [z]; exact h1
        · rw [List.mem_singleton.mp z]; omega
    · rw [wst_ne s e]
      exact ⟨by show 0 < s.h + pv4 a; omega, h2⟩
theorem four_not {u L y : List Nat} (wu : Wd u) (altL : Alt L) (wy : Wd y) {a : Nat} (ha : L.head? = some a) (a4 : a ≠ 4) (hl : L.getLast? = some 4) (hE : E2 (y.reverse ++ flat L ++ y) u) : isMir (cut (u ++ u)) = false := by
  cases e : isMir (cut (u ++ u)) with
  | false => rfl
  | true =>
    exfalso
    have wuu : Wd (u ++ u) := wd_append.mpr ⟨wu, wu⟩
    obtain ⟨_, h2⟩ := (isMir_iff (cut_wd wuu)).mp e
    rw [cut_app wuu wuu] at h2
    have lne : L ≠ [] := fun z => by rw [z] at ha; cases ha
    have link : ∀ {A : List Nat}, Alt A → A.head? = some a → Alt (L ++ A) ∧ (L ++ A).head? = some a := by
      intro A hA hh
      refine ⟨alt_app.mpr ⟨altL, hA, fun x y hx hy => ?_⟩, ?_⟩
      · rw [hl] at hx
        rw [hh] at hy
        cases hx
        cases hy
        exact ty_ne.mpr (.inl ⟨rfl, a4⟩)
      · cases L with
        | nil => exact absurd rfl lne
        | cons b r => exact ha
    obtain ⟨b1, b2⟩ := link altL ha
    obtain ⟨c1, c2⟩ := link b1 b2
    obtain ⟨d1, d2⟩ := link c1 c2
    have wL := flat_wd L
    have wyr := wd_rev.mpr wy
    -- one more time round
    have more : ∀ (A : List Nat) (v : List Nat), E2 (y.reverse ++ flat A ++ y) v → E2 (y.reverse ++ flat (L ++ A) ++ y) (u ++ v) := by
      intro A v hv
      have g1 : E2 ((y.reverse ++ flat L ++ y) ++ (y.reverse ++ flat A ++ y)) (u ++ v) := E2.app (wd_append.mpr ⟨wd_append.mpr ⟨wyr, wL⟩, wy⟩) hE hv
      have e1 : (y.reverse ++ flat L ++ y) ++ (y.reverse ++ flat A ++ y) = (y.reverse ++ flat L) ++ ((y ++ y.reverse) ++ (flat A ++ y)) := by simp only [List.append_assoc]
      rw [e1] at g1
      have g2 : E2 ((y.reverse ++ flat L) ++ ((y ++ y.reverse) ++ (flat A ++ y))) ((y.reverse ++ flat L) ++ ([] ++ (flat A ++ y))) := E2.app (wd_append.mpr ⟨wyr, wL⟩) (E2.id _) (E2.app (wd_append.mpr ⟨wy, wyr⟩) (E2.home wy) (E2.id _))
      have e2 : (y.reverse ++ flat L) ++ ([] ++ (flat A ++ y)) = y.reverse ++ flat (L ++ A) ++ y := by rw [flat_app]; simp only [List.append_assoc, List.nil_append]
      rw [e2] at g2
      exact g2.sym.trans g1
    have h4 := more _ _ (more _ _ (more _ _ hE))
    have e4 : u ++ (u ++ (u ++ u)) = (u ++ u) ++ (u ++ u) := by simp only [List.append_assoc]
    rw [e4] at h4
    have w4 : Wd ((u ++ u) ++ (u ++ u)) := wd_append.mpr ⟨wuu, wuu⟩
    have z4 : E2 ((u ++ u) ++ (u ++ u)) [] := e2_of w4 (fun c hc => absurd hc List.not_mem_nil) h2
    have h5 := h4.trans z4
    -- take the way off
    have wF := flat_wd (L ++ (L ++ (L ++ L)))
    have g1 : E2 (y ++ (y.reverse ++ flat (L ++ (L ++ (L ++ L))) ++ y) ++ y.reverse) (y ++ [] ++ y.reverse) := E2.app (wd_append.mpr ⟨wy, wd_append.mpr ⟨wd_append.mpr ⟨wyr, wF⟩, wy⟩⟩) (E2.app wy (E2.id _) h5) (E2.id _)
    have e1 : y ++ (y.reverse ++ flat (L ++ (L ++ (L ++ L))) ++ y) ++ y.reverse = (y ++ y.reverse) ++ (flat (L ++ (L ++ (L ++ L))) ++ (y ++ y.reverse)) := by simp only [List.append_assoc]
    rw [e1, List.append_nil] at g1
    have g2 : E2 ((y ++ y.reverse) ++ (flat (L ++ (L ++ (L ++ L))) ++ (y ++ y.reverse))) ([] ++ (flat (L ++ (L ++ (L ++ L))) ++ [])) := E2.app (wd_append.mpr ⟨wy, wyr⟩) (E2.home wy) (E2.app wF (E2.id _) (E2.home wy))
    rw [List.append_nil] at g2
    have fin := cut_of (g2.sym.trans (g1.trans (E2.home wy)))
    have : cut (flat (L ++ (L ++ (L ++ L)))) = [] := fin
    rw [cut_flat d1] at this
    refine flat_ne d1 (fun z => ?_) this
    rw [z] at d2
    cases d2
section
variable {P : Program} {w : World} {K : PySem.W.Frag} {mg : Str → Option Value} {base : Heap}
def spClosed (K : PySem.W.Frag) : Sp := fun vs H Q _ => ∃ (m lc lg : Addr) (k : Nat) (u : List Nat), vs = [.ref m, .str (S u)] ∧ Fw u ∧ u ≠ [] ∧ u.length ≤ 29 ∧ isMir u = false ∧ MS H m lc lg k ∧ k < 700000 ∧
  ∀ (N : Net) (n f : Nat) (p q : Addr) (H' : Hp), N.Of n → 0 < n → n ≤ 1000 → Nw.Acts N.stp (· < n) → N.Free n → f < n → N.lead f u = f → isMir (cut (u ++ u)) = false → NetAt K H' q N → H' p = some (.tup [.ref q, .int (f : Int)]) → H p = none → MS H' m lc lg (k + 120) → Off m lg H H' → Q (.ref p) H'
theorem ok_closed (T : Txt w K mg) : Ok P w K mg base 5 "_law_closed" ["m", "word"] (spClosed K) := by
  refine ok_of T.fLawClosed fun f fd F => ?_
  refine F.ok scLawClosed (fun vs H Q E h => ?_) (fun cdv A outer s H vs Q E hr h => ?_)
  · obtain ⟨m, lc, lg, k, u, rfl, _⟩ := h
    rfl
  · obtain ⟨m, lc, lg, k, u, rfl, hf, hne, hz, nm, hM, hk, q⟩ := h
    have hu := hu_of hr
    refine ⟨_, pss_cons (ps_asg (pe_callO (ok_ring T) hr (by decide) (by rfl) (pa_cons (pv 1) (pa_nil))) (pg_tup rfl (pgs_cons (pg_name (i := 3) scLawClosed.nd rfl (.inl rfl)) (pgs_cons (pg_name (i := 4) scLawClosed.nd rfl (.inl rfl)) (pgs_nil)))))
         (pss_cons (ps_par3 (i := 5) (j := 6) (l := 7) (by rfl) scLawClosed.nd rfl rfl rfl (by decide) (by decide) (by decide) rfl rfl rfl (pa_cons (pe_int) (pa_cons (pe_lst pa_nil) (pa_cons (pe_int) (pa_nil)))) (by rfl))
         (pss_cons (ps_for PassesOwn.never rfl (pi_enum (by rfl) T.nenumerate (pa_cons (pv 3) pa_nil)) (pg_tup rfl (pgs_cons (pg_name (i := 8) scLawClosed.nd rfl (.inl rfl)) (pgs_cons (pg_name (i := 9) scLawClosed.nd rfl (.inl rfl)) (pgs_nil)))) (pss_one (ps_if (pt_cmpR (op_eq) (pv 9) (pe_str) (nomark _)) (pss_cons (ps_set (i := 7) scLawClosed.nd rfl (.inl rfl) (pe_op op_add (pv 7) (pe_int)))
         (pss_cons (ps_set (i := 10) scLawClosed.nd rfl (.inl rfl) (pe_ifExp (pt_cmpR (op_lt) (pe_op op_add (pv 8) (pe_int)) (pe_callB call_len_seq (by rfl) T.nlen PySem.boot_len (pa_cons (pv 3) (pa_nil))) (nomark _)) (pe_op op_mul (pe_int) (pv 7)) (pe_int)))
         (pss_cons (ps_expr (pe_bm PySem.F.plainAttrs_list PySem.F.slot_list_append PySem.F.type_list_append mt_append (pv 6) (pa_cons (pe_tup (pa_cons (pv 5) (pa_cons (pv 10) (pa_nil)))) (pa_nil))))
         (pss_one (ps_set (i := 5) scLawClosed.nd rfl (.inl rfl) (pv 10)))))) (pss_one (ps_set (i := 5) scLawClosed.nd rfl (.inl rfl) (pe_op op_add (pv 5) (pe_dget hu (pe_disp (pps_cons pe_str pe_int (pps_cons pe_str pe_int (pps_cons pe_str pe_int pps_nil))) (by rfl) (by rfl) (fun z => by cases z) (by decide)) (pv 9) (fun _ _ => rfl))))))))
         (pss_cons (ps_set (i := 2) scLawClosed.nd rfl (.inl rfl) (pe_callO (ok_hung T) hr (by decide) (by rfl) (pa_cons (pv 0) (pa_cons (pv 7) (pa_cons (pv 6) (pa_nil))))))
         (pss_one (ps_ret (pe_tup (pa_cons (pv 2) (pa_cons (pe_callO (ok_lead T) hr (by decide) (by rfl) (pa_cons (pv 2) (pa_cons (pe_int) (pa_cons (pv 4) (pa_nil))))) (pa_nil))))))))), ?_⟩
    have wu := hf.wd
    have fit : ∀ z : Nat, z ≤ 1000 → z < sizeLine := fun z hz => Nat.lt_of_le_of_lt hz (by decide)
    refine ⟨.str (S u), rfl, u, rfl, hf, hne, by omega, fun L y p1 q1 H1 s1 np nq eq1 ep1 hR => ?_⟩
    obtain ⟨altL, wy, ⟨a0, ha0, a04⟩, hl4, hE, ly, lL⟩ : Alt L ∧ Wd y ∧ (∃ a, L.head? = some a ∧ a ≠ 4) ∧ L.getLast? = some 4 ∧ E2 (y.reverse ++ flat L ++ y) u ∧ y.length ≤ 1000 ∧ L.length ≤ u.length := by
      rcases hR with h | h
      · rw [h.1] at nm; cases nm
      · exact h.2
    clear hR
    -- the ring but for its last "1"
    have hl1 : 1 < L.length := by
      cases L with
      | nil => cases ha0
      | cons a r =>
        cases r with
        | nil =>
          cases ha0
          exact absurd (Option.some.inj hl4) a04
        | cons b t => simp
    obtain ⟨M, eL⟩ := ends_split ha0 hl4 hl1
    obtain ⟨B, hB⟩ : ∃ B, B = a0 :: M := ⟨_, rfl⟩
    have eL' : L = B ++ [4] := by rw [eL, hB]; rfl
    have altB : Alt B := by rw [eL'] at altL; exact (alt_app.mp altL).1
    have bne : B ≠ [] := by rw [hB]; intro z; cases z
    have lB : L.length = B.length + 1 := by rw [eL', List.length_append]; rfl
    obtain ⟨bl, hbl⟩ : ∃ b, B.getLast? = some b := ⟨_, List.getLast?_eq_getLast bne⟩
    have bl4 : bl ≠ 4 := fun z => by
      rw [eL'] at altL
      exact (alt_app.mp altL).2.2 bl 4 hbl rfl (by rw [z])
    have cbl : Cd bl := altB.all bl (List.mem_of_getLast? hbl)
    obtain ⟨st, hst⟩ : ∃ st, st = (B.map pw).reverse := ⟨_, rfl⟩
    have pal : Pal st := by rw [hst, ← List.map_reverse]; exact pal_of (alt_rev altB)
    have str : st.reverse = B.map pw := by rw [hst, List.reverse_reverse]
    have sthead : st.head? = some (pw bl) := by rw [hst, List.head?_reverse, List.getLast?_map, hbl]; rfl
    have stlast : st.getLast? = some (pw a0) := by rw [hst, List.getLast?_reverse, hB]; rfl
    have winv := w_inv pal
    have wgt := w_gt stlast (fun z => a04 ((pw_49 (altB.all a0 (by rw [hB]; exact List.mem_cons_self))).mp z))
    have hoth := winv.oth (pw bl) sthead fun z => bl4 ((pw_49 cbl).mp z)
    have hpv := pv4_le (pw bl)
    rw [str] at winv wgt hoth
    have wlead := fun {ps : List Nat} {n : Nat} (h : PairOk ps n) => w_lead h pal
    rw [str] at wlead
    -- the pieces in order
    obtain ⟨ord, hord⟩ : ∃ ord, ord = L.map pw := ⟨_, rfl⟩
    have lo : ord.length = L.length := by rw [hord, List.length_map]
    have eord : ord = B.map pw ++ [[49]] := by rw [hord, eL', List.map_append]; rfl
    have stl : st.length = B.length := by rw [hst, List.length_reverse, List.length_map]
    have eq1' : H1 q1 = some (.lst (Vs ord)) := by rw [eq1, hord]; rfl
    have kle : ∀ i, (wOf (ord.take i)).k ≤ i ∧ (wOf (ord.take i)).es.length ≤ i := by
      intro i
      induction i with
      | zero => exact ⟨Nat.le_refl _, Nat.le_refl _⟩
      | succ i ih =>
        by_cases hi : i < ord.length
        · rw [take_next hi, wOf_snoc]
          unfold wst
          split
          · refine ⟨Nat.succ_le_succ ih.1, ?_⟩
            show (_ ++ [_]).length ≤ i + 1
            rw [List.length_append]
            exact Nat.succ_le_succ ih.2
          · exact ⟨Nat.le_succ_of_le ih.1, Nat.le_succ_of_le ih.2⟩
        · rw [List.take_of_length_le (by omega)] at ih ⊢
          exact ⟨Nat.le_succ_of_le ih.1, Nat.le_succ_of_le ih.2⟩
    -- the state after i pieces
    obtain ⟨wA, hwA⟩ : ∃ wA : Nat → Wk, wA = fun i => if i < ord.length then wOf (ord.take i) else ⟨0, (wOf (B.map pw)).es ++ [((wOf (B.map pw)).h, 0)], (wOf (B.map pw)).k + 1⟩ := ⟨_, rfl⟩
    have wlt : ∀ i, i < ord.length → wA i = wOf (ord.take i) := fun i hi => by rw [hwA]; exact if_pos hi
    have wend : wA ord.length = ⟨0, (wOf (B.map pw)).es ++ [((wOf (B.map pw)).h, 0)], (wOf (B.map pw)).k + 1⟩ := by rw [hwA]; exact if_neg (Nat.lt_irrefl _)
    have takeB : ord.take B.length = B.map pw := by rw [eord, List.take_left' (List.length_map ..)]
    refine ⟨p1, [.ref q1, .str (S y)], rfl, .inl (.inl ep1), rfl, _, [.str (S y)], rfl, _, [], rfl, rfl, ?_⟩
    refine ⟨Nat.zero_le _, fun l nl => ⟨_, _, _, rfl, ?_⟩⟩
    have s2 := Same.to s1 (same_new (o := .lst []) nl)
    have nl0 : H l = none := none_of s1 nl
    have ql : q1 ≠ l := ne_of_none eq1 nl
    have e0 : wA 0 = ⟨0, [], 0⟩ := by rw [wlt 0 (by omega)]; rfl
    have eql : (upd H1 l (.lst [])) q1 = some (.lst (Vs ord)) := by rw [upd_ne ql]; exact eq1'
    refine ⟨.ref q1, rfl, q1, Vs ord, rfl, .inl (.inl eql), ?_⟩
    refine ⟨fun i mm σ H3 => ∃ y8 y9 y10, σ = [some (.ref m), some (.str (S u)), none, some (.ref q1), some (.str (S y)), some (.int ((wA i).h : Int)), some (.ref l), some (.int ((wA i).k : Int)), y8, y9, y10] ∧ i + mm = ord.length ∧ Same H H3 ∧ H3 q1 = some (.lst (Vs ord)) ∧ LinksAt H3 l (wA i).es,
      ⟨ord.length, none, none, none, by rw [e0]; rfl, by omega, s2, eql, by rw [e0]; exact ⟨[], rfl, upd_same, fun i e h => by cases h⟩⟩, ?_⟩
    rintro i mm σ H3 ⟨y8, y9, y10, rfl, em, sm, eq3, hL⟩
    by_cases hi : i < ord.length
    · obtain ⟨pc, gp, mp, gv⟩ := vs_mem hi
      have kl := kle i
      have nx := wOf_snoc (ord.take i) pc
      rw [← take_get gp] at nx
      rw [wlt i hi] at hL ⊢
      refine .inr ⟨⟨_, _, .inl (.inl eq3), gv⟩, fun σ' H' => ∃ y8 y9 y10, σ' = [some (.ref m), some (.str (S u)), none, some (.ref q1), some (.str (S y)), some (.int ((wA (i + 1)).h : Int)), some (.ref l), some (.int ((wA (i + 1)).k : Int)), y8, y9, y10] ∧ Same H H' ∧ H' q1 = some (.lst (Vs ord)) ∧ LinksAt H' l (wA (i + 1)).es, ?_, ?_⟩
      · rintro σ' H' ⟨z8, z9, z10, e', r⟩
        exact ⟨mm - 1, by omega, z8, z9, z10, e', by omega, r⟩
      · rintro v H' ⟨Tp, xv, rfl, nT, rfl, fx⟩
        have ex : xv = .str (S pc) := Option.some.inj ((fx _ (.inl (.inl eq3))).symm.trans gv)
        subst ex
        refine ⟨Tp, [.int (i : Nat), .str (S pc)], rfl, .inl (.inl upd_same), rfl, _, [.str (S pc)], rfl, _, [], rfl, rfl, ?_⟩
        have sT : Same H3 (upd H3 Tp (.tup [.int (i : Nat), .str (S pc)])) := same_new nT
        have s4 := Same.to sm sT
        have eq4 := sT _ _ eq3
        have hL4 := hL.same sT
        generalize upd H3 Tp (.tup [.int (i : Nat), .str (S pc)]) = H4 at sT s4 eq4 hL4 ⊢
        obtain ⟨rs, hrl, hrs, hrt⟩ := hL4
        have last : i + 1 = ord.length → pc = [49] ∧ wOf (ord.take i) = wOf (B.map pw) := by
          intro e
          have iB : i = B.length := by omega
          refine ⟨?_, by rw [iB, takeB]⟩
          rw [eord, iB, List.getElem?_append_right (by rw [List.length_map]; exact Nat.le_refl _), List.length_map, Nat.sub_self] at gp
          exact (Option.some.inj gp).symm
        have p4 : P4 pc := by
          rw [hord] at mp
          obtain ⟨c, hc, rfl⟩ := List.mem_map.mp mp
          exact pw_p4 (altL.all c hc)
        refine ⟨.str (S pc), rfl, rfl, _, rfl, ?_⟩
        by_cases e : pc = [49]
        · refine iteDT (by rw [e]; rfl) ?_
          subst e
          have nwl : i + 1 < ord.length → wA (i + 1) = ⟨4 * ((wOf (ord.take i)).k + 1), (wOf (ord.take i)).es ++ [((wOf (ord.take i)).h, 4 * ((wOf (ord.take i)).k + 1))], (wOf (ord.take i)).k + 1⟩ := fun h => by
            rw [wlt _ h, nx, wst_one]
          have nwe : i + 1 = ord.length → wA (i + 1) = ⟨0, (wOf (ord.take i)).es ++ [((wOf (ord.take i)).h, 0)], (wOf (ord.take i)).k + 1⟩ := fun h => by
            rw [h, wend, (last h).2]
          clear last nx
          generalize wOf (ord.take i) = s at kl hrl hrt nwl nwe ⊢
          have k1 : (s.k : Int) + 1 = ((s.k + 1 : Nat) : Int) := by omega
          have k4 : (4 : Int) * ((s.k : Int) + 1) = ((4 * (s.k + 1) : Nat) : Int) := by omega
          refine ⟨.int (s.k : Int), rfl, _, _, rfl, rfl, ?_⟩
          refine ⟨.int ((i : Nat) : Int), rfl, _, _, rfl, rfl, .ref q1, rfl, q1, Vs ord, rfl, .inl (.inl (.inl eq4)), ((i : Nat) : Int) + 1, ((Vs ord).length : Int), rfl, rfl, _, rfl, ?_⟩
          by_cases hl : i + 1 < ord.length
          · have nw := nwl hl
            refine iteDT (by rw [vs_len]; omega) ⟨.int ((s.k : Int) + 1), rfl, 4, (s.k : Int) + 1, rfl, rfl, .inl ⟨by decide, by omega⟩, ?_⟩
            refine ⟨.ref l, rfl, .inl ⟨rfl, _, .inl (.inl hrs)⟩, .int (s.h : Int), rfl, .int (4 * ((s.k : Int) + 1)), rfl, by show 2 ≤ sizeLine; decide, fun tt nt => ?_⟩
            have lt : l ≠ tt := ne_of_none hrs nt
            have pt : q1 ≠ tt := ne_of_none eq4 nt
            refine ⟨l, rs.map V.ref, _, rfl, rfl, by rw [upd_ne lt]; exact hrs, by rw [List.length_map]; exact fit _ (by omega), ?_⟩
            refine ⟨_, rfl, ?_⟩
            rw [nw]
            refine ⟨some (.int ((i : Nat) : Int)), some (.str (S [49])), some (.int (4 * ((s.k : Int) + 1))), ?_, same_mut (Same.to s4 (same_new nt)) nl0, by rw [upd_ne ql, upd_ne pt]; exact eq4, rs ++ [tt], ?_, ?_, ?_⟩
            · show [some (V.ref m), some (.str (S u)), none, some (.ref q1), some (.str (S y)), some (.int (4 * ((s.k : Int) + 1))), some (.ref l), some (.int ((s.k : Int) + 1)), some (.int ((i : Nat) : Int)), some (.str (S [49])), some (.int (4 * ((s.k : Int) + 1)))] = [some (V.ref m), some (.str (S u)), none, some (.ref q1), some (.str (S y)), some (.int ((4 * (s.k + 1) : Nat) : Int)), some (.ref l), some (.int ((s.k + 1 : Nat) : Int)), some (.int ((i : Nat) : Int)), some (.str (S [49])), some (.int (4 * ((s.k : Int) + 1)))]
              rw [k1, show (4 : Int) * ((s.k + 1 : Nat) : Int) = ((4 * (s.k + 1) : Nat) : Int) by omega]
            · show _ = (s.es ++ [(s.h, 4 * (s.k + 1))]).length
              rw [List.length_append, List.length_append, hrl]
              rfl
            · rw [upd_same, List.map_append]
              rfl
            · intro j e he
              have he : (s.es ++ [(s.h, 4 * (s.k + 1))])[j]? = some e := he
              by_cases hj : j < s.es.length
              · rw [List.getElem?_append_left hj] at he
                obtain ⟨t, h1, h2⟩ := hrt j e he
                refine ⟨t, by rw [List.getElem?_append_left (by omega)]; exact h1, ?_⟩
                have tl : t ≠ l := fun z => by rw [z, hrs] at h2; cases h2
                have ttt : t ≠ tt := ne_of_none h2 nt
                rw [upd_ne tl, upd_ne ttt]
                exact h2
              · rw [List.getElem?_append_right (by omega)] at he
                have j0 : j - s.es.length = 0 := by
                  rcases Nat.eq_zero_or_pos (j - s.es.length) with z | z
                  · exact z
                  · rw [List.getElem?_eq_none (by show 1 ≤ _; omega)] at he
                    cases he
                rw [j0] at he
                cases he
                refine ⟨tt, ?_, ?_⟩
                · rw [List.getElem?_append_right (by omega), hrl, j0]
                  rfl
                · rw [upd_ne lt.symm, upd_same]
                  show some (HO.tup [V.int (s.h : Int), .int (4 * ((s.k : Int) + 1))]) = some (HO.tup [V.int (s.h : Int), .int ((4 * (s.k + 1) : Nat) : Int)])
                  rw [k4]
          · have nw := nwe (by omega)
            refine iteDF (by rw [vs_len]; omega) ?_
            refine ⟨.ref l, rfl, .inl ⟨rfl, _, .inl (.inl hrs)⟩, .int (s.h : Int), rfl, .int 0, rfl, by show 2 ≤ sizeLine; decide, fun tt nt => ?_⟩
            have lt : l ≠ tt := ne_of_none hrs nt
            have pt : q1 ≠ tt := ne_of_none eq4 nt
            refine ⟨l, rs.map V.ref, _, rfl, rfl, by rw [upd_ne lt]; exact hrs, by rw [List.length_map]; exact fit _ (by omega), ?_⟩
            refine ⟨_, rfl, ?_⟩
            rw [nw]
            refine ⟨some (.int ((i : Nat) : Int)), some (.str (S [49])), some (.int 0), ?_, same_mut (Same.to s4 (same_new nt)) nl0, by rw [upd_ne ql, upd_ne pt]; exact eq4, rs ++ [tt], ?_, ?_, ?_⟩
            · show [some (V.ref m), some (.str (S u)), none, some (.ref q1), some (.str (S y)), some (.int 0), some (.ref l), some (.int ((s.k : Int) + 1)), some (.int ((i : Nat) : Int)), some (.str (S [49])), some (.int 0)] = [some (V.ref m), some (.str (S u)), none, some (.ref q1), some (.str (S y)), some (.int ((0 : Nat) : Int)), some (.ref l), some (.int ((s.k + 1 : Nat) : Int)), some (.int ((i : Nat) : Int)), some (.str (S [49])), some (.int 0)]
              rw [k1]
              try rfl
            · show _ = (s.es ++ [(s.h, 0)]).length
              rw [List.length_append, List.length_append, hrl]
              rfl
            · rw [upd_same, List.map_append]
              rfl
            · intro j e he
              have he : (s.es ++ [(s.h, 0)])[j]? = some e := he
              by_cases hj : j < s.es.length
              · rw [List.getElem?_append_left hj] at he
                obtain ⟨t, h1, h2⟩ := hrt j e he
                refine ⟨t, by rw [List.getElem?_append_left (by omega)]; exact h1, ?_⟩
                have tl : t ≠ l := fun z => by rw [z, hrs] at h2; cases h2
                have ttt : t ≠ tt := ne_of_none h2 nt
                rw [upd_ne tl, upd_ne ttt]
                exact h2
              · rw [List.getElem?_append_right (by omega)] at he
                have j0 : j - s.es.length = 0 := by
                  rcases Nat.eq_zero_or_pos (j - s.es.length) with z | z
                  · exact z
                  · rw [List.getElem?_eq_none (by show 1 ≤ _; omega)] at he
                    cases he
                rw [j0] at he
                cases he
                refine ⟨tt, ?_, ?_⟩
                · rw [List.getElem?_append_right (by omega), hrl, j0]
                  rfl
                · rw [upd_ne lt.symm, upd_same]
                  show some (HO.tup [V.int (s.h : Int), .int 0]) = some (HO.tup [V.int (s.h : Int), .int ((0 : Nat) : Int)])
                  rfl
        · have hl : i + 1 < ord.length := by
            by_cases h : i + 1 < ord.length
            · exact h
            · exact absurd (last (by omega)).1 e
          refine iteDF (fun z => e (s_inj (V.str.inj z))) ?_
          rw [wlt _ hl, nx]
          generalize wOf (ord.take i) = s at kl hrl hrt ⊢
          rw [wst_ne s e]
          refine ⟨.int (s.h : Int), rfl, fun d nd => ⟨upd_same, [(Sum.inr "0", V.int 1), (Sum.inr "2", V.int 2), (Sum.inr "02", V.int 3)], rfl, by show 3 ≤ 15; decide, ?_⟩⟩
          have ld : l ≠ d := ne_of_none hrs nd
          have pd : q1 ≠ d := ne_of_none eq4 nd
          have sd := Same.to s4 (same_new (o := .dK []) nd)
          refine ⟨.str (S pc), rfl, d, .int (pv4 pc : Int), rfl, .inl ⟨_, .inr (S pc), .inl upd_same, rfl, (worth p4 e).symm⟩, _, _, rfl, rfl, ?_⟩
          refine ⟨_, _, _, rfl, same_mut sd ?_, ?_, rs, hrl, ?_, ?_⟩
          · exact none_of s4 nd
          · rw [upd_ne pd, upd_ne pd]; exact eq4
          · rw [upd_ne ld, upd_ne ld]; exact hrs
          · intro j e he
            obtain ⟨t, h1, h2⟩ := hrt j e he
            have td : t ≠ d := ne_of_none h2 nd
            exact ⟨t, h1, by rw [upd_ne td, upd_ne td]; exact h2⟩
    · refine .inl ⟨⟨_, .inl (.inl eq3), by rw [vs_len]; omega⟩, ?_⟩
      have i0 : i = ord.length := by omega
      rw [i0, wend] at hL ⊢
      obtain ⟨s', hs'⟩ : ∃ s', s' = wOf (B.map pw) := ⟨_, rfl⟩
      rw [← hs'] at hL winv wgt hoth wlead ⊢
      have kk := winv.kl
      have hNd : (ends (s'.es ++ [(s'.h, 0)])).Nodup := by
        rw [ends_app, List.nodup_append]
        refine ⟨winv.nd, ?_, ?_⟩
        · refine List.nodup_cons.mpr ⟨fun z => ?_, List.nodup_cons.mpr ⟨List.not_mem_nil, List.nodup_nil⟩⟩
          have := List.mem_singleton.mp z
          omega
        · intro a ha b hb e
          subst e
          have l1 := winv.low a ha
          have l2 := wgt.2 a ha
          rcases List.mem_cons.mp hb with z | z
          · omega
          · have := List.mem_singleton.mp z
            omega
      have hLow : ∀ x ∈ ends (s'.es ++ [(s'.h, 0)]), x < 4 * (s'.k + 1) := by
        intro x hx
        rw [ends_app] at hx
        rcases List.mem_append.mp hx with z | z
        · have := winv.low x z
          omega
        · rcases List.mem_cons.mp z with z | z
          · omega
          · have := List.mem_singleton.mp z
            omega
      refine ⟨.ref m, rfl, .int ((s'.k + 1 : Nat) : Int), rfl, .ref l, rfl, m, lc, lg, l, k, s'.k + 1, s'.es ++ [(s'.h, 0)], rfl, by omega, hM.same sm, hk, hL, hNd, hLow, fun ps p' H' pok mvd kp hN hM' ho => ?_⟩
      have h4 : (4 * (s'.k + 1)) % 4 = 0 := by omega
      have n0 : 0 < 4 * (s'.k + 1) := by omega
      have hof := pair_of pok h4
      have acts := pair_acts pok h4
      have hfree := pair_free pok h4 mvd
      have k1 := (kp (s'.h, 0) (List.mem_append_right _ List.mem_cons_self)).2.2.1
      have k0 := wlead pok (fun e he => (kp e (List.mem_append_left _ he)).2.2.1) (Nat.le_refl _)
      have hx : s'.h < 4 * (s'.k + 1) := by omega
      have st49 : (pairN ps).stp s'.h 49 = 0 := by
        rw [(pair_stp pok hx).2.2, k1]
        rfl
      have lead0 : (pairN ps).lead 0 (flat L) = 0 := by
        rw [eL', flat_app]
        show (flat B ++ flat [4]).foldl (pairN ps).stp 0 = 0
        rw [List.foldl_append]
        have e1 : (flat B).foldl (pairN ps).stp 0 = s'.h := by
          rw [← k0]
          unfold flat Net.lead
          rw [List.flatMap_def]
        rw [e1]
        exact st49
      have lt : (pairN ps).lead 0 y < 4 * (s'.k + 1) := acts.all n0 wy
      have wfl := flat_wd L
      have round : (pairN ps).lead ((pairN ps).lead 0 y) u = (pairN ps).lead 0 y := by
        have g1 : E2 (y ++ (y.reverse ++ flat L ++ y)) (y ++ u) := E2.app wy (E2.id _) hE
        have e : y ++ (y.reverse ++ flat L ++ y) = (y ++ y.reverse) ++ (flat L ++ y) := by simp only [List.append_assoc]
        rw [e] at g1
        have g2 : E2 ((y ++ y.reverse) ++ (flat L ++ y)) ([] ++ (flat L ++ y)) := E2.app (wd_append.mpr ⟨wy, wd_rev.mpr wy⟩) (E2.home wy) (E2.id _)
        have g3 : cut (y ++ u) = cut (flat L ++ y) := cut_of (g1.sym.trans g2)
        show u.foldl (pairN ps).stp (y.foldl (pairN ps).stp 0) = _
        rw [← List.foldl_append, ← acts.cut n0 (wd_append.mpr ⟨wy, wu⟩), g3, acts.cut n0 (wd_append.mpr ⟨wfl, wy⟩), List.foldl_append]
        have l0 : (flat L).foldl (pairN ps).stp 0 = 0 := lead0
        rw [l0]
        rfl
      refine ⟨.ref p', rfl, .ref p', rfl, .str (S y), rfl, p', pairN ps, 4 * (s'.k + 1), 0, y, rfl, hN, hof, n0, wy, by show 2 ≤ sizeLine; decide, fun p np => ?_⟩
      have o2 := (Off.same (m := m) (lg := lg) sm).to ho
      have sn : Same H' (upd H' p (.tup [.ref p', .int ((pairN ps).lead 0 y : Int)])) := same_new np
      have np0 : H p = none := by
        cases z : H p with
        | none => rfl
        | some ob =>
          have nm := hM'.new np
          rw [o2 p ob nm.1 nm.2.2 z] at np
          cases np
      refine q (pairN ps) _ _ p p' _ hof n0 (by omega) acts hfree lt round (four_not wu altL wy ha0 a04 hl4 hE) ?_ upd_same np0 (hM'.same sn) (o2.to (Off.same sn))
      obtain ⟨t0, t1, t2, h1, h2, h3, h5⟩ := hN
      exact ⟨t0, t1, t2, sqt sn h1, sqt sn h2, sqt sn h3, sqt sn h5⟩
end
end K4

namespace K4
open PySem PySem.Spec PyProof.Rows L2 Nr Nw
theorem ms_none {H : Hp} {m lc lg : Addr} {k : Nat} (h : MS H m lc lg k) {p : Addr} (np : H p = none) : p ≠ m ∧ p ≠ lg := ⟨(h.new np).1, (h.new np).2.2⟩
theorem ps_mid {X : Cx} {st : Stmt} {t : TS} (h : PS X st t) : PS X st (fun D σ H => ∃ J : L2.St → Hp → Prop, t { D with nx := J } σ H ∧ ∀ σ' H', J σ' H' → D.nx σ' H') := ⟨fun pins s σ H D I ⟨J, h1, h2⟩ => thn (h.run pins s σ H { D with nx := J } I h1) fun f s1 q => match f, q with
  | .next, ⟨σ', H', I', q⟩ => ⟨σ', H', I', h2 _ _ q⟩
  | .brk, q => q
  | .cont, q => q
  | .ret _, q => q⟩
theorem call_reprB {X : Cx} : CallR X (.builtin "repr") (fun xs H Q => ∃ b : Bool, xs = [.bl b] ∧ Q (.str (if b then "True" else "False")) H) := by
  intro pins s σ H xs us Q I r h
  obtain ⟨b, rfl, q⟩ := h
  obtain ⟨u, rfl, ru⟩ := vals1 r
  cases ru
  exact P.repr_of_bool ⟨.str (if b then "True" else "False"), H, I.tok _, ⟨_, rfl⟩, q⟩
theorem shows_bi (b : Bool) {n : Nat} (h : n ≤ 2) : Shows (.list [.bool b, .int (n : Int)]) := by
  have : n = 0 ∨ n = 1 ∨ n = 2 := by omega
  rcases this with e | e | e <;> subst e <;> cases b <;> exact ⟨by decide +kernel, by decide +kernel, by decide +kernel, by decide +kernel⟩
theorem shows_tup {ds : List PyData} (h : ∀ d ∈ ds, Leaf d) (hl : ds.length ≤ 10) (hn : ds ≠ []) : Shows (.tuple ds) := by
  obtain ⟨h1, h2, h3, h4, h5⟩ := leaf_all h
  refine ⟨?_, ?_, ?_, ?_⟩
  · unfold PyData.showable; exact h1
  · unfold PyData.hasDict; exact h2
  · unfold PyData.depth
    rw [h3]
    decide
  · unfold PyData.shown
    have hne : PyData.shownAll ds ≠ [] := fun z => hn (List.length_eq_zero_iff.mp (by rw [← h4, z]; rfl))
    have hj := join_length_add _ hne
    have hp : piled (PyData.shownAll ds) ≤ 1004 * (PyData.shownAll ds).length := by
      clear hj hne h4
      generalize PyData.shownAll ds = ts at h5 ⊢
      induction ts with
      | nil => exact Nat.le_refl _
      | cons t r ih =>
        have := h5 t List.mem_cons_self
        have i2 := ih fun x hx => h5 x (List.mem_cons_of_mem _ hx)
        unfold piled at i2 ⊢
        simp only [List.map_cons, List.sum_cons, List.length_cons]
        omega
    unfold tupleText
    rw [strLen_append, strLen_append]
    rw [h4] at hp
    have e1 : ("(" : Str).length = 1 := rfl
    have e2 : ((if (PyData.shownAll ds).length == 1 then ",)" else ")" : String) : Str).length ≤ 2 := by
      split
      · exact Nat.le_refl 2
      · exact Nat.le_succ 1
    rw [e1]
    exact Nat.le_trans (show _ ≤ 20000 by omega) (by decide)
/-- what mirrors are -/
theorem mir_codes {u : List Nat} (h : Wd u) (e : isMir u = true) : codesOf u = (codesOf u).reverse ∧ (codesOf u).length % 2 = 1 := by
  unfold isMir at e
  rw [Bool.and_eq_true, decide_eq_true_iff, decide_eq_true_iff] at e
  exact ⟨e.2, e.1⟩
theorem isMir_cut {u : List Nat} (h : Wd u) : isMir (cut u) = isMir u := by
  unfold isMir
  rw [(codes_same (cut_wd h) h).mpr (cut_cut h)]
theorem mir_free {N : Net} {n : Nat} (A : Nw.Acts N.stp (· < n)) (F : N.Free n) {u X : List Nat} {c : Nat} (hu : Wd u) (hX : Alt X) (hc : Cd c) (he : cut u = flat X.reverse ++ pw c ++ flat X) {x : Nat} (hx : x < n) : N.lead x u ≠ x := by
  intro e
  have wX := flat_wd X
  have wXr := flat_wd X.reverse
  have e1 : (cut u).foldl N.stp x = x := by rw [A.cut hx hu]; exact e
  rw [he, List.foldl_append, List.foldl_append] at e1
  have hz : (flat X.reverse).foldl N.stp x < n := A.all hx wXr
  have home : (flat X).foldl N.stp ((flat X.reverse).foldl N.stp x) = x := by
    have h1 := A.home (w := flat X.reverse) hx wXr
    rw [← A.cut hz (wd_rev.mpr wXr), cut_flat_rev (alt_rev hX), List.reverse_reverse] at h1
    exact h1
  generalize (flat X.reverse).foldl N.stp x = z at e1 home hz
  have hz' : (pw c).foldl N.stp z < n := A.all hz (pw_wd c)
  have inj : (pw c).foldl N.stp z = z := by
    have h1 := A.home (w := flat X) hz' wX
    have h2 := A.home (w := flat X) hz wX
    rw [e1] at h1
    rw [home] at h2
    exact h1.symm.trans h2
  obtain ⟨f0, f1, f2, f3⟩ := F z hz
  rcases hc with y | y | y | y <;> subst y
  · exact f0 inj
  · exact f2 inj
  · exact f3 inj
  · exact f1 inj
section
variable {P : Program} {w : World} {K : PySem.W.Frag} {mg : Str → Option Value} {base : Heap}
def spLk2 (K : PySem.W.Frag) : Sp := fun vs H Q _ => (∃ (a b : Addr) (d : PyData), vs = [.ref a, .ref b] ∧ Dp K H (.ref a) d ∧ Dp K H (.ref b) d ∧ Shows d ∧ Q (.bl true) H) ∨ ∃ b : Bool, vs = [.bl b, .bl b] ∧ Q (.bl true) H
theorem ok_lk2 (T : Txt w K mg) : OkG P w K mg base 1 "_law_like" ["got", "due"] (spLk2 K) := by
  obtain ⟨f, fd, h1, F, h3⟩ := T.fLawLike
  refine ⟨f, fd, h1, F.kp, h3, ?_⟩
  refine Nr.Fun.okG F scLawLike (fun vs H Q E h => ?_) (fun cdv A outer s H vs Q E hg hr h => ?_)
  · rcases h with ⟨a, b, d, rfl, _⟩ | ⟨b, rfl, _⟩ <;> rfl
  · refine ⟨_, pss_one (ps_ret (pe_cmpR op_eq (pe_callB ((call_reprD hg hr.units).or call_reprB) (by rfl) T.nrepr (by decide +kernel) (pa_cons (pv 0) pa_nil)) (pe_callB ((call_reprD hg hr.units).or call_reprB) (by rfl) T.nrepr (by decide +kernel) (pa_cons (pv 1) pa_nil)) (nomark _))), ?_⟩
    rcases h with ⟨a, b, d, rfl, da, db, sh, q⟩ | ⟨b, rfl, q⟩
    · refine ⟨.ref a, rfl, .inl ⟨a, d, rfl, da, sh, .ref b, rfl, .inl ⟨b, d, rfl, db, sh, rfl, ?_⟩⟩⟩
      rw [decide_eq_true rfl]
      exact q
    · refine ⟨.bl b, rfl, .inr ⟨b, rfl, .bl b, rfl, .inr ⟨b, rfl, rfl, ?_⟩⟩⟩
      rw [decide_eq_true rfl]
      exact q
def spLaw (K : PySem.W.Frag) : Sp := fun vs H Q _ => ∃ (a : Addr) (ns : List Int), vs = [.ref a] ∧ SqL K H a (ns.map V.int) ∧ ns.length ≤ 63 ∧ ∀ H', Q (.bl true) H'
theorem law_fn (T : Txt w K mg) {f : Addr} {fd : FuncData} (F : Fun K "law" "law" sLaw f fd) : FnG P w K mg base CX0 8 f fd ["script"] (spLaw K) := by
  refine Nr.Fun.okG F scLaw (fun vs H Q E h => ?_) (fun cdv A outer s H vs Q E hg hr h => ?_)
  · obtain ⟨a, ns, rfl, _⟩ := h
    rfl
  · obtain ⟨a, ns, rfl, hS, hz, q⟩ := h
    refine ⟨_, pss_cons (ps_set (i := 1) scLaw.nd rfl (.inl rfl) (pe_callO (ok_begun T) hr (by decide) (by rfl) (pa_cons (pv 0) (pa_nil))))
         (pss_cons (ps_for PassesOwn.never rfl (pi_range1 (by rfl) T.nrange (pa_cons (pe_int) (pa_nil))) (pg_name (i := 2) scLaw.nd rfl (.inl rfl)) (pss_cons (ps_set (i := 3) scLaw.nd rfl (.inr rfl) (pe_callO (ok_word T) hr (by decide) (by rfl) (pa_cons (pv 1) (pa_cons (pe_int) (pa_nil)))))
         (pss_cons (ps_mid (ps_if (pt_cmpR (op_eq) (pe_callO (ok_draw T) hr (by decide) (by rfl) (pa_cons (pv 1) (pa_cons (pe_int) (pa_nil)))) (pe_int) (nomark _)) (pss_cons (ps_set (i := 8) scLaw.nd rfl (.inl rfl) (pe_callO (ok_word T) hr (by decide) (by rfl) (pa_cons (pv 1) (pa_cons (pe_int) (pa_nil)))))
         (pss_one (ps_set (i := 3) scLaw.nd rfl (.inr rfl) (pe_op op_add_str (pe_op op_add_str (pe_revS (pv 8)) (pe_callO (ok_of' T) hr (by decide) (by rfl) (pa_cons (pv 1) (pa_cons (pe_lst (pa_cons (pe_str) (pa_cons (pe_str) (pa_cons (pe_str) (pa_cons (pe_str) (pa_cons (pe_str) (pa_nil))))))) (pa_nil))))) (pv 8))))) (pss_nil)))
         (pss_cons (ps_set (i := 4) scLaw.nd rfl (.inl rfl) (pe_callO (ok_cut T) hr (by decide) (by rfl) (pa_cons (pv 3) (pa_nil))))
         (pss_cons (ps_set (i := 5) scLaw.nd rfl (.inl rfl) (pe_callO (ok_isMirL T) hr (by decide) (by rfl) (pa_cons (pv 4) (pa_nil))))
         (pss_cons (ps_mid (ps_set (i := 6) scLaw.nd rfl (.inl rfl) (pe_ifExp (pt_cmpR (op_eq) (pv 4) (pe_str) (nomark _)) (pe_int) (pe_ifExp (pt_val (pv 5)) (pe_int) (pe_int)))))
         (pss_cons (ps_if (pt_not (pt_val (pe_callOG (ok_lk2 T) hg hr (by decide) (by rfl) (pa_cons (pe_lst (pa_cons (pe_callO (ok_isMirror T) hr (by decide) (by rfl) (pa_cons (pv 3) (pa_nil))) (pa_cons (pe_callO (ok_timesHome T) hr (by decide) (by rfl) (pa_cons (pv 3) (pa_nil))) (pa_nil)))) (pa_cons (pe_lst (pa_cons (pv 5) (pa_cons (pv 6) (pa_nil)))) (pa_nil)))))) (pss_one (ps_ret (pe_bl))) (pss_nil))
         (pss_cons (ps_set (i := 7) scLaw.nd rfl (.inl rfl) (pe_callO (ok_mirrorOf T) hr (by decide) (by rfl) (pa_cons (pv 3) (pa_nil))))
         (pss_one (ps_if (pt_val (pv 5)) (pss_cons (ps_par (i := 10) (j := 11) (by rfl) scLaw.nd rfl rfl (by decide) rfl rfl (pa_cons (pe_ix (r := rIxT K) ix_tup (pe_callO (ok_ring T) hr (by decide) (by rfl) (pa_cons (pv 4) (pa_nil))) (pe_int) (fun _ _ => rfl)) (pa_cons (pe_ix (r := rIxL K) ix_list (pe_ix (r := rIxT K) ix_tup (pe_callO (ok_ring T) hr (by decide) (by rfl) (pa_cons (pv 4) (pa_nil))) (pe_int) (fun _ _ => rfl)) (pe_int) (fun _ _ => rfl)) (pa_nil))) (by rfl))
         (pss_cons (ps_if (PW.pt (pw_or (pt_not (pt_val (pe_callOG (ok_lk2 T) hg hr (by decide) (by rfl) (pa_cons (pv 7) (pa_cons (pe_tup (pa_cons (pv 10) (pa_cons (pv 11) (pa_nil)))) (pa_nil)))))) (pw_or1 (pt_cmpR (op_ne) (pe_op op_add_str (pe_op op_add_str (pe_callO (ok_backL T) hr (by decide) (by rfl) (pa_cons (pv 10) (pa_nil))) (pv 11)) (pv 10)) (pv 4) (nomark _))))) (pss_one (ps_ret (pe_bl))) (pss_nil))
         (pss_cons (ps_if (pt_not (pt_val (pe_callOG (ok_lk2 T) hg hr (by decide) (by rfl) (pa_cons (pe_lst (pa_cons (pe_callO (ok_then T) hr (by decide) (by rfl) (pa_cons (pv 3) (pa_cons (pv 3) (pa_nil)))) (pa_cons (pe_callO (ok_reduced T) hr (by decide) (by rfl) (pa_cons (pe_op op_add_str (pv 3) (pv 3)) (pa_nil))) (pa_nil)))) (pa_cons (pe_lst (pa_cons (pe_str) (pa_cons (pe_str) (pa_nil)))) (pa_nil)))))) (pss_one (ps_ret (pe_bl))) (pss_nil))
         (pss_cons (ps_set (i := 9) scLaw.nd rfl (.inr rfl) (pe_callO (ok_net T) hr (by decide) (by rfl) (pa_cons (pv 1) (pa_cons (pe_int) (pa_nil)))))
         (pss_one (ps_if (pt_cmpR (op_neD hr.units) (pe_lc (own := [("flag", 12)]) (g := gName 12) (tt := _) (by rfl) scLaw.nd (pi_range1 (by rfl) T.nrange (pa_cons (pe_callB call_len_seq (by rfl) T.nlen PySem.boot_len (pa_cons (pe_ix (r := rIxT K) ix_tup (pv 9) (pe_int) (fun _ _ => rfl)) (pa_nil))) (pa_nil))) (blkOk_by (N := ["script", "m", "turn", "word", "short", "is_one", "home", "told", "mover", "net", "way", "piece", "flag"]) (sc := defScope sLaw) (by decide +kernel)) (fun _ _ _ _ _ => pg_name (i := 12) scLaw.nd rfl (.inl rfl)) (fun _ _ _ _ _ => pts_one (pt_cmpR (op_eq) (pe_callO (ok_lead T) hr (by decide) (by rfl) (pa_cons (pv 9) (pa_cons (pv 12) (pa_cons (pv 3) (pa_nil))))) (pv 12) (nomark _))) (fun _ _ _ _ _ => pe_int)) (pe_lst pa_nil) (nomark _)) (pss_one (ps_ret (pe_bl))) (pss_nil))))))) (pss_cons (ps_if (pt_cmpR (op_notN) (pv 7) (pe_non) (nomark _)) (pss_one (ps_ret (pe_bl))) (pss_nil))
         (pss_one (ps_if (pt_cmpR (op_ne) (pv 4) (pe_str) (nomark _)) (pss_cons (ps_asg (pe_callO (ok_closed T) hr (by decide) (by rfl) (pa_cons (pv 1) (pa_cons (pv 4) (pa_nil)))) (pg_tup rfl (pgs_cons (pg_name (i := 9) scLaw.nd rfl (.inr rfl)) (pgs_cons (pg_name (i := 12) scLaw.nd rfl (.inl rfl)) (pgs_nil)))))
         (pss_cons (ps_if (PW.pt (pw_or (pt_not (pt_val (pe_callO (ok_isNet T) hr (by decide) (by rfl) (pa_cons (pv 9) (pa_cons (pe_callB call_len_seq (by rfl) T.nlen PySem.boot_len (pa_cons (pe_ix (r := rIxT K) ix_tup (pv 9) (pe_int) (fun _ _ => rfl)) (pa_nil))) (pa_nil)))))) (pw_or1 (pt_cmpR (op_ne) (pe_callO (ok_lead T) hr (by decide) (by rfl) (pa_cons (pv 9) (pa_cons (pv 12) (pa_cons (pv 3) (pa_nil))))) (pv 12) (nomark _))))) (pss_one (ps_ret (pe_bl))) (pss_nil))
         (pss_one (ps_if (PW.pt (pw_or (pt_cmpR (op_ne) (pe_callO (ok_lead T) hr (by decide) (by rfl) (pa_cons (pv 9) (pa_cons (pv 12) (pa_cons (pe_callO (ok_back T) hr (by decide) (by rfl) (pa_cons (pv 3) (pa_nil))) (pa_nil))))) (pv 12) (nomark _)) (pw_or1 (pt_not (pt_val (pe_callOG (ok_lk2 T) hg hr (by decide) (by rfl) (pa_cons (pe_callO (ok_isMirror T) hr (by decide) (by rfl) (pa_cons (pe_callO (ok_then T) hr (by decide) (by rfl) (pa_cons (pv 3) (pa_cons (pv 3) (pa_nil)))) (pa_nil))) (pa_cons (pe_bl) (pa_nil))))))))) (pss_one (ps_ret (pe_bl))) (pss_nil))))) (pss_nil))))))))))))))
         (pss_one (ps_ret (pe_bl)))), ?_⟩
    have fit : ∀ z : Nat, z ≤ 1000 → z ≤ sizeLine := fun z hz => Nat.le_trans hz (by decide)
    refine ⟨.ref a, rfl, a, ns, rfl, hS, hz, fun m lc lg H1 s1 nm nlc nlg M1 => ?_⟩
    have trip : ((4 : Int)).toNat = 4 := rfl
    refine ⟨4, rfl, by decide, by decide, ?_⟩
    rw [trip]
    refine ⟨fun i mm σ H3 => ∃ y2 y3 y4 y5 y6 y7 y8 y9 y10 y11 y12, σ = [some (.ref a), some (.ref m), y2, y3, y4, y5, y6, y7, y8, y9, y10, y11, y12] ∧ i + mm = 4 ∧ MS H3 m lc lg (1000 * i),
      ⟨4, none, none, none, none, none, none, none, none, none, none, none, rfl, rfl, M1⟩, ?_⟩
    rintro i mm σ H3 ⟨y2, y3, y4, y5, y6, y7, y8, y9, y10, y11, y12, rfl, em, M3⟩
    by_cases hi : i < 4
    · refine .inr ⟨hi, fun σ' H' => ∃ y2 y3 y4 y5 y6 y7 y8 y9 y10 y11 y12, σ' = [some (.ref a), some (.ref m), y2, y3, y4, y5, y6, y7, y8, y9, y10, y11, y12] ∧ MS H' m lc lg (1000 * (i + 1)), ?_, ?_⟩
      · rintro σ' H' ⟨z2, z3, z4, z5, z6, z7, z8, z9, z10, z11, z12, e', r⟩
        exact ⟨mm - 1, by omega, z2, z3, z4, z5, z6, z7, z8, z9, z10, z11, z12, e', by omega, r⟩
      · rintro x H' ⟨rfl, rfl⟩
        refine ⟨.ref m, rfl, m, lc, lg, 1000 * i, 9, rfl, M3, by decide, by omega, fun u0 H4 wu0 lu0 M4 _ => ?_⟩
        -- the word
        refine ⟨fun σ' H' => ∃ (u : List Nat) (y8 : Option V), σ' = [some (.ref a), some (.ref m), some (.int (0 + (i : Nat))), some (.str (S u)), y4, y5, y6, y7, y8, y9, y10, y11, y12] ∧ Wd u ∧ u.length ≤ 17 ∧ MS H' m lc lg (1000 * i + 100), ?_, ?_⟩
        · refine ⟨.ref m, rfl, m, lc, lg, _, 2, rfl, ⟨by decide, by decide⟩, M4, by omega, fun d H5 hd M5 _ => ⟨rfl, _, rfl, ?_⟩⟩
          by_cases d0 : d = 0
          · refine iteDT (by rw [d0]; rfl) ?_
            refine ⟨.ref m, rfl, m, lc, lg, _, 7, rfl, M5, by decide, by omega, fun z H6 wz lz M6 _ => ?_⟩
            refine ⟨.str (S z), rfl, S z, rfl, fit _ (show z.length ≤ 1000 by omega), .ref m, rfl, by show 5 ≤ sizeLine; decide, fun l nl => ?_⟩
            have M7 := M6.same (same_new (o := .lst (Vs [[48], [49], [50], [48, 50], [50, 48]])) nl)
            have lm := ms_none M6 nl
            refine ⟨m, lc, lg, l, _, [[48], [49], [50], [48, 50], [50, 48]], rfl, M7, by omega, upd_same, lm.1, lm.2, by decide, by decide, fun p H7 mp M8 _ => ?_⟩
            have wp : Wd p ∧ p.length ≤ 2 := by
              simp only [List.mem_cons, List.not_mem_nil, or_false] at mp
              have c0 : Sg 48 := .inl rfl
              have c1 : Sg 49 := .inr (.inl rfl)
              have c2 : Sg 50 := .inr (.inr rfl)
              rcases mp with e | e | e | e | e <;> subst e <;> refine ⟨fun c hc => ?_, by decide⟩ <;> simp only [List.mem_cons, List.not_mem_nil, or_false] at hc
              · rw [hc]; exact c0
              · rw [hc]; exact c1
              · rw [hc]; exact c2
              · rcases hc with e | e <;> rw [e] <;> assumption
              · rcases hc with e | e <;> rw [e] <;> assumption
            have lr : z.reverse.length = z.length := List.length_reverse
            refine ⟨S z.reverse, S p, rfl, rfl, fit _ (show z.reverse.length + p.length ≤ 1000 by omega), .str (S z), rfl, S z.reverse ++ S p, S z, rfl, rfl, fit _ (show (S z.reverse ++ S p).length + z.length ≤ 1000 by rw [s_app]; show (z.reverse ++ p).length + z.length ≤ 1000; rw [List.length_append]; omega), ?_⟩
            rw [s_app, s_app]
            refine ⟨z.reverse ++ p ++ z, _, rfl, wd_append.mpr ⟨wd_append.mpr ⟨wd_rev.mpr wz, wp.1⟩, wz⟩, by rw [List.length_append, List.length_append]; omega, M8.le (by omega)⟩
          · refine iteDF (fun z => d0 (by have := V.int.inj z; omega)) ?_
            exact ⟨u0, _, rfl, wu0, by omega, M5.le (by omega)⟩
        · rintro σ' H5 ⟨u, y8, rfl, wu, lu, M5⟩
          have tu : Wt u := ⟨wu, by omega⟩
          have wcu := cut_wd wu
          have lcu := cut_len _ u rfl wu
          have wuu : Wd (u ++ u) := wd_append.mpr ⟨wu, wu⟩
          have luu : (u ++ u).length ≤ 40 := by rw [List.length_append]; omega
          have eM : (decide (cut u ≠ []) && decide (cut (cut u ++ cut u) = [])) = isMir u := by
            rw [cut_app wu wu]
            have := isMir_iff wu
            cases e : isMir u with
            | true =>
              obtain ⟨h1, h2⟩ := this.mp e
              rw [decide_eq_true h1, decide_eq_true h2]
              rfl
            | false =>
              by_cases h1 : cut u ≠ []
              · by_cases h2 : cut (u ++ u) = []
                · rw [this.mpr ⟨h1, h2⟩] at e
                  cases e
                · rw [decide_eq_false h2, Bool.and_false]
              · rw [decide_eq_false h1, Bool.false_and]
          refine ⟨.str (S u), rfl, u, rfl, tu, ?_⟩
          refine ⟨.str (S (cut u)), rfl, cut u, rfl, wcu, by omega, ?_⟩
          rw [eM]
          refine ⟨fun σ' H' => H' = H5 ∧ σ' = [some (.ref a), some (.ref m), some (.int (0 + (i : Nat))), some (.str (S u)), some (.str (S (cut u))), some (.bl (isMir u)), some (.int (homeN u : Int)), y7, y8, y9, y10, y11, y12], ⟨.str (S (cut u)), rfl, rfl, _, rfl, ?_⟩, ?_⟩
          · by_cases e : cut u = []
            · have hh : homeN u = 1 := if_pos e
              refine iteDT (by rw [e]; rfl) ⟨rfl, ?_⟩
              rw [hh]
              rfl
            · refine iteDF (fun z => e (s_inj (V.str.inj z))) ⟨.bl (isMir u), rfl, isMir u, rfl, ?_⟩
              cases hm : isMir u with
              | true =>
                have hh : homeN u = 2 := by unfold homeN; rw [if_neg e, if_pos hm]
                refine iteT ⟨rfl, ?_⟩
                rw [hh]
                rfl
              | false =>
                have hh : homeN u = 0 := by unfold homeN; rw [if_neg e, hm, if_neg (by decide)]
                refine iteF ⟨rfl, ?_⟩
                rw [hh]
                rfl
          rintro σ' H' ⟨rfl, rfl⟩
          have h2 : homeN u ≤ 2 := by
            unfold homeN
            split
            · omega
            · split <;> omega
          refine ⟨.str (S u), rfl, u, rfl, tu, fun H6 s6 => ⟨.str (S u), rfl, u, rfl, tu, fun H7 s7 => ⟨by show 2 ≤ sizeLine; decide, fun p np => ?_⟩⟩⟩
          have M8 := ((M5.same s6).same s7).same (same_new (o := .lst [.bl (isMir u), .int (homeN u : Int)]) np)
          have e8 : (upd H7 p (.lst [.bl (isMir u), .int (homeN u : Int)])) p = some (.lst [.bl (isMir u), .int (homeN u : Int)]) := upd_same
          generalize upd H7 p (.lst [.bl (isMir u), .int (homeN u : Int)]) = H8 at M8 e8 ⊢
          refine ⟨.bl (isMir u), rfl, .int (homeN u : Int), rfl, by show 2 ≤ sizeLine; decide, fun p2 np2 => ?_⟩
          have M9 := M8.same (same_new (o := .lst [.bl (isMir u), .int (homeN u : Int)]) np2)
          refine .inl ⟨p, p2, _, rfl, .lst (.inl (.inl (same_new np2 _ _ e8))) (.cons (.bl _) (.cons (.int _) .nil)), .lst (.inl (.inl upd_same)) (.cons (.bl _) (.cons (.int _) .nil)), shows_bi _ h2, true, rfl, iteF ?_⟩
          generalize upd H8 p2 (.lst [.bl (isMir u), .int (homeN u : Int)]) = H9 at M9 ⊢
          clear M8 e8 np2 np s6 s7
          -- what mirror_of tells
          refine ⟨.str (S u), rfl, u, rfl, tu, fun nm HA sA => ?_, fun hm c q1 HA hc sA nq1 eq1 => ?_⟩
          · -- no mirror
            have MA := M9.same sA
            refine ⟨.bl (isMir u), rfl, false, congrArg V.bl nm, iteF ?_⟩
            refine ⟨.non, rfl, rfl, _, rfl, iteF ?_⟩
            refine ⟨.str (S (cut u)), rfl, rfl, _, rfl, ?_⟩
            by_cases e : cut u = []
            · have nn : (!decide (V.str (S (cut u)) = V.str (S []))) = false := by rw [e, decide_eq_true rfl]; rfl
              show if (!decide (V.str (S (cut u)) = V.str (S []))) = true then _ else _
              rw [nn]
              exact iteF ⟨_, _, _, _, _, _, _, _, _, _, _, rfl, MA.le (by omega)⟩
            · have nn : (!decide (V.str (S (cut u)) = V.str (S []))) = true := by rw [decide_eq_false fun z => e (s_inj (V.str.inj z))]; rfl
              show if (!decide (V.str (S (cut u)) = V.str (S []))) = true then _ else _
              rw [nn]
              refine iteT ?_
              refine ⟨.ref m, rfl, .str (S (cut u)), rfl, m, lc, lg, _, cut u, rfl, fw_cut wu, e, by omega, by rw [isMir_cut wu]; exact nm, MA, by omega, fun N n fl q2 qn HB hof n0 n1 acts free hfl hround hfour hN eq2 nq2 MB oB => ?_⟩
              have lead1 : N.lead fl u = fl := by
                have := acts.cut hfl wu
                exact this.symm.trans hround
              have lead2 : N.lead fl (cut u.reverse) = fl := by
                show (cut u.reverse).foldl N.stp fl = fl
                rw [acts.cut hfl (wd_rev.mpr wu)]
                have := acts.home hfl wu
                have l1 : u.foldl N.stp fl = fl := lead1
                rw [l1] at this
                exact this
              have four : isMir (cut (u ++ u)) = false := by
                rw [cut_app wu wu] at hfour
                exact hfour
              refine ⟨q2, [.ref qn, .int (fl : Int)], rfl, .inl (.inl eq2), rfl, _, [.int (fl : Int)], rfl, _, [], rfl, rfl, ?_⟩
              obtain ⟨t0, t1, t2, hT, h0, _⟩ := id hN
              have ln : ((Vi N.a).length : Int) = (n : Int) := by
                rw [vi_len]
                have := (hof 48).1
                have e : N.row 48 = N.a := rfl
                rw [e] at this
                omega
              refine ⟨.ref qn, rfl, .ref qn, rfl, qn, _, _, .ref t0, rfl, rfl, hT, atI_nat (j := 0) rfl, t0, _, rfl, .inr h0, qn, N, n, (by show [V.ref qn, .int ((Vi N.a).length : Int)] = _; rw [ln]), hN, hof, n0, n1, acts, free, fun HC sC => ⟨true, rfl, iteF ?_⟩⟩
              have hNC : NetAt K HC qn N := by
                obtain ⟨t0, t1, t2, h1, h2, h3, h5⟩ := hN
                exact ⟨t0, t1, t2, sqt sC h1, sqt sC h2, sqt sC h3, sqt sC h5⟩
              have MC := MB.same sC
              have nfl : ∀ z : Nat, z = fl → (!decide (V.int (z : Int) = V.int (fl : Int))) = false := fun z hz => by rw [hz, decide_eq_true rfl]; rfl
              refine ⟨.ref qn, rfl, .int (fl : Int), rfl, .str (S u), rfl, qn, N, n, fl, u, rfl, hNC, hof, hfl, wu, .int (fl : Int), rfl, rfl, _, rfl, ?_⟩
              show if (!decide (V.int (N.lead fl u : Int) = V.int (fl : Int))) = true then _ else _
              rw [nfl _ lead1]
              refine iteF ?_
              refine ⟨.ref qn, rfl, .int (fl : Int), rfl, .str (S u), rfl, u, rfl, tu, fun HD sD => ?_⟩
              have hND : NetAt K HD qn N := by
                obtain ⟨t0, t1, t2, h1, h2, h3, h5⟩ := hNC
                exact ⟨t0, t1, t2, sqt sD h1, sqt sD h2, sqt sD h3, sqt sD h5⟩
              refine ⟨qn, N, n, fl, cut u.reverse, rfl, hND, hof, hfl, cut_wd (wd_rev.mpr wu), .int (fl : Int), rfl, rfl, _, rfl, ?_⟩
              show if (!decide (V.int (N.lead fl (cut u.reverse) : Int) = V.int (fl : Int))) = true then _ else _
              rw [nfl _ lead2]
              refine iteF ?_
              refine ⟨.str (S u), rfl, .str (S u), rfl, u, u, rfl, ⟨wu, wu⟩, by omega, fun HE sE => ?_⟩
              have lcuu := cut_len _ _ rfl wuu
              refine ⟨cut (u ++ u), rfl, ⟨cut_wd wuu, by omega⟩, fun HF sF => ?_⟩
              rw [four]
              refine .inr ⟨false, rfl, true, rfl, iteF ?_⟩
              exact ⟨_, _, _, _, _, _, _, _, _, _, _, rfl, (((MC.same sD).same sE).same sF).le (by omega)⟩
          · -- a mirror
            have MA := M9.same sA
            obtain ⟨pal, odd⟩ := mir_codes wu hm
            have alt := codes_alt wu
            have hcu : cut u = (spell (codesOf u)).reverse := cut_codes wu
            have une : cut u ≠ [] := ((isMir_iff wu).mp hm).1
            have twice : cut (u ++ u) = [] := ((isMir_iff wu).mp hm).2
            have cc : codesOf (cut u) = codesOf u := (codes_same wcu wu).mpr (cut_cut wu)
            have fcu := fw_cut wu
            -- what a ring tells
            have tell : ∀ {L y : List Nat}, (RingA (cut u) L y ∨ RingB (cut u) L y) → ∃ X, L = [c] ∧ y = flat X ∧ codesOf u = X.reverse ++ [c] ++ X ∧ X.reverse = (codesOf u).take ((codesOf u).length / 2) := by
              intro L y hR
              rcases hR with ⟨_, c', X, h1, h2, h3⟩ | h
              · rw [cc] at h3
                have lX : (codesOf u).length / 2 = X.reverse.length := by
                  rw [h3]
                  simp only [List.length_append, List.length_reverse, List.length_cons, List.length_nil]
                  omega
                have hc' := hc
                rw [lX, h3, List.append_assoc, List.getElem?_append_right (Nat.le_refl _), Nat.sub_self] at hc'
                have e : c' = c := Option.some.inj hc'
                subst e
                exact ⟨X, h1, h2, h3, by rw [lX, h3, List.append_assoc, List.take_left']; rfl⟩
              · have := h.1
                rw [isMir_cut wu, hm] at this
                cases this
            refine ⟨.bl (isMir u), rfl, true, congrArg V.bl hm, iteT ?_⟩
            refine ⟨.str (S (cut u)), rfl, cut u, rfl, fcu, une, by omega, fun L y p1 r1 HB sB np1 nr1 er1 ep1 hR => ?_⟩
            refine ⟨p1, [.ref r1, .str (S y)], 1, .str (S y), rfl, rfl, .inl (.inl ep1), atI_nat (j := 1) rfl, ?_⟩
            refine ⟨.str (S (cut u)), rfl, cut u, rfl, fcu, une, by omega, fun L2 y2' p2 r2 HC sC np2 nr2 er2 ep2 hR2 => ?_⟩
            obtain ⟨X, eL, ey, eX, eT⟩ := tell hR
            obtain ⟨X2, eL2, _⟩ := tell hR2
            subst eL2
            refine ⟨p2, [.ref r2, .str (S y2')], 0, .ref r2, rfl, rfl, .inl (.inl ep2), atI_nat (j := 0) rfl, r2, PV [c], 0, .str (S (pw c)), rfl, rfl, .inl (.inl er2), atI_nat (j := 0) rfl, _, _, rfl, ?_⟩
            have MC := (MA.same sB).same sC
            have eqC : HC q1 = some (.tup [.str (S y), .str (S (pw c))]) := by
              have := sC _ _ (sB _ _ eq1)
              rw [← eT] at this
              rw [this, ey, flat_eq X]
              rfl
            have altX : Alt X := by rw [eX] at alt; exact (alt_app.mp alt).2.1
            have hcd : Cd c := alt.all c (List.mem_of_getElem? hc)
            have lX : 2 * X.length + 1 = (codesOf u).length := by
              rw [eX]
              simp only [List.length_append, List.length_reverse, List.length_cons, List.length_nil]
              omega
            have lcod := codes_len _ u rfl
            have lfX := flat_len X
            have wfX := flat_wd X
            have wpc := pw_wd c
            have lpc := (pw_len hcd).1
            have ecu : cut u = flat X.reverse ++ pw c ++ flat X := by
              have h1 : flat (codesOf u) = (spell (codesOf u)).reverse := by rw [flat_eq, ← pal]
              rw [hcu, ← h1, eX, flat_app, flat_app]
              exact congrArg (fun z => flat X.reverse ++ z ++ flat X) (List.append_nil (pw c))
            subst ey
            have lf2 : ∀ z : List Nat, Wd z → z.length ≤ 100 → Leaf (.str (S z)) := fun z h1 h2 => .inl ⟨z, rfl, h1, h2⟩
            refine ⟨.ref q1, rfl, .str (S (flat X)), rfl, .str (S (pw c)), rfl, by show 2 ≤ sizeLine; decide, fun p5 np5 => ?_⟩
            have s5 : Same HC (upd HC p5 (.tup [.str (S (flat X)), .str (S (pw c))])) := same_new np5
            refine .inl ⟨q1, p5, _, rfl, .tup (.inl (.inl (s5 _ _ eqC))) (.cons (.str _) (.cons (.str _) .nil)), .tup (.inl (.inl upd_same)) (.cons (.str _) (.cons (.str _) .nil)), shows_tup (fun d hd => ?_) (by show 2 ≤ 10; decide) (by intro z; cases z), true, rfl, iteF ?_⟩
            · simp only [List.mem_cons, List.not_mem_nil, or_false] at hd
              rcases hd with e | e <;> subst e
              · exact lf2 _ wfX (by omega)
              · exact lf2 _ wpc (by omega)
            have MD := MC.same s5
            generalize upd HC p5 (.tup [.str (S (flat X)), .str (S (pw c))]) = HD at MD s5 ⊢
            have lrev : (flat X.reverse).length ≤ 40 := by
              have := flat_len X.reverse
              rw [List.length_reverse] at this
              omega
            refine ⟨.str (S (flat X)), rfl, flat X, rfl, ⟨wfX, by omega⟩, ?_⟩
            rw [cut_flat_rev altX]
            refine ⟨.str (S (pw c)), rfl, S (flat X.reverse), S (pw c), rfl, rfl, fit _ (show (flat X.reverse).length + (pw c).length ≤ 1000 by omega), ?_⟩
            rw [s_app]
            refine ⟨.str (S (flat X)), rfl, S (flat X.reverse ++ pw c), S (flat X), rfl, rfl, fit _ (show (flat X.reverse ++ pw c).length + (flat X).length ≤ 1000 by rw [List.length_append]; omega), ?_⟩
            rw [s_app, ← ecu]
            refine ⟨.str (S (cut u)), rfl, rfl, _, rfl, ?_⟩
            have nn : (!decide (V.str (S (cut u)) = V.str (S (cut u)))) = false := by rw [decide_eq_true rfl]; rfl
            show if (!decide (V.str (S (cut u)) = V.str (S (cut u)))) = true then _ else _
            rw [nn]
            refine iteF ?_
            -- done twice
            refine ⟨.str (S u), rfl, .str (S u), rfl, u, u, rfl, ⟨wu, wu⟩, by omega, fun HE sE => ?_⟩
            refine ⟨.str (S u), rfl, .str (S u), rfl, S u, S u, rfl, rfl, fit _ (show u.length + u.length ≤ 1000 by omega), u ++ u, congrArg (fun z => [V.str z]) (s_app u u), ⟨wuu, by omega⟩, fun HF sF => ⟨by show 2 ≤ sizeLine; decide, fun p6 np6 => ?_⟩⟩
            rw [twice]
            refine ⟨by show 2 ≤ sizeLine; decide, fun p7 np7 => ?_⟩
            have e6 : (upd HF p6 (.lst [.str (S []), .str (S [])])) p6 = some (.lst [.str (S []), .str (S [])]) := upd_same
            have MG := ((((MD.same sE).same sF).same (same_new (o := .lst [.str (S []), .str (S [])]) np6)).same (same_new (o := .lst [.str (S []), .str (S [])]) np7))
            have e67 := same_new (o := .lst [.str (S []), .str (S [])]) np7 _ _ e6
            refine .inl ⟨p6, p7, .list [.str (S []), .str (S [])], rfl, .lst (.inl (.inl e67)) (.cons (.str _) (.cons (.str _) .nil)), .lst (.inl (.inl upd_same)) (.cons (.str _) (.cons (.str _) .nil)), shows_list (fun d hd => ?_) (by show 2 ≤ 10; decide), true, rfl, iteF ?_⟩
            · simp only [List.mem_cons, List.not_mem_nil, or_false] at hd
              rcases hd with e | e <;> subst e <;> exact lf2 _ (fun c hc => absurd hc List.not_mem_nil) (Nat.zero_le _)
            -- a net
            refine ⟨.ref m, rfl, m, lc, lg, _, 4, rfl, ⟨by decide, by decide⟩, MG, by omega, fun N n pn HH hof n0 n80 acts free hN MH _ => ?_⟩
            obtain ⟨t0, t1, t2, hT, h0, _⟩ := id hN
            have ln : ((Vi N.a).length : Int) = (n : Int) := by
              rw [vi_len]
              have := (hof 48).1
              have e : N.row 48 = N.a := rfl
              rw [e] at this
              omega
            have toN : ((n : Nat) : Int).toNat = n := Int.toNat_natCast n
            refine ⟨.ref pn, rfl, pn, _, _, .ref t0, rfl, rfl, hT, atI_nat (j := 0) rfl, t0, _, rfl, .inr h0, (n : Int), by rw [ln], by omega, by omega, fun D nD => ?_⟩
            rw [toN]
            refine lc_range (lo := 0) (n := n) (fun i H' => Same HH H' ∧ H' D = some (.lst [])) ⟨same_new nD, upd_same⟩ (fun x H' hx h => ?_) (fun HI h => ?_)
            · obtain ⟨s8, e8⟩ := h
              have hN' : NetAt K H' pn N := by
                obtain ⟨t0, t1, t2, h1, h2, h3, h5⟩ := hN
                exact ⟨t0, t1, t2, sqt s8 h1, sqt s8 h2, sqt s8 h3, sqt s8 h5⟩
              have z0 : (0 : Int) + ((x : Nat) : Int) = (x : Int) := by omega
              rw [z0]
              have nf := mir_free acts free wu altX hcd ecu hx
              exact ⟨rfl, .ref pn, rfl, .int (x : Int), rfl, .str (S u), rfl, pn, N, n, x, u, rfl, hN', hof, hx, wu, .int (x : Int), rfl, rfl, _, rfl, iteDF (fun z => nf (by have := V.int.inj z; omega)) ⟨s8, e8⟩⟩
            · obtain ⟨s8, e8⟩ := h
              refine ⟨Nat.zero_le _, fun b nb => ?_⟩
              have s9 : Same HI (upd HI b (.lst [])) := same_new nb
              have no : PyData.eqv (.list []) (.list []) = true := by unfold PyData.eqv PyData.eqvAll; rfl
              refine ⟨.list [], .list [], none_ones (s9 _ _ e8), none_ones upd_same, shaped_ints [], shaped_ints [], _, rfl, ?_⟩
              rw [no]
              exact iteF ⟨_, _, _, _, _, _, _, _, _, _, _, rfl, ((MH.same s8).same s9).le (by omega)⟩
    · refine .inl ⟨by show 4 ≤ i; omega, ?_⟩
      exact q H3
end
end K4

namespace K4
open PySem PySem.Spec PyProof.Rows L2 Nr Nw
/-- a def's facts, read off the head -/
structure Def (K : PySem.W.Frag) (x : String) (st : Stmt) (f : Addr) : Prop where
  at_ : PySem.W.nsIn K mainGlobals x = some (some (.ref f))
  ob : ∃ (oc : Value) (od : Option Addr) (kV doc pm : Value) (an : Option Addr) (cdv ct : Value) (osl : Array (Option Value)), K.lookup f = some ⟨oc, od, .func (PySem.W.fnOf x x (defArgs st) (defBody st) (defScope st) .none kV doc pm an cdv ct), osl⟩ ∧ PySem.W.codeIn K cdv x = true
  kp : PySem.W.keepIn K (.ref f) = true
theorem Def.has {K : PySem.W.Frag} {h : Heap} {mg : Str → Option Value} (X : K.In h) (G : h.Ns mainGlobals mg) {x : String} {st : Stmt} {f : Addr} {ps : List Str} (D : Def K x st f)
    (b : ∀ (kV doc pm : Value) (an : Option Addr) (cdv ct : Value) (us : List Value), us.length = ps.length → bindArgs (PySem.W.fnOf x x (defArgs st) (defBody st) (defScope st) .none kV doc pm an cdv ct) ⟨us, []⟩ = pure (ps.zip us)) : Has K mg x st ps := by
  obtain ⟨a, ⟨oc, od, kV, doc, pm, an, cdv, ct, osl, l, c⟩, k⟩ := D
  have F : Fun K x x st f (PySem.W.fnOf x x (defArgs st) (defBody st) (defScope st) .none kV doc pm an cdv ct) := ⟨⟨oc, od, kV, doc, pm, an, cdv, ct, osl, rfl, l, c⟩, k⟩
  exact ⟨f, _, PySem.W.mg_of X G a, F, F.binds b⟩
theorem def_mk {K : PySem.W.Frag} {x : String} {st : Stmt} {f : Addr} {oc : Value} {od : Option Addr} {kV doc pm : Value} {an : Option Addr} {cdv ct : Value} {osl : Array (Option Value)} (a : PySem.W.nsIn K mainGlobals x = some (some (.ref f)))
    (l : K.lookup f = some ⟨oc, od, .func (PySem.W.fnOf x x (defArgs st) (defBody st) (defScope st) .none kV doc pm an cdv ct), osl⟩) (c : PySem.W.codeIn K cdv x = true) (k : PySem.W.keepIn K (.ref f) = true) : Def K x st f :=
  ⟨a, ⟨oc, od, kV, doc, pm, an, cdv, ct, osl, l, c⟩, k⟩

theorem txt_mk {w : World} {K : PySem.W.Frag} {h : Heap} {mg : Str → Option Value} (X : K.In h) (G : h.Ns mainGlobals mg)
    {f0 : Addr} (d0 : Def K "put_code" sPutCode f0)
    {f1 : Addr} (d1 : Def K "coded" sCoded f1)
    {f2 : Addr} (d2 : Def K "spelled_out" sSpelledOut f2)
    {f3 : Addr} (d3 : Def K "is_reduced_text" sIsReducedText f3)
    {f4 : Addr} (d4 : Def K "reduced_text" sReducedText f4)
    {f5 : Addr} (d5 : Def K "back_text" sBackText f5)
    {f6 : Addr} (d6 : Def K "last_syllable" sLastSyllable f6)
    {f7 : Addr} (d7 : Def K "first_syllable" sFirstSyllable f7)
    {f8 : Addr} (d8 : Def K "joined_text" sJoinedText f8)
    {f9 : Addr} (d9 : Def K "is_mirror_row" sIsMirrorRow f9)
    {f10 : Addr} (d10 : Def K "strange_place" sStrangePlace f10)
    {f11 : Addr} (d11 : Def K "need_word" sNeedWord f11)
    {f12 : Addr} (d12 : Def K "limited" sLimited f12)
    {f13 : Addr} (d13 : Def K "reduced" sReduced f13)
    {f14 : Addr} (d14 : Def K "back" sBack f14)
    {f15 : Addr} (d15 : Def K "then" sThen f15)
    {f16 : Addr} (d16 : Def K "is_mirror" sIsMirror f16)
    {f17 : Addr} (d17 : Def K "mirror_of" sMirrorOf f17)
    {f18 : Addr} (d18 : Def K "times_home" sTimesHome f18)
    {f19 : Addr} (d19 : Def K "_law_mixed" sLawMixed f19)
    {f20 : Addr} (d20 : Def K "_law_folded" sLawFolded f20)
    {f21 : Addr} (d21 : Def K "_law_draw" sLawDraw f21)
    {f22 : Addr} (d22 : Def K "_law_begun" sLawBegun f22)
    {f23 : Addr} (d23 : Def K "_law_like" sLawLike f23)
    {f24 : Addr} (d24 : Def K "_law_of" sLawOf f24)
    {f25 : Addr} (d25 : Def K "_law_is_int" sLawIsInt f25)
    {f26 : Addr} (d26 : Def K "_law_order" sLawOrder f26)
    {f27 : Addr} (d27 : Def K "_law_cut" sLawCut f27)
    {f28 : Addr} (d28 : Def K "_law_turned_back" sLawTurnedBack f28)
    {f29 : Addr} (d29 : Def K "_law_word" sLawWord f29)
    {f30 : Addr} (d30 : Def K "_law_is_mirror" sLawIsMirror f30)
    {f31 : Addr} (d31 : Def K "_law_numbered" sLawNumbered f31)
    {f32 : Addr} (d32 : Def K "_law_paired" sLawPaired f32)
    {f33 : Addr} (d33 : Def K "_law_net" sLawNet f33)
    {f34 : Addr} (d34 : Def K "_law_lead" sLawLead f34)
    {f35 : Addr} (d35 : Def K "_law_is_net" sLawIsNet f35)
    {f36 : Addr} (d36 : Def K "_law_pieces" sLawPieces f36)
    {f37 : Addr} (d37 : Def K "_law_ring" sLawRing f37)
    {f38 : Addr} (d38 : Def K "_law_hung" sLawHung f38)
    {f39 : Addr} (d39 : Def K "_law_closed" sLawClosed f39)
    {f40 : Addr} (d40 : Def K "law" sLaw f40)
    {tO tM : Tok} (cO : PySem.W.nsIn K mainGlobals "ONE" = some (some (.int 4 tO))) (cM : PySem.W.nsIn K mainGlobals "MOST_SIGNS" = some (some (.int 20000 tM)))
    {aS : Addr} (cS : PySem.W.nsIn K mainGlobals "SIGNS" = some (some (.ref aS))) {os : Obj} {its : Array Value} {ns : Nat} (lS : K.lookup aS = some os) (lS2 : os.cls = .type "tuple") (lS3 : os.data = .seq its ns) (lS4 : its.size ≤ sizeLine) (lS5 : Vals [.str (S []), .str (S [48]), .str (S [50]), .str (S [48, 50]), .str (S [49])] its.toList)
    {aC : Addr} (cC : PySem.W.nsIn K mainGlobals "CODES" = some (some (.ref aC))) {es : Array DictEntry} {nd : Nat} (lC : K.lookup aC = some ⟨.type "dict", none, .dict es nd, #[]⟩) (kC : PySem.W.KeysLit w.params es.toList)
    {u0 : Tok} (e0 : PySem.W.nsIn K aC "0" = some (some (.int 1 u0)))
    {u1 : Tok} (e1 : PySem.W.nsIn K aC "1" = some (some (.int 4 u1)))
    {u2 : Tok} (e2 : PySem.W.nsIn K aC "2" = some (some (.int 2 u2)))
    {u3 : Tok} (e3 : PySem.W.nsIn K aC "02" = some (some (.int 3 u3)))
    {u4 : Tok} (e4 : PySem.W.nsIn K aC "" = some (some (.int 0 u4)))
    (zlen : PySem.W.nsIn K mainGlobals "len" = some none) (zisinstance : PySem.W.nsIn K mainGlobals "isinstance" = some none) (zstr : PySem.W.nsIn K mainGlobals "str" = some none) (zenumerate : PySem.W.nsIn K mainGlobals "enumerate" = some none) (zrange : PySem.W.nsIn K mainGlobals "range" = some none) (zint : PySem.W.nsIn K mainGlobals "int" = some none) (zrepr : PySem.W.nsIn K mainGlobals "repr" = some none) (ztuple : PySem.W.nsIn K mainGlobals "tuple" = some none) (zlist : PySem.W.nsIn K mainGlobals "list" = some none) (zbool : PySem.W.nsIn K mainGlobals "bool" = some none) : Txt w K mg where
  one := ⟨_, PySem.W.mg_of X G cO⟩
  signs := ⟨aS, PySem.W.mg_of X G cS, fun H => .inr ⟨_, its, _, lS, lS2, lS3, lS4, lS5⟩⟩
  codes := ⟨aC, PySem.W.mg_of X G cC, ⟨es, nd, _, lC, kC, e0, ⟨_, rfl⟩⟩, ⟨es, nd, _, lC, kC, e1, ⟨_, rfl⟩⟩, ⟨es, nd, _, lC, kC, e2, ⟨_, rfl⟩⟩, ⟨es, nd, _, lC, kC, e3, ⟨_, rfl⟩⟩, ⟨es, nd, _, lC, kC, e4, ⟨_, rfl⟩⟩⟩
  most := ⟨_, PySem.W.mg_of X G cM⟩
  nlen := PySem.W.mg_none_of X G zlen
  nisinstance := PySem.W.mg_none_of X G zisinstance
  nstr := PySem.W.mg_none_of X G zstr
  nenumerate := PySem.W.mg_none_of X G zenumerate
  nrange := PySem.W.mg_none_of X G zrange
  nint := PySem.W.mg_none_of X G zint
  nrepr := PySem.W.mg_none_of X G zrepr
  ntuple := PySem.W.mg_none_of X G ztuple
  nlist := PySem.W.mg_none_of X G zlist
  nbool := PySem.W.mg_none_of X G zbool
  fPutCode := d0.has X G fun _ _ _ _ _ _ us hl => match us, hl with | [_, _], _ => rfl
  fCoded := d1.has X G fun _ _ _ _ _ _ us hl => match us, hl with | [_], _ => rfl
  fSpelledOut := d2.has X G fun _ _ _ _ _ _ us hl => match us, hl with | [_], _ => rfl
  fIsReducedText := d3.has X G fun _ _ _ _ _ _ us hl => match us, hl with | [_], _ => rfl
  fReducedText := d4.has X G fun _ _ _ _ _ _ us hl => match us, hl with | [_], _ => rfl
  fBackText := d5.has X G fun _ _ _ _ _ _ us hl => match us, hl with | [_], _ => rfl
  fLastSyllable := d6.has X G fun _ _ _ _ _ _ us hl => match us, hl with | [_, _], _ => rfl
  fFirstSyllable := d7.has X G fun _ _ _ _ _ _ us hl => match us, hl with | [_, _], _ => rfl
  fJoinedText := d8.has X G fun _ _ _ _ _ _ us hl => match us, hl with | [_, _], _ => rfl
  fIsMirrorRow := d9.has X G fun _ _ _ _ _ _ us hl => match us, hl with | [_], _ => rfl
  fStrangePlace := d10.has X G fun _ _ _ _ _ _ us hl => match us, hl with | [_], _ => rfl
  fNeedWord := d11.has X G fun _ _ _ _ _ _ us hl => match us, hl with | [_], _ => rfl
  fLimited := d12.has X G fun _ _ _ _ _ _ us hl => match us, hl with | [_], _ => rfl
  fReduced := d13.has X G fun _ _ _ _ _ _ us hl => match us, hl with | [_], _ => rfl
  fBack := d14.has X G fun _ _ _ _ _ _ us hl => match us, hl with | [_], _ => rfl
  fThen := d15.has X G fun _ _ _ _ _ _ us hl => match us, hl with | [_, _], _ => rfl
  fIsMirror := d16.has X G fun _ _ _ _ _ _ us hl => match us, hl with | [_], _ => rfl
  fMirrorOf := d17.has X G fun _ _ _ _ _ _ us hl => match us, hl with | [_], _ => rfl
  fTimesHome := d18.has X G fun _ _ _ _ _ _ us hl => match us, hl with | [_], _ => rfl
  fLawMixed := d19.has X G fun _ _ _ _ _ _ us hl => match us, hl with | [_, _], _ => rfl
  fLawFolded := d20.has X G fun _ _ _ _ _ _ us hl => match us, hl with | [_], _ => rfl
  fLawDraw := d21.has X G fun _ _ _ _ _ _ us hl => match us, hl with | [_, _], _ => rfl
  fLawBegun := d22.has X G fun _ _ _ _ _ _ us hl => match us, hl with | [_], _ => rfl
  fLawLike := d23.has X G fun _ _ _ _ _ _ us hl => match us, hl with | [_, _], _ => rfl
  fLawOf := d24.has X G fun _ _ _ _ _ _ us hl => match us, hl with | [_, _], _ => rfl
  fLawIsInt := d25.has X G fun _ _ _ _ _ _ us hl => match us, hl with | [_, _, _], _ => rfl
  fLawOrder := d26.has X G fun _ _ _ _ _ _ us hl => match us, hl with | [_, _], _ => rfl
  fLawCut := d27.has X G fun _ _ _ _ _ _ us hl => match us, hl with | [_], _ => rfl
  fLawTurnedBack := d28.has X G fun _ _ _ _ _ _ us hl => match us, hl with | [_], _ => rfl
  fLawWord := d29.has X G fun _ _ _ _ _ _ us hl => match us, hl with | [_, _], _ => rfl
  fLawIsMirror := d30.has X G fun _ _ _ _ _ _ us hl => match us, hl with | [_], _ => rfl
  fLawNumbered := d31.has X G fun _ _ _ _ _ _ us hl => match us, hl with | [_, _], _ => rfl
  fLawPaired := d32.has X G fun _ _ _ _ _ _ us hl => match us, hl with | [_], _ => rfl
  fLawNet := d33.has X G fun _ _ _ _ _ _ us hl => match us, hl with | [_, _], _ => rfl
  fLawLead := d34.has X G fun _ _ _ _ _ _ us hl => match us, hl with | [_, _, _], _ => rfl
  fLawIsNet := d35.has X G fun _ _ _ _ _ _ us hl => match us, hl with | [_, _], _ => rfl
  fLawPieces := d36.has X G fun _ _ _ _ _ _ us hl => match us, hl with | [_], _ => rfl
  fLawRing := d37.has X G fun _ _ _ _ _ _ us hl => match us, hl with | [_], _ => rfl
  fLawHung := d38.has X G fun _ _ _ _ _ _ us hl => match us, hl with | [_, _, _], _ => rfl
  fLawClosed := d39.has X G fun _ _ _ _ _ _ us hl => match us, hl with | [_, _], _ => rfl
  fLaw := d40.has X G fun _ _ _ _ _ _ us hl => match us, hl with | [_], _ => rfl
end K4

namespace K4
open PySem PySem.Spec PyProof.Rows L2 Nr Nw
theorem end_mk {l : PySem.W.OpenLaw} {w : World} {K : PySem.W.Frag} {h : Heap} {mg : Str → Option Value} {fa : Addr} (X : K.In h) (G : h.Ns mainGlobals mg) (hfa : mg "law" = some (.ref fa)) (T : Txt w K mg) :
    ∃ fd : FuncData, (∀ (s : Shared) (v : Value), BindsTo s fd ⟨[v], []⟩ [("script", v)]) ∧ ∀ base : Heap, K.In base → base.Ns mainGlobals mg → FnG l.prog w K mg base CX0 8 fa fd ["script"] (spLaw K) := by
  obtain ⟨f, fd, h1, F, h3⟩ := T.fLaw
  have e := h1.symm.trans hfa
  cases e
  obtain ⟨oc, od, kV, doc, pm, an, cdv, ct, osl, efd, lk, hcd⟩ := F.ex
  refine ⟨fd, fun s v => .of_eq ?_, fun base _ _ => law_fn T F⟩
  rw [efd]
  rfl
end K4
open PySem PySem.W PyProof.Rows
set_option maxHeartbeats 0 in
theorem PySem.Challenge.cw_netsredrawn_k04_whole_mirrors_holds : PySem.Challenge.rw_netsredrawn_k04_whole_mirrors.Holds := by
  w_on; o_law; k_head; (case hw => w_witness2)
  k_fill
  refine Nr.walk_ofG (l := PySem.Challenge.rw_netsredrawn_k04_whole_mirrors) (n := 63) (k := 8) (x := "script") (CX := fun _ => L2.CX0) (sp := fun w => K4.spLaw _) rfl (by decide) rfl ⟨rfl, by decide, by decide⟩ (fun w h Y => PySem.W.kIn_of Y) ?F (fun _ _ a ns hl _ _ hS => ⟨a, ns, rfl, hS, hl, fun _ => rfl⟩) (fun _ _ _ _ _ h => h)
  case F =>
    intro w mg fa h KX G hmg
    refine K4.end_mk KX G hmg ?T
    refine' K4.txt_mk KX G ?d0 ?d1 ?d2 ?d3 ?d4 ?d5 ?d6 ?d7 ?d8 ?d9 ?d10 ?d11 ?d12 ?d13 ?d14 ?d15 ?d16 ?d17 ?d18 ?d19 ?d20 ?d21 ?d22 ?d23 ?d24 ?d25 ?d26 ?d27 ?d28 ?d29 ?d30 ?d31 ?d32 ?d33 ?d34 ?d35 ?d36 ?d37 ?d38 ?d39 ?d40 ?cO ?cM ?cS ?lS ?lS2 ?lS3 ?lS4 ?lS5 ?cC ?lC ?kC ?e0 ?e1 ?e2 ?e3 ?e4 ?zlen ?zisinstance ?zstr ?zenumerate ?zrange ?zint ?zrepr ?ztuple ?zlist ?zbool
    case d0 => (refine' K4.def_mk ?a ?l ?c ?k; (case a => k_is); (case l => k_is); (case c => k_is); (case k => k_is))
    case d1 => (refine' K4.def_mk ?a ?l ?c ?k; (case a => k_is); (case l => k_is); (case c => k_is); (case k => k_is))
    case d2 => (refine' K4.def_mk ?a ?l ?c ?k; (case a => k_is); (case l => k_is); (case c => k_is); (case k => k_is))
    case d3 => (refine' K4.def_mk ?a ?l ?c ?k; (case a => k_is); (case l => k_is); (case c => k_is); (case k => k_is))
    case d4 => (refine' K4.def_mk ?a ?l ?c ?k; (case a => k_is); (case l => k_is); (case c => k_is); (case k => k_is))
    case d5 => (refine' K4.def_mk ?a ?l ?c ?k; (case a => k_is); (case l => k_is); (case c => k_is); (case k => k_is))
    case d6 => (refine' K4.def_mk ?a ?l ?c ?k; (case a => k_is); (case l => k_is); (case c => k_is); (case k => k_is))
    case d7 => (refine' K4.def_mk ?a ?l ?c ?k; (case a => k_is); (case l => k_is); (case c => k_is); (case k => k_is))
    case d8 => (refine' K4.def_mk ?a ?l ?c ?k; (case a => k_is); (case l => k_is); (case c => k_is); (case k => k_is))
    case d9 => (refine' K4.def_mk ?a ?l ?c ?k; (case a => k_is); (case l => k_is); (case c => k_is); (case k => k_is))
    case d10 => (refine' K4.def_mk ?a ?l ?c ?k; (case a => k_is); (case l => k_is); (case c => k_is); (case k => k_is))
    case d11 => (refine' K4.def_mk ?a ?l ?c ?k; (case a => k_is); (case l => k_is); (case c => k_is); (case k => k_is))
    case d12 => (refine' K4.def_mk ?a ?l ?c ?k; (case a => k_is); (case l => k_is); (case c => k_is); (case k => k_is))
    case d13 => (refine' K4.def_mk ?a ?l ?c ?k; (case a => k_is); (case l => k_is); (case c => k_is); (case k => k_is))
    case d14 => (refine' K4.def_mk ?a ?l ?c ?k; (case a => k_is); (case l => k_is); (case c => k_is); (case k => k_is))
    case d15 => (refine' K4.def_mk ?a ?l ?c ?k; (case a => k_is); (case l => k_is); (case c => k_is); (case k => k_is))
    case d16 => (refine' K4.def_mk ?a ?l ?c ?k; (case a => k_is); (case l => k_is); (case c => k_is); (case k => k_is))
    case d17 => (refine' K4.def_mk ?a ?l ?c ?k; (case a => k_is); (case l => k_is); (case c => k_is); (case k => k_is))
    case d18 => (refine' K4.def_mk ?a ?l ?c ?k; (case a => k_is); (case l => k_is); (case c => k_is); (case k => k_is))
    case d19 => (refine' K4.def_mk ?a ?l ?c ?k; (case a => k_is); (case l => k_is); (case c => k_is); (case k => k_is))
    case d20 => (refine' K4.def_mk ?a ?l ?c ?k; (case a => k_is); (case l => k_is); (case c => k_is); (case k => k_is))
    case d21 => (refine' K4.def_mk ?a ?l ?c ?k; (case a => k_is); (case l => k_is); (case c => k_is); (case k => k_is))
    case d22 => (refine' K4.def_mk ?a ?l ?c ?k; (case a => k_is); (case l => k_is); (case c => k_is); (case k => k_is))
    case d23 => (refine' K4.def_mk ?a ?l ?c ?k; (case a => k_is); (case l => k_is); (case c => k_is); (case k => k_is))
    case d24 => (refine' K4.def_mk ?a ?l ?c ?k; (case a => k_is); (case l => k_is); (case c => k_is); (case k => k_is))
    case d25 => (refine' K4.def_mk ?a ?l ?c ?k; (case a => k_is); (case l => k_is); (case c => k_is); (case k => k_is))
    case d26 => (refine' K4.def_mk ?a ?l ?c ?k; (case a => k_is); (case l => k_is); (case c => k_is); (case k => k_is))
    case d27 => (refine' K4.def_mk ?a ?l ?c ?k; (case a => k_is); (case l => k_is); (case c => k_is); (case k => k_is))
    case d28 => (refine' K4.def_mk ?a ?l ?c ?k; (case a => k_is); (case l => k_is); (case c => k_is); (case k => k_is))
    case d29 => (refine' K4.def_mk ?a ?l ?c ?k; (case a => k_is); (case l => k_is); (case c => k_is); (case k => k_is))
    case d30 => (refine' K4.def_mk ?a ?l ?c ?k; (case a => k_is); (case l => k_is); (case c => k_is); (case k => k_is))
    case d31 => (refine' K4.def_mk ?a ?l ?c ?k; (case a => k_is); (case l => k_is); (case c => k_is); (case k => k_is))
    case d32 => (refine' K4.def_mk ?a ?l ?c ?k; (case a => k_is); (case l => k_is); (case c => k_is); (case k => k_is))
    case d33 => (refine' K4.def_mk ?a ?l ?c ?k; (case a => k_is); (case l => k_is); (case c => k_is); (case k => k_is))
    case d34 => (refine' K4.def_mk ?a ?l ?c ?k; (case a => k_is); (case l => k_is); (case c => k_is); (case k => k_is))
    case d35 => (refine' K4.def_mk ?a ?l ?c ?k; (case a => k_is); (case l => k_is); (case c => k_is); (case k => k_is))
    case d36 => (refine' K4.def_mk ?a ?l ?c ?k; (case a => k_is); (case l => k_is); (case c => k_is); (case k => k_is))
    case d37 => (refine' K4.def_mk ?a ?l ?c ?k; (case a => k_is); (case l => k_is); (case c => k_is); (case k => k_is))
    case d38 => (refine' K4.def_mk ?a ?l ?c ?k; (case a => k_is); (case l => k_is); (case c => k_is); (case k => k_is))
    case d39 => (refine' K4.def_mk ?a ?l ?c ?k; (case a => k_is); (case l => k_is); (case c => k_is); (case k => k_is))
    case d40 => (refine' K4.def_mk ?a ?l ?c ?k; (case a => k_is); (case l => k_is); (case c => k_is); (case k => k_is))
    case cO => k_is
    case cM => k_is
    case cS => k_is
    case lS => k_is
    case lS2 => rfl
    case lS3 => rfl
    case lS4 => decide
    case lS5 => exact .cons ⟨_, rfl⟩ (.cons ⟨_, rfl⟩ (.cons ⟨_, rfl⟩ (.cons ⟨_, rfl⟩ (.cons ⟨_, rfl⟩ .nil))))
    case cC => k_is
    case lC => k_is
    case kC => exact ⟨⟨_, _, rfl, rfl⟩, ⟨_, _, rfl, rfl⟩, ⟨_, _, rfl, rfl⟩, ⟨_, _, rfl, rfl⟩, ⟨_, _, rfl, rfl⟩, trivial⟩
    case e0 => k_is
    case e1 => k_is
    case e2 => k_is
    case e3 => k_is
    case e4 => k_is
    case zlen => k_is
    case zisinstance => k_is
    case zstr => k_is
    case zenumerate => k_is
    case zrange => k_is
    case zint => k_is
    case zrepr => k_is
    case ztuple => k_is
    case zlist => k_is
    case zbool => k_is
