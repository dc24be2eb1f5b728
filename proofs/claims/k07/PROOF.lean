import PyProof.Rows.All
import Wide.All
import OpenK.AllK
import Wide.FinOn
import PySem.Challenge.RW_netsredrawn_k07_whole_words_and_classes
import HandS.ForMost
import HandS.Wide
import HandS.EndBits
import PyProof.Draws
import HandS.Style
import HandS.ReplaceLit
import HandS.ReplaceList
import HandS.Text
import KE.DataMinMax
import PyProof.StrBlock2
import PyProof.Rows.TmSorted
import PyProof.Rows.StrMeet
import HandS.IsInst
import HandS.More
import KE.LtSeq
import HandS.DictTup
import HandS.Conv
import HandS.Evl
import HandS.Small
import PyProof.StrLawsRepr
import PyProof.CallFns
import HandS.Gcd
import HandS.RaiseMore
import HandS.Walk
set_option Elab.async false
set_option linter.all false
set_option maxRecDepth 100000
set_option maxHeartbeats 4000001
/-! Additions to the hand layer: enumerate over a text; repr of data; defs that are called where no repr is under way. -/
namespace Nr
open PySem PySem.Spec PyProof.Rows L2

/-! ### enumerate(text) -/
def ItEs (x : Str) : It where
  go := fun i _ => i < x.cps.size
  yld := fun i H v H' => ∃ (T : Addr) (c : Nat), v = .ref T ∧ H T = none ∧ x.cps[i]? = some c ∧ H' = upd H T (.tup [.int (i : Nat), .str ⟨#[c]⟩])
  stop := fun i _ => x.cps.size ≤ i

/-- the iterator of a text gives its signs to whoever asks -/
theorem str_draws {prog : Program} {w : World} {A : Around} (hh : A.handled = none) (it : Addr) (x : Str) (t : Tok) {ty : String} (hty : ty = "str_ascii_iterator" ∨ ty = "str_iterator") :
    Draws prog w A it [it] x.cps.size (fun i v => ∃ c u, x.cps[i]? = some c ∧ v = .str ⟨#[c]⟩ u) (fun i h => h.IsStrIter it ty x t i) := by
  rcases hty with rfl | rfl
  · exact Draws.strAscii hh it x t
  · exact Draws.strWide hh it x t

def EsAt (e it : Addr) (ty : String) (x : Str) (t : Tok) (i : Nat) (h : Heap) : Prop :=
  (∃ old, IsEnum h e it ((i : Nat) : Int) old) ∧ (h.IsStrIter it ty x t i ∧ e ≠ it ∧ i ≤ x.cps.size)

theorem two_of {b e it : Addr} (h : b ∈ [e, it]) : b = e ∨ b = it := by
  rcases List.mem_cons.mp h with q | q
  · exact Or.inl q
  · exact Or.inr (List.mem_singleton.mp q)

theorem turn_es {P : Program} {w : World} {K : PySem.W.Frag} {elts : List Expr} {kk : Nat} {tpos : Pos} (e it : Addr) (x : Str) (t : Tok) (ty : String) (hty : ty = "str_ascii_iterator" ∨ ty = "str_iterator") :
    Turn P w K (.Tuple elts kk tpos) (ItEs x) [e, it] e (EsAt e it ty x t) where
  mem := List.mem_cons_self
  obj := by
    intro i h hs b hb
    obtain ⟨⟨old, he⟩, ⟨o, ho, _, hd⟩, _⟩ := hs
    rcases two_of hb with rfl | rfl
    · exact ⟨_, he, fun v q => nomatch q⟩
    · exact ⟨o, ho, fun v q => by
        rw [hd] at q
        cases q⟩
  keep := by
    intro i h h' hs k
    obtain ⟨⟨old, he⟩, ⟨o, ho, r⟩, ne, le⟩ := hs
    exact ⟨⟨old, k e List.mem_cons_self _ he⟩, ⟨o, k it (List.mem_cons_of_mem _ List.mem_cons_self) _ ho, r⟩, ne, le⟩
  item := by
    intro X hP hw hK hc i pins s σ H E I hf hs hi
    subst hP hw hK
    obtain ⟨⟨old, he⟩, hit, ne, le⟩ := hs
    have elt : e < s.heap.objs.size := Heap.lt_size he
    have ilt : it < s.heap.objs.size := by
      obtain ⟨_, q, _⟩ := hit
      exact Heap.lt_size q
    have D := str_draws (prog := X.prog) (w := X.w) (A := X.A.in1) (I.ok.hd hc) it x t hty
    have nin : e ∉ [it] := fun z => ne (List.mem_singleton.mp z)
    refine wpAny_pyNext_enum_itemD D he hit hi ne nin ?_
    intro u h' tk hu hout hit' hT hsz hk
    obtain ⟨c, tu, hc2, rfl⟩ := hu
    refine ⟨_, rfl, wpAny_letOwnedTupleGo_enum (s := { s with heap := h', toks := tk + 1 }) hout ?_⟩
    intro h2 he2 sb
    have hT2 := (sb.2 _ (Nat.ne_of_gt elt)).trans hT
    have new : ObjOk X.prog X.w (upd H s.heap.objs.size (.tup [.int (i : Nat), .str ⟨#[c]⟩])) h2 s.heap.objs.size (.tup [.int (i : Nat), .str ⟨#[c]⟩]) := by
      refine ⟨by show 2 ≤ sizeLine; decide, [.int i tk, .str ⟨#[c]⟩ tu], .cons ⟨_, rfl⟩ (.cons ⟨_, rfl⟩ .nil), ?_⟩
      exact ⟨_, hT2, rfl, _, rfl⟩
    have keep2 : ∀ b ob, b ∉ [e, it] → s.heap.get? b = some ob → h2.get? b = some ob := fun b ob hb q => by
      have n1 : b ≠ e := fun z => hb (by rw [z]; exact List.mem_cons_self)
      have n2 : b ≠ it := fun z => hb (by rw [z]; exact List.mem_cons_of_mem _ List.mem_cons_self)
      exact (sb.2 b n1).trans (hk b ob n1 n2 q)
    have I1 := I.turnedNew (ch := [e, it]) (t' := tk + 1) keep2 hf (Nat.le_refl _) new
    refine ⟨.ref s.heap.objs.size, _, I1, rfl, ⟨_, c, rfl, I.hok.fresh (Nat.le_refl _), hc2, rfl⟩, ⟨⟨.str ⟨#[c]⟩ tu, ?_⟩, ?_, ne, hi⟩, ?_⟩
    · have e1 : ((i + 1 : Nat) : Int) = (i : Int) + 1 := by omega
      rw [e1]
      exact he2
    · obtain ⟨o, ho, r⟩ := hit'
      exact ⟨o, (sb.2 it (Ne.symm ne)).trans ho, r⟩
    · intro b hb
      have lt : b < s.heap.objs.size := by
        rcases two_of hb with rfl | rfl
        · exact elt
        · exact ilt
      rw [upd_ne (Nat.ne_of_lt lt)]
      exact (hf b hb).1
  done := by
    intro X hP hw hK hc i pins s σ H E I hf hs hi
    subst hP hw hK
    obtain ⟨⟨old, he⟩, hit, ne, le⟩ := hs
    obtain ⟨f0, f1, f2, f3, f4, f5⟩ := hf it (List.mem_cons_of_mem _ List.mem_cons_self)
    have D := str_draws (prog := X.prog) (w := X.w) (A := X.A.in1) (I.ok.hd hc) it x t hty
    have ei : i = x.cps.size := Nat.le_antisymm le hi
    subst ei
    exact wpAny_pyNext_enum_endD D he hit fun h' eb => ⟨rfl, I.turned (t' := s.toks) (fun b o hb q => eb b o hb q) f0 f1 f3 f4 f5⟩
  self := by
    intro A i s Q E hs q
    obtain ⟨⟨old, he⟩, _⟩ := hs
    exact wpAny_pyIter_enum he q

def iEs (ta : TA) : TI := fun σ H R => ta σ H fun vs H1 => ∃ x, vs = [.str x] ∧ R (ItEs x) H1
theorem ity_of (x : Str) : strIterType x = "str_ascii_iterator" ∨ strIterType x = "str_iterator" := by
  unfold strIterType
  split
  · exact Or.inl rfl
  · exact Or.inr rfl
theorem pi_es {X : Cx} {e : Expr} {ta : TA} {p pos tpos : Pos} {elts : List Expr} {kk : Nat} (hg : Gl X "enumerate") (hm : X.mg "enumerate" = none) (ha : PA X [e] ta) (hs : starEach [e] X.env = [(false, eval e X.env)] := by rfl) :
    PI X (.Tuple elts kk tpos) (.Call (.Name "enumerate" p) [e] [] pos) (iEs ta) := by
  constructor
  intro pins s σ H R I h
  refine Call_ (ld_blt I hg hm boot_enumerate (PyProof.Rows.callWith_type1 (thn (ha.run pos pins s σ H _ I h) ?_) hs rfl))
  rintro us s1 ⟨vs, H1, I1, r1, x, rfl, q⟩
  cases r1 with
  | cons r rr =>
    cases rr
    obtain ⟨t, rfl⟩ := r
    refine call_enumerate_str fun h' he hit hsz hk => wpAny_pyIter_enum he ?_
    have I2 : L2.Inv X pins σ H1 { s1 with heap := h' } := I1.kept (t' := s1.toks) hk
    refine ⟨s1.heap.objs.size + 1, [s1.heap.objs.size + 1, s1.heap.objs.size], _, _, H1, rfl, I2, turn_es _ _ x t _ (ity_of x), ⟨⟨.none, he⟩, hit, Nat.succ_ne_self _, Nat.zero_le _⟩, ?_, q⟩
    intro b hb
    have hle : s1.heap.objs.size ≤ b := by
      rcases two_of hb with rfl | rfl
      · exact Nat.le_add_right _ _
      · exact Nat.le_refl _
    exact I1.fpOk hle (I1.hok.fresh hle)
end Nr

/-! repr of data; defs that are called where no repr is under way. -/
namespace Nr
open PySem PySem.Spec PyProof.Rows L2

/-! ### repr of lists and tuples of plain things -/
def rReprD (K : PySem.W.Frag) : List V → Hp → VK → Prop := fun xs H Q => ∃ (a : Addr) (d : PyData), xs = [.ref a] ∧ Dp K H (.ref a) d ∧
  (d.showable = true ∧ d.hasDict = false ∧ d.depth ≤ 60 ∧ d.shown.length ≤ sizeLine) ∧ Q (.str d.shown) H
theorem call_reprD {X : Cx} (hg : X.A.guards = some []) (hu : X.A.units + 64 < cLine) : CallR X (.builtin "repr") (rReprD X.K) := by
  intro pins s σ H xs us Q I r h
  obtain ⟨a, d, rfl, hd, ⟨h1, h2, h3, h4⟩, q⟩ := h
  obtain ⟨u, rfl, ru⟩ := vals1 r
  obtain ⟨as, rd⟩ := Dp.reads I d _ _ hd ru
  cases ru
  exact repr_of_reads' rd h1 (PyData.noDict_hsm h2) hg (by omega) (fun _ _ z => z) (fun h' v tk hk => ⟨.str d.shown, H, I.kept hk, ⟨v, rfl⟩, q⟩) h4

/-! ### a def that is called where no repr is under way -/
structure FnG (P : Program) (w : World) (K : PySem.W.Frag) (mg : Str → Option Value) (base : Heap) (CX : CXT) (k : Nat) (f : Addr) (fd : FuncData) (ps : List Str) (sp : Sp) : Prop where
  many : ∀ vs H Q E, sp vs H Q E → vs.length = ps.length
  goes : ∀ (A : Around), A.guards = some [] → Room k A → ∀ (outer : List Env) (s : Shared) (H : Hp), Env0 P w K mg base A outer s H →
    ∀ (args : Args) (us : List Value) (vs : List V), BindsTo s fd args (ps.zip us) → Vals vs us → ∀ (Q : VK) (E : XK), sp vs H Q E →
      codeAny (model P w) A (.call (.ref f) args) (CR CX outer P w H s Q E) s

section
variable {P : Program} {w : World} {K : PySem.W.Frag} {mg : Str → Option Value} {base : Heap} {CX : CXT} {k : Nat} {f : Addr} {fd : FuncData} {ps N : List Str} {sp : Sp}
theorem FnG.of (F : FnOk P w K mg base CX k f fd ps sp) : FnG P w K mg base CX k f fd ps sp :=
  ⟨F.len, fun A _ hr outer s H e0 args us vs hb hv Q E hs => F.run A outer s H args us vs Q E hr e0 hb hv hs⟩
theorem FnG.le {j : Nat} (F : FnG P w K mg base CX j f fd ps sp) (h : j ≤ k) : FnG P w K mg base CX k f fd ps sp :=
  ⟨F.many, fun A hg hr => F.goes A hg (hr.mono h)⟩

/-- the rule for such a def's body -/
theorem Fun.okG {x qual : Str} {st : Stmt} (F : Fun K x qual st f fd) (S : FnScope N ps (defScope st)) (len : ∀ vs H Q E, sp vs H Q E → vs.length = ps.length)
    (body : ∀ (cdv : Value) (A : Around) (outer : List Env) (s : Shared) (H : Hp) (vs : List V) (Q : VK) (E : XK), A.guards = some [] → Room k (A.deeper (envOfC qual (defScope st) s.heap.objs.size f cdv)) → sp vs H Q E →
      ∃ t, PSs (cxOf CX0 P w K mg base N qual (defScope st) f cdv A outer s H E).nox (defBody st) t ∧ t { nx := fun _ H' => Q .non H', rt := Q } (start N vs) H) :
    FnG P w K mg base CX0 (k + 1) f fd ps sp := by
  obtain ⟨oc, od, kV, doc, pm, an, cdv, ct, osl, rfl, lk, hcd⟩ := F.ex
  refine ⟨len, ?_⟩
  intro A hg hr outer s H e0 args us vs hb r Q E hsp
  have old : ∀ b o, base.get? b = some o → s.heap.get? b = some o := fun b o z => (e0.bs b o z).1
  have KX := e0.mod.kin.keeps old
  have slots : ∀ y ∈ ps.zip us, (defScope st).names.lookup y.1 = some .local ∨ ((defScope st).names.lookup y.1 = some .cell ∧ ((cellsFrom (s.heap.objs.size + 1) (defScope st).names []).lookup y.1).isSome = true) := by
    rintro ⟨n, v⟩ hy
    rcases S.par n (List.of_mem_zip hy).1 with q | q
    · exact Or.inl q
    · exact Or.inr ⟨q, PySem.W.cellsFrom_some _ _ _ (Or.inl q)⟩
  apply codeAny_call_function hr.depth (KX _ _ lk) rfl S.co S.gen rfl (PySem.W.codeRec_of KX hcd) (hb _ _ _ _ ?_)
  apply wpAny_newFunctionEnv_cells S.kind slots
  rintro env rfl s1 x
  refine ⟨(e0.mod.nolimit.keeps old).keeps x.toInCall.keep, codeAny_func ?_⟩
  obtain ⟨t, ht, hq⟩ := body cdv A outer s H vs Q E hg (hr.deeper _) hsp
  have I := inv_start (CX := CX0) (E := E) S hr.hd e0 (len _ _ _ _ hsp) r x
  refine wpAny_mono (ht.nox.run [] s1 (start N vs) H _ I hq) ?_ fun e s' z => z
  intro fl s' hs
  cases fl with
  | brk => exact hs.elim fun _ z => z.elim fun _ y => y.2.elim
  | cont => exact hs.elim fun _ z => z.elim fun _ y => y.2.elim
  | next =>
    obtain ⟨_, H', J, q⟩ := hs
    exact ⟨.non, H', J.os, J.bare, J.base, J.hok, rfl, q⟩
  | ret u =>
    obtain ⟨v, _, H', J, rv, q⟩ := hs
    exact ⟨v, H', J.os, J.bare, J.base, J.hok, rv, q⟩
end

section
variable {X : Cx} {CX : CXT} {k : Nat} {f : Addr} {fd : FuncData} {ps : List Str} {sp : Sp} {E : XK} {x : Str} {p pos : Pos} {e : Expr} {es : List Expr} {t : TA}
/-- f(e, ..) where no repr is under way -/
theorem pe_callG (F : FnG X.prog X.w X.K X.mg X.base CX k f fd ps sp) (hA : X.A.guards = some []) (hr : Room k X.A) (hg : Gl X x) (hm : X.mg x = some (.ref f)) (hk : PySem.W.keepIn X.K (.ref f) = true) (hb : Binds X.K fd ps [])
    (hx : Passes CX X E) (ha : PA X (e :: es) t) (hdb : (x == ("__debug__" : Str)) = false := by decide) (he : starEach (e :: es) X.env = (false, eval e X.env) :: starEach es X.env := by rfl)
    (hpl : (backTo pos (starEach es X.env)).any (·.1) = false := by rfl) : PE X (.Call (.Name x p) (e :: es) [] pos) (fun σ H Q => t σ H fun vs H1 => sp vs H1 Q E) := by
  constructor
  intro pins s σ H Q I h
  refine wpAny_Call_Name_kw (ld_glob I hg hm ?_ hdb)
  refine PySem.W.callWith_K (h₀ := X.base) I.ok.mod.kin hk (thn (ha.run pos pins s σ H _ I h) ?_) he hpl
  rintro us s1 ⟨vs, H1, I1, r, q⟩
  refine ⟨I1.kIn, ?_⟩
  have hl : (us ++ ([] : List Value)).length = ps.length := by
    rw [List.append_nil, ← r.length]
    exact F.many _ _ _ _ q
  have bd := hb s1 us I1.kIn hl
  rw [List.append_nil] at bd
  refine wpAny_call (codeAny_mono (F.goes X.A hA hr X.stack s1 H1 I1.env0 _ us vs bd r Q E q) ?_)
  intro rs s' z
  match rs, z with
  | .error e, z => exact hx pins σ H1 s1 e s' I1 z
  | .ok (.ret u), z => exact I1.after z
end
end Nr

/-! The end of a law's row for a def that is called where no repr is under way (callerA has none). -/
namespace Nr
open PySem PySem.Spec PyProof.Rows L2

section
variable {P : Program} {w : World} {K : PySem.W.Frag} {mg mb : Str → Option Value} {CX : CXT} {k : Nat} {fa a : Addr} {fd : FuncData} {x : Str} {sp : Sp} {s1 : Shared} {vs : List Value} {ns : List Int} {H : Hp}
/-- what the law's call wants at its end -/
def Ended (s1 : Shared) (r : Result) (s' : Shared) : Prop := r = .ok (.ret (.bool true)) ∧ OldK s1.heap s'.heap ∧ s'.os = s1.os ∧ AllBare s'.gens

/-- from a heap in which nothing is tracked but the script, if that -/
theorem begun (KX : K.In s1.heap) (hns : s1.heap.Ns mainGlobals mg) (hb : s1.heap.Ns builtinsNs mb) (hbb : ∀ x : Str, x ≠ "__name__" → mb x = bootBuiltins x) (hlim : s1.heap.NoLimit) (hg : s1.gens = #[])
    (ha : s1.heap.get? a = some { cls := .type "list", data := .seq vs.toArray }) (hr : Room k callerA)
    (F : ∀ base : Heap, K.In base → base.Ns mainGlobals mg → FnG P w K mg base CX k fa fd [x] sp) (bd : ∀ (s : Shared) (u : Value), BindsTo s fd ⟨[u], []⟩ [(x, u)])
    (hCX : ∀ H e s', CX [] H s1 (fun _ _ _ => False) e s' → False)
    (hO : Only H) (hok : HOk P w H s1.heap) (alone : ∀ b o, H b = some o → b = a ∧ K.lookup a = none)
    (q : sp [.ref a] H (fun v _ => v = .bl true) fun _ _ _ => False) :
    codeAny (model P w) callerA (.call (.ref fa) ⟨[.ref a], []⟩) (Ended s1) s1 := by
  have free : ∀ {b : Addr} {o : Obj}, s1.heap.get? b = some o → (∀ es ep, o.data ≠ .dict es ep) ∨ H b = none := by
    intro b o e
    cases z : H b with
    | none => exact Or.inr rfl
    | some u =>
      obtain ⟨rfl, _⟩ := alone b u z
      rw [ha] at e
      cases e
      exact Or.inl fun _ _ y => by cases y
  have nsB : ∀ {b : Addr} {m : Str → Option Value}, s1.heap.Ns b m → (hidT s1.heap H).Ns b m := by
    rintro b m ⟨o, es, ep, e, d, r⟩
    rcases free e with z | z
    · exact absurd d (z es ep)
    · exact ⟨o, es, ep, hidT_get e z, d, r⟩
  have inB : K.In (hidT s1.heap H) := by
    intro b o e
    refine hidT_get (KX b o e) ?_
    cases z : H b with
    | none => rfl
    | some u =>
      obtain ⟨rfl, y⟩ := alone b u z
      rw [y] at e
      cases e
  have md : Mod K mg (hidT s1.heap H) := by
    refine ⟨inB, nsB hns, ⟨mb, nsB hb, hbb⟩, ?_⟩
    obtain ⟨mc, l1, l2⟩ := hlim
    exact ⟨mc, nsB l1, l2⟩
  have e0 : Env0 P w K mg (hidT s1.heap H) callerA [] s1 H := by
    refine ⟨rfl, md, fun b o e => of_hidT e, Nat.le_of_eq (hidT_size _ _), trivial, ?_, hok, .of_eq hg⟩
    intro b hb
    exact (List.not_mem_nil hb).elim
  have run := (F _ inB (nsB hns)).goes callerA rfl hr [] s1 H e0 ⟨[.ref a], []⟩ [.ref a] [.ref a] (bd s1 (.ref a)) (.cons rfl .nil) _ _ q
  refine codeAny_mono run ?_
  intro r s' h
  match r, h with
  | .error e, h => exact (hCX H e s' h).elim
  | .ok (.ret u), h =>
    obtain ⟨v, H', os, bare, un, hok', rv, hv⟩ := h
    cases hv
    cases rv
    refine ⟨rfl, OldK.of_keep ?_, os, bare⟩
    intro b o e
    cases z : H b with
    | none => exact un.keep b o e z (fun y => List.not_mem_nil y) (fun y => List.not_mem_nil y)
    | some u =>
      rcases hO b with y | ⟨ob, xs, y⟩
      · rw [z] at y
        cases y
      · have g1 := (hok b _ y).1
        have g2 := (hok' b _ (un.frzs b ob _ y)).1
        rw [g1] at e
        cases e
        exact g2

theorem law_goes (KX : K.In s1.heap) (hns : s1.heap.Ns mainGlobals mg) (hb : s1.heap.Ns builtinsNs mb) (hbb : ∀ x : Str, x ≠ "__name__" → mb x = bootBuiltins x) (hlim : s1.heap.NoLimit) (hg : s1.gens = #[])
    (ha : s1.heap.get? a = some { cls := .type "list", data := .seq vs.toArray }) (hi : IntsAre vs ns) (hl : ns.length ≤ sizeLine) (hr : Room k callerA)
    (F : ∀ base : Heap, K.In base → base.Ns mainGlobals mg → FnG P w K mg base CX k fa fd [x] sp) (bd : ∀ (s : Shared) (u : Value), BindsTo s fd ⟨[u], []⟩ [(x, u)])
    (hCX : ∀ H e s', CX [] H s1 (fun _ _ _ => False) e s' → False)
    (hsp : ∀ H : Hp, Only H → SqL K H a (ns.map V.int) → sp [.ref a] H (fun v _ => v = .bl true) fun _ _ _ => False) :
    codeAny (model P w) callerA (.call (.ref fa) ⟨[.ref a], []⟩) (Ended s1) s1 := by
  have rv := vals_ints hi
  have nl := hi.length
  cases z : K.lookup a with
  | some o =>
    have e := (KX a o z).symm.trans ha
    cases e
    have oN : Only (fun _ => none) := fun _ => Or.inl rfl
    have sq : SqL K (fun _ => none) a (ns.map V.int) := by
      refine Or.inr ⟨_, vs.toArray, _, z, rfl, rfl, rfl, ?_, ?_⟩
      · rw [List.size_toArray, nl]
        exact hl
      · exact rv
    exact begun KX hns hb hbb hlim hg ha hr F bd hCX oN (fun _ _ y => nomatch y) (fun _ _ y => nomatch y) (hsp _ oN sq)
  | none =>
    let ob : Obj := { cls := .type "list", data := .seq vs.toArray }
    let H : Hp := upd (fun _ => none) a (.frz ob (.lst (ns.map V.int)))
    have at_a : H a = some (.frz ob (.lst (ns.map V.int))) := upd_same
    have other : ∀ b, b ≠ a → H b = none := fun b nb => upd_ne nb
    have oN : Only H := by
      intro b
      by_cases y : b = a
      · exact Or.inr ⟨ob, _, by rw [y]; exact at_a⟩
      · exact Or.inl (other b y)
    have al : ∀ b o, H b = some o → b = a ∧ K.lookup a = none := by
      intro b o y
      by_cases q : b = a
      · exact ⟨q, z⟩
      · rw [other b q] at y
        cases y
    refine begun (H := H) KX hns hb hbb hlim hg ha hr F bd hCX oN ?_ al (hsp H oN (Or.inl (Or.inr ⟨ob, at_a⟩)))
    intro b u y
    obtain ⟨rfl, _⟩ := al b u y
    rw [at_a] at y
    cases y
    exact ⟨ha, by rw [List.length_map]; exact hl, vs, _, rv, ha⟩
end

/-- a law's end from the promise of its def; the script's ints are below 2 ^ 1048576 -/
theorem walk_ofG {l : PySem.W.OpenLaw} {n k : Nat} {q : Program} {loose : List Str} {XP : (Str → Option Value) → Heap → Prop} {YP : World → Heap → Prop} {d : DefRec} {K : Params → PySem.W.Frag} {CX : World → CXT} {sp : World → Sp} {x : Str}
    (hn : l.most = some n) (hn2 : n ≤ sizeLine) (hdf : d.params.defaults = []) (hr : Room k callerA) (hY : ∀ (w : World) (h : Heap), YP w h → (K w.params).In h)
    (F : ∀ (w : World) (mg : Str → Option Value) (fa : Addr) (h : Heap), (K w.params).In h → h.Ns mainGlobals mg → mg d.name = some (.ref fa) →
      ∃ fd : FuncData, (∀ (s : Shared) (u : Value), BindsTo s fd ⟨[u], []⟩ [(x, u)]) ∧ ∀ base : Heap, (K w.params).In base → base.Ns mainGlobals mg → FnG l.prog w (K w.params) mg base (CX w) k fa fd [x] (sp w))
    (hsp : ∀ (w : World) (H : Hp) (a : Addr) (ns : List Int), ns.length ≤ n → (∀ z ∈ ns, Builtin.Int.intBits z ≤ 1048576) → Only H → SqL (K w.params) H a (ns.map V.int) → sp w [.ref a] H (fun v _ => v = .bl true) fun _ _ _ => False)
    (hCX : ∀ (w : World) (H : Hp) (s : Shared) (e : Value) (s' : Shared), CX w [] H s (fun _ _ _ => False) e s' → False) :
    PySem.W.WalkO q loose XP YP l.row.toRowW d [] (fun f vs => PySem.call f vs) := by
  apply Att.attach_callB hn hdf
  intro w s0 s1 mg mb fa o pm cd doc a vs ns G Y ho hd hcd hmg hobj hints hlen hbits hg
  have KX := hY w _ Y
  obtain ⟨fd, hb, hF⟩ := F w mg fa _ KX G.T.g hmg
  exact law_goes KX G.T.g G.T.b G.T.builtins G.T.nolimit hg hobj hints (Nat.le_trans hlen hn2) hr hF hb (fun H e s' => hCX w H s1 e s') fun H hO hS => hsp w H a ns hlen hbits hO hS
end Nr

/-! Words over 48, 49, 50 ("0", "1", "2"): the step by which a reduced word is led on, on stacks (the last sign first). -/
namespace Nw

/-- the signs of words -/
def Sg (c : Nat) : Prop := c = 48 ∨ c = 49 ∨ c = 50
def Wd (w : List Nat) : Prop := ∀ c ∈ w, Sg c

/-- lead a stack on by one sign -/
def step : List Nat → Nat → List Nat
  | [], c => [c]
  | a :: r, c =>
    if a = c then r
    else if c = 48 ∧ a = 50 then
      (match r with
      | 48 :: q => 50 :: q
      | r => 50 :: 48 :: r)
    else c :: a :: r

/-- two neighbors, the later one first, may stand in a reduced word -/
def Nb (a b : Nat) : Prop := a ≠ b ∧ ¬ (b = 50 ∧ a = 48)
/-- a stack of a reduced word -/
def Rd : List Nat → Prop
  | [] => True
  | [c] => Sg c
  | a :: b :: r => Sg a ∧ Nb a b ∧ Rd (b :: r)

theorem Rd.tail {a : Nat} {r : List Nat} (h : Rd (a :: r)) : Rd r := by
  cases r with
  | nil => trivial
  | cons b q => exact h.2.2
theorem Rd.head {a : Nat} {r : List Nat} (h : Rd (a :: r)) : Sg a := by
  cases r with
  | nil => exact h
  | cons b q => exact h.1
theorem Rd.wd : ∀ {r : List Nat}, Rd r → Wd r
  | [], _ => fun c h => by cases h
  | a :: r, h => fun c hc => by
    rcases List.mem_cons.mp hc with e | e
    · rw [e]; exact h.head
    · exact Rd.wd h.tail c e

theorem step_nil (c : Nat) : step [] c = [c] := rfl
def two (r : List Nat) : List Nat := match r with
  | 48 :: q => 50 :: q
  | r => 50 :: 48 :: r
theorem step_cons (a : Nat) (r : List Nat) (c : Nat) : step (a :: r) c = if a = c then r else if c = 48 ∧ a = 50 then two r else c :: a :: r := rfl
theorem rd_nil : Rd [] := trivial
theorem step_same (a : Nat) (r : List Nat) : step (a :: r) a = r := by
  rw [step_cons, if_pos rfl]
theorem step_push {a c : Nat} {r : List Nat} (h : Nb c a) : step (a :: r) c = c :: a :: r := by
  rw [step_cons, if_neg (fun e => h.1 e.symm), if_neg (fun e => h.2 ⟨e.2, e.1⟩)]
theorem step_02 (q : List Nat) : step (50 :: 48 :: q) 48 = 50 :: q := by
  rw [step_cons, if_neg (by decide), if_pos (by decide)]
  rfl
theorem step_2 {r : List Nat} (h : ∀ q, r ≠ 48 :: q) : step (50 :: r) 48 = 50 :: 48 :: r := by
  rw [step_cons, if_neg (by decide), if_pos (by decide)]
  unfold two
  cases r with
  | nil => rfl
  | cons b q =>
    split
    · next q' e => exact absurd e (h q')
    · rfl

/-- how a step goes: it takes off, it changes "02", it changes "2", it puts on -/
theorem step_ways {s : List Nat} (hs : Rd s) {c : Nat} (hc : Sg c) :
    (∃ r, s = c :: r ∧ step s c = r) ∨ (∃ q, c = 48 ∧ s = 50 :: 48 :: q ∧ step s c = 50 :: q) ∨
    (∃ r, c = 48 ∧ s = 50 :: r ∧ (∀ q, r ≠ 48 :: q) ∧ step s c = 50 :: 48 :: r) ∨ (step s c = c :: s ∧ ∀ a r, s = a :: r → Nb c a) := by
  cases s with
  | nil => exact .inr (.inr (.inr ⟨rfl, fun a r e => by cases e⟩))
  | cons a r =>
    by_cases e : a = c
    · subst e
      exact .inl ⟨r, rfl, step_same a r⟩
    · by_cases e2 : c = 48 ∧ a = 50
      · obtain ⟨rfl, rfl⟩ := e2
        by_cases e3 : ∃ q, r = 48 :: q
        · obtain ⟨q, rfl⟩ := e3
          exact .inr (.inl ⟨q, rfl, rfl, step_02 q⟩)
        · have h3 : ∀ q, r ≠ 48 :: q := fun q z => e3 ⟨q, z⟩
          exact .inr (.inr (.inl ⟨r, rfl, rfl, h3, step_2 h3⟩))
      · have nb : Nb c a := ⟨fun z => e z.symm, fun z => e2 ⟨z.2, z.1⟩⟩
        exact .inr (.inr (.inr ⟨step_push nb, fun a' r' z => by cases z; exact nb⟩))

theorem rd_cons {c : Nat} {s : List Nat} (hc : Sg c) (hs : Rd s) (h : ∀ a r, s = a :: r → Nb c a) : Rd (c :: s) := by
  cases s with
  | nil => exact hc
  | cons a r => exact ⟨hc, h a r rfl, hs⟩

theorem nb_of {a b : Nat} {r : List Nat} (h : Rd (a :: b :: r)) : Nb a b := h.2.1

theorem not48 {r : List Nat} (h : Rd (48 :: r)) : ∀ b q, r = b :: q → b = 49 := by
  intro b q e
  subst e
  have h1 := nb_of h
  have h2 := h.tail.head
  rcases h2 with z | z | z
  · exact absurd z.symm h1.1
  · exact z
  · exact absurd ⟨z, rfl⟩ h1.2

theorem step_rd {s : List Nat} (hs : Rd s) {c : Nat} (hc : Sg c) : Rd (step s c) := by
  rcases step_ways hs hc with ⟨r, rfl, e⟩ | ⟨q, rfl, rfl, e⟩ | ⟨r, rfl, rfl, h, e⟩ | ⟨e, h⟩
  · rw [e]; exact hs.tail
  · rw [e]
    refine rd_cons (.inr (.inr rfl)) hs.tail.tail fun a r z => ?_
    have := not48 hs.tail a r z
    subst this
    exact ⟨by decide, fun y => by cases y.1⟩
  · rw [e]
    refine rd_cons (.inr (.inr rfl)) (rd_cons (.inl rfl) hs.tail fun a q z => ?_) fun a q z => ?_
    · subst z
      have h1 := nb_of hs
      refine ⟨fun z => h q (by rw [← z]), fun y => h1.1 y.1.symm⟩
    · cases z
      exact ⟨by decide, fun y => by cases y.1⟩
  · rw [e]; exact rd_cons hc hs h

/-- a step is its own way back -/
theorem step_step {s : List Nat} (hs : Rd s) {c : Nat} (hc : Sg c) : step (step s c) c = s := by
  rcases step_ways hs hc with ⟨r, rfl, e⟩ | ⟨q, rfl, rfl, e⟩ | ⟨r, rfl, rfl, h, e⟩ | ⟨e, h⟩
  · rw [e]
    cases r with
    | nil => rfl
    | cons b q => exact step_push (nb_of hs)
  · rw [e]
    refine step_2 fun q' z => ?_
    have := not48 hs.tail 48 q' z
    cases this
  · rw [e]; exact step_02 r
  · rw [e]; exact step_same c s

theorem top_of {s : List Nat} (hs : Rd s) : s = [] ∨ (∃ r, s = 48 :: r) ∨ (∃ r, s = 49 :: r) ∨ (∃ r, s = 50 :: 48 :: r) ∨ (∃ r, s = 50 :: r ∧ ∀ q, r ≠ 48 :: q) := by
  cases s with
  | nil => exact .inl rfl
  | cons a r =>
    rcases hs.head with rfl | rfl | rfl
    · exact .inr (.inl ⟨r, rfl⟩)
    · exact .inr (.inr (.inl ⟨r, rfl⟩))
    · by_cases e : ∃ q, r = 48 :: q
      · obtain ⟨q, rfl⟩ := e
        exact .inr (.inr (.inr (.inl ⟨q, rfl⟩)))
      · exact .inr (.inr (.inr (.inr ⟨r, rfl, fun q z => e ⟨q, z⟩⟩)))

/-- 0 then 2 is 2 then 0 -/
theorem step_comm {s : List Nat} (hs : Rd s) : step (step s 48) 50 = step (step s 50) 48 := by
  rcases top_of hs with rfl | ⟨r, rfl⟩ | ⟨r, rfl⟩ | ⟨r, rfl⟩ | ⟨r, rfl, h⟩
  · rfl
  · rw [step_same]
    have e : step (48 :: r) 50 = 50 :: 48 :: r := step_push ⟨by decide, fun y => by cases y.2⟩
    rw [e, step_02]
    cases r with
    | nil => rfl
    | cons b q =>
      have := not48 hs b q rfl
      subst this
      exact step_push ⟨by decide, fun y => by cases y.2⟩
  · have e1 : step (49 :: r) 48 = 48 :: 49 :: r := step_push ⟨by decide, fun y => by cases y.1⟩
    have e2 : step (49 :: r) 50 = 50 :: 49 :: r := step_push ⟨by decide, fun y => by cases y.1⟩
    rw [e1, e2]
    rw [step_2 fun q z => by cases z]
    exact step_push ⟨by decide, fun y => by cases y.2⟩
  · rw [step_02, step_same, step_same, step_same]
  · rw [step_2 h, step_same, step_same]
    cases r with
    | nil => rfl
    | cons b q =>
      symm
      refine step_push ⟨fun z => h q (by rw [← z]), fun y => (nb_of hs).1 y.1.symm⟩

/-- lead a stack on by a word -/
def go (s w : List Nat) : List Nat := w.foldl step s
theorem go_nil (s : List Nat) : go s [] = s := rfl
theorem go_cons (s : List Nat) (c : Nat) (w : List Nat) : go s (c :: w) = go (step s c) w := rfl
theorem go_append (s u v : List Nat) : go s (u ++ v) = go (go s u) v := List.foldl_append ..
theorem go_snoc (s w : List Nat) (c : Nat) : go s (w ++ [c]) = step (go s w) c := by
  rw [go_append]; rfl
theorem go_rd {s : List Nat} (hs : Rd s) : ∀ {w : List Nat}, Wd w → Rd (go s w)
  | [], _ => hs
  | c :: w, h => by
    rw [go_cons]
    exact go_rd (step_rd hs (h c List.mem_cons_self)) fun d hd => h d (List.mem_cons_of_mem _ hd)

/-- the reduced word -/
def cut (w : List Nat) : List Nat := (go [] w).reverse
theorem wd_append {u v : List Nat} : Wd (u ++ v) ↔ Wd u ∧ Wd v :=
  ⟨fun h => ⟨fun c hc => h c (List.mem_append_left _ hc), fun c hc => h c (List.mem_append_right _ hc)⟩,
   fun h c hc => (List.mem_append.mp hc).elim (h.1 c) (h.2 c)⟩
theorem wd_rev {w : List Nat} : Wd w.reverse ↔ Wd w := ⟨fun h c hc => h c (List.mem_reverse.mpr hc), fun h c hc => h c (List.mem_reverse.mp hc)⟩
theorem cut_wd {w : List Nat} (h : Wd w) : Wd (cut w) := wd_rev.mpr (go_rd rd_nil h).wd

/-- a reduced stack is led to by its own word -/
theorem go_self : ∀ {s : List Nat}, Rd s → go [] s.reverse = s
  | [], _ => rfl
  | c :: r, h => by
    rw [List.reverse_cons, go_snoc, go_self h.tail]
    cases r with
    | nil => rfl
    | cons b q => exact step_push (nb_of h)
theorem cut_of_rd {w : List Nat} (h : Rd w.reverse) : cut w = w := by
  have := go_self h
  rw [List.reverse_reverse] at this
  unfold cut
  rw [this, List.reverse_reverse]
theorem rd_cut {w : List Nat} (h : Wd w) : Rd (cut w).reverse := by
  unfold cut
  rw [List.reverse_reverse]
  exact go_rd rd_nil h
theorem cut_cut {w : List Nat} (h : Wd w) : cut (cut w) = cut w := cut_of_rd (rd_cut h)

/-! ### whatever the signs do, if they are their own ways back and 0 and 2 go together -/
section
variable {α : Type} (f : α → Nat → α) (P : α → Prop)
structure Acts : Prop where
  stays : ∀ x c, P x → Sg c → P (f x c)
  back : ∀ x c, P x → Sg c → f (f x c) c = x
  comm : ∀ x, P x → f (f x 48) 50 = f (f x 50) 48
variable {f P}
theorem Acts.all (A : Acts f P) {x : α} (hx : P x) : ∀ {w : List Nat}, Wd w → P (w.foldl f x)
  | [], _ => hx
  | c :: w, h => A.all (A.stays x c hx (h c List.mem_cons_self)) fun d hd => h d (List.mem_cons_of_mem _ hd)
theorem fold_snoc (x : α) (w : List Nat) (c : Nat) : (w ++ [c]).foldl f x = f (w.foldl f x) c := by
  rw [List.foldl_append]; rfl
/-- one step of the stack -/
theorem Acts.one (A : Acts f P) {x : α} (hx : P x) {s : List Nat} (hs : Rd s) {c : Nat} (hc : Sg c) : (step s c).reverse.foldl f x = f (s.reverse.foldl f x) c := by
  have hw : ∀ {t : List Nat}, Rd t → P (t.reverse.foldl f x) := fun ht => A.all hx (wd_rev.mpr ht.wd)
  rcases step_ways hs hc with ⟨r, rfl, e⟩ | ⟨q, rfl, rfl, e⟩ | ⟨r, rfl, rfl, h, e⟩ | ⟨e, h⟩
  · rw [e, List.reverse_cons, fold_snoc, A.back _ _ (hw hs.tail) hc]
  · rw [e, List.reverse_cons, List.reverse_cons, List.reverse_cons, fold_snoc, fold_snoc, fold_snoc, A.comm _ (hw hs.tail.tail)]
    have h50 : Sg 50 := .inr (.inr rfl)
    rw [A.back _ 48 (A.stays _ _ (hw hs.tail.tail) h50) (.inl rfl)]
  · rw [e, List.reverse_cons, List.reverse_cons, List.reverse_cons, fold_snoc, fold_snoc, fold_snoc, A.comm _ (hw hs.tail)]
  · rw [e, List.reverse_cons, fold_snoc]
theorem Acts.snoc (A : Acts f P) {x : α} (hx : P x) : ∀ (n : Nat) (w : List Nat), w.length = n → Wd w → (cut w).foldl f x = w.foldl f x
  | 0, w, hn, _ => by
    have : w = [] := List.length_eq_zero_iff.mp hn
    subst this
    rfl
  | n + 1, w, hn, h => by
    have hne : w ≠ [] := fun z => by rw [z] at hn; cases hn
    have ew : w = w.dropLast ++ [w.getLast hne] := (List.dropLast_concat_getLast hne).symm
    have hl : w.dropLast.length = n := by rw [List.length_dropLast]; omega
    rw [ew] at h ⊢
    generalize w.dropLast = v at h hl ⊢
    generalize w.getLast hne = c at h ⊢
    obtain ⟨hv, hc1⟩ := wd_append.mp h
    have hc : Sg c := hc1 c List.mem_cons_self
    have ih := A.snoc hx n v hl hv
    unfold cut at ih ⊢
    rw [go_snoc, A.one hx (go_rd rd_nil hv) hc, ih, fold_snoc]
/-- the reduced word does what the word does -/
theorem Acts.cut (A : Acts f P) {x : α} (hx : P x) {w : List Nat} (h : Wd w) : (Nw.cut w).foldl f x = w.foldl f x := A.snoc hx _ w rfl h
/-- a word, and then backwards -/
theorem Acts.home (A : Acts f P) : ∀ {w : List Nat} {x : α}, P x → Wd w → w.reverse.foldl f (w.foldl f x) = x
  | [], _, _, _ => rfl
  | c :: w, x, hx, h => by
    have hc : Sg c := h c List.mem_cons_self
    rw [List.reverse_cons, fold_snoc]
    have ih := A.home (w := w) (A.stays x c hx hc) fun d hd => h d (List.mem_cons_of_mem _ hd)
    show f (w.reverse.foldl f (w.foldl f (f x c))) c = x
    rw [ih, A.back x c hx hc]
end
theorem acts_step : Acts step Rd := ⟨fun _ _ h hc => step_rd h hc, fun _ _ h hc => step_step h hc, fun _ h => step_comm h⟩
theorem go_cut {s w : List Nat} (hs : Rd s) (h : Wd w) : go s (cut w) = go s w := acts_step.cut hs h
theorem go_home {s w : List Nat} (hs : Rd s) (h : Wd w) : go (go s w) w.reverse = s := acts_step.home hs h

theorem cut_app_r {u v : List Nat} (hu : Wd u) (hv : Wd v) : cut (u ++ cut v) = cut (u ++ v) := by
  unfold cut
  rw [go_append, go_append]
  exact congrArg List.reverse (go_cut (go_rd rd_nil hu) hv)
theorem cut_app_l {u v : List Nat} (hu : Wd u) : cut (cut u ++ v) = cut (u ++ v) := by
  unfold cut
  rw [go_append, go_append]
  have : go [] (go [] u).reverse = go [] u := go_self (go_rd rd_nil hu)
  rw [this]
theorem cut_app {u v : List Nat} (hu : Wd u) (hv : Wd v) : cut (cut u ++ cut v) = cut (u ++ v) := by
  rw [cut_app_l hu, cut_app_r hu hv]
/-- backwards of the reduced word, or of the word -/
theorem cut_rev {w : List Nat} (h : Wd w) : cut (cut w).reverse = cut w.reverse := by
  -- both lead from the stack of w to nothing; so they lead alike from every stack
  have hr : Wd w.reverse := wd_rev.mpr h
  have hcw := cut_wd h
  have hcr : Wd (cut w).reverse := wd_rev.mpr hcw
  have e1 : go (go [] w) (cut w).reverse = [] := by
    have := go_home (s := []) rd_nil hcw
    rw [go_cut rd_nil h] at this
    exact this
  have e2 : go (go [] w) w.reverse = [] := go_home rd_nil h
  -- go back by w from []: (go [] w.reverse) led on by w is []
  have key : ∀ {v : List Nat}, Wd v → go (go [] w) v = [] → go [] v = go [] w.reverse := by
    intro v hv e
    have f1 : go (go (go [] w) v) v.reverse = go [] w := go_home (go_rd rd_nil h) hv
    rw [e] at f1
    -- v.reverse leads [] to the stack of w
    have f2 : go (go [] v.reverse) v = [] := by
      have := go_home (s := []) rd_nil (wd_rev.mpr hv)
      rw [List.reverse_reverse] at this
      exact this
    -- go [] v: act by stack of v; show that go [] w.reverse = go [] v by uniqueness: cut (w ++ v) = []
    have g1 : cut (w ++ v) = [] := by
      unfold cut
      rw [go_append, e]
      rfl
    have g2 : go (go [] w.reverse) (cut (w ++ v)) = go (go [] w.reverse) (w ++ v) := go_cut (go_rd rd_nil hr) (wd_append.mpr ⟨h, hv⟩)
    rw [g1, go_append] at g2
    have g3 : go (go [] w.reverse) w = [] := by
      have := go_home (s := []) rd_nil hr
      rw [List.reverse_reverse] at this
      exact this
    rw [g3] at g2
    exact g2.symm
  unfold cut
  have := key hcr e1
  unfold cut at this
  rw [this]
/-- the words whose difference vanishes have one reduced word -/
theorem cut_eq_of {u v : List Nat} (hu : Wd u) (hv : Wd v) (h : cut (u.reverse ++ v) = []) : cut u = cut v := by
  have hr : Wd u.reverse := wd_rev.mpr hu
  have e : cut (u ++ cut (u.reverse ++ v)) = cut (u ++ (u.reverse ++ v)) := cut_app_r hu (wd_append.mpr ⟨hr, hv⟩)
  rw [h, List.append_nil, ← List.append_assoc] at e
  rw [e]
  unfold cut
  rw [go_append, go_append, go_home rd_nil hu]
end Nw

/-! Reduced words read forwards, their syllables, and one reduced word behind another one. -/
namespace Nw

def Fw : List Nat → Prop
  | [] => True
  | [c] => Sg c
  | a :: b :: r => Sg a ∧ Nb b a ∧ Fw (b :: r)
theorem Fw.tail {a : Nat} {r : List Nat} (h : Fw (a :: r)) : Fw r := by
  cases r with
  | nil => trivial
  | cons b q => exact h.2.2
theorem Fw.head {a : Nat} {r : List Nat} (h : Fw (a :: r)) : Sg a := by
  cases r with
  | nil => exact h
  | cons b q => exact h.1
theorem Fw.nb {a b : Nat} {r : List Nat} (h : Fw (a :: b :: r)) : Nb b a := h.2.1
theorem Fw.wd : ∀ {r : List Nat}, Fw r → Wd r
  | [], _ => fun c h => by cases h
  | a :: r, h => fun c hc => by
    rcases List.mem_cons.mp hc with e | e
    · rw [e]; exact h.head
    · exact Fw.wd h.tail c e
theorem rd_snoc : ∀ {t : List Nat} {b a : Nat}, Rd (t ++ [b]) → Nb b a → Sg a → Rd (t ++ [b] ++ [a])
  | [], b, a, h, n, s => ⟨h, n, s⟩
  | [c], b, a, h, n, s => ⟨h.1, h.2.1, rd_snoc (t := []) h.2.2 n s⟩
  | c :: d :: t, b, a, h, n, s => ⟨h.1, h.2.1, rd_snoc (t := d :: t) h.2.2 n s⟩
theorem snoc_rd : ∀ {t : List Nat} {b a : Nat}, Rd (t ++ [b] ++ [a]) → Rd (t ++ [b]) ∧ Nb b a ∧ Sg a
  | [], b, a, h => ⟨h.1, h.2.1, h.2.2⟩
  | [c], b, a, h => by
    obtain ⟨h1, h2, h3⟩ := h
    obtain ⟨k1, k2, k3⟩ := snoc_rd (t := []) h3
    exact ⟨⟨h1, h2, k1⟩, k2, k3⟩
  | c :: d :: t, b, a, h => by
    obtain ⟨h1, h2, h3⟩ := h
    obtain ⟨k1, k2, k3⟩ := snoc_rd (t := d :: t) h3
    exact ⟨⟨h1, h2, k1⟩, k2, k3⟩
theorem fw_rd : ∀ {u : List Nat}, Fw u → Rd u.reverse
  | [], _ => trivial
  | [c], h => h
  | a :: b :: r, h => by
    have ih := fw_rd h.tail
    rw [List.reverse_cons, List.reverse_cons]
    rw [List.reverse_cons] at ih
    exact rd_snoc ih h.nb h.head
theorem rd_fw : ∀ {u : List Nat}, Rd u.reverse → Fw u
  | [], _ => trivial
  | [c], h => h
  | a :: b :: r, h => by
    rw [List.reverse_cons, List.reverse_cons] at h
    obtain ⟨h1, h2, h3⟩ := snoc_rd h
    rw [← List.reverse_cons] at h1
    exact ⟨h3, h2, rd_fw h1⟩
theorem fw_cut {u : List Nat} (h : Wd u) : Fw (cut u) := rd_fw (rd_cut h)
theorem cut_of_fw {u : List Nat} (h : Fw u) : cut u = u := cut_of_rd (fw_rd h)
theorem Fw.drop : ∀ {u : List Nat} (n : Nat), Fw u → Fw (u.drop n)
  | u, 0, h => h
  | [], n + 1, h => h
  | a :: r, n + 1, h => Fw.drop (u := r) n h.tail
theorem Rd.drop : ∀ {u : List Nat} (n : Nat), Rd u → Rd (u.drop n)
  | u, 0, h => h
  | [], n + 1, h => h
  | a :: r, n + 1, h => Rd.drop (u := r) n h.tail

/-- what does not meet is put on as it is -/
theorem go_on : ∀ {s p : List Nat}, Rd p → Fw s → (∀ a r c q, p = a :: r → s = c :: q → Nb c a) → go p s = s.reverse ++ p
  | [], p, _, _, _ => rfl
  | c :: q, p, hp, hs, h => by
    have h1 : step p c = c :: p := by
      cases p with
      | nil => rfl
      | cons a r => exact step_push (h a r c q rfl rfl)
    have h2 : Rd (c :: p) := rd_cons hs.head hp fun a r e => h a r c q e rfl
    rw [go_cons, h1, go_on h2 hs.tail (fun a r d t e1 e2 => by cases e1; subst e2; exact hs.nb), List.reverse_cons, List.append_assoc]
    rfl

/-- the last syllable of a stack, and what is below it -/
def lastS : List Nat → List Nat × List Nat
  | 50 :: 48 :: r => ([48, 50], r)
  | c :: r => ([c], r)
  | [] => ([], [])
def firstS : List Nat → List Nat × List Nat
  | 48 :: 50 :: r => ([48, 50], r)
  | c :: r => ([c], r)
  | [] => ([], [])

theorem lastS_of {p : List Nat} (hp : Rd p) (hne : p ≠ []) :
    (∃ r, p = 50 :: 48 :: r ∧ lastS p = ([48, 50], r) ∧ (r = [] ∨ ∃ q, r = 49 :: q)) ∨
    (∃ c r, p = c :: r ∧ lastS p = ([c], r) ∧ (c = 49 ∨ ((c = 48 ∨ c = 50) ∧ (r = [] ∨ ∃ q, r = 49 :: q)))) := by
  cases p with
  | nil => exact absurd rfl hne
  | cons c r =>
    have b49 : ∀ {q : List Nat}, Rd (48 :: q) → q = [] ∨ ∃ t, q = 49 :: t := by
      intro q hq
      cases q with
      | nil => exact .inl rfl
      | cons b t => exact .inr ⟨t, by rw [not48 hq b t rfl]⟩
    rcases hp.head with e | e | e
    · subst e
      refine .inr ⟨48, r, rfl, ?_, .inr ⟨.inl rfl, b49 hp⟩⟩
      cases r <;> rfl
    · subst e
      refine .inr ⟨49, r, rfl, ?_, .inl rfl⟩
      cases r <;> rfl
    · subst e
      cases r with
      | nil => exact .inr ⟨50, [], rfl, rfl, .inr ⟨.inr rfl, .inl rfl⟩⟩
      | cons b q =>
        by_cases e : b = 48
        · subst e
          exact .inl ⟨q, rfl, rfl, b49 hp.tail⟩
        · have hb : b = 49 := by
            rcases hp.tail.head with z | z | z
            · exact absurd z e
            · exact z
            · exact absurd z.symm (nb_of hp).1
          subst hb
          exact .inr ⟨50, 49 :: q, rfl, rfl, .inr ⟨.inr rfl, .inr ⟨q, rfl⟩⟩⟩
theorem firstS_of {s : List Nat} (hs : Fw s) (hne : s ≠ []) :
    (∃ r, s = 48 :: 50 :: r ∧ firstS s = ([48, 50], r) ∧ (r = [] ∨ ∃ q, r = 49 :: q)) ∨
    (∃ c r, s = c :: r ∧ firstS s = ([c], r) ∧ (c = 49 ∨ ((c = 48 ∨ c = 50) ∧ (r = [] ∨ ∃ q, r = 49 :: q)))) := by
  cases s with
  | nil => exact absurd rfl hne
  | cons c r =>
    have b49 : ∀ {q : List Nat}, Fw (50 :: q) → q = [] ∨ ∃ t, q = 49 :: t := by
      intro q hq
      cases q with
      | nil => exact .inl rfl
      | cons b t =>
        refine .inr ⟨t, ?_⟩
        rcases hq.tail.head with z | z | z
        · exact absurd ⟨rfl, z⟩ hq.nb.2
        · rw [z]
        · exact absurd z hq.nb.1
    rcases hs.head with e | e | e
    · subst e
      cases r with
      | nil => exact .inr ⟨48, [], rfl, rfl, .inr ⟨.inl rfl, .inl rfl⟩⟩
      | cons b q =>
        rcases hs.tail.head with z | z | z
        · exact absurd z hs.nb.1
        · subst z
          exact .inr ⟨48, 49 :: q, rfl, rfl, .inr ⟨.inl rfl, .inr ⟨q, rfl⟩⟩⟩
        · subst z
          exact .inl ⟨q, rfl, rfl, b49 hs.tail⟩
    · subst e
      refine .inr ⟨49, r, rfl, ?_, .inl rfl⟩
      cases r <;> rfl
    · subst e
      refine .inr ⟨50, r, rfl, ?_, .inr ⟨.inr rfl, b49 hs⟩⟩
      cases r <;> rfl

/-- the same syllable: both vanish -/
theorem meet_same {p s : List Nat} (hp : Rd p) (hs : Fw s) (np : p ≠ []) (ns : s ≠ []) (h : (lastS p).1 = (firstS s).1) : go p s = go (lastS p).2 (firstS s).2 := by
  rcases lastS_of hp np with ⟨r, rfl, e, _⟩ | ⟨c, r, rfl, e, _⟩ <;> rcases firstS_of hs ns with ⟨q, rfl, f, _⟩ | ⟨d, q, rfl, f, _⟩ <;> rw [e, f] at h <;> rw [e, f]
  · show go (step (step (50 :: 48 :: r) 48) 50) q = go r q
    rw [step_02, step_same]
  · cases h
  · cases h
  · cases h
    show go (step (c :: r) c) q = go r q
    rw [step_same]
/-- unlike ones, one of them "1": nothing meets -/
theorem meet_one {p s : List Nat} (hp : Rd p) (hs : Fw s) (np : p ≠ []) (ns : s ≠ []) (h : (lastS p).1 ≠ (firstS s).1) (h1 : (lastS p).1 = [49] ∨ (firstS s).1 = [49]) : go p s = s.reverse ++ p := by
  refine go_on hp hs fun a r c q e1 e2 => ?_
  subst e1 e2
  have ha := hp.head
  have hc := hs.head
  have key : a ≠ c ∧ (a = 49 ∨ c = 49) := by
    rcases lastS_of hp np with ⟨r', e0, e, _⟩ | ⟨a', r', e0, e, _⟩ <;> rcases firstS_of hs ns with ⟨q', f0, f, _⟩ | ⟨c', q', f0, f, _⟩ <;> rw [e, f] at h h1 <;> cases e0 <;> cases f0
    · exact absurd rfl h
    · rcases h1 with z | z
      · cases z
      · cases z; exact ⟨by decide, .inr rfl⟩
    · rcases h1 with z | z
      · cases z; exact ⟨by decide, .inl rfl⟩
      · cases z
    · refine ⟨fun z => h (by rw [z]), ?_⟩
      rcases h1 with z | z
      · cases z; exact .inl rfl
      · cases z; exact .inr rfl
  refine ⟨fun z => key.1 z.symm, fun z => ?_⟩
  rcases key.2 with y | y
  · rw [y] at z; cases z.1
  · rw [y] at z; cases z.2
/-- the codes of the syllables but "1" -/
def cdS (t : List Nat) : Nat := if t = [48] then 1 else if t = [50] then 2 else if t = [48, 50] then 3 else 4
def sgS (c : Nat) : List Nat := if c = 1 then [48] else if c = 2 then [50] else [48, 50]
theorem fin {a b m X q r : List Nat} (h : (sgS (cdS a ^^^ cdS b)).reverse = m) (e : X = q.reverse ++ (m ++ r)) : X = q.reverse ++ ((sgS (cdS a ^^^ cdS b)).reverse ++ r) := by
  rw [h]; exact e
/-- unlike ones, none of them "1": they are put together -/
theorem meet_two {p s : List Nat} (hp : Rd p) (hs : Fw s) (np : p ≠ []) (ns : s ≠ []) (h : (lastS p).1 ≠ (firstS s).1) (h1 : (lastS p).1 ≠ [49]) (h2 : (firstS s).1 ≠ [49]) :
    go p s = (firstS s).2.reverse ++ ((sgS (cdS (lastS p).1 ^^^ cdS (firstS s).1)).reverse ++ (lastS p).2) ∧ (cdS (lastS p).1 = 1 ∨ cdS (lastS p).1 = 2 ∨ cdS (lastS p).1 = 3) ∧ (cdS (firstS s).1 = 1 ∨ cdS (firstS s).1 = 2 ∨ cdS (firstS s).1 = 3) := by
  -- below and behind stands a "1" or nothing
  have rest : ∀ {m r q : List Nat}, (r = [] ∨ ∃ t, r = 49 :: t) → (q = [] ∨ ∃ t, q = 49 :: t) → Rd r → Fw q → (m = [48] ∨ m = [50] ∨ m = [50, 48]) → go (m ++ r) q = q.reverse ++ (m ++ r) := by
    intro m r q hr hq rr fq hm
    have nb : ∀ {x : Nat}, x = 48 ∨ x = 50 → ∀ a t, r = a :: t → Nb x a := by
      intro x hx a t e
      rcases hr with z | ⟨t', z⟩
      · rw [z] at e; cases e
      · rw [z] at e; cases e
        rcases hx with y | y <;> subst y
        · exact ⟨by decide, fun y => by cases y.1⟩
        · exact ⟨by decide, fun y => by cases y.1⟩
    have hrd : Rd (m ++ r) := by
      rcases hm with e | e | e <;> subst e
      · exact rd_cons (.inl rfl) rr (nb (.inl rfl))
      · exact rd_cons (.inr (.inr rfl)) rr (nb (.inr rfl))
      · exact rd_cons (.inr (.inr rfl)) (rd_cons (.inl rfl) rr (nb (.inl rfl))) fun a t e => by cases e; exact ⟨by decide, fun y => by cases y.2⟩
    refine go_on hrd fq fun a t c u e1 e2 => ?_
    rcases hq with z | ⟨t', z⟩
    · rw [z] at e2; cases e2
    · rw [z] at e2; cases e2
      rcases hm with e | e | e <;> subst e <;> cases e1 <;> exact ⟨by decide, fun y => by cases y.2⟩
  have st : ∀ {x : Nat} {r : List Nat}, (x = 48 ∨ x = 50) → (r = [] ∨ ∃ t, r = 49 :: t) → step r x = x :: r := by
    intro x r hx hr
    rcases hr with z | ⟨t, z⟩ <;> subst z
    · rfl
    · rcases hx with y | y <;> subst y
      · exact step_push ⟨by decide, fun y => by cases y.1⟩
      · exact step_push ⟨by decide, fun y => by cases y.1⟩
  have s2 : ∀ {r : List Nat}, (r = [] ∨ ∃ t, r = 49 :: t) → step (50 :: r) 48 = 50 :: 48 :: r := by
    intro r hr
    refine step_2 fun q e => ?_
    rcases hr with z | ⟨t, z⟩ <;> rw [z] at e <;> cases e
  have s0 : ∀ {r : List Nat}, step (48 :: r) 50 = 50 :: 48 :: r := step_push ⟨by decide, fun y => by cases y.2⟩
  rcases lastS_of hp np with ⟨r, rfl, e, hr⟩ | ⟨a, r, rfl, e, hr⟩
  · rcases firstS_of hs ns with ⟨q, rfl, f, hq⟩ | ⟨c, q, rfl, f, hq⟩
    · rw [e, f] at h; exact absurd rfl h
    · rw [e] at h h1 ⊢; rw [f] at h h2 ⊢
      rcases hq with z | ⟨z, hq⟩
      · subst z; exact absurd rfl h2
      · have fq := hs.tail
        rcases z with z | z <;> subst z
        · refine ⟨?_, .inr (.inr rfl), .inl rfl⟩
          show go (step (50 :: 48 :: r) 48) q = _
          rw [step_02]
          exact fin (by dsimp only; decide) (rest (m := [50]) hr hq hp.tail.tail fq (.inr (.inl rfl)))
        · refine ⟨?_, .inr (.inr rfl), .inr (.inl rfl)⟩
          show go (step (50 :: 48 :: r) 50) q = _
          rw [step_same]
          exact fin (by dsimp only; decide) (rest (m := [48]) hr hq hp.tail.tail fq (.inl rfl))
  · rcases hr with z | ⟨z, hr⟩
    · rw [e] at h1; subst z; exact absurd rfl h1
    · rcases firstS_of hs ns with ⟨q, rfl, f, hq⟩ | ⟨c, q, rfl, f, hq⟩
      · rw [e] at h h1 ⊢; rw [f] at h h2 ⊢
        have fq := hs.tail.tail
        rcases z with z | z <;> subst z
        · refine ⟨?_, .inl rfl, .inr (.inr rfl)⟩
          show go (step (step (48 :: r) 48) 50) q = _
          rw [step_same, st (.inr rfl) hr]
          exact fin (by dsimp only; decide) (rest (m := [50]) hr hq hp.tail fq (.inr (.inl rfl)))
        · refine ⟨?_, .inr (.inl rfl), .inr (.inr rfl)⟩
          show go (step (step (50 :: r) 48) 50) q = _
          rw [s2 hr, step_same]
          exact fin (by dsimp only; decide) (rest (m := [48]) hr hq hp.tail fq (.inl rfl))
      · rw [e] at h h1 ⊢; rw [f] at h h2 ⊢
        rcases hq with y | ⟨y, hq⟩
        · subst y; exact absurd rfl h2
        · have fq := hs.tail
          rcases z with z | z <;> subst z <;> rcases y with y | y <;> subst y
          · exact absurd rfl h
          · refine ⟨?_, .inl rfl, .inr (.inl rfl)⟩
            show go (step (48 :: r) 50) q = _
            rw [s0]
            exact fin (by dsimp only; decide) (rest (m := [50, 48]) hr hq hp.tail fq (.inr (.inr rfl)))
          · refine ⟨?_, .inr (.inl rfl), .inl rfl⟩
            show go (step (50 :: r) 48) q = _
            rw [s2 hr]
            exact fin (by dsimp only; decide) (rest (m := [50, 48]) hr hq hp.tail fq (.inr (.inr rfl)))
          · exact absurd rfl h
end Nw

/-! Texts backwards, and then replaced. -/
namespace Nr
open PySem PySem.Spec PyProof.Rows L2

def revS (z : Str) : Str := ⟨z.cps.toList.reverse.toArray⟩
theorem revS_len (z : Str) : (revS z).length = z.length := by
  show z.cps.toList.reverse.toArray.size = z.cps.size
  rw [List.size_toArray, List.length_reverse, Array.length_toList]
theorem back_indices (n : Nat) : Builtin.Str.strSliceIndices none none (-1) n = (List.range n).reverse := by
  have h : Builtin.Str.strSliceIndices none none (-1) n = sliceRange ((n : Int) - 1) (-1) (-1) := rfl
  rw [h, PySem.W.krv_sliceRange, PySem.W.krv_range]
theorem back_text (z : Str) : (⟨((Builtin.Str.strSliceIndices none none (-1) z.length).filterMap (z.cps[·]?)).toArray⟩ : Str) = revS z := by
  rw [back_indices, List.filterMap_reverse]
  unfold revS
  rw [show z.length = z.cps.size from rfl, PySem.W.krv_all]

section
variable {X : Cx} {e : Expr} {te : TE} {k : Nat} {p1 p2 p3 pos : Pos}
def tRevS (te : TE) : TE := fun σ H Q => te σ H fun x H1 => ∃ z, x = .str z ∧ z.length ≤ sizeLine ∧ Q (.str (revS z)) H1
/-- e[::-1] of a text; a token is out behind it -/
theorem rev_run (he : PE X e te) {pins : List (Addr × Obj)} {σ : L2.St} {H : Hp} {Q : VK} {s : Shared} (I : L2.Inv X pins σ H s) (h : tRevS te σ H Q) :
    wpAny (model X.prog X.w) X.A (eval (.Subscript e (.Slice none none (some (.UnaryOp .USub (.Constant (.int 1) k p1) p2)) p3) pos) X.env) (fun v s' => 1 ≤ s'.toks ∧ EP X pins σ Q v s') X.xe s := by
  refine Subscript_ (thn (he.run pins s σ H _ I h) fun v s1 ⟨x, H1, I1, r1, z, ex, hz, q⟩ => ?_)
  subst ex
  obtain ⟨tz, rfl⟩ := r1
  apply wpAny_Slice
  refine thn (po_none.run pins s1 σ H1 (fun o G => o = none ∧ G = H1) I1 ⟨rfl, rfl⟩) ?_
  rintro vl s2 ⟨l, _, I2, pl, rfl, rfl⟩
  refine thn (po_none.run pins s2 σ _ (fun o G => o = none ∧ G = _) I2 ⟨rfl, rfl⟩) ?_
  rintro vu s3 ⟨u, _, I3, pu, rfl, rfl⟩
  refine thn ((po_some (pe_un un_neg pe_int)).run pins s3 σ _ (fun o G => o = some (-1) ∧ G = _) I3 ⟨1, rfl, -1, rfl, rfl, rfl⟩) ?_
  rintro vs s4 ⟨o, H4, I4, ps, rfl, rfl⟩
  have I5 := I4.kept (t' := s4.toks) (h' := s4.heap.push { cls := .type "slice", data := .fields #[vl, vu, vs] }) fun b ob y => Heap.get?_push_of_some _ y
  obtain ⟨l, rfl, hl⟩ := L2.IsPart.raw pl
  obtain ⟨u, rfl, hu⟩ := L2.IsPart.raw pu
  obtain ⟨t, rfl, ht⟩ := L2.IsPart.raw ps
  cases l with
  | some l => cases hl
  | none =>
  cases u with
  | some u => cases hu
  | none =>
  cases t with
  | none => cases ht
  | some t =>
  obtain ⟨i, ti⟩ := t
  cases ht
  refine tail_any (ops := [.str z tz, .ref s4.heap.objs.size]) (typeIs_str _ z tz) PySem.F.slot_str_getitem.lookup ?_ (by with_unfolding_all rfl)
  refine wpAny_getItem_str_slice (l := none) (u := none) (st := some (-1, ti)) ⟨_, Heap.get?_push_size _ rfl, rfl, rfl⟩ rfl ?_
  have e := back_text z
  show Made.post (if ((-1 : Int) == 1 && (Builtin.Str.strSliceIndices none none (-1) z.length).length == z.length) = true then Made.val (.str z tz) else Made.str ⟨((Builtin.Str.strSliceIndices none none (-1) z.length).filterMap (z.cps[·]?)).toArray⟩) _ _
  rw [if_neg (by intro y; cases y), e]
  refine ⟨?_, Nat.succ_le_succ (Nat.zero_le _), .str (revS z), H4, I5.tok _, ⟨_, rfl⟩, q⟩
  rw [revS_len]
  exact hz
theorem pe_revS (he : PE X e te) : PE X (.Subscript e (.Slice none none (some (.UnaryOp .USub (.Constant (.int 1) k p1) p2)) p3) pos) (tRevS te) :=
  ⟨fun pins s σ H Q I h => thn (rev_run he I h) fun v s' y => y.2⟩

/-- e[::-1].replace(a, b) of written texts -/
def tRevRepl (te : TE) (a b : Str) : TE := fun σ H Q => tRevS te σ H fun v H1 => ∃ z, v = .str z ∧ z.length + (z.length + 1) * b.length ≤ 16777216 ∧ Q (.str (Txt.replace z a b)) H1
theorem pe_revRepl {a b : Str} {j m : Nat} {c0 c1 apos pos2 : Pos} (he : PE X e te) (hab : (a == b) = false := by decide)
    (hst : starEach [.Constant (.str a) j c0, .Constant (.str b) m c1] X.env = [(false, eval (.Constant (.str a) j c0) X.env), (false, eval (.Constant (.str b) m c1) X.env)] := by rfl)
    (hbase : attributeBase (.Subscript e (.Slice none none (some (.UnaryOp .USub (.Constant (.int 1) k p1) p2)) p3) pos) "replace" X.env (eval (.Subscript e (.Slice none none (some (.UnaryOp .USub (.Constant (.int 1) k p1) p2)) p3) pos) X.env) =
      eval (.Subscript e (.Slice none none (some (.UnaryOp .USub (.Constant (.int 1) k p1) p2)) p3) pos) X.env := by rfl) (hline : (apos.endLine == pos2.line) = true := by rfl) :
    PE X (.Call (.Attribute (.Subscript e (.Slice none none (some (.UnaryOp .USub (.Constant (.int 1) k p1) p2)) p3) pos) "replace" apos) [.Constant (.str a) j c0, .Constant (.str b) m c1] [] pos2) (tRevRepl te a b) := by
  constructor
  intro pins s σ H Q I h
  refine PySem.Call_method2 hbase hst hline (thn (rev_run he I h) ?_)
  rintro v s1 ⟨hk, v', H1, I1, r1, z, rfl, hb, q⟩
  obtain ⟨tx, rfl⟩ := r1
  have n1 : s1.toks ≠ 0 := Nat.ne_of_gt hk
  have rest := PySem.SC.replace (prog := X.prog) (w := X.w) (A := X.A) (E := X.xe) (s := { s1 with toks := s1.toks + 1 + 1 }) (x := z) (y := a) (z := b) (t := tx) (u := s1.toks) (v := s1.toks + 1) (Q := EP X pins σ Q)
    n1 (Nat.succ_ne_zero _) (Nat.ne_of_lt (Nat.lt_succ_self _)) hab hb (fun t' k' => ⟨.str (Txt.replace z a b), H1, I1.tok k', ⟨t', rfl⟩, q⟩)
  refine ⟨"str", _, PySem.F.plainAttrs_str, PySem.F.slot_str_replace,
    PySem.F.type_str_replace, typeIs_str _ _ _, (fun _ y => nomatch y), ?_⟩
  apply Calls.callWith_builtin rfl
  apply Calls.evalArgs_plain
  refine Calls.spliced_cons (Calls.Constant_str
    (Calls.spliced_cons (Calls.Constant_str
      (Calls.spliced_nil ?_))))
  exact rest
end
end Nr

/-! min(xs) of a list of texts, as the layer's words. -/
namespace Nr
open PySem PySem.Spec PyProof.Rows L2
def rMinS (K : PySem.W.Frag) : List V → Hp → VK → Prop := fun vs H Q => ∃ (a : Addr) (x : Str) (xs : List Str), vs = [V.ref a] ∧ SqL K H a ((x :: xs).map V.str) ∧ ∀ m, m ∈ x :: xs → (∀ y ∈ x :: xs, ¬ (y.cps.toList < m.cps.toList)) → Q (.str m) H
theorem strs_depth : ∀ xs : List Str, PyData.depthAll (xs.map PyData.str) = 0
  | [] => rfl
  | x :: r => by
    show max (PyData.depth (.str x)) (PyData.depthAll (r.map PyData.str)) = 0
    rw [strs_depth r]
    rfl
theorem dp_strs {K : PySem.W.Frag} {H : Hp} : ∀ xs : List Str, DpAll K H (xs.map V.str) (xs.map PyData.str)
  | [] => .nil
  | x :: r => .cons (.str x) (dp_strs r)
theorem minD_strs (xs : List Str) : ∀ x : Str, ∃ m, PySem.W.minD (.str x) (xs.map PyData.str) = .str m ∧ m ∈ x :: xs ∧ ∀ y ∈ x :: xs, ¬ (y.cps.toList < m.cps.toList) := by
  induction xs with
  | nil => exact fun x => ⟨x, rfl, List.mem_cons_self, fun y hy => by rw [List.mem_singleton.mp hy]; exact List.lt_irrefl _⟩
  | cons k r ih =>
    intro x
    have e : PySem.W.minD (.str x) ((k :: r).map PyData.str) = PySem.W.minD (.str (if k.cps.toList < x.cps.toList then k else x)) (r.map PyData.str) := by
      unfold PySem.W.minD
      rw [List.map_cons, List.foldl_cons, PySem.W.dataLt_str]
      by_cases h : k.cps.toList < x.cps.toList
      · rw [if_pos (decide_eq_true h), if_pos h]
      · rw [if_neg (by rw [decide_eq_false h]; decide), if_neg h]
    obtain ⟨m, h1, h2, h3⟩ := ih (if k.cps.toList < x.cps.toList then k else x)
    refine ⟨m, e.trans h1, ?_, ?_⟩
    · rcases List.mem_cons.mp h2 with z | z
      · rw [z]
        split
        · exact List.mem_cons_of_mem _ List.mem_cons_self
        · exact List.mem_cons_self
      · exact List.mem_cons_of_mem _ (List.mem_cons_of_mem _ z)
    · have hm := h3 _ List.mem_cons_self
      intro y hy
      rcases List.mem_cons.mp hy with z | z
      · subst z
        by_cases h : k.cps.toList < y.cps.toList
        · rw [if_pos h] at hm
          exact fun z => hm (List.lt_trans h z)
        · rw [if_neg h] at hm
          exact hm
      · rcases List.mem_cons.mp z with z | z
        · subst z
          by_cases h : y.cps.toList < x.cps.toList
          · rw [if_pos h] at hm
            exact hm
          · rw [if_neg h] at hm
            intro w
            rcases List.le_total x.cps.toList y.cps.toList with q | q
            · exact hm (List.lt_of_le_of_lt q w)
            · have e : x.cps.toList = y.cps.toList := List.le_antisymm (show x.cps.toList ≤ y.cps.toList from h) q
              exact hm (e ▸ w)
        · exact h3 y (List.mem_cons_of_mem _ z)
theorem cr_minS {X : Cx} (hc : X.calm = true) (hu : X.A.units + 1 < cLine) : CallR X (.builtin "min") (rMinS X.K) := by
  intro pins s σ H vs us Q I r h
  obtain ⟨a, x, xs, rfl, hs, q⟩ := h
  obtain ⟨its, rv, hl, _⟩ := I.list hs
  rw [Vals.ref1 r]
  obtain ⟨as, hr⟩ := Dp.readsAll I ((x :: xs).map PyData.str) _ its (dp_strs _) rv
  obtain ⟨m, e, hm, hle⟩ := minD_strs xs x
  refine PySem.W.min_list_data (x := .str x) (xs := xs.map PyData.str) (I.ok.hd hc) hl.isList hr ⟨?_, ?_⟩ ?_ ?_
  · intro d hd d' hd'
    obtain ⟨z, _, rfl⟩ := List.mem_map.mp (show d ∈ (x :: xs).map PyData.str from hd)
    obtain ⟨z', _, rfl⟩ := List.mem_map.mp (show d' ∈ (x :: xs).map PyData.str from hd')
    rfl
  · intro d hd
    obtain ⟨z, _, rfl⟩ := List.mem_map.mp (show d ∈ (x :: xs).map PyData.str from hd)
    intro z
    cases z
  · have := strs_depth (x :: xs)
    rw [List.map_cons] at this
    rw [this]
    exact hu
  · intro i v h' tk bs _ rd hk
    rw [e] at rd
    obtain ⟨t, rfl, _⟩ := reads_str_inv rd
    exact ⟨.str m, H, I.kept hk, ⟨t, rfl⟩, q m hm hle⟩
end Nr

/-! A text done so many times; sorted lists of texts are told by what is in them. -/
namespace Nr
open PySem PySem.Spec PyProof.Rows L2 Builtin Builtin.Str
theorem mul_ok {x : Str} {k : Nat} (h : x.length * k ≤ 100000) (hk : k ≤ 100000) : MulOk x (k : Int) := by
  have p63 : (2 : Int) ^ 63 = 9223372036854775808 := by decide
  refine ⟨?_, fun h1 hb => ?_, fun _ _ => ?_⟩
  · rw [p63, decide_eq_false (by omega), decide_eq_false (by omega)]
    rfl
  ·
    have k0 : 0 < (k : Int) := by
      by_cases e : k = 0
      · subst e
        simp at *
      · omega
    have hx : (x.length : Int) ≤ 100000 := by
      have : x.length * 1 ≤ x.length * k := Nat.mul_le_mul_left _ (by omega)
      omega
    have : (x.length : Int) * k ≤ 2 ^ 63 - 1 := by
      have e1 : (x.length : Int) * k = ((x.length * k : Nat) : Int) := (Int.natCast_mul _ _).symm
      rw [p63, e1]
      omega
    have := (Int.le_ediv_iff_mul_le k0).mpr this
    omega
  · unfold tooLong
    have e : ((k : Int)).toNat = k := Int.toNat_natCast k
    rw [e]
    exact decide_eq_false (by rw [sizeLine_eq]; omega)
theorem op_mulS {X : Cx} : OpR X (binaryOp .Mult) (fun x y H Q => ∃ (a : Str) (k : Nat), x = .str a ∧ y = .int (k : Int) ∧ a.length * k ≤ 100000 ∧ k ≤ 100000 ∧ Q (.str (Txt.mul a (k : Int))) H) := by
  intro pins s σ H x y v u Q I rx ry h
  obtain ⟨a, k, rfl, rfl, h1, h2, q⟩ := h
  obtain ⟨t, rfl⟩ := rx
  obtain ⟨t', rfl⟩ := ry
  exact PySem.SB.mul (mul_ok h1 h2) fun t'' kk => ⟨.str (Txt.mul a (k : Int)), H, I.tok kk, ⟨t'', rfl⟩, q⟩
theorem fold_app (l : List (Array Nat)) : ∀ a : Array Nat, (l.foldl (· ++ ·) a).toList = a.toList ++ (l.map (·.toList)).flatten := by
  induction l with
  | nil => intro a; simp
  | cons x r ih => intro a; rw [List.foldl_cons, ih]; simp
theorem mul_list (u : List Nat) (k : Nat) : Txt.mul (⟨u.toArray⟩ : Str) (k : Int) = ⟨(List.replicate k u).flatten.toArray⟩ := by
  unfold Txt.mul
  cases k with
  | zero => rw [if_pos (by decide)]; rfl
  | succ k =>
    rw [if_neg (by omega)]
    split
    · next h =>
      rcases Bool.or_eq_true_iff.mp h with e | e
      · have : ((k + 1 : Nat) : Int) = 1 := by simpa using e
        have k0 : k = 0 := by omega
        subst k0
        simp
      · have : u = [] := by
          have h0 : (⟨u.toArray⟩ : Str).length = 0 := by simpa using e
          have h1 : u.length = 0 := h0
          exact List.length_eq_zero_iff.mp h1
        subst this
        simp
    · refine congrArg Str.mk (Array.toList_inj.mp ?_)
      rw [fold_app, Int.toNat_natCast]
      simp
theorem rise_all : ∀ (r : List Str) (x : Str), risingS x r = true → ∀ y ∈ r, x.cps.toList ≤ y.cps.toList
  | [], _, _, y, hy => by cases hy
  | z :: r, x, h, y, hy => by
    have h' : (!ltCps z.cps.toList x.cps.toList && risingS z r) = true := h
    obtain ⟨h1, h2⟩ := Bool.and_eq_true_iff.mp h'
    have xz : x.cps.toList ≤ z.cps.toList := by
      rw [ltCps_eq] at h1
      simpa using h1
    rcases List.mem_cons.mp hy with e | e
    · rw [e]; exact xz
    · exact List.le_trans xz (rise_all r z h2 y e)
theorem rise_tail {x : Str} : ∀ {r : List Str}, risingS x r = true → sortedS r = true
  | [], _ => rfl
  | z :: r, h => (Bool.and_eq_true_iff.mp (show (!ltCps z.cps.toList x.cps.toList && risingS z r) = true from h)).2
theorem str_le_anti {x y : Str} (h : x.cps.toList ≤ y.cps.toList) (k : y.cps.toList ≤ x.cps.toList) : x = y := by
  have e := List.le_antisymm h k
  cases x
  cases y
  exact congrArg Str.mk (Array.toList_inj.mp e)
theorem sorted_uniq : ∀ {ys zs : List Str}, ys.Perm zs → sortedS ys = true → sortedS zs = true → ys = zs
  | [], zs, p, _, _ => (List.nil_perm.mp p).symm
  | x :: r, [], p, _, _ => absurd (List.perm_nil.mp p) (by simp)
  | x :: r, z :: t, p, h1, h2 => by
    have hx : ∀ y ∈ x :: r, x.cps.toList ≤ y.cps.toList := fun y hy => by
      rcases List.mem_cons.mp hy with e | e
      · rw [e]; exact List.le_refl _
      · exact rise_all r x h1 y e
    have hz : ∀ y ∈ z :: t, z.cps.toList ≤ y.cps.toList := fun y hy => by
      rcases List.mem_cons.mp hy with e | e
      · rw [e]; exact List.le_refl _
      · exact rise_all t z h2 y e
    have e : x = z := str_le_anti (hx z (p.mem_iff.mpr List.mem_cons_self)) (hz x (p.mem_iff.mp List.mem_cons_self))
    subst e
    rw [sorted_uniq (List.Perm.cons_inv p) (rise_tail h1) (rise_tail h2)]
end Nr

namespace K7
open PySem PySem.Spec PyProof.Rows L2 Nr Nw

def topS (i : Nat) : Stmt := PySem.Challenge.pw_netsredrawn_k07_whole_words_and_classes.main.body.getD i (.Pass ⟨0, 0, 0, 0⟩)
abbrev sPutCode : Stmt := topS 10
theorem scPutCode : FnScope ["codes", "code", "last"] ["codes", "code"] (defScope sPutCode) := ⟨rfl, rfl, rfl, by decide +kernel, rfl, by decide +kernel, by decide +kernel⟩
abbrev sCoded : Stmt := topS 11
theorem scCoded : FnScope ["word", "codes", "sign"] ["word"] (defScope sCoded) := ⟨rfl, rfl, rfl, by decide +kernel, rfl, by decide +kernel, by decide +kernel⟩
abbrev sSpelledOut : Stmt := topS 12
theorem scSpelledOut : FnScope ["codes", "code"] ["codes"] (defScope sSpelledOut) := ⟨rfl, rfl, rfl, by decide +kernel, rfl, by decide +kernel, by decide +kernel⟩
abbrev sIsReducedText : Stmt := topS 13
theorem scIsReducedText : FnScope ["word"] ["word"] (defScope sIsReducedText) := ⟨rfl, rfl, rfl, by decide +kernel, rfl, by decide +kernel, by decide +kernel⟩
abbrev sReducedText : Stmt := topS 14
theorem scReducedText : FnScope ["word"] ["word"] (defScope sReducedText) := ⟨rfl, rfl, rfl, by decide +kernel, rfl, by decide +kernel, by decide +kernel⟩
abbrev sIsNumber : Stmt := topS 16
theorem scIsNumber : FnScope ["value"] ["value"] (defScope sIsNumber) := ⟨rfl, rfl, rfl, by decide +kernel, rfl, by decide +kernel, by decide +kernel⟩
abbrev sIsNumberIn : Stmt := topS 17
theorem scIsNumberIn : FnScope ["value", "least", "most"] ["value", "least", "most"] (defScope sIsNumberIn) := ⟨rfl, rfl, rfl, by decide +kernel, rfl, by decide +kernel, by decide +kernel⟩
abbrev sNeedNumberIn : Stmt := topS 18
theorem scNeedNumberIn : FnScope ["value", "least", "most"] ["value", "least", "most"] (defScope sNeedNumberIn) := ⟨rfl, rfl, rfl, by decide +kernel, rfl, by decide +kernel, by decide +kernel⟩
abbrev sStrangePlace : Stmt := topS 19
theorem scStrangePlace : FnScope ["text", "place", "sign"] ["text"] (defScope sStrangePlace) := ⟨rfl, rfl, rfl, by decide +kernel, rfl, by decide +kernel, by decide +kernel⟩
abbrev sNeedWord : Stmt := topS 20
theorem scNeedWord : FnScope ["word", "place"] ["word"] (defScope sNeedWord) := ⟨rfl, rfl, rfl, by decide +kernel, rfl, by decide +kernel, by decide +kernel⟩
abbrev sTails : Stmt := topS 25
theorem scTails : FnScope ["many", "tails"] ["many"] (defScope sTails) := ⟨rfl, rfl, rfl, by decide +kernel, rfl, by decide +kernel, by decide +kernel⟩
abbrev sWaysOn : Stmt := topS 26
theorem scWaysOn : FnScope ["tails", "sign", "many"] ["tails", "sign", "many"] (defScope sWaysOn) := ⟨rfl, rfl, rfl, by decide +kernel, rfl, by decide +kernel, by decide +kernel⟩
abbrev sWordsWith : Stmt := topS 27
theorem scWordsWith : FnScope ["tails", "length", "sign"] ["tails", "length"] (defScope sWordsWith) := ⟨rfl, rfl, rfl, by decide +kernel, rfl, by decide +kernel, by decide +kernel⟩
abbrev sNumberOf : Stmt := topS 28
theorem scNumberOf : FnScope ["word", "text", "tails", "number", "ahead", "place", "sign", "other", "length"] ["word"] (defScope sNumberOf) := ⟨rfl, rfl, rfl, by decide +kernel, rfl, by decide +kernel, by decide +kernel⟩
abbrev sSignAt : Stmt := topS 29
theorem scSignAt : FnScope ["tails", "ahead", "number", "many", "sign", "ways"] ["tails", "ahead", "number", "many"] (defScope sSignAt) := ⟨rfl, rfl, rfl, by decide +kernel, rfl, by decide +kernel, by decide +kernel⟩
abbrev sWordNumbered : Stmt := topS 30
theorem scWordNumbered : FnScope ["number", "tails", "signs", "ahead", "many", "length", "left"] ["number"] (defScope sWordNumbered) := ⟨rfl, rfl, rfl, by decide +kernel, rfl, by decide +kernel, by decide +kernel⟩
abbrev sWordsOf : Stmt := topS 31
theorem scWordsOf : FnScope ["length"] ["length"] (defScope sWordsOf) := ⟨rfl, rfl, rfl, by decide +kernel, rfl, by decide +kernel, by decide +kernel⟩
abbrev sRingsClosed : Stmt := topS 32
theorem scRingsClosed : FnScope ["length", "_", "older", "newer"] ["length"] (defScope sRingsClosed) := ⟨rfl, rfl, rfl, by decide +kernel, rfl, by decide +kernel, by decide +kernel⟩
abbrev sClassesOf : Stmt := topS 33
theorem scClassesOf : FnScope ["length", "counts", "turn", "kept"] ["length"] (defScope sClassesOf) := ⟨rfl, rfl, rfl, by decide +kernel, rfl, by decide +kernel, by decide +kernel⟩
abbrev sLeastTail : Stmt := topS 34
theorem scLeastTail : FnScope ["ahead", "many"] ["ahead", "many"] (defScope sLeastTail) := ⟨rfl, rfl, rfl, by decide +kernel, rfl, by decide +kernel, by decide +kernel⟩
abbrev sNextWord : Stmt := topS 35
theorem scNextWord : FnScope ["word", "place", "sign"] ["word"] (defScope sNextWord) := ⟨rfl, rfl, rfl, by decide +kernel, rfl, by decide +kernel, by decide +kernel⟩
abbrev sNextWords : Stmt := topS 36
theorem scNextWords : FnScope ["word", "many", "text", "told"] ["word", "many"] (defScope sNextWords) := ⟨rfl, rfl, rfl, by decide +kernel, rfl, by decide +kernel, by decide +kernel⟩
abbrev sLawMixed : Stmt := topS 38
theorem scLawMixed : FnScope ["cell", "n", "blend"] ["cell", "n"] (defScope sLawMixed) := ⟨rfl, rfl, rfl, by decide +kernel, rfl, by decide +kernel, by decide +kernel⟩
abbrev sLawFolded : Stmt := topS 39
theorem scLawFolded : FnScope ["script", "found", "n", "cell"] ["script"] (defScope sLawFolded) := ⟨rfl, rfl, rfl, by decide +kernel, rfl, by decide +kernel, by decide +kernel⟩
abbrev sLawDraw : Stmt := topS 40
theorem scLawDraw : FnScope ["m", "limit", "n", "lot", "here", "cell"] ["m", "limit"] (defScope sLawDraw) := ⟨rfl, rfl, rfl, by decide +kernel, rfl, by decide +kernel, by decide +kernel⟩
abbrev sLawBegun : Stmt := topS 41
theorem scLawBegun : FnScope ["script", "m", "cell"] ["script"] (defScope sLawBegun) := ⟨rfl, rfl, rfl, by decide +kernel, rfl, by decide +kernel, by decide +kernel⟩
abbrev sLawLike : Stmt := topS 42
theorem scLawLike : FnScope ["got", "due"] ["got", "due"] (defScope sLawLike) := ⟨rfl, rfl, rfl, by decide +kernel, rfl, by decide +kernel, by decide +kernel⟩
abbrev sLawCut : Stmt := topS 43
theorem scLawCut : FnScope ["word", "kept", "sign"] ["word"] (defScope sLawCut) := ⟨rfl, rfl, rfl, by decide +kernel, rfl, by decide +kernel, by decide +kernel⟩
abbrev sLawWord : Stmt := topS 44
theorem scLawWord : FnScope ["m", "most", "turn"] ["m", "most"] (defScope sLawWord) := ⟨rfl, rfl, rfl, by decide +kernel, rfl, by decide +kernel, by decide +kernel⟩
abbrev sLawAllWords : Stmt := topS 45
theorem scLawAllWords : FnScope ["most", "turn", "found", "row", "longer", "word", "sign"] ["most"] (defScope sLawAllWords) := ⟨rfl, rfl, rfl, by decide +kernel, rfl, by decide +kernel, by decide +kernel⟩
abbrev sLawPieces : Stmt := topS 46
theorem scLawPieces : FnScope ["word", "found", "sign"] ["word"] (defScope sLawPieces) := ⟨rfl, rfl, rfl, by decide +kernel, rfl, by decide +kernel, by decide +kernel⟩
abbrev sLawRing : Stmt := topS 47
theorem scLawRing : FnScope ["word", "turn", "pieces", "way", "last", "first"] ["word"] (defScope sLawRing) := ⟨rfl, rfl, rfl, by decide +kernel, rfl, by decide +kernel, by decide +kernel⟩
abbrev sLawReadings : Stmt := topS 48
theorem scLawReadings : FnScope ["ring", "found", "n", "shifted"] ["ring"] (defScope sLawReadings) := ⟨rfl, rfl, rfl, by decide +kernel, rfl, by decide +kernel, by decide +kernel⟩
abbrev sLawLeast : Stmt := topS 49
theorem scLawLeast : FnScope ["word", "pieces"] ["word"] (defScope sLawLeast) := ⟨rfl, rfl, rfl, by decide +kernel, rfl, by decide +kernel, by decide +kernel⟩
abbrev sLawTens : Stmt := topS 50
theorem scLawTens : FnScope ["times", "found", "turn"] ["times"] (defScope sLawTens) := ⟨rfl, rfl, rfl, by decide +kernel, rfl, by decide +kernel, by decide +kernel⟩
abbrev sLawIsWord : Stmt := topS 51
theorem scLawIsWord : FnScope ["value", "sign"] ["value"] (defScope sLawIsWord) := ⟨rfl, rfl, rfl, by decide +kernel, rfl, by decide +kernel, by decide +kernel⟩
abbrev sLawFilled : Stmt := topS 52
theorem scLawFilled : FnScope ["word", "many", "n"] ["word", "many"] (defScope sLawFilled) := ⟨rfl, rfl, rfl, by decide +kernel, rfl, by decide +kernel, by decide +kernel⟩
abbrev sLawNext : Stmt := topS 53
theorem scLawNext : FnScope ["word", "n", "at", "sign", "kept", "last"] ["word"] (defScope sLawNext) := ⟨rfl, rfl, rfl, by decide +kernel, rfl, by decide +kernel, by decide +kernel⟩
abbrev sLawManyWords : Stmt := topS 54
theorem scLawManyWords : FnScope ["length", "n", "one", "two"] ["length"] (defScope sLawManyWords) := ⟨rfl, rfl, rfl, by decide +kernel, rfl, by decide +kernel, by decide +kernel⟩
abbrev sLawChoices : Stmt := topS 55
theorem scLawChoices : FnScope ["many", "some", "found", "n"] ["many", "some"] (defScope sLawChoices) := ⟨rfl, rfl, rfl, by decide +kernel, rfl, by decide +kernel, by decide +kernel⟩
abbrev sLawCommon : Stmt := topS 56
theorem scLawCommon : FnScope ["one", "two", "turn"] ["one", "two"] (defScope sLawCommon) := ⟨rfl, rfl, rfl, by decide +kernel, rfl, by decide +kernel, by decide +kernel⟩
abbrev sLawManyRings : Stmt := topS 57
theorem scLawManyRings : FnScope ["length", "found", "many", "rows", "turn", "part", "times", "longer"] ["length"] (defScope sLawManyRings) := ⟨rfl, rfl, rfl, by decide +kernel, rfl, by decide +kernel, by decide +kernel⟩
abbrev sLawDoubled : Stmt := topS 58
theorem scLawDoubled : FnScope ["times", "found", "n"] ["times"] (defScope sLawDoubled) := ⟨rfl, rfl, rfl, by decide +kernel, rfl, by decide +kernel, by decide +kernel⟩
abbrev sLawManyClasses : Stmt := topS 59
theorem scLawManyClasses : FnScope ["length", "mirrors"] ["length"] (defScope sLawManyClasses) := ⟨rfl, rfl, rfl, by decide +kernel, rfl, by decide +kernel, by decide +kernel⟩
abbrev sLaw : Stmt := topS 60
theorem scLaw : FnScope ["script", "m", "number", "word", "drawn", "due", "n", "start", "length", "ahead", "first", "rows", "firsts", "many", "one"] ["script"] (defScope sLaw) := ⟨rfl, rfl, rfl, by decide +kernel, rfl, by decide +kernel, by decide +kernel⟩

/-- a def of the text, behind the top -/
def Has (K : PySem.W.Frag) (mg : Str → Option Value) (x : String) (st : Stmt) (ps : List Str) : Prop :=
  ∃ (f : Addr) (fd : FuncData), mg x = some (.ref f) ∧ Fun K x x st f fd ∧ Binds K fd ps []
/-- a def's promise, wherever the def stands -/
def Ok (P : Program) (w : World) (K : PySem.W.Frag) (mg : Str → Option Value) (base : Heap) (k : Nat) (x : String) (ps : List Str) (sp : Sp) : Prop :=
  ∃ (f : Addr) (fd : FuncData), mg x = some (.ref f) ∧ PySem.W.keepIn K (.ref f) = true ∧ Binds K fd ps [] ∧ FnOk P w K mg base CX0 k f fd ps sp
section
variable {P : Program} {w : World} {K : PySem.W.Frag} {mg : Str → Option Value} {base : Heap}
theorem ok_of {x : String} {st : Stmt} {ps : List Str} {k : Nat} {sp : Sp} (h : Has K mg x st ps) (f : ∀ (f : Addr) (fd : FuncData), Fun K x x st f fd → FnOk P w K mg base CX0 k f fd ps sp) : Ok P w K mg base k x ps sp := by
  obtain ⟨g, fd, h1, h2, h3⟩ := h
  exact ⟨g, fd, h1, h2.kp, h3, f g fd h2⟩
end
/-- a call of such a def -/
theorem pe_callO {X : Cx} {k j : Nat} {x : String} {ps : List Str} {sp : Sp} {p pos : Pos} {e : Expr} {es : List Expr} {t : TA} (O : Ok X.prog X.w X.K X.mg X.base k x ps sp) (hr : Room j X.A) (hkj : k ≤ j) (hg : Gl X x) (ha : PA X (e :: es) t)
    (hdb : ((x : Str) == ("__debug__" : Str)) = false := by decide) (he : starEach (e :: es) X.env = (false, eval e X.env) :: starEach es X.env := by rfl) (hpl : (backTo pos (starEach es X.env)).any (·.1) = false := by rfl) :
    PE X (.Call (.Name x p) (e :: es) [] pos) (tCall sp [] E0 t) := by
  obtain ⟨f, fd, h1, h2, h3, h4⟩ := O
  exact pe_call h4 (hr.mono hkj) hg h1 h2 h3 .nil pass0 ha hdb he hpl

/-- the text of a list of code points -/
def S (w : List Nat) : Str := ⟨w.toArray⟩
def Vi (cs : List Nat) : List V := cs.map fun (n : Nat) => V.int (n : Int)
def At (H : Hp) (l : Addr) (xs : List V) : Prop := H l = some (.lst xs)

structure Txt (w : World) (K : PySem.W.Frag) (mg : Str → Option Value) : Prop where
  one : ∃ t, mg "ONE" = some (.int 4 t)
  signs : ∃ a, mg "SIGNS" = some (.ref a) ∧ ∀ H, SqT K H a [.str (S []), .str (S [48]), .str (S [50]), .str (S [48, 50]), .str (S [49])]
  codes : ∃ a, mg "CODES" = some (.ref a) ∧ KDct K w a "0" (.int 1) ∧ KDct K w a "1" (.int 4) ∧ KDct K w a "2" (.int 2) ∧ KDct K w a "02" (.int 3) ∧ KDct K w a "" (.int 0)
  most : ∃ t, mg "MOST_SIGNS" = some (.int 4000 t)
  mtold : ∃ t, mg "MOST_TOLD" = some (.int 20000 t)
  behind : ∃ a, mg "BEHIND" = some (.ref a) ∧ KDct K w a "0" (.str "12") ∧ KDct K w a "1" (.str "02") ∧ KDct K w a "2" (.str "1") ∧ KDct K w a "" (.str "012")
  gcd : mg "gcd" = some (.builtin "math.gcd")
  nlen : mg "len" = none
  nisinstance : mg "isinstance" = none
  nstr : mg "str" = none
  nenumerate : mg "enumerate" = none
  nrange : mg "range" = none
  nint : mg "int" = none
  nrepr : mg "repr" = none
  ntuple : mg "tuple" = none
  nlist : mg "list" = none
  nbool : mg "bool" = none
  nsum : mg "sum" = none
  nmin : mg "min" = none
  fPutCode : Has K mg "put_code" sPutCode ["codes", "code"]
  fCoded : Has K mg "coded" sCoded ["word"]
  fSpelledOut : Has K mg "spelled_out" sSpelledOut ["codes"]
  fIsReducedText : Has K mg "is_reduced_text" sIsReducedText ["word"]
  fReducedText : Has K mg "reduced_text" sReducedText ["word"]
  fIsNumber : Has K mg "is_number" sIsNumber ["value"]
  fIsNumberIn : Has K mg "is_number_in" sIsNumberIn ["value", "least", "most"]
  fNeedNumberIn : Has K mg "need_number_in" sNeedNumberIn ["value", "least", "most"]
  fStrangePlace : Has K mg "strange_place" sStrangePlace ["text"]
  fNeedWord : Has K mg "need_word" sNeedWord ["word"]
  fTails : Has K mg "_tails" sTails ["many"]
  fWaysOn : Has K mg "_ways_on" sWaysOn ["tails", "sign", "many"]
  fWordsWith : Has K mg "_words_with" sWordsWith ["tails", "length"]
  fNumberOf : Has K mg "number_of" sNumberOf ["word"]
  fSignAt : Has K mg "_sign_at" sSignAt ["tails", "ahead", "number", "many"]
  fWordNumbered : Has K mg "word_numbered" sWordNumbered ["number"]
  fWordsOf : Has K mg "words_of" sWordsOf ["length"]
  fRingsClosed : Has K mg "_rings_closed" sRingsClosed ["length"]
  fClassesOf : Has K mg "classes_of" sClassesOf ["length"]
  fLeastTail : Has K mg "_least_tail" sLeastTail ["ahead", "many"]
  fNextWord : Has K mg "_next_word" sNextWord ["word"]
  fNextWords : Has K mg "next_words" sNextWords ["word", "many"]
  fLawMixed : Has K mg "_law_mixed" sLawMixed ["cell", "n"]
  fLawFolded : Has K mg "_law_folded" sLawFolded ["script"]
  fLawDraw : Has K mg "_law_draw" sLawDraw ["m", "limit"]
  fLawBegun : Has K mg "_law_begun" sLawBegun ["script"]
  fLawLike : Has K mg "_law_like" sLawLike ["got", "due"]
  fLawCut : Has K mg "_law_cut" sLawCut ["word"]
  fLawWord : Has K mg "_law_word" sLawWord ["m", "most"]
  fLawAllWords : Has K mg "_law_all_words" sLawAllWords ["most"]
  fLawPieces : Has K mg "_law_pieces" sLawPieces ["word"]
  fLawRing : Has K mg "_law_ring" sLawRing ["word"]
  fLawReadings : Has K mg "_law_readings" sLawReadings ["ring"]
  fLawLeast : Has K mg "_law_least" sLawLeast ["word"]
  fLawTens : Has K mg "_law_tens" sLawTens ["times"]
  fLawIsWord : Has K mg "_law_is_word" sLawIsWord ["value"]
  fLawFilled : Has K mg "_law_filled" sLawFilled ["word", "many"]
  fLawNext : Has K mg "_law_next" sLawNext ["word"]
  fLawManyWords : Has K mg "_law_many_words" sLawManyWords ["length"]
  fLawChoices : Has K mg "_law_choices" sLawChoices ["many", "some"]
  fLawCommon : Has K mg "_law_common" sLawCommon ["one", "two"]
  fLawManyRings : Has K mg "_law_many_rings" sLawManyRings ["length"]
  fLawDoubled : Has K mg "_law_doubled" sLawDoubled ["times"]
  fLawManyClasses : Has K mg "_law_many_classes" sLawManyClasses ["length"]
  fLaw : Has K mg "law" sLaw ["script"]

/-! ### codes on stacks -/
def Cd (c : Nat) : Prop := c = 1 ∨ c = 2 ∨ c = 3 ∨ c = 4
instance (c : Nat) : Decidable (Cd c) := inferInstanceAs (Decidable (c = 1 ∨ c = 2 ∨ c = 3 ∨ c = 4))
def Alt : List Nat → Prop
  | [] => True
  | [c] => Cd c
  | a :: b :: r => Cd a ∧ ((a = 4 ∧ b ≠ 4) ∨ (a ≠ 4 ∧ b = 4)) ∧ Alt (b :: r)
theorem Alt.tail {a : Nat} {r : List Nat} (h : Alt (a :: r)) : Alt r := by
  cases r with
  | nil => trivial
  | cons b q => exact h.2.2
theorem Alt.head {a : Nat} {r : List Nat} (h : Alt (a :: r)) : Cd a := by
  cases r with
  | nil => exact h
  | cons b q => exact h.1
/-- led on by a code -/
def put : List Nat → Nat → List Nat
  | [], c => [c]
  | a :: r, c => if decide (a = 4) ≠ decide (c = 4) then c :: a :: r else if a = c then r else (a ^^^ c) :: r
theorem put_cons (a : Nat) (r : List Nat) (c : Nat) : put (a :: r) c = if decide (a = 4) ≠ decide (c = 4) then c :: a :: r else if a = c then r else (a ^^^ c) :: r := rfl
/-- the signs of a code, the last one first -/
def sg (c : Nat) : List Nat := if c = 1 then [48] else if c = 2 then [50] else if c = 3 then [50, 48] else [49]
def spell (s : List Nat) : List Nat := s.flatMap sg
def cd (c : Nat) : Nat := if c = 48 then 1 else if c = 50 then 2 else 4
theorem spell_cons (a : Nat) (r : List Nat) : spell (a :: r) = sg a ++ spell r := rfl
theorem below4 {a : Nat} {r : List Nat} (h : Alt (a :: r)) (ha : a ≠ 4) : r = [] ∨ ∃ q, r = 4 :: q := by
  cases r with
  | nil => exact .inl rfl
  | cons b q =>
    rcases h.2.1 with ⟨e, _⟩ | ⟨_, e⟩
    · exact absurd e ha
    · exact .inr ⟨q, by rw [e]⟩
theorem belowN {r : List Nat} (h : Alt (4 :: r)) : r = [] ∨ ∃ b q, r = b :: q ∧ (b = 1 ∨ b = 2 ∨ b = 3) := by
  cases r with
  | nil => exact .inl rfl
  | cons b q =>
    rcases h.2.1 with ⟨_, e⟩ | ⟨e, _⟩
    · rcases h.tail.head with z | z | z | z
      · exact .inr ⟨b, q, rfl, .inl z⟩
      · exact .inr ⟨b, q, rfl, .inr (.inl z)⟩
      · exact .inr ⟨b, q, rfl, .inr (.inr z)⟩
      · exact absurd z e
    · exact absurd rfl e
theorem put_alt {s : List Nat} (h : Alt s) {c : Nat} (hc : c = 1 ∨ c = 2 ∨ c = 4) : Alt (put s c) := by
  have hcd : Cd c := by rcases hc with e | e | e <;> subst e <;> decide
  cases s with
  | nil => exact hcd
  | cons a r =>
    have ha := h.head
    rw [put_cons]
    split
    · next e =>
      refine ⟨hcd, ?_, h⟩
      by_cases h1 : a = 4 <;> by_cases h2 : c = 4
      · exact absurd (by rw [h1, h2]) e
      · exact .inr ⟨h2, h1⟩
      · exact .inl ⟨h2, h1⟩
      · exact absurd (by rw [decide_eq_false h1, decide_eq_false h2]) e
    · split
      · exact h.tail
      · next e e2 =>
        -- both are below 4 and unlike
        have hx : a ≠ 4 ∧ c ≠ 4 := by
          by_cases h1 : a = 4 <;> by_cases h2 : c = 4
          · exact absurd (h1.trans h2.symm) e2
          · exact absurd (by rw [decide_eq_true h1, decide_eq_false h2]; decide) e
          · exact absurd (by rw [decide_eq_false h1, decide_eq_true h2]; decide) e
          · exact ⟨h1, h2⟩
        have hn : Cd (a ^^^ c) ∧ a ^^^ c ≠ 4 := by
          rcases ha with z | z | z | z <;> rcases hc with y | y | y <;> subst z <;> subst y <;> first | exact absurd rfl e2 | exact absurd rfl hx.1 | exact absurd rfl hx.2 | decide
        rcases below4 h hx.1 with z | ⟨q, z⟩
        · subst z; exact hn.1
        · subst z; exact ⟨hn.1, .inr ⟨hn.2, rfl⟩, h.tail⟩
/-- what a code does to the signs -/
theorem spell_put {s : List Nat} (h : Alt s) {c : Nat} (hc : Sg c) : spell (put s (cd c)) = step (spell s) c := by
  cases s with
  | nil => rcases hc with e | e | e <;> subst e <;> rfl
  | cons a r =>
    rcases h.head with z | z | z | z
    · subst z
      rcases below4 h (by decide) with y | ⟨q, y⟩ <;> subst y <;> rcases hc with e | e | e <;> subst e <;> rfl
    · subst z
      rcases below4 h (by decide) with y | ⟨q, y⟩ <;> subst y <;> rcases hc with e | e | e <;> subst e <;> rfl
    · subst z
      rcases below4 h (by decide) with y | ⟨q, y⟩ <;> subst y <;> rcases hc with e | e | e <;> subst e <;> rfl
    · subst z
      rcases belowN h with y | ⟨b, q, y, x⟩
      · subst y; rcases hc with e | e | e <;> subst e <;> rfl
      · subst y
        rcases x with x | x | x <;> subst x <;> rcases hc with e | e | e <;> subst e <;> rfl
def codesOf (w : List Nat) : List Nat := w.foldl (fun s c => put s (cd c)) []
theorem cd_of {c : Nat} (h : Sg c) : cd c = 1 ∨ cd c = 2 ∨ cd c = 4 := by
  rcases h with e | e | e <;> subst e <;> decide
theorem codes_go : ∀ {w : List Nat} {s : List Nat}, Alt s → Wd w → Alt (w.foldl (fun s c => put s (cd c)) s) ∧ spell (w.foldl (fun s c => put s (cd c)) s) = go (spell s) w
  | [], s, h, _ => ⟨h, rfl⟩
  | c :: w, s, h, hw => by
    have hc := hw c List.mem_cons_self
    have := codes_go (w := w) (s := put s (cd c)) (put_alt h (cd_of hc)) fun d hd => hw d (List.mem_cons_of_mem _ hd)
    rw [spell_put h hc] at this
    exact this
theorem put_length (s : List Nat) (c : Nat) : (put s c).length ≤ s.length + 1 := by
  cases s with
  | nil => exact Nat.le_refl _
  | cons a r =>
    rw [put_cons]
    split
    · exact Nat.le_refl _
    · split
      · exact Nat.le_succ_of_le (Nat.le_succ _)
      · exact Nat.le_succ _
end K7

namespace K7
open PySem PySem.Spec PyProof.Rows L2 Nr Nw
section
variable {P : Program} {w : World} {K : PySem.W.Frag} {mg : Str → Option Value} {base : Heap}

/-! ### put_code -/
def spPut : Sp := fun vs H Q _ => ∃ (l : Addr) (s : List Nat) (c : Nat), vs = [.ref l, .int (c : Int)] ∧ H l = some (.lst (Vi s.reverse)) ∧ Alt s ∧ (c = 1 ∨ c = 2 ∨ c = 4) ∧ s.length ≤ 100000 ∧ Q .non (upd H l (.lst (Vi (put s c).reverse)))
theorem vi_rev (a : Nat) (r : List Nat) : Vi (a :: r).reverse = Vi r.reverse ++ [.int (a : Int)] := by
  unfold Vi
  rw [List.reverse_cons, List.map_append]
  rfl
theorem vi_len (s : List Nat) : (Vi s).length = s.length := List.length_map ..
theorem xor_small {a c : Nat} (ha : a = 1 ∨ a = 2 ∨ a = 3) (hc : c = 1 ∨ c = 2 ∨ c = 3) : Builtin.bitXor (a : Int) (c : Int) = ((a ^^^ c : Nat) : Int) := by
  rcases ha with e | e | e <;> rcases hc with z | z | z <;> subst e <;> subst z <;> decide +kernel
theorem ok_put (T : Txt w K mg) : Ok P w K mg base 1 "put_code" ["codes", "code"] spPut := by
  refine ok_of T.fPutCode fun f fd F => ?_
  obtain ⟨tO, gO⟩ := T.one
  refine F.ok scPutCode (fun vs H Q E h => ?_) (fun cdv A outer s H vs Q E hr h => ?_)
  · obtain ⟨l, s, c, rfl, _⟩ := h
    rfl
  · obtain ⟨l, st, c, rfl, hl, ha, hc, hz, q⟩ := h
    refine ⟨_, pss_cons (ps_if (PW.pt (pw_or (pt_not (pt_truth (pv 0) (by intro _; rfl)))
        (pw_or1 (pt_cmpR op_ne (pe_cmpR op_eq (pe_ix ix_list (pv 0) (pe_un un_neg pe_int) (fun _ _ => rfl)) (pe_glob (v := .int 4) rfl gO ⟨_, rfl⟩) (nomark _)) (pe_cmpR op_eq (pv 1) (pe_glob (v := .int 4) rfl gO ⟨_, rfl⟩) (nomark _)) (nomark _)))))
        (pss_cons (ps_expr (pe_bm PySem.F.plainAttrs_list PySem.F.slot_list_append PySem.F.type_list_append mt_append (pv 0) (pa_cons (pv 1) pa_nil))) (pss_one ps_retN)) pss_nil)
      (pss_cons (ps_set (i := 2) scPutCode.nd rfl (.inl rfl) (pe_bm0 PySem.F.plainAttrs_list PySem.F.slot_list_pop PySem.F.type_list_pop mt_pop (pv 0)))
      (pss_one (ps_if (pt_cmpR op_ne (pv 2) (pv 1) (nomark _))
        (pss_one (ps_expr (pe_bm PySem.F.plainAttrs_list PySem.F.slot_list_append PySem.F.type_list_append mt_append (pv 0) (pa_cons (pe_op op_xor (pv 2) (pv 1)) pa_nil)))) pss_nil))), ?_⟩
    have size : (Vi st.reverse).length < sizeLine := by
      rw [vi_len, List.length_reverse]
      exact Nat.lt_of_le_of_lt hz (by decide)
    cases st with
    | nil =>
      refine ⟨.ref l, rfl, false, .inl ⟨[], .inl (.inl hl), rfl⟩, iteT (iteT ?_)⟩
      refine ⟨.ref l, rfl, .inl ⟨rfl, _, .inl (.inl hl)⟩, .int (c : Int), rfl, l, _, _, rfl, rfl, hl, size, ?_⟩
      exact q
    | cons a r =>
      have hv : H l = some (.lst (Vi r.reverse ++ [.int (a : Int)])) := by rw [← vi_rev]; exact hl
      refine ⟨.ref l, rfl, true, .inl ⟨_, .inl (.inl hl), ?_⟩, iteF ?_⟩
      · rw [vi_rev]
        cases Vi r.reverse <;> rfl
      refine ⟨.ref l, rfl, 1, rfl, l, _, _, _, rfl, rfl, .inl (.inl hv), atI_last _ _, rfl, .int (c : Int), rfl, rfl, rfl, _, rfl, ?_⟩
      have h4 : ∀ n : Nat, decide (V.int (n : Int) = V.int 4) = decide (n = 4) := by
        intro n
        by_cases e : n = 4
        · subst e; rfl
        · rw [decide_eq_false e, decide_eq_false]
          intro z
          exact e (by have := V.int.inj z; omega)
      have h5 : (!decide (V.bl (decide (V.int (a : Int) = V.int 4)) = V.bl (decide (V.int (c : Int) = V.int 4)))) = decide (decide (a = 4) ≠ decide (c = 4)) := by
        rw [h4, h4]
        cases decide (a = 4) <;> cases decide (c = 4) <;> rfl
      rw [h5]
      by_cases e : decide (a = 4) ≠ decide (c = 4)
      · rw [decide_eq_true e]
        refine iteT ?_
        refine ⟨.ref l, rfl, .inl ⟨rfl, _, .inl (.inl hl)⟩, .int (c : Int), rfl, l, _, _, rfl, rfl, hl, size, ?_⟩
        have e2 : put (a :: r) c = c :: a :: r := by rw [put_cons, if_pos e]
        rw [e2, vi_rev] at q
        exact q
      · rw [decide_eq_false e]
        refine iteF ?_
        refine ⟨.ref l, rfl, .inl ⟨rfl, _, .inl (.inl hl)⟩, l, _, .int (a : Int), rfl, rfl, hv, ?_, ?_⟩
        · rw [List.length_append]
          exact List.getElem?_concat_length
        rw [List.dropLast_concat]
        refine ⟨.int (a : Int), rfl, .int (c : Int), rfl, rfl, _, rfl, ?_⟩
        by_cases e2 : a = c
        · subst e2
          have e3 : put (a :: r) a = r := by rw [put_cons, if_neg e, if_pos rfl]
          rw [e3] at q
          rw [decide_eq_true rfl]
          exact iteF q
        · have e3 : put (a :: r) c = (a ^^^ c) :: r := by rw [put_cons, if_neg e, if_neg e2]
          have e4 : ¬ (V.int (a : Int) = V.int (c : Int)) := fun z => e2 (by have := V.int.inj z; omega)
          rw [decide_eq_false e4]
          refine iteT ?_
          have ha4 : a ≠ 4 ∧ c ≠ 4 := by
            by_cases h1 : a = 4 <;> by_cases h2 : c = 4
            · exact absurd (h1.trans h2.symm) e2
            · exact absurd (by rw [decide_eq_true h1, decide_eq_false h2]; decide) e
            · exact absurd (by rw [decide_eq_false h1, decide_eq_true h2]; decide) e
            · exact ⟨h1, h2⟩
          have hx : Builtin.bitXor (a : Int) (c : Int) = ((a ^^^ c : Nat) : Int) := by
            refine xor_small ?_ ?_
            · rcases ha.head with z | z | z | z
              · exact .inl z
              · exact .inr (.inl z)
              · exact .inr (.inr z)
              · exact absurd z ha4.1
            · rcases hc with z | z | z
              · exact .inl z
              · exact .inr (.inl z)
              · exact absurd z ha4.2
          refine ⟨.ref l, rfl, .inl ⟨rfl, _, .inl (.inl upd_same)⟩, .int (a : Int), rfl, .int (c : Int), rfl, (a : Int), (c : Int), rfl, rfl, l, _, _, rfl, rfl, upd_same, ?_, ?_⟩
          · rw [vi_len, List.length_reverse]
            have : r.length + 1 ≤ 100000 := hz
            exact Nat.lt_of_lt_of_le (Nat.lt_of_lt_of_le (Nat.lt_succ_self _) this) (by decide)
          · rw [e3, vi_rev] at q
            show Q .non (upd (upd H l (.lst (Vi r.reverse))) l (.lst (Vi r.reverse ++ [.int (Builtin.bitXor (a : Int) (c : Int))])))
            rw [hx, upd_upd]
            exact q

/-! ### coded -/
/-- a word as a text -/
def Wt (w : List Nat) : Prop := Wd w ∧ w.length ≤ 20000
def spCoded : Sp := fun vs H Q _ => ∃ u : List Nat, vs = [.str (S u)] ∧ Wt u ∧ ∀ (H' : Hp) (p : Addr), Same H H' → H p = none → H' p = some (.lst (Vi (codesOf u).reverse)) → Q (.ref p) H'
theorem take_next {α : Type} {u : List α} {i : Nat} (hi : i < u.length) : u.take (i + 1) = u.take i ++ [u[i]] := by
  rw [List.take_add_one, List.getElem?_eq_getElem hi]
  rfl
theorem codes_snoc (u : List Nat) (c : Nat) : codesOf (u ++ [c]) = put (codesOf u) (cd c) := by
  unfold codesOf
  rw [List.foldl_append]
  rfl
theorem codes_len : ∀ (n : Nat) (u : List Nat), u.length = n → (codesOf u).length ≤ n
  | 0, u, h => by
    rw [List.length_eq_zero_iff.mp h]
    exact Nat.le_refl _
  | n + 1, u, h => by
    have hne : u ≠ [] := fun z => by rw [z] at h; cases h
    rw [(List.dropLast_concat_getLast hne).symm, codes_snoc]
    have h1 := put_length (codesOf u.dropLast) (cd (u.getLast hne))
    have h2 := codes_len n u.dropLast (by rw [List.length_dropLast]; omega)
    omega
theorem codes_alt {u : List Nat} (h : Wd u) : Alt (codesOf u) := (codes_go (s := []) trivial h).1
theorem kd_sign {a : Addr} (h0 : KDct K w a "0" (.int 1)) (h1 : KDct K w a "1" (.int 4)) (h2 : KDct K w a "2" (.int 2)) {c : Nat} (hc : Sg c) : KDct K w a (S [c]) (.int (cd c : Int)) := by
  rcases hc with e | e | e <;> subst e
  · exact h0
  · exact h1
  · exact h2
theorem ok_coded (T : Txt w K mg) : Ok P w K mg base 2 "coded" ["word"] spCoded := by
  refine ok_of T.fCoded fun f fd F => ?_
  obtain ⟨aC, gC, k0, k1, k2, _⟩ := T.codes
  refine F.ok scCoded (fun vs H Q E h => ?_) (fun cdv A outer s H vs Q E hr h => ?_)
  · obtain ⟨u, rfl, _⟩ := h
    rfl
  · obtain ⟨u, rfl, ⟨hw, hz⟩, q⟩ := h
    refine ⟨_, pss_cons (ps_set (i := 1) scCoded.nd rfl (.inl rfl) (pe_lst pa_nil))
      (pss_cons (ps_for PassesOwn.never rfl (pi_str (pv 0)) (pg_name (i := 2) scCoded.nd rfl (.inl rfl))
        (pss_one (ps_expr (pe_callO (ok_put T) hr (by decide) (by rfl) (pa_cons (pv 1) (pa_cons (pe_ix ix_kdict (pe_glob (v := .ref aC) rfl gC rfl) (pv 2) (fun _ _ => rfl)) pa_nil))))))
      (pss_one (ps_ret (pv 1)))), ?_⟩
    refine ⟨Nat.zero_le _, fun l nl => ?_⟩
    have s1 : Same H (upd H l (.lst [])) := fun b x e => by
      rw [upd_ne (ne_of_none e nl)]
      exact e
    refine ⟨.str (S u), rfl, S u, rfl, fun i m σ H3 => ∃ y2, σ = [some (.str (S u)), some (.ref l), y2] ∧ i + m = u.length ∧ Same H H3 ∧ H3 l = some (.lst (Vi (codesOf (u.take i)).reverse)),
      ⟨u.length, none, rfl, by omega, s1, upd_same⟩, fun i m σ H3 hW => ?_⟩
    obtain ⟨y2, rfl, em, sm, el⟩ := hW
    by_cases hi : i < u.length
    · have hc : Sg u[i] := hw _ (List.getElem_mem hi)
      have ht : u.take (i + 1) = u.take i ++ [u[i]] := take_next hi
      have hwt : Wd (u.take i) := fun c hc => hw c (List.mem_of_mem_take hc)
      refine .inr ⟨?_, fun σ' H' => ∃ y2, σ' = [some (.str (S u)), some (.ref l), y2] ∧ Same H H' ∧ H' l = some (.lst (Vi (codesOf (u.take (i + 1))).reverse)), fun σ' H' hN => ?_, fun v H' hy => ?_⟩
      · show i < (S u).cps.size
        exact hi
      · obtain ⟨z2, e, sm', el'⟩ := hN
        exact ⟨m - 1, by omega, z2, e, by omega, sm', el'⟩
      · obtain ⟨rfl, c, ec, rfl⟩ := hy
        have e1 : c = u[i] := by
          have : (S u).cps[i]? = some u[i] := by
            show u.toArray[i]? = some u[i]
            rw [List.getElem?_toArray, List.getElem?_eq_getElem hi]
          rw [this] at ec
          exact (Option.some.inj ec).symm
        subst e1
        refine ⟨.ref l, rfl, .str (S [u[i]]), rfl, aC, S [u[i]], .int (cd u[i] : Int), rfl, rfl, kd_sign k0 k1 k2 hc, ?_⟩
        refine ⟨l, codesOf (u.take i), cd u[i], rfl, el, codes_alt hwt, cd_of hc, ?_, ?_⟩
        · have := codes_len _ (u.take i) rfl
          rw [List.length_take] at this
          omega
        · refine ⟨some (.str (S [u[i]])), rfl, fun b x e => ?_, ?_⟩
          · rw [upd_ne (ne_of_none e nl)]
            exact sm b x e
          · rw [upd_same, ht, codes_snoc]
    · refine .inl ⟨?_, .ref l, rfl, ?_⟩
      · show (S u).cps.size ≤ i
        show u.length ≤ i
        omega
      · rw [List.take_of_length_le (by omega)] at el
        exact q H3 l sm nl el

/-! ### spelled_out -/
def spSpelled (K : PySem.W.Frag) : Sp := fun vs H Q _ => ∃ (l : Addr) (s : List Nat), vs = [.ref l] ∧ SqL K H l (Vi s.reverse) ∧ Alt s ∧ s.length ≤ 20000 ∧ ∀ H', Same H H' → Q (.str (S (spell s).reverse)) H'
theorem yes {f : Bool → Hp → Prop} {σ : L2.St} {H : Hp} (h : f true H) : tYes σ H f := h
theorem sg_rev {c : Nat} (h : Cd c) : ∃ z, ([[], [48], [50], [48, 50], [49]] : List (List Nat))[c]? = some z ∧ z = (sg c).reverse ∧ z.length ≤ 2 := by
  rcases h with e | e | e | e <;> subst e
  · exact ⟨_, rfl, rfl, by decide⟩
  · exact ⟨_, rfl, rfl, by decide⟩
  · exact ⟨_, rfl, rfl, by decide⟩
  · exact ⟨_, rfl, rfl, by decide⟩
theorem Alt.all : ∀ {s : List Nat}, Alt s → ∀ c ∈ s, Cd c
  | [], _, c, hc => by cases hc
  | a :: r, h, c, hc => by
    rcases List.mem_cons.mp hc with e | e
    · rw [e]; exact h.head
    · exact Alt.all h.tail c e
/-- the texts of codes, the first code first -/
def texts (cs : List Nat) : List Str := cs.map fun c => S (sg c).reverse
theorem texts_sum : ∀ (cs : List Nat), ((texts cs).map (·.length)).sum ≤ 2 * cs.length
  | [] => Nat.le_refl _
  | c :: r => by
    have ih := texts_sum r
    have h : (S (sg c).reverse).length ≤ 2 := by
      show (sg c).reverse.length ≤ 2
      unfold sg
      split
      · decide
      · split
        · decide
        · split <;> decide
    show (S (sg c).reverse).length + ((texts r).map (·.length)).sum ≤ 2 * (r.length + 1)
    omega
theorem glue_list : ∀ (r : List Str) (a : Array Nat), (r.foldl (fun acc (p : Str) => acc ++ (S []).cps ++ p.cps) a).toList = a.toList ++ r.flatMap (·.cps.toList)
  | [], a => (List.append_nil _).symm
  | p :: r, a => by
    rw [List.foldl_cons, glue_list r, List.flatMap_cons]
    show ((a ++ #[]) ++ p.cps).toList ++ _ = _
    rw [Array.toList_append, Array.toList_append]
    show ((a.toList ++ []) ++ p.cps.toList) ++ _ = _
    rw [List.append_nil, List.append_assoc]
/-- texts joined by nothing -/
theorem join_flat (l : List (List Nat)) : Txt.join (S []) (l.map S) = S l.flatten := by
  cases l with
  | nil => rfl
  | cons a r =>
    have h := glue_list (r.map S) (S a).cps
    have e : Txt.join (S []) ((a :: r).map S) = ⟨(r.map S).foldl (fun acc (p : Str) => acc ++ (S []).cps ++ p.cps) (S a).cps⟩ := rfl
    rw [e]
    refine congrArg Str.mk (Array.toList_inj.mp ?_)
    rw [h, List.flatMap_map]
    show a ++ _ = (a ++ r.flatten)
    refine congrArg (a ++ ·) ?_
    rw [List.flatMap_def]
    refine congrArg List.flatten ?_
    exact List.map_id'' (fun _ => rfl) r
theorem join_texts (cs : List Nat) : Txt.join (S []) (texts cs) = S (spell cs.reverse).reverse := by
  have e : texts cs = (cs.map fun c => (sg c).reverse).map S := by
    unfold texts
    rw [List.map_map]
    rfl
  rw [e, join_flat]
  refine congrArg S ?_
  unfold spell
  rw [List.reverse_flatMap, List.reverse_reverse, List.flatMap_def]
  rfl
theorem ok_spelled (T : Txt w K mg) : Ok P w K mg base 1 "spelled_out" ["codes"] (spSpelled K) := by
  refine ok_of T.fSpelledOut fun f fd F => ?_
  obtain ⟨aS, gS, hS⟩ := T.signs
  refine F.ok scSpelledOut (fun vs H Q E h => ?_) (fun cdv A outer s H vs Q E hr h => ?_)
  · obtain ⟨l, st, rfl, _⟩ := h
    rfl
  · obtain ⟨l, st, rfl, hl, ha, hz, q⟩ := h
    refine ⟨_, pss_one (ps_ret (pe_join pe_str (pe_lc (own := [("code", 1)]) (g := gName 1) (tt := tYes) (by rfl) scSpelledOut.nd (pi_list (pv 0)) (blkOk_by (N := ["codes", "code"]) (sc := defScope sSpelledOut) (by decide +kernel))
      (fun _ _ _ _ _ => pg_name (i := 1) scSpelledOut.nd rfl (.inl rfl)) (fun _ _ _ _ _ => pts_nil) (fun _ _ _ _ _ => pe_ix (r := rIxT K) ix_tup (pe_glob (v := .ref aS) rfl gS rfl) (pv 1) (fun _ _ => rfl))))), ?_⟩
    have hlen : (Vi st.reverse).length = st.length := by rw [vi_len, List.length_reverse]
    refine ⟨⟨_, rfl⟩, .ref l, rfl, l, rfl, ⟨_, hl⟩, fun D nD => ?_⟩
    have s1 : Same H (upd H D (.lst [])) := fun b x e => by
      rw [upd_ne (ne_of_none e nD)]
      exact e
    refine lc_list (K := K) (a := l) (xs := Vi st.reverse) (fun i H' => Same H H' ∧ H' D = some (.lst ((texts (st.reverse.take i)).map V.str))) ⟨s1, upd_same⟩ (fun i H' hi h => h.1.seq hl) (fun i x H' hx h => ?_) (fun H' h => ?_)
    · obtain ⟨sm, eD⟩ := h
      have hx' : ∃ c, st.reverse[i]? = some c ∧ x = .int (c : Int) := by
        unfold Vi at hx
        rw [List.getElem?_map] at hx
        cases e : st.reverse[i]? with
        | none => rw [e] at hx; cases hx
        | some c => rw [e] at hx; exact ⟨c, rfl, (Option.some.inj hx).symm⟩
      obtain ⟨c, hc, rfl⟩ := hx'
      have hcd : Cd c := ha.all c (List.mem_reverse.mp (List.mem_of_getElem? hc))
      obtain ⟨z, hz1, hz2, hz3⟩ := sg_rev hcd
      refine ⟨rfl, yes (iteT ?_)⟩
      refine ⟨.int (c : Int), rfl, aS, _, _, .str (S z), rfl, rfl, hS _, atI_nat ?_, ?_⟩
      · rcases hcd with e | e | e | e <;> subst e <;> cases hz1 <;> rfl
      refine ⟨_, eD, ?_, fun b x e => ?_, ?_⟩
      · rw [List.length_map]
        unfold texts
        rw [List.length_map, List.length_take, List.length_reverse]
        exact Nat.lt_of_le_of_lt (Nat.le_trans (Nat.min_le_right _ _) hz) (by decide)
      · rw [upd_ne (ne_of_none e nD)]
        exact sm b x e
      · rw [upd_same]
        have e2 : st.reverse.take (i + 1) = st.reverse.take i ++ [c] := by
          rw [List.take_add_one, hc]
          rfl
        rw [e2]
        unfold texts
        rw [List.map_append, List.map_append, hz2]
        rfl
    · obtain ⟨sm, eD⟩ := h
      rw [hlen, List.take_of_length_le (by rw [List.length_reverse]; exact Nat.le_refl _)] at eD
      refine ⟨_, D, texts st.reverse, rfl, rfl, .inl (.inl (.inl eD)), ?_, ?_⟩
      · have := texts_sum st.reverse
        rw [List.length_reverse] at this
        have e0 : (S ([] : List Nat)).length = 0 := rfl
        show _ + _ * (S ([] : List Nat)).length ≤ _
        rw [e0]
        omega
      · have := join_texts st.reverse
        rw [List.reverse_reverse] at this
        have q' := q H' sm
        rw [← this] at q'
        exact q'
end
end K7

namespace K7
open PySem PySem.Spec PyProof.Rows L2 Nr Nw

/-! ### what the tests of "00", "11", "22", "20" tell -/
theorem fw_iff : ∀ {u : List Nat}, Wd u → (Fw u ↔ ∀ i a b, u[i]? = some a → u[i + 1]? = some b → Nb b a)
  | [], _ => ⟨fun _ i a b h => (by cases h), fun _ => trivial⟩
  | [c], h => ⟨fun _ i a b _ h2 => (by cases i <;> cases h2), fun _ => h c List.mem_cons_self⟩
  | x :: y :: r, h => by
    have ih := fw_iff (u := y :: r) fun d hd => h d (List.mem_cons_of_mem _ hd)
    constructor
    · intro f i a b h1 h2
      cases i with
      | zero =>
        cases h1
        cases h2
        exact f.nb
      | succ i => exact ih.mp f.tail i a b h1 h2
    · intro f
      exact ⟨h x List.mem_cons_self, f 0 x y rfl rfl, ih.mpr fun i a b h1 h2 => f (i + 1) a b h1 h2⟩
def oc (y u : List Nat) : Bool := !(Builtin.Str.occurrences (S u) (S y) 0 (S u).length 1).isEmpty
theorem sub_two (u : List Nat) (a b i : Nat) : (i + (S [a, b]).length ≤ (S u).length ∧ Builtin.Str.subAt (S u) (S [a, b]) i = true) ↔ (u[i]? = some a ∧ u[i + 1]? = some b) := by
  rw [PySem.StrLaws.subAt_eq]
  show (i + 2 ≤ u.length ∧ ((u.drop i).take 2 == [a, b]) = true) ↔ _
  rw [beq_iff_eq]
  constructor
  · rintro ⟨h1, h2⟩
    have e : ∀ j, j < 2 → u[i + j]? = ([a, b] : List Nat)[j]? := by
      intro j hj
      rw [← h2, List.getElem?_take, if_pos hj, List.getElem?_drop]
    exact ⟨e 0 (by decide), e 1 (by decide)⟩
  · rintro ⟨h1, h2⟩
    have l1 : i + 1 < u.length := (List.getElem?_eq_some_iff.mp h2).1
    refine ⟨l1, List.ext_getElem? fun j => ?_⟩
    rw [List.getElem?_take]
    split
    · next hj =>
      rw [List.getElem?_drop]
      match j, hj with
      | 0, _ => exact h1
      | 1, _ => exact h2
    · next hj =>
      match j, hj with
      | 0, hj => exact absurd (by decide) hj
      | 1, hj => exact absurd (by decide) hj
      | j + 2, _ => rfl
theorem oc_iff (a b : Nat) (u : List Nat) : oc [a, b] u = true ↔ ∃ i, u[i]? = some a ∧ u[i + 1]? = some b := by
  unfold oc
  rw [PySem.StrLaws.found_iff]
  exact ⟨fun ⟨i, h⟩ => ⟨i, (sub_two u a b i).mp h⟩, fun ⟨i, h⟩ => ⟨i, (sub_two u a b i).mpr h⟩⟩
def isRed (u : List Nat) : Bool := !(if oc [48, 48] u then true else if oc [49, 49] u then true else if oc [50, 50] u then true else oc [50, 48] u)
theorem isRed_iff {u : List Nat} (h : Wd u) : isRed u = true ↔ cut u = u := by
  have key : isRed u = true ↔ (oc [48, 48] u = false ∧ oc [49, 49] u = false ∧ oc [50, 50] u = false ∧ oc [50, 48] u = false) := by
    unfold isRed
    cases oc [48, 48] u <;> cases oc [49, 49] u <;> cases oc [50, 50] u <;> cases oc [50, 48] u <;> decide
  rw [key]
  have f2 : Fw u ↔ cut u = u := ⟨cut_of_fw, fun e => e ▸ fw_cut h⟩
  rw [← f2, fw_iff h]
  have no : ∀ {a b : Nat}, oc [a, b] u = false → ∀ i, u[i]? = some a → u[i + 1]? = some b → False := by
    intro a b e i h1 h2
    rw [(oc_iff a b u).mpr ⟨i, h1, h2⟩] at e
    cases e
  constructor
  · rintro ⟨h0, h1, h2, h3⟩ i a b e1 e2
    refine ⟨fun e => ?_, fun e => ?_⟩
    · subst e
      rcases h b (List.mem_of_getElem? e1) with z | z | z <;> subst z
      · exact no h0 i e1 e2
      · exact no h1 i e1 e2
      · exact no h2 i e1 e2
    · obtain ⟨rfl, rfl⟩ := e
      exact no h3 i e1 e2
  · intro f
    have yes : ∀ {a b : Nat}, ¬ Nb b a → oc [a, b] u = false := by
      intro a b n
      cases e : oc [a, b] u with
      | false => rfl
      | true =>
        obtain ⟨i, h1, h2⟩ := (oc_iff a b u).mp e
        exact absurd (f i a b h1 h2) n
    exact ⟨yes fun n => n.1 rfl, yes fun n => n.1 rfl, yes fun n => n.1 rfl, yes fun n => n.2 ⟨rfl, rfl⟩⟩

/-! ### backwards, and "20" written "02" -/
theorem repl_go : ∀ (n : Nat) (v p : List Nat), v.length ≤ n → Rd v → Rd p → (∀ a r c q, p = a :: r → v = c :: q → (a = 49 ∧ c ≠ 49) ∨ (a ≠ 49 ∧ c = 49)) → go p v = (PySem.StrLaws.replL [50, 48] [48, 50] v).reverse ++ p
  | n, [], p, _, _, _, _ => by rw [PySem.StrLaws.replL_nil]; rfl
  | 0, c :: q, p, hn, _, _, _ => by cases hn
  | n + 1, c :: q, p, hn, hv, hp, hc => by
    have nb : ∀ a r, p = a :: r → Nb c a := by
      intro a r e
      rcases hc a r c q e rfl with ⟨z, y⟩ | ⟨z, y⟩
      · subst z
        exact ⟨y, fun x => by cases x.1⟩
      · subst y
        exact ⟨fun x => z x.symm, fun x => by cases x.2⟩
    have s1 : step p c = c :: p := by
      cases p with
      | nil => rfl
      | cons a r => exact step_push (nb a r rfl)
    by_cases hit : ∃ t, q = 48 :: t ∧ c = 50
    · obtain ⟨t, rfl, rfl⟩ := hit
      have h1 : PySem.StrLaws.replL [50, 48] [48, 50] (50 :: 48 :: t) = [48, 50] ++ PySem.StrLaws.replL [50, 48] [48, 50] t := PySem.StrLaws.replL_hit (by decide) rfl
      have p49 : ∀ q', p ≠ 48 :: q' := by
        intro q' e
        rcases hc 48 q' 50 (48 :: t) e rfl with ⟨z, _⟩ | ⟨_, z⟩ <;> cases z
      have s2 : step (50 :: p) 48 = 50 :: 48 :: p := step_2 p49
      have hp2 : Rd (50 :: 48 :: p) := by
        rw [← s2, ← s1]
        exact step_rd (step_rd hp (.inr (.inr rfl))) (.inl rfl)
      rw [go_cons, go_cons, s1, s2, h1]
      have ih := repl_go n t (50 :: 48 :: p) (by simp only [List.length_cons] at hn; omega) hv.tail.tail hp2 fun a r d u e1 e2 => by
        cases e1
        subst e2
        exact .inr ⟨by decide, not48 hv.tail d u rfl⟩
      rw [ih, List.reverse_append, List.append_assoc]
      rfl
    · have h1 : PySem.StrLaws.replL [50, 48] [48, 50] (c :: q) = c :: PySem.StrLaws.replL [50, 48] [48, 50] q := by
        refine PySem.StrLaws.replL_miss fun e => hit ?_
        cases q with
        | nil => cases e
        | cons d t =>
          have e' : [c, d] = [50, 48] := e
          cases e'
          exact ⟨t, rfl, rfl⟩
      rw [go_cons, s1, h1]
      have ih := repl_go n q (c :: p) (by simp only [List.length_cons] at hn; omega) hv.tail (rd_cons hv.head hp nb) fun a r d u e1 e2 => by
        cases e1
        subst e2
        have n2 := nb_of hv
        have hd := hv.tail.head
        rcases hv.head with z | z | z
        · subst z
          exact .inr ⟨by decide, not48 hv d u rfl⟩
        · subst z
          exact .inl ⟨rfl, fun y => n2.1 y.symm⟩
        · subst z
          refine .inr ⟨by decide, ?_⟩
          rcases hd with y | y | y
          · exact absurd ⟨u, by rw [y], rfl⟩ hit
          · exact y
          · exact absurd y.symm n2.1
      rw [ih, List.reverse_cons, List.append_assoc]
      rfl
theorem repl_back {u : List Nat} (h : Fw u) : Txt.replace (revS (S u)) (S [50, 48]) (S [48, 50]) = S (cut u.reverse) := by
  have e := PySem.StrLaws.replace_list (x := revS (S u)) (y := S [50, 48]) (z := S [48, 50]) (by decide)
  have g := repl_go u.reverse.length u.reverse [] (Nat.le_refl _) (fw_rd h) rd_nil fun a r c q z _ => by cases z
  refine str_eq_of_lists ?_
  rw [e]
  show PySem.StrLaws.replL [50, 48] [48, 50] u.reverse = cut u.reverse
  unfold cut
  rw [g, List.append_nil, List.reverse_reverse]
theorem cut_len : ∀ (n : Nat) (u : List Nat), u.length = n → Wd u → (cut u).length ≤ n
  | 0, u, h, _ => by
    rw [List.length_eq_zero_iff.mp h]
    exact Nat.le_refl _
  | n + 1, u, h, hw => by
    have hne : u ≠ [] := fun z => by rw [z] at h; cases h
    have eu := (List.dropLast_concat_getLast hne).symm
    have hl : u.dropLast.length = n := by rw [List.length_dropLast]; omega
    rw [eu] at hw ⊢
    generalize u.dropLast = v at hw hl ⊢
    generalize u.getLast hne = c at hw ⊢
    obtain ⟨hv, hc⟩ := wd_append.mp hw
    have ih := cut_len n v hl hv
    have hs := go_rd rd_nil hv
    unfold cut at ih ⊢
    rw [go_snoc]
    rw [List.length_reverse] at ih ⊢
    rcases step_ways hs (hc c List.mem_cons_self) with ⟨r, e0, e⟩ | ⟨q, _, e0, e⟩ | ⟨r, _, e0, _, e⟩ | ⟨e, _⟩
    · rw [e0] at ih; rw [e]; simp only [List.length_cons] at ih; omega
    · rw [e0] at ih; rw [e]; simp only [List.length_cons] at ih ⊢; omega
    · rw [e0] at ih; rw [e]; simp only [List.length_cons] at ih ⊢; omega
    · rw [e]; simp only [List.length_cons]; omega
end K7

namespace K7
open PySem PySem.Spec PyProof.Rows L2 Nr Nw
section
variable {P : Program} {w : World} {K : PySem.W.Frag} {mg : Str → Option Value} {base : Heap}

/-! ### is_reduced_text, reduced_text, back_text -/
def spIsRed : Sp := fun vs H Q _ => ∃ u : List Nat, vs = [.str (S u)] ∧ Q (.bl (isRed u)) H
theorem or_yes {c : Bool} {A : Prop} {Q : Bool → Prop} (h1 : c = true → Q true) (h2 : c = false → A) : if c = true then Q true else A := by
  cases c with
  | true => exact iteT (h1 rfl)
  | false => exact iteF (h2 rfl)
theorem ok_isRed (T : Txt w K mg) : Ok P w K mg base 1 "is_reduced_text" ["word"] spIsRed := by
  refine ok_of T.fIsReducedText fun f fd F => ?_
  refine F.ok scIsReducedText (fun vs H Q E h => ?_) (fun cdv A outer s H vs Q E hr h => ?_)
  · obtain ⟨u, rfl, _⟩ := h
    rfl
  · obtain ⟨u, rfl, q⟩ := h
    refine ⟨_, pss_one (ps_ret (pe_not (pe_or (pe_cmpR op_in_str pe_str (pv 0) (by rfl)) (pe_or (pe_cmpR op_in_str pe_str (pv 0) (by rfl)) (pe_or (pe_cmpR op_in_str pe_str (pv 0) (by rfl)) (pe_one (pe_cmpR op_in_str pe_str (pv 0) (by rfl)))))))), ?_⟩
    have fin : ∀ b : Bool, (!b) = isRed u → Q (.bl (!b)) H := fun b e => e ▸ q
    refine ⟨.str (S u), rfl, S [48, 48], S u, rfl, rfl, oc [48, 48] u, rfl, ?_⟩
    cases h0 : oc [48, 48] u with
    | true => exact iteT ⟨true, rfl, fin true (by unfold isRed; rw [h0]; rfl)⟩
    | false =>
    refine iteF ⟨.str (S u), rfl, S [49, 49], S u, rfl, rfl, oc [49, 49] u, rfl, ?_⟩
    cases h1 : oc [49, 49] u with
    | true => exact iteT ⟨true, rfl, fin true (by unfold isRed; rw [h0, h1]; rfl)⟩
    | false =>
    refine iteF ⟨.str (S u), rfl, S [50, 50], S u, rfl, rfl, oc [50, 50] u, rfl, ?_⟩
    cases h2 : oc [50, 50] u with
    | true => exact iteT ⟨true, rfl, fin true (by unfold isRed; rw [h0, h1, h2]; rfl)⟩
    | false =>
    refine iteF ⟨.str (S u), rfl, S [50, 48], S u, rfl, rfl, oc [50, 48] u, rfl, fin (oc [50, 48] u) (by unfold isRed; rw [h0, h1, h2]; rfl)⟩

def spRedText : Sp := fun vs H Q _ => ∃ u : List Nat, vs = [.str (S u)] ∧ Wt u ∧ ∀ H', Same H H' → Q (.str (S (cut u))) H'
theorem ok_redText (T : Txt w K mg) : Ok P w K mg base 3 "reduced_text" ["word"] spRedText := by
  refine ok_of T.fReducedText fun f fd F => ?_
  refine F.ok scReducedText (fun vs H Q E h => ?_) (fun cdv A outer s H vs Q E hr h => ?_)
  · obtain ⟨u, rfl, _⟩ := h
    rfl
  · obtain ⟨u, rfl, hu, q⟩ := h
    refine ⟨_, pss_cons (ps_if (pt_val (pe_callO (ok_isRed T) hr (by decide) (by rfl) (pa_cons (pv 0) pa_nil))) (pss_one (ps_ret (pv 0))) pss_nil)
      (pss_one (ps_ret (pe_callO (ok_spelled T) hr (by decide) (by rfl) (pa_cons (pe_callO (ok_coded T) hr (by decide) (by rfl) (pa_cons (pv 0) pa_nil)) pa_nil)))), ?_⟩
    refine ⟨.str (S u), rfl, u, rfl, isRed u, rfl, ?_⟩
    cases e : isRed u with
    | true =>
      refine iteT ⟨.str (S u), rfl, ?_⟩
      have := q H fun b x y => y
      rw [(isRed_iff hu.1).mp e] at this
      exact this
    | false =>
      refine iteF ⟨.str (S u), rfl, u, rfl, hu, fun H1 p sm np ep => ?_⟩
      have ha := codes_alt hu.1
      refine ⟨p, codesOf u, rfl, .inl (.inl ep), ha, ?_, fun H2 sm2 => ?_⟩
      · have := codes_len _ u rfl
        have := hu.2
        omega
      · have e2 : spell (codesOf u) = go [] u := (codes_go (s := []) trivial hu.1).2
        rw [e2]
        exact q H2 fun b x y => sm2 b x (sm b x y)

def spBackText : Sp := fun vs H Q _ => ∃ u : List Nat, vs = [.str (S u)] ∧ Fw u ∧ u.length ≤ 20000 ∧ Q (.str (S (cut u.reverse))) H
theorem iteDT {p A B : Prop} [Decidable p] (h : p) (a : A) : if decide p = true then A else B := by
  rw [decide_eq_true h]
  exact iteT a
theorem iteDF {p A B : Prop} [Decidable p] (h : ¬ p) (b : B) : if decide p = true then A else B := by
  rw [decide_eq_false h]
  exact iteF b
theorem str_one {c d : Nat} (h : c ≠ d) : ¬ V.str ⟨#[c]⟩ = V.str (S [d]) := fun z => h (List.cons.inj (congrArg (fun x : Str => x.cps.toList) (V.str.inj z))).1
theorem str_is {c d : Nat} (h : c = d) : V.str ⟨#[c]⟩ = V.str (S [d]) := by
  rw [h]
  rfl
/-! ### syllables -/
def spLast : Sp := fun vs H Q _ => ∃ (u : List Nat) (e : Nat), vs = [.str (S u), .int (e : Int)] ∧ 0 < e ∧ e ≤ u.length ∧ u.length ≤ 20000 ∧ Q (.str (S (lastS (u.take e).reverse).1)) H
theorem at_str {u : List Nat} {i : Nat} {c : Nat} (h : u[i]? = some c) : atI (S u).cps.toList (i : Int) = some c := atI_nat (xs := u) h
theorem take_rev {u : List Nat} {e c : Nat} (h : u[e]? = some c) : (u.take (e + 1)).reverse = c :: (u.take e).reverse := by
  rw [List.take_add_one, h]
  show (u.take e ++ [c]).reverse = _
  rw [List.reverse_append]
  rfl
theorem lastS_one {c : Nat} {r : List Nat} (h : ¬ (c = 50 ∧ ∃ q, r = 48 :: q)) : (lastS (c :: r)).1 = [c] := by
  by_cases e : c = 50
  · subst e
    cases r with
    | nil => rfl
    | cons b q =>
      by_cases e2 : b = 48
      · subst e2
        exact absurd ⟨rfl, q, rfl⟩ h
      · unfold lastS
        split
        · next e3 => exact absurd (List.cons.inj (List.cons.inj e3).2).1 e2
        · next e3 => rw [(List.cons.inj e3).1]
        · next e3 => cases e3
  · unfold lastS
    split
    · next e3 => exact absurd (List.cons.inj e3).1 e
    · next e3 => rw [(List.cons.inj e3).1]
    · next e3 => cases e3
theorem firstS_one {c : Nat} {r : List Nat} (h : ¬ (c = 48 ∧ ∃ q, r = 50 :: q)) : (firstS (c :: r)).1 = [c] := by
  unfold firstS
  split
  · next e3 => exact absurd ⟨(List.cons.inj e3).1, _, (List.cons.inj e3).2⟩ h
  · next e3 => rw [(List.cons.inj e3).1]
  · next e3 => cases e3
def spFirst : Sp := fun vs H Q _ => ∃ (u : List Nat) (e : Nat), vs = [.str (S u), .int (e : Int)] ∧ e < u.length ∧ u.length ≤ 20000 ∧ Q (.str (S (firstS (u.drop e)).1)) H
theorem cut_slice {u : List Nat} {a b : Nat} (ha : a ≤ u.length) (hab : a ≤ b) : cutS (S u) (some (a : Int)) (some (b : Int)) = S ((u.drop a).take (b - a)) := by
  unfold cutS
  have h1 : (S u).length = u.length := rfl
  rw [HT.sIx_nat, HT.sIx_nat, h1, Nat.min_eq_left ha]
  show (⟨((u.drop a).take (min b u.length - a)).toArray⟩ : Str) = S ((u.drop a).take (b - a))
  by_cases hb : b ≤ u.length
  · rw [Nat.min_eq_left hb]
    rfl
  · rw [Nat.min_eq_right (by omega)]
    rw [List.take_of_length_le (by rw [List.length_drop]; exact Nat.le_refl _), List.take_of_length_le (by rw [List.length_drop]; omega)]
    rfl
theorem cut_upto {u : List Nat} {b : Nat} (hb : b ≤ u.length) : cutS (S u) none (some (b : Int)) = S (u.take b) := by
  unfold cutS
  have h1 : (S u).length = u.length := rfl
  rw [HT.sIx_nat, HT.sIx_none, h1, Nat.min_eq_left hb]
  rfl
theorem cut_from {u : List Nat} {a : Nat} (ha : a ≤ u.length) : cutS (S u) (some (a : Int)) none = S (u.drop a) := by
  unfold cutS
  have h1 : (S u).length = u.length := rfl
  rw [HT.sIx_nat, HT.sIx_none, h1, Nat.min_eq_left ha]
  show (⟨((u.drop a).take (u.length - a)).toArray⟩ : Str) = S (u.drop a)
  rw [List.take_of_length_le (by rw [List.length_drop]; exact Nat.le_refl _)]
  rfl
theorem s_inj {a b : List Nat} (h : S a = S b) : a = b := congrArg (fun x : Str => x.cps.toList) h
end
end K7

namespace K7
open PySem PySem.Spec PyProof.Rows L2 Nr Nw
theorem lastS_len : ∀ (p : List Nat), (lastS p).2 = p.drop (lastS p).1.length ∧ (lastS p).1.length ≤ p.length ∧ (p ≠ [] → 1 ≤ (lastS p).1.length) := by
  intro p
  unfold lastS
  split
  · exact ⟨rfl, Nat.succ_le_succ (Nat.succ_le_succ (Nat.zero_le _)), fun _ => Nat.succ_le_succ (Nat.zero_le _)⟩
  · exact ⟨rfl, Nat.succ_le_succ (Nat.zero_le _), fun _ => Nat.le_refl _⟩
  · exact ⟨rfl, Nat.le_refl _, fun h => absurd rfl h⟩
theorem firstS_len : ∀ (p : List Nat), (firstS p).2 = p.drop (firstS p).1.length ∧ (firstS p).1.length ≤ p.length ∧ (p ≠ [] → 1 ≤ (firstS p).1.length) := by
  intro p
  unfold firstS
  split
  · exact ⟨rfl, Nat.succ_le_succ (Nat.succ_le_succ (Nat.zero_le _)), fun _ => Nat.succ_le_succ (Nat.zero_le _)⟩
  · exact ⟨rfl, Nat.succ_le_succ (Nat.zero_le _), fun _ => Nat.le_refl _⟩
  · exact ⟨rfl, Nat.le_refl _, fun h => absurd rfl h⟩
/-- a syllable is "0", "2", "02" or "1" -/
theorem lastS_four {p : List Nat} (hp : Rd p) (np : p ≠ []) : (lastS p).1 = [48] ∨ (lastS p).1 = [50] ∨ (lastS p).1 = [48, 50] ∨ (lastS p).1 = [49] := by
  rcases lastS_of hp np with ⟨r, _, e, _⟩ | ⟨c, r, e0, e, _⟩
  · rw [e]; exact .inr (.inr (.inl rfl))
  · rw [e]
    subst e0
    rcases hp.head with z | z | z <;> subst z
    · exact .inl rfl
    · exact .inr (.inr (.inr rfl))
    · exact .inr (.inl rfl)
theorem firstS_four {p : List Nat} (hp : Fw p) (np : p ≠ []) : (firstS p).1 = [48] ∨ (firstS p).1 = [50] ∨ (firstS p).1 = [48, 50] ∨ (firstS p).1 = [49] := by
  rcases firstS_of hp np with ⟨r, _, e, _⟩ | ⟨c, r, e0, e, _⟩
  · rw [e]; exact .inr (.inr (.inl rfl))
  · rw [e]
    subst e0
    rcases hp.head with z | z | z <;> subst z
    · exact .inl rfl
    · exact .inr (.inr (.inr rfl))
    · exact .inr (.inl rfl)
theorem kd_four {K : PySem.W.Frag} {w : World} {a : Addr} (h0 : KDct K w a "0" (.int 1)) (h1 : KDct K w a "1" (.int 4)) (h2 : KDct K w a "2" (.int 2)) (h3 : KDct K w a "02" (.int 3)) {t : List Nat} (h : t = [48] ∨ t = [50] ∨ t = [48, 50] ∨ t = [49]) :
    KDct K w a (S t) (.int (cdS t : Int)) := by
  rcases h with e | e | e | e <;> subst e
  · exact h0
  · exact h2
  · exact h3
  · exact h1
theorem sg_four {a b : Nat} (ha : a = 1 ∨ a = 2 ∨ a = 3) (hb : b = 1 ∨ b = 2 ∨ b = 3) (ne : a ≠ b) : ([S [], S [48], S [50], S [48, 50], S [49]] : List Str)[a ^^^ b]? = some (S (sgS (a ^^^ b))) ∧ (sgS (a ^^^ b)).length ≤ 2 := by
  rcases ha with e | e | e <;> rcases hb with f | f | f <;> subst e <;> subst f <;> first | exact absurd rfl ne | exact ⟨rfl, by decide⟩
theorem cdS_inj {a b : List Nat} (ha : a = [48] ∨ a = [50] ∨ a = [48, 50] ∨ a = [49]) (hb : b = [48] ∨ b = [50] ∨ b = [48, 50] ∨ b = [49]) (h : cdS a = cdS b) : a = b := by
  rcases ha with e | e | e | e <;> rcases hb with f | f | f | f <;> subst e <;> subst f <;> first | rfl | (exfalso; revert h; decide)
section
variable {P : Program} {w : World} {K : PySem.W.Frag} {mg : Str → Option Value} {base : Heap}

def spJoined : Sp := fun vs H Q _ => ∃ u v : List Nat, vs = [.str (S u), .str (S v)] ∧ (Fw u ∧ u.length ≤ 20000) ∧ (Fw v ∧ v.length ≤ 20000) ∧ Q (.str (S (cut (u ++ v)))) H
theorem cut_two {u v : List Nat} (hu : Fw u) : cut (u ++ v) = (go u.reverse v).reverse := by
  unfold cut
  rw [go_append]
  have := go_self (fw_rd hu)
  rw [List.reverse_reverse] at this
  rw [this]
theorem s_app (a b : List Nat) : S a ++ S b = S (a ++ b) := by
  show (⟨a.toArray ++ b.toArray⟩ : Str) = ⟨(a ++ b).toArray⟩
  rw [List.append_toArray]
end
end K7

namespace K7
open PySem PySem.Spec PyProof.Rows L2 Nr Nw
theorem same_new {H : Hp} {p : Addr} {o : HO} (h : H p = none) : Same H (upd H p o) := fun b x e => by
  rw [upd_ne (ne_of_none e h)]
  exact e
theorem Same.to {H H1 H2 : Hp} (a : Same H H1) (b : Same H1 H2) : Same H H2 := fun x o h => b x o (a x o h)
theorem Same.id (H : Hp) : Same H H := fun _ _ h => h
theorem same_mut {H H1 : Hp} {p : Addr} {o : HO} (a : Same H H1) (n : H p = none) : Same H (upd H1 p o) := fun x u e => by
  rw [upd_ne (ne_of_none e n)]
  exact a x u e
section
variable {P : Program} {w : World} {K : PySem.W.Frag} {mg : Str → Option Value} {base : Heap}

/-! ### strange_place, need_word, limited -/
def spStrange : Sp := fun vs H Q _ => ∃ u : List Nat, vs = [.str (S u)] ∧ Wd u ∧ ∀ H', Same H H' → Q .non H'
theorem in_signs {c : Nat} (h : Sg c) : inV (.str ⟨#[c]⟩) [.str (S [48]), .str (S [49]), .str (S [50])] = true := by
  rcases h with e | e | e <;> subst e <;> rfl
theorem ok_strange (T : Txt w K mg) : Ok P w K mg base 1 "strange_place" ["text"] spStrange := by
  refine ok_of T.fStrangePlace fun f fd F => ?_
  refine F.ok scStrangePlace (fun vs H Q E h => ?_) (fun cdv A outer s H vs Q E hr h => ?_)
  · obtain ⟨u, rfl, _⟩ := h
    rfl
  · obtain ⟨u, rfl, hw, q⟩ := h
    refine ⟨_, pss_cons (ps_for PassesOwn.never rfl (pi_es (by rfl) T.nenumerate (pa_cons (pv 0) pa_nil)) (pg_tup rfl (pgs_cons (pg_name (i := 1) scStrangePlace.nd rfl (.inl rfl)) (pgs_cons (pg_name (i := 2) scStrangePlace.nd rfl (.inl rfl)) pgs_nil)))
        (pss_one (ps_if (pt_cmpR op_notIn_seq (pv 2) (pe_tup (pa_cons pe_str (pa_cons pe_str (pa_cons pe_str pa_nil)))) (by rfl)) (pss_one (ps_ret (pv 1))) pss_nil)))
      (pss_one (ps_ret pe_non)), ?_⟩
    refine ⟨.str (S u), rfl, S u, rfl, fun i m σ H3 => ∃ y1 y2, σ = [some (.str (S u)), y1, y2] ∧ i + m = u.length ∧ Same H H3, ⟨u.length, none, none, rfl, by omega, Same.id H⟩, ?_⟩
    rintro i m σ H3 ⟨y1, y2, rfl, em, sm⟩
    by_cases hi : i < u.length
    · refine .inr ⟨hi, fun σ' H' => ∃ y1 y2, σ' = [some (.str (S u)), y1, y2] ∧ Same H H', ?_, ?_⟩
      · rintro σ' H' ⟨z1, z2, e, sm'⟩
        exact ⟨m - 1, by omega, z1, z2, e, by omega, sm'⟩
      · rintro v H' ⟨Tp, c, rfl, nT, hc, rfl⟩
        have hs : Sg c := by
          have e : u[i]? = some c := by
            have e0 : (S u).cps[i]? = u[i]? := List.getElem?_toArray
            rw [← e0]
            exact hc
          exact hw c (List.mem_of_getElem? e)
        refine ⟨Tp, [.int (i : Nat), .str ⟨#[c]⟩], rfl, .inl (.inl upd_same), rfl, _, [.str ⟨#[c]⟩], rfl, _, [], rfl, rfl, ?_⟩
        refine ⟨.str ⟨#[c]⟩, rfl, by decide, fun t ht => ⟨t, _, rfl, .inr (.inl (.inl upd_same)), rfl, rfl, _, rfl, ?_⟩⟩
        show if (!inV (.str ⟨#[c]⟩) [.str (S [48]), .str (S [49]), .str (S [50])]) = true then _ else _
        rw [in_signs hs]
        refine iteF ⟨_, _, rfl, ?_⟩
        exact Same.to sm (Same.to (same_new nT) (same_new ht))
    · refine .inl ⟨by show u.length ≤ i; omega, ?_⟩
      exact q H3 sm
def spNeed : Sp := fun vs H Q _ => ∃ u : List Nat, vs = [.str (S u)] ∧ Wd u ∧ ∀ H', Same H H' → Q (.str (S u)) H'
theorem ok_need (T : Txt w K mg) : Ok P w K mg base 2 "need_word" ["word"] spNeed := by
  refine ok_of T.fNeedWord fun f fd F => ?_
  refine F.ok scNeedWord (fun vs H Q E h => ?_) (fun cdv A outer s H vs Q E hr h => ?_)
  · obtain ⟨u, rfl, _⟩ := h
    rfl
  · obtain ⟨u, rfl, hw, q⟩ := h
    refine ⟨_, pss_cons (ps_if (pt_not (pt_val (pe_callB call_isi (by rfl) T.nisinstance (by decide +kernel) (pa_cons (pv 0) (pa_cons (pe_bltn (v := .ty "str") (by rfl) T.nstr (by decide +kernel) rfl) pa_nil))))) (pss_one ps_never) pss_nil)
      (pss_cons (ps_set (i := 1) scNeedWord.nd rfl (.inl rfl) (pe_callO (ok_strange T) hr (by decide) (by rfl) (pa_cons (pv 0) pa_nil)))
      (pss_cons (ps_if (pt_cmpR op_notN (pv 1) pe_non (nomark _)) (pss_one ps_never) pss_nil)
      (pss_one (ps_ret (pv 0))))), ?_⟩
    refine ⟨.str (S u), rfl, .str (S u), .ty "str", .type "str", .type "str", true, rfl, .ty "str", .base (.str _), kit_ty (by decide +kernel), true, rfl, iteF ?_⟩
    refine ⟨.str (S u), rfl, u, rfl, hw, fun H1 sm => ?_⟩
    refine ⟨.non, rfl, rfl, _, rfl, iteF ?_⟩
    exact ⟨.str (S u), rfl, q H1 sm⟩
def spLimited : Sp := fun vs H Q _ => ∃ u : List Nat, vs = [.str (S u)] ∧ u.length ≤ 20000 ∧ Q (.str (S u)) H
/-! ### reduced, back, then, is_reduced -/
def spReduced : Sp := fun vs H Q _ => ∃ u : List Nat, vs = [.str (S u)] ∧ Wt u ∧ ∀ H', Same H H' → Q (.str (S (cut u))) H'
def spBack : Sp := fun vs H Q _ => ∃ u : List Nat, vs = [.str (S u)] ∧ Wt u ∧ ∀ H', Same H H' → Q (.str (S (cut u.reverse))) H'
def spThen : Sp := fun vs H Q _ => ∃ u v : List Nat, vs = [.str (S u), .str (S v)] ∧ (Wd u ∧ Wd v) ∧ u.length + v.length ≤ 20000 ∧ ∀ H', Same H H' → Q (.str (S (cut (u ++ v)))) H'
def spIsReduced : Sp := fun vs H Q _ => ∃ u : List Nat, vs = [.str (S u)] ∧ Wd u ∧ ∀ H', Same H H' → Q (.bl (isRed u)) H'
end
end K7

namespace K7
open PySem PySem.Spec PyProof.Rows L2 Nr Nw

/-! ### pairs of a number and a text, by < -/
/-- (n, x) < (m, y) -/
def ltP (n : Int) (x : Str) (m : Int) (y : Str) : Bool := if n = m then (if x = y then false else decide (x.cps.toList < y.cps.toList)) else decide (n < m)
def rLtP (K : PySem.W.Frag) : R2 := fun p q H Q => ∃ (a b : Addr) (n m : Int) (x y : Str), p = .ref a ∧ q = .ref b ∧ SqT K H a [.int n, .str x] ∧ SqT K H b [.int m, .str y] ∧ Q (.bl (ltP n x m y)) H
theorem first_ltP (n m : Int) (x y : Str) : SeqAt.firstLt (fun j => if j = 0 then (n == m) else (x == y)) (fun j => if j = 0 then decide (n < m) else decide (x.cps.toList < y.cps.toList)) false [0, 1] = ltP n x m y := by
  unfold ltP
  by_cases h1 : n = m
  · subst h1
    rw [if_pos rfl]
    rw [SeqAt.firstLt_yes (by show (n == n) = true; exact beq_self_eq_true n)]
    by_cases h2 : x = y
    · subst h2
      rw [if_pos rfl, SeqAt.firstLt_yes (by show (x == x) = true; exact beq_self_eq_true x)]
      rfl
    · rw [if_neg h2, SeqAt.firstLt_no (by show (x == y) = false; exact beq_eq_false_iff_ne.mpr h2)]
      rfl
  · rw [if_neg h1, SeqAt.firstLt_no (by show (n == m) = false; exact beq_eq_false_iff_ne.mpr h1)]
    rfl
theorem rc_pair {A : Around} {s : Shared} {a b : Addr} {n m : Int} {x y : Str} {t1 t2 t3 t4 : Tok} (h1 : s.heap.IsTuple a #[.int n t1, .str x t2]) (h2 : s.heap.IsTuple b #[.int m t3, .str y t4]) (hu : A.units < cLine) :
    SeqAt.RcLt A s (.ref a) (.ref b) (ltP n x m y) := by
  rw [← first_ltP n m x y]
  refine SeqAt.RcLt.tuples (e := fun j => if j = 0 then (n == m) else (x == y)) (r := fun j => if j = 0 then decide (n < m) else decide (x.cps.toList < y.cps.toList)) h1 h2 hu ?_ ?_
  · intro j k1 k2
    rcases j with _ | _ | j
    · exact SeqAt.EqAt.int_int n t1 m t3
    · exact SeqAt.EqAt.str_str x t2 y t4
    · exact absurd k1 (by show ¬ (j + 2 < 2); omega)
  · intro j k1 k2 _
    rcases j with _ | _ | j
    · exact fun prog w E Q q => HT.rcLt_int A.in1 s n t1 m t3 prog w E Q q
    · exact fun prog w E Q q => DT.rcLt_str A.in1 s x t2 y t4 prog w E Q q
    · exact absurd k1 (by show ¬ (j + 2 < 2); omega)
theorem op_ltP {X : Cx} (hu : X.A.units < cLine) : OpR X (compareOp .Lt) (rLtP X.K) := by
  intro pins s σ H p q v u Q I rp rq h
  obtain ⟨a, b, n, m, x, y, rfl, rfl, ha, hb, k⟩ := h
  cases rp
  cases rq
  obtain ⟨i1, r1, p1, _⟩ := I.tuple ha
  obtain ⟨i2, r2, p2, _⟩ := I.tuple hb
  obtain ⟨v1, v2, rfl, ⟨t1, rfl⟩, ⟨t2, rfl⟩⟩ := vals2 r1
  obtain ⟨w1, w2, rfl, ⟨t3, rfl⟩, ⟨t4, rfl⟩⟩ := vals2 r2
  exact rc_pair p1 p2 hu X.prog X.w X.xe (EP X pins σ Q) ⟨.bl (ltP n x m y), H, I, rfl, k⟩
def ahead (u v : List Nat) : Bool := ltP (u.length : Nat) (S u) (v.length : Nat) (S v)
theorem ahead_self (u : List Nat) : ahead u u = false := by
  unfold ahead ltP
  rw [if_pos rfl, if_pos rfl]
section
variable {P : Program} {w : World} {K : PySem.W.Frag} {mg : Str → Option Value} {base : Heap}
def spIsAhead : Sp := fun vs H Q _ => ∃ u v : List Nat, vs = [.str (S u), .str (S v)] ∧ Wt u ∧ Wt v ∧ ∀ H', Same H H' → Q (.bl (ahead (cut u) (cut v))) H'
end
end K7

namespace K7
open PySem PySem.Spec PyProof.Rows L2 Nr Nw
section
variable {P : Program} {w : World} {K : PySem.W.Frag} {mg : Str → Option Value} {base : Heap}

/-! ### the law's own draws -/
def spMixed : Sp := fun vs H Q _ => ∃ c n : Int, vs = [.int c, .int n] ∧ (0 ≤ c ∧ c < 4611686018427387904) ∧ (0 ≤ n ∧ n < 1000000) ∧ ∀ r : Int, 0 ≤ r → r < 2147483629 → Q (.int r) H
theorem ok_mixed (T : Txt w K mg) : Ok P w K mg base 1 "_law_mixed" ["cell", "n"] spMixed := by
  refine ok_of T.fLawMixed fun f fd F => ?_
  refine F.ok scLawMixed (fun vs H Q E h => ?_) (fun cdv A outer s H vs Q E hr h => ?_)
  · obtain ⟨c, n, rfl, _⟩ := h
    rfl
  · obtain ⟨c, n, rfl, ⟨c0, c1⟩, ⟨n0, n1⟩, q⟩ := h
    refine ⟨_, pss_cons (ps_set (i := 2) scLawMixed.nd rfl (.inl rfl) (pe_op op_add (pe_op op_add (pe_op op_mod (pe_callTy call_int1 (by rfl) T.nint (by decide +kernel) (pa_cons (pe_op op_mul (pe_op op_mul (pv 0) (pe_op op_add pe_int (pe_op op_mul pe_int (pv 1)))) pe_int) pa_nil)) pe_int)
        (pe_op op_mul (pe_op op_mul pe_int (pv 1)) (pv 1))) (pe_op op_mul pe_int (pv 1))))
      (pss_one (ps_ret (pe_op op_fdiv (pe_op op_mod (pe_callTy call_int1 (by rfl) T.nint (by decide +kernel) (pa_cons (pe_op op_mul (pv 2) pe_int) pa_nil)) pe_int) pe_int))), ?_⟩
    have k2 : CMul 2 n := .inl ⟨by decide, by decide⟩
    refine ⟨.int c, rfl, .int n, rfl, 2, n, rfl, rfl, k2, 1, 2 * n, rfl, rfl, c, 1 + 2 * n, rfl, rfl, .inl ⟨by omega, by omega⟩, c * (1 + 2 * n), 48271, rfl, rfl, .inr ⟨by decide, by decide⟩, ?_⟩
    refine .inl ⟨_, rfl, _, _, rfl, rfl, by show (0 : Int) < 2147483647; decide, .int n, rfl, 7919, n, rfl, rfl, .inl ⟨by decide, by decide⟩, .int n, rfl, 7919 * n, n, rfl, rfl, .inr ⟨by omega, by omega⟩, _, _, rfl, rfl, .int n, rfl, 104729, n, rfl, rfl, .inl ⟨by decide, by decide⟩, _, _, rfl, rfl, ?_⟩
    refine ⟨_, rfl, _, _, rfl, rfl, .inr ⟨by decide, by decide⟩, .inl ⟨_, rfl, _, _, rfl, rfl, by show (0 : Int) < 2147483629; decide, _, _, rfl, rfl, ⟨by decide, by decide⟩, ?_⟩⟩
    generalize (c * (1 + 2 * n) * 48271) % 2147483647 + 7919 * n * n + 104729 * n = b
    have h1 := Int.emod_nonneg (b * 69621) (show (2147483629 : Int) ≠ 0 by decide)
    have h2 := Int.emod_lt_of_pos (b * 69621) (show (0 : Int) < 2147483629 by decide)
    generalize (b * 69621) % 2147483629 = r at *
    exact q (r / 7) (by omega) (by omega)

def Cells (fs : List Int) : Prop := fs.length = 64 ∧ ∀ x ∈ fs, 0 ≤ x ∧ x < 2147483647
theorem Cells.get {fs : List Int} (h : Cells fs) {j : Nat} (hj : j < 64) : ∃ x, fs[j]? = some x ∧ 0 ≤ x ∧ x < 2147483647 := by
  have hl : j < fs.length := by rw [h.1]; exact hj
  exact ⟨fs[j], List.getElem?_eq_getElem hl, h.2 _ (List.getElem_mem hl)⟩
theorem Cells.set {fs : List Int} (h : Cells fs) (j : Nat) {y : Int} (h0 : 0 ≤ y) (h1 : y < 2147483647) : Cells (fs.set j y) := by
  refine ⟨by rw [List.length_set]; exact h.1, fun x hx => ?_⟩
  rcases List.mem_or_eq_of_mem_set hx with e | e
  · exact h.2 x e
  · rw [e]; exact ⟨h0, h1⟩
theorem map_int_get {fs : List Int} {j : Nat} {x : Int} (h : fs[j]? = some x) : (fs.map V.int)[j]? = some (.int x) := by
  rw [List.getElem?_map, h]
  rfl
theorem mod_cell (y : Int) : 0 ≤ y % 2147483647 ∧ y % 2147483647 < 2147483647 := ⟨Int.emod_nonneg _ (by decide), Int.emod_lt_of_pos _ (by decide)⟩
theorem ixN_nat {n j : Nat} (h : j < n) : ixN n ((j : Nat) : Int) = some j := by
  unfold ixN
  rw [if_pos (by omega), if_pos (by omega), Int.toNat_natCast]
/-- a list of cells at l, whatever they are -/
def CellsAt (H : Hp) (l : Addr) : Prop := ∃ fs : List Int, H l = some (.lst (fs.map V.int)) ∧ Cells fs
def spFolded (K : PySem.W.Frag) : Sp := fun vs H Q _ => ∃ (a : Addr) (ns : List Int), vs = [.ref a] ∧ SqL K H a (ns.map V.int) ∧ ∀ (p : Addr) (H' : Hp), Same H H' → H p = none → CellsAt H' p → Q (.ref p) H'
theorem ok_folded (T : Txt w K mg) : Ok P w K mg base 1 "_law_folded" ["script"] (spFolded K) := by
  refine ok_of T.fLawFolded fun f fd F => ?_
  refine F.ok scLawFolded (fun vs H Q E h => ?_) (fun cdv A outer s H vs Q E hr h => ?_)
  · obtain ⟨a, ns, rfl, _⟩ := h
    rfl
  · obtain ⟨a, ns, rfl, hS, q⟩ := h
    refine ⟨_, pss_cons (ps_setLc (i := 1) (own := [("n", 2)]) (g := gName 2) (tt := tYes) (by rfl) scLawFolded.nd rfl rfl (sw_true rfl rfl rfl (by decide +kernel)) (pi_range1 (by rfl) T.nrange (pa_cons pe_int pa_nil))
        (blkOk_by (N := ["script", "found", "n", "cell"]) (sc := defScope sLawFolded) (by decide +kernel)) (fun _ _ _ _ _ => pg_name (i := 2) scLawFolded.nd rfl (.inl rfl)) (fun _ _ _ _ _ => pts_nil) (fun _ _ _ _ _ => pe_op op_add pe_int (pv 2)))
      (pss_cons (ps_for PassesOwn.never rfl (pi_enum (by rfl) T.nenumerate (pa_cons (pv 0) pa_nil)) (pg_tup rfl (pgs_cons (pg_name (i := 2) scLawFolded.nd rfl (.inl rfl)) (pgs_cons (pg_name (i := 3) scLawFolded.nd rfl (.inl rfl)) pgs_nil)))
        (pss_one (ps_asg (pe_op op_mod (pe_callTy call_int1 (by rfl) T.nint (by decide +kernel) (pa_cons (pe_op op_add (pe_op op_mul (pe_ix (r := rIxL K) ix_list (pv 1) (pe_op op_mod (pe_callTy call_int1 (by rfl) T.nint (by decide +kernel) (pa_cons (pv 2) pa_nil)) pe_int) (fun _ _ => rfl)) pe_int) (pv 3)) pa_nil)) pe_int)
          (pg_sub (pv 1) (pe_op op_mod (pe_callTy call_int1 (by rfl) T.nint (by decide +kernel) (pa_cons (pv 2) pa_nil)) pe_int) set_list))))
      (pss_cons (ps_for PassesOwn.never rfl (pi_range2 (by rfl) T.nrange (pa_cons pe_int (pa_cons pe_int pa_nil))) (pg_name (i := 2) scLawFolded.nd rfl (.inl rfl))
        (pss_one (ps_asg (pe_op op_mod (pe_callTy call_int1 (by rfl) T.nint (by decide +kernel) (pa_cons (pe_op op_add (pe_ix (r := rIxL K) ix_list (pv 1) (pv 2) (fun _ _ => rfl)) (pe_op op_mul (pe_ix (r := rIxL K) ix_list (pv 1) (pe_op op_sub (pv 2) pe_int) (fun _ _ => rfl)) pe_int)) pa_nil)) pe_int)
          (pg_sub (pv 1) (pv 2) set_list))))
      (pss_one (ps_ret (pv 1))))), ?_⟩
    -- found = [17 + n for n in range(64)]
    refine ⟨64, rfl, by decide, by decide, fun l nl => ?_⟩
    refine lc_range (lo := 0) (n := 64) (fun i H' => Same H H' ∧ ∃ fs : List Int, H' l = some (.lst (fs.map V.int)) ∧ fs.length = i ∧ ∀ x ∈ fs, 0 ≤ x ∧ x < 2147483647) ⟨same_new nl, [], upd_same, rfl, fun x hx => by cases hx⟩ (fun i H' hi h => ?_) (fun H1 h => ?_)
    · obtain ⟨sm, fs, e, hl, hb⟩ := h
      refine ⟨rfl, yes (iteT ⟨.int (0 + (i : Nat)), rfl, 17, 0 + (i : Nat), rfl, rfl, _, e, ?_, same_mut sm nl, fs ++ [17 + (0 + (i : Int))], ?_, ?_, ?_⟩)⟩
      · rw [List.length_map, hl]
        exact Nat.lt_of_lt_of_le hi (by decide)
      · rw [upd_same, List.map_append]
        rfl
      · rw [List.length_append, hl]
        rfl
      · intro x hx
        rcases List.mem_append.mp hx with y | y
        · exact hb x y
        · rw [List.mem_singleton.mp y]
          omega
    obtain ⟨sm1, fs1, e1, hl1, hb1⟩ := h
    -- for n, cell in enumerate(script)
    refine ⟨.ref a, rfl, a, ns.map V.int, rfl, sm1.seq hS, ?_⟩
    refine ⟨fun i m σ H3 => ∃ y2 y3, σ = [some (.ref a), some (.ref l), y2, y3] ∧ i + m = ns.length ∧ Same H H3 ∧ CellsAt H3 l, ⟨ns.length, _, _, rfl, by omega, sm1, fs1, e1, hl1, hb1⟩, ?_⟩
    rintro i m σ H3 ⟨y2, y3, rfl, em, sm, fs, e, hc⟩
    have hA : SqL K H3 a (ns.map V.int) := sm.seq hS
    by_cases hi : i < ns.length
    · have g : (ns.map V.int)[i]? = some (.int ns[i]) := map_int_get (List.getElem?_eq_getElem hi)
      refine .inr ⟨⟨_, _, hA, g⟩, fun σ' H' => ∃ y2 y3, σ' = [some (.ref a), some (.ref l), y2, y3] ∧ Same H H' ∧ CellsAt H' l, ?_, ?_⟩
      · rintro σ' H' ⟨z2, z3, e', sm', c'⟩
        exact ⟨m - 1, by omega, z2, z3, e', by omega, sm', c'⟩
      · rintro v H' ⟨Tp, x, rfl, nT, rfl, fx⟩
        have ex : x = .int ns[i] := Option.some.inj ((fx _ hA).symm.trans g)
        subst ex
        refine ⟨Tp, [.int (i : Nat), .int ns[i]], rfl, .inl (.inl upd_same), rfl, _, [.int ns[i]], rfl, _, [], rfl, rfl, ?_⟩
        have ne : l ≠ Tp := ne_of_none e nT
        have eT : (upd H3 Tp (.tup [.int (i : Nat), .int ns[i]])) l = some (.lst (fs.map V.int)) := by
          rw [upd_ne ne]
          exact e
        obtain ⟨x, hx, x0, x1⟩ := hc.get (j := i % 64) (Nat.mod_lt _ (by decide))
        have im : ((i : Nat) : Int) % 64 = ((i % 64 : Nat) : Int) := rfl
        have pos64 : (0 : Int) < 64 := by decide
        have posM : (0 : Int) < 2147483647 := by decide
        refine ⟨.ref l, rfl, .int (i : Nat), rfl, .inl ⟨_, rfl, _, _, rfl, rfl, pos64, l, _, _, .int x, rfl, rfl, .inl (.inl eT), atI_nat (map_int_get hx), _, _, rfl, rfl, .inr ⟨by decide, by decide⟩, .int ns[i], rfl, _, _, rfl, rfl, .inl ⟨_, rfl, _, _, rfl, rfl, posM, ?_⟩⟩⟩
        have mc := mod_cell (x * 48271 + ns[i])
        refine ⟨.ref l, rfl, .int (i : Nat), rfl, .inl ⟨_, rfl, _, _, rfl, rfl, pos64, l, _, _, i % 64, rfl, rfl, eT, ?_, ?_⟩⟩
        · rw [List.length_map, hc.1]
          exact ixN_nat (Nat.mod_lt _ (by decide))
        · refine ⟨_, _, rfl, same_mut (Same.to sm (same_new nT)) nl, fs.set (i % 64) ((x * 48271 + ns[i]) % 2147483647), ?_, hc.set _ mc.1 mc.2⟩
          rw [upd_same, List.map_set]
    · refine .inl ⟨⟨_, hA, by rw [List.length_map]; omega⟩, ?_⟩
      -- for n in range(1, 64)
      refine ⟨1, 64, rfl, ⟨by decide, by decide, by decide, by decide⟩, ?_⟩
      refine ⟨fun i m σ H4 => ∃ y2 y3, σ = [some (.ref a), some (.ref l), y2, y3] ∧ i + m = 63 ∧ Same H H4 ∧ CellsAt H4 l, ⟨63, _, _, rfl, rfl, sm, fs, e, hc⟩, ?_⟩
      rintro j m' σ H4 ⟨z2, z3, rfl, em', sm', fs', e', hc'⟩
      by_cases hj : j < 63
      · refine .inr ⟨hj, fun σ' H' => ∃ y2 y3, σ' = [some (.ref a), some (.ref l), y2, y3] ∧ Same H H' ∧ CellsAt H' l, ?_, ?_⟩
        · rintro σ' H' ⟨w2, w3, ew, sw, cw⟩
          exact ⟨m' - 1, by omega, w2, w3, ew, by omega, sw, cw⟩
        · rintro v H' ⟨rfl, rfl⟩
          obtain ⟨x, hx, x0, x1⟩ := hc'.get (j := j + 1) (by omega)
          obtain ⟨y, hy, y0, y1⟩ := hc'.get (j := j) (by omega)
          have i1 : (1 : Int) + ((j : Nat) : Int) = ((j + 1 : Nat) : Int) := by omega
          have i2 : (1 : Int) + ((j : Nat) : Int) - 1 = ((j : Nat) : Int) := by omega
          have posM : (0 : Int) < 2147483647 := by decide
          have mc := mod_cell (x + y * 16807)
          refine ⟨.ref l, rfl, .int (1 + (j : Nat)), rfl, l, _, _, .int x, rfl, rfl, .inl (.inl e'), ?_, .ref l, rfl, .int (1 + (j : Nat)), rfl, _, _, rfl, rfl, l, _, _, .int y, rfl, rfl, .inl (.inl e'), ?_, _, _, rfl, rfl, .inr ⟨by decide, by decide⟩, _, _, rfl, rfl, .inl ⟨_, rfl, _, _, rfl, rfl, posM, ?_⟩⟩
          · rw [i1]
            exact atI_nat (map_int_get hx)
          · rw [i2]
            exact atI_nat (map_int_get hy)
          · refine ⟨.ref l, rfl, .int (1 + (j : Nat)), rfl, l, _, _, j + 1, rfl, rfl, e', ?_, ?_⟩
            · rw [List.length_map, hc'.1, i1]
              exact ixN_nat (by omega)
            · refine ⟨_, _, rfl, same_mut sm' nl, fs'.set (j + 1) ((x + y * 16807) % 2147483647), ?_, hc'.set _ mc.1 mc.2⟩
              rw [upd_same, List.map_set]
      · refine .inl ⟨by show 63 ≤ j; omega, ?_⟩
        exact ⟨.ref l, rfl, q l H4 sm' nl ⟨fs', e', hc'⟩⟩
end
end K7

namespace K7
open PySem PySem.Spec PyProof.Rows L2 Nr Nw
def mD (lc lg : Addr) (n : Nat) : List (Key × V) := [(.inr "cells", .ref lc), (.inr "great", .ref lg), (.inr "spot", .int (n : Int))]
theorem k_cg : ¬ (("cells" : Str) = "great") := by decide +kernel
theorem k_cs : ¬ (("cells" : Str) = "spot") := by decide +kernel
theorem k_gc : ¬ (("great" : Str) = "cells") := by decide +kernel
theorem k_gs : ¬ (("great" : Str) = "spot") := by decide +kernel
theorem inr_ne {a b : Str} (h : ¬ a = b) : ¬ ((Sum.inr a : Key) = Sum.inr b) := fun e => h (Sum.inr.inj e)
theorem mD_cells (lc lg : Addr) (n : Nat) : valV (mD lc lg n) (.inr "cells") = some (.ref lc) := valV_pos rfl
theorem mD_great (lc lg : Addr) (n : Nat) : valV (mD lc lg n) (.inr "great") = some (.ref lg) := by
  unfold mD valV
  rw [List.find?_cons_of_neg (by rw [decide_eq_true_eq]; exact inr_ne k_cg), List.find?_cons_of_pos (by rw [decide_eq_true_eq])]
  rfl
theorem mD_spot (lc lg : Addr) (n : Nat) : valV (mD lc lg n) (.inr "spot") = some (.int (n : Int)) := by
  unfold mD valV
  rw [List.find?_cons_of_neg (by rw [decide_eq_true_eq]; exact inr_ne k_cs), List.find?_cons_of_neg (by rw [decide_eq_true_eq]; exact inr_ne k_gs), List.find?_cons_of_pos (by rw [decide_eq_true_eq])]
  rfl
theorem mD_put (lc lg : Addr) (n k : Nat) : putK (mD lc lg n) (.inr "spot") (.int (k : Int)) = mD lc lg k := by
  unfold mD putK
  rw [if_pos (by rw [List.any_cons, List.any_cons, List.any_cons, decide_eq_true (show (Sum.inr "spot" : Key) = .inr "spot" from rfl)]; simp only [Bool.true_or, Bool.or_true])]
  simp only [List.map_cons, List.map_nil, if_neg (inr_ne k_cs), if_neg (inr_ne k_gs), if_true]
theorem mD_putG (lc lg lg' : Addr) (n : Nat) : putK (mD lc lg n) (.inr "great") (.ref lg') = mD lc lg' n := by
  unfold mD putK
  have k_sg : ¬ (("spot" : Str) = "great") := fun e => k_gs e.symm
  rw [if_pos (by rw [List.any_cons, List.any_cons, List.any_cons, decide_eq_true (show (Sum.inr "great" : Key) = .inr "great" from rfl)]; simp only [Bool.true_or, Bool.or_true])]
  simp only [List.map_cons, List.map_nil, if_neg (inr_ne k_cg), if_neg (inr_ne k_sg), if_true]

/-- the state of the draws: at most k numbers were drawn -/
def MS (H : Hp) (m lc lg : Addr) (k : Nat) : Prop := lc ≠ lg ∧ m ≠ lg ∧ m ≠ lc ∧ (∃ n : Nat, n ≤ k ∧ H m = some (.dK (mD lc lg n))) ∧ CellsAt H lc ∧ ∃ gs : List Int, gs.length ≤ 63 ∧ H lg = some (.lst (gs.map V.int))
/-- what was there stays, but for the state -/
def Off (m lg : Addr) (H H' : Hp) : Prop := ∀ a o, a ≠ m → a ≠ lg → H a = some o → H' a = some o
theorem Off.same {m lg : Addr} {H H' : Hp} (h : Same H H') : Off m lg H H' := fun a o _ _ e => h a o e
theorem Off.to {m lg : Addr} {H H1 H2 : Hp} (a : Off m lg H H1) (b : Off m lg H1 H2) : Off m lg H H2 := fun x o h1 h2 e => b x o h1 h2 (a x o h1 h2 e)
theorem MS.same {H H' : Hp} {m lc lg : Addr} {k : Nat} (h : MS H m lc lg k) (s : Same H H') : MS H' m lc lg k := by
  obtain ⟨a, b, c, ⟨n, hn, e⟩, ⟨fs, ef, hf⟩, gs, hg, eg⟩ := h
  exact ⟨a, b, c, ⟨n, hn, s _ _ e⟩, ⟨fs, s _ _ ef, hf⟩, gs, hg, s _ _ eg⟩
theorem MS.le {H : Hp} {m lc lg : Addr} {k j : Nat} (h : MS H m lc lg k) (hj : k ≤ j) : MS H m lc lg j := by
  obtain ⟨a, b, c, ⟨n, hn, e⟩, r⟩ := h
  exact ⟨a, b, c, ⟨n, Nat.le_trans hn hj, e⟩, r⟩
/-- an object that is no part of the state may change -/
theorem MS.mut {H : Hp} {m lc lg p : Addr} {o : HO} {k : Nat} (h : MS H m lc lg k) (h1 : p ≠ m) (h2 : p ≠ lc) (h3 : p ≠ lg) : MS (upd H p o) m lc lg k := by
  obtain ⟨a, b, c, ⟨n, hn, e⟩, ⟨fs, ef, hf⟩, gs, hg, eg⟩ := h
  exact ⟨a, b, c, ⟨n, hn, by rw [upd_ne h1.symm]; exact e⟩, ⟨fs, by rw [upd_ne h2.symm]; exact ef, hf⟩, gs, hg, by rw [upd_ne h3.symm]; exact eg⟩
/-- a new object is no part of the state -/
theorem MS.new {H : Hp} {m lc lg p : Addr} {k : Nat} (h : MS H m lc lg k) (hp : H p = none) : p ≠ m ∧ p ≠ lc ∧ p ≠ lg := by
  obtain ⟨_, _, _, ⟨n, _, e⟩, ⟨fs, ef, _⟩, gs, _, eg⟩ := h
  exact ⟨(ne_of_none e hp).symm, (ne_of_none ef hp).symm, (ne_of_none eg hp).symm⟩

theorem lay_ints : ∀ gs : List Int, PyData.canLay0 (.list (gs.map PyData.int)) = true ∧ PyData.depth (.list (gs.map PyData.int)) ≤ 1 := by
  intro gs
  have h : ∀ gs : List Int, PyData.canLayAll0 (gs.map PyData.int) = true ∧ PyData.depthAll (gs.map PyData.int) = 0 := by
    intro gs
    induction gs with
    | nil => exact ⟨by rfl, by rfl⟩
    | cons x r ih =>
      refine ⟨?_, ?_⟩
      · rw [List.map_cons]
        unfold PyData.canLayAll0
        rw [ih.1]
        rfl
      · rw [List.map_cons]
        unfold PyData.depthAll
        rw [ih.2]
        rfl
  refine ⟨?_, ?_⟩
  · unfold PyData.canLay0
    exact (h gs).1
  · unfold PyData.depth
    rw [(h gs).2]
    exact Nat.le_refl _
theorem shaped_ints (gs : List Int) : SeqAt.shaped (.list (gs.map PyData.int)) = true := by
  unfold SeqAt.shaped
  rw [(lay_ints gs).1, decide_eq_true (Nat.le_trans (lay_ints gs).2 (by decide))]
  rfl
theorem eqv_nil (gs : List Int) : PyData.eqv (.list (gs.map PyData.int)) (.list []) = gs.isEmpty := by
  cases gs <;> (unfold PyData.eqv; rfl)
theorem dpAll_ints {K : PySem.W.Frag} {H : Hp} : ∀ gs : List Int, DpAll K H (gs.map V.int) (gs.map PyData.int)
  | [] => .nil
  | x :: r => .cons (.int x) (dpAll_ints r)
section
variable {P : Program} {w : World} {K : PySem.W.Frag} {mg : Str → Option Value} {base : Heap}
def spDraw : Sp := fun vs H Q _ => ∃ (m lc lg : Addr) (k : Nat) (z : Int), vs = [.ref m, .int z] ∧ (0 < z ∧ z < 1000000) ∧ MS H m lc lg k ∧ k < 900000 ∧
  ∀ (d : Nat) (H' : Hp), (d : Int) < z → MS H' m lc lg (k + 1) → Off m lg H H' → Q (.int (d : Int)) H'
theorem ok_draw (T : Txt w K mg) : Ok P w K mg base 2 "_law_draw" ["m", "limit"] spDraw := by
  refine ok_of T.fLawDraw fun f fd F => ?_
  refine F.ok scLawDraw (fun vs H Q E h => ?_) (fun cdv A outer s H vs Q E hr h => ?_)
  · obtain ⟨m, lc, lg, k, z, rfl, _⟩ := h
    rfl
  · obtain ⟨m, lc, lg, k, z, rfl, ⟨z0, z1⟩, ⟨d1, d2, d3, ⟨n, hn, em⟩, ⟨fs, ef, hf⟩, gs, hg, eg⟩, hk, q⟩ := h
    have hu := hu_of hr
    refine ⟨_, pss_cons (ps_set (i := 2) scLawDraw.nd rfl (.inl rfl) (pe_dget hu (pv 0) pe_str (fun _ _ => rfl)))
      (pss_cons (ps_dput hu (pv 0) pe_str (pe_op op_add (pv 2) pe_int) rfl)
      (pss_cons (ps_if (pt_cmpR (op_neD hr.units) (pe_dget hu (pv 0) pe_str (fun _ _ => rfl)) (pe_lst pa_nil) (nomark _))
        (pss_cons (ps_set (i := 3) scLawDraw.nd rfl (.inl rfl) (pe_dget hu (pv 0) pe_str (fun _ _ => rfl)))
        (pss_cons (ps_set (i := 4) scLawDraw.nd rfl (.inl rfl) (pe_op op_mod (pe_callTy call_int1 (by rfl) T.nint (by decide +kernel) (pa_cons (pv 2) pa_nil)) (pe_callB call_len_seq (by rfl) T.nlen PySem.boot_len (pa_cons (pv 3) pa_nil))))
        (pss_cons (ps_set (i := 5) scLawDraw.nd rfl (.inl rfl) (pe_ix (r := rIxL K) ix_list (pv 3) (pv 4) (fun _ _ => rfl)))
        (pss_one (ps_if (pt_cmpR op_gt (pv 5) pe_int (nomark _))
          (pss_cons (ps_asg (pe_op op_fdivW (pv 5) (pv 1)) (pg_sub (pv 3) (pv 4) set_list))
          (pss_one (ps_ret (pe_op op_mod (pe_callTy call_int1 (by rfl) T.nint (by decide +kernel) (pa_cons (pv 5) pa_nil)) (pv 1))))) pss_nil))))) pss_nil)
      (pss_cons (ps_set (i := 3) scLawDraw.nd rfl (.inl rfl) (pe_dget hu (pv 0) pe_str (fun _ _ => rfl)))
      (pss_one (ps_ret (pe_op op_mod (pe_callTy call_int1 (by rfl) T.nint (by decide +kernel) (pa_cons (pe_callO (ok_mixed T) hr (by decide) (by rfl)
        (pa_cons (pe_callO (ok_mixed T) hr (by decide) (by rfl) (pa_cons (pe_op op_add (pe_ix (r := rIxL K) ix_list (pv 3) (pe_op op_mod (pe_callTy call_int1 (by rfl) T.nint (by decide +kernel) (pa_cons (pv 2) pa_nil)) pe_int) (fun _ _ => rfl)) (pe_op op_mul pe_int (pe_op op_fdiv (pv 2) pe_int))) (pa_cons (pv 2) pa_nil)))
          (pa_cons (pe_op op_add (pv 2) pe_int) pa_nil))) pa_nil)) (pv 1))))))), ?_⟩
    have getk : ∀ {H' : Hp} {n' : Nat} {x : Str} {v : V}, H' m = some (.dK (mD lc lg n')) → valV (mD lc lg n') (.inr x) = some v → DGet H' m (.str x) (some v) := by
      intro H' n' x v e1 e2
      exact .inl ⟨_, .inr x, .inl e1, rfl, e2.symm⟩
    -- n = m['spot']
    refine ⟨.ref m, rfl, m, .int (n : Int), rfl, getk em (mD_spot lc lg n), ?_⟩
    -- m['spot'] = n + 1
    refine ⟨.int (n : Int), rfl, _, _, rfl, rfl, .ref m, rfl, m, upd H m (.dK (mD lc lg (n + 1))), rfl, .inl ⟨_, .inr "spot", em, rfl, by show 3 < sizeLine; decide, ?_⟩, ?_⟩
    · have e : (n : Int) + 1 = ((n + 1 : Nat) : Int) := by omega
      show _ = upd H m (.dK (putK (mD lc lg n) (.inr "spot") (.int ((n : Int) + 1))))
      rw [e, mD_put]
    generalize eH : upd H m (.dK (mD lc lg (n + 1))) = H1
    have em1 : H1 m = some (.dK (mD lc lg (n + 1))) := by rw [← eH]; exact upd_same
    have ef1 : H1 lc = some (.lst (fs.map V.int)) := by rw [← eH, upd_ne d3.symm]; exact ef
    have eg1 : H1 lg = some (.lst (gs.map V.int)) := by rw [← eH, upd_ne d2.symm]; exact eg
    have off1 : Off m lg H H1 := fun a o h1 _ e => by rw [← eH, upd_ne h1]; exact e
    -- if m['great'] != []
    refine ⟨.ref m, rfl, m, .ref lg, rfl, getk em1 (mD_great lc lg _), Nat.zero_le _, fun b nb => ?_⟩
    have s2 : Same H1 (upd H1 b (.lst [])) := same_new nb
    have em2 := s2 _ _ em1
    have ef2 := s2 _ _ ef1
    have eg2 := s2 _ _ eg1
    have eb2 : (upd H1 b (.lst [])) b = some (.lst []) := upd_same
    have off2 : Off m lg H (upd H1 b (.lst [])) := off1.to (Off.same s2)
    generalize upd H1 b (.lst []) = H2 at em2 ef2 eg2 eb2 off2 ⊢
    obtain ⟨x, hx, x0, x1⟩ := hf.get (j := n % 64) (Nat.mod_lt _ (by decide))
    have pos64 : (0 : Int) < 64 := by decide
    -- a number and its rest
    have fin : ∀ (t : Int) (H' : Hp), Off m lg H H' → (∃ n : Nat, n ≤ k + 1 ∧ H' m = some (.dK (mD lc lg n))) → H' lc = some (.lst (fs.map V.int)) → (∃ gs : List Int, gs.length ≤ 63 ∧ H' lg = some (.lst (gs.map V.int))) → Q (.int (t % z)) H' := by
      intro t H' o e1 e2 e3
      have h0 := Int.emod_nonneg t (show z ≠ 0 by omega)
      have h1 := Int.emod_lt_of_pos t z0
      obtain ⟨d, hd⟩ := Int.eq_ofNat_of_zero_le h0
      rw [hd] at h1 ⊢
      exact q d H' h1 ⟨d1, d2, d3, e1, ⟨fs, e2, hf⟩, e3⟩ o
    refine ⟨.list (gs.map PyData.int), .list [], .lst (.inl (.inl eg2)) (dpAll_ints gs), .lst (.inl (.inl eb2)) .nil, shaped_ints gs, shaped_ints [], _, rfl, ?_⟩
    rw [eqv_nil]
    cases gs with
    | nil =>
      refine iteF ?_
      refine ⟨.ref m, rfl, m, .ref lc, rfl, getk em2 (mD_cells lc lg _), ?_⟩
      refine ⟨.ref lc, rfl, .int (n : Int), rfl, .inl ⟨_, rfl, _, _, rfl, rfl, pos64, lc, _, _, .int x, rfl, rfl, .inl (.inl ef2), atI_nat (map_int_get hx), .int (n : Int), rfl, _, _, rfl, rfl, ⟨by decide, by decide⟩, _, _, rfl, rfl, .inl ⟨by decide, by decide⟩, _, _, rfl, rfl, .int (n : Int), rfl, ?_⟩⟩
      refine ⟨x + 31 * ((n : Int) / 64), (n : Int), rfl, by omega, by omega, fun r r0 r1 => ⟨.int (n : Int), rfl, _, _, rfl, rfl, ?_⟩⟩
      refine ⟨r, (n : Int) + 7, rfl, by omega, by omega, fun t t0 t1 => .inl ⟨_, rfl, .int z, rfl, _, _, rfl, rfl, z0, ?_⟩⟩
      exact fin t H2 off2 ⟨n + 1, by omega, em2⟩ ef2 ⟨[], hg, eg2⟩
    | cons g0 gr =>
      refine iteT ?_
      refine ⟨.ref m, rfl, m, .ref lg, rfl, getk em2 (mD_great lc lg _), ?_⟩
      have posL : (0 : Int) < (((g0 :: gr).map V.int).length : Nat) := by
        rw [List.length_map, List.length_cons]
        omega
      refine ⟨.int (n : Int), rfl, .inl ⟨_, rfl, .ref lg, rfl, lg, _, rfl, .inl (.inl (.inl eg2)), _, _, rfl, rfl, posL, ?_⟩⟩
      have il : ((n : Nat) : Int) % (((g0 :: gr).map V.int).length : Nat) = ((n % (g0 :: gr).length : Nat) : Int) := by
        rw [List.length_map]
        rfl
      have hlt : n % (g0 :: gr).length < (g0 :: gr).length := Nat.mod_lt _ (by rw [List.length_cons]; omega)
      have hg2 : (g0 :: gr)[n % (g0 :: gr).length]? = some (g0 :: gr)[n % (g0 :: gr).length] := List.getElem?_eq_getElem hlt
      generalize (g0 :: gr)[n % (g0 :: gr).length] = c at hg2
      generalize n % (g0 :: gr).length = here at hlt hg2 il
      have idx : (((n : Nat) : Int) % (((g0 :: gr).map V.int).length : Nat)) = (here : Int) := il
      refine ⟨.ref lg, rfl, .int (((n : Nat) : Int) % (((g0 :: gr).map V.int).length : Nat)), rfl, lg, _, _, .int c, rfl, rfl, .inl (.inl eg2), by rw [idx]; exact atI_nat (map_int_get hg2), ?_⟩
      refine ⟨.int c, rfl, _, _, rfl, rfl, _, rfl, ?_⟩
      by_cases hc : 0 < c
      · refine iteDT hc ?_
        have zw : z.natAbs < 2 ^ 30 := by omega
        refine ⟨.int c, rfl, .int z, rfl, _, _, rfl, rfl, wide_div z0 zw (by decide) (by decide), .ref lg, rfl, .int (((n : Nat) : Int) % (((g0 :: gr).map V.int).length : Nat)), rfl, lg, _, _, here, rfl, rfl, eg2, ?_, ?_⟩
        · rw [idx, List.length_map]
          exact ixN_nat hlt
        · refine ⟨.int c, rfl, .inl ⟨_, rfl, .int z, rfl, _, _, rfl, rfl, z0, ?_⟩⟩
          have nm : m ≠ lg := d2
          have nc : lc ≠ lg := d1
          refine fin c _ (fun a o h1 h2 e => ?_) ⟨n + 1, by omega, ?_⟩ ?_ ⟨(g0 :: gr).set here (c / z), ?_, ?_⟩
          · rw [upd_ne h2]
            exact off2 a o h1 h2 e
          · rw [upd_ne nm]
            exact em2
          · rw [upd_ne nc]
            exact ef2
          · rw [List.length_set]
            exact hg
          · rw [upd_same, List.map_set]
      · refine iteDF hc ?_
        refine ⟨.ref m, rfl, m, .ref lc, rfl, getk em2 (mD_cells lc lg _), ?_⟩
        refine ⟨.ref lc, rfl, .int (n : Int), rfl, .inl ⟨_, rfl, _, _, rfl, rfl, pos64, lc, _, _, .int x, rfl, rfl, .inl (.inl ef2), atI_nat (map_int_get hx), .int (n : Int), rfl, _, _, rfl, rfl, ⟨by decide, by decide⟩, _, _, rfl, rfl, .inl ⟨by decide, by decide⟩, _, _, rfl, rfl, .int (n : Int), rfl, ?_⟩⟩
        refine ⟨x + 31 * ((n : Int) / 64), (n : Int), rfl, by omega, by omega, fun r r0 r1 => ⟨.int (n : Int), rfl, _, _, rfl, rfl, ?_⟩⟩
        refine ⟨r, (n : Int) + 7, rfl, by omega, by omega, fun t t0 t1 => .inl ⟨_, rfl, .int z, rfl, _, _, rfl, rfl, z0, ?_⟩⟩
        exact fin t H2 off2 ⟨n + 1, by omega, em2⟩ ef2 ⟨g0 :: gr, hg, eg2⟩
end
end K7

namespace K7
open PySem PySem.Spec PyProof.Rows L2 Nr Nw
theorem ends_iff (a b : List Nat) : Txt.endswith (S a) (S b) = true ↔ ∃ t, a = t ++ b := by
  unfold Txt.endswith
  rw [PySem.StrLaws.subAt_eq, Bool.and_eq_true, decide_eq_true_eq, beq_iff_eq]
  show (0 + b.length ≤ a.length ∧ (a.drop (a.length - b.length)).take b.length = b) ↔ _
  constructor
  · rintro ⟨h1, h2⟩
    refine ⟨a.take (a.length - b.length), ?_⟩
    have h3 : (a.drop (a.length - b.length)).take b.length = a.drop (a.length - b.length) := List.take_of_length_le (by rw [List.length_drop]; omega)
    rw [h3] at h2
    rw [← h2]
    conv => lhs; rw [← List.take_append_drop (a.length - b.length) a]
    rw [h2]
  · rintro ⟨t, rfl⟩
    rw [List.length_append, Nat.add_sub_cancel, List.drop_left, List.take_length]
    exact ⟨by omega, rfl⟩
theorem cut_neg (t b : List Nat) (k : Nat) (hk : b.length = k) (h : 0 < k) : cutS (S (t ++ b)) none (some (-(k : Int))) = S t := by
  unfold cutS
  have h1 : (S (t ++ b)).length = t.length + b.length := by
    show (t ++ b).length = _
    rw [List.length_append]
  have h2 : HT.sIx (t.length + b.length) (t.length + b.length) (some (-(k : Int))) = t.length := by
    show (if (-(k : Int)) < 0 then (-(k : Int) + ((t.length + b.length : Nat) : Int)).toNat else _) = _
    rw [if_pos (by omega)]
    omega
  rw [h1, h2, HT.sIx_none]
  show (⟨((t ++ b).take (t.length - 0)).toArray⟩ : Str) = S t
  rw [Nat.sub_zero, List.take_left]
  rfl
theorem go_len {w : List Nat} (h : Wd w) : (go [] w).length ≤ w.length := by
  have := cut_len _ w rfl h
  unfold cut at this
  rw [List.length_reverse] at this
  exact this
section
variable {P : Program} {w : World} {K : PySem.W.Frag} {mg : Str → Option Value} {base : Heap}

/-! ### _law_cut -/
def spCut : Sp := fun vs H Q _ => ∃ u : List Nat, vs = [.str (S u)] ∧ Wt u ∧ Q (.str (S (cut u))) H
theorem ends_c {s : List Nat} {c : Nat} : Txt.endswith (S s.reverse) (S [c]) = true ↔ ∃ r, s = c :: r := by
  rw [ends_iff]
  constructor
  · rintro ⟨t, e⟩
    refine ⟨t.reverse, ?_⟩
    have := congrArg List.reverse e
    rw [List.reverse_reverse, List.reverse_append] at this
    exact this
  · rintro ⟨r, rfl⟩
    exact ⟨r.reverse, List.reverse_cons⟩
theorem ends_02 {s : List Nat} : Txt.endswith (S s.reverse) (S [48, 50]) = true ↔ ∃ r, s = 50 :: 48 :: r := by
  rw [ends_iff]
  constructor
  · rintro ⟨t, e⟩
    refine ⟨t.reverse, ?_⟩
    have := congrArg List.reverse e
    rw [List.reverse_reverse, List.reverse_append] at this
    exact this
  · rintro ⟨r, rfl⟩
    refine ⟨r.reverse, ?_⟩
    rw [List.reverse_cons, List.reverse_cons, List.append_assoc]
    rfl
theorem ok_cut (T : Txt w K mg) : Ok P w K mg base 1 "_law_cut" ["word"] spCut := by
  refine ok_of T.fLawCut fun f fd F => ?_
  refine F.ok scLawCut (fun vs H Q E h => ?_) (fun cdv A outer s H vs Q E hr h => ?_)
  · obtain ⟨u, rfl, _⟩ := h
    rfl
  · obtain ⟨u, rfl, ⟨hw, hz⟩, q⟩ := h
    refine ⟨_, pss_cons (ps_set (i := 1) scLawCut.nd rfl (.inl rfl) pe_str)
      (pss_cons (ps_for PassesOwn.never rfl (pi_str (pv 0)) (pg_name (i := 2) scLawCut.nd rfl (.inl rfl))
        (pss_one (ps_if (pt_val (pe_m1 PySem.F.slot_str_endswith PySem.F.type_str_endswith mt_endswith (pv 1) (pv 2)))
          (pss_one (ps_set (i := 1) scLawCut.nd rfl (.inl rfl) (pe_slice sl_str (pv 1) po_none (po_some (pe_un un_neg pe_int)))))
          (pss_one (ps_if (PW.pt (pw_and (pt_cmpR op_eq (pv 2) pe_str (nomark _)) (pw_and1 (pt_val (pe_m1 PySem.F.slot_str_endswith PySem.F.type_str_endswith mt_endswith (pv 1) pe_str)))))
            (pss_one (ps_set (i := 1) scLawCut.nd rfl (.inl rfl) (pe_op op_add_str (pe_slice sl_str (pv 1) po_none (po_some (pe_un un_neg pe_int))) pe_str)))
            (pss_one (ps_if (PW.pt (pw_and (pt_cmpR op_eq (pv 2) pe_str (nomark _)) (pw_and1 (pt_val (pe_m1 PySem.F.slot_str_endswith PySem.F.type_str_endswith mt_endswith (pv 1) pe_str)))))
              (pss_one (ps_set (i := 1) scLawCut.nd rfl (.inl rfl) (pe_op op_add_str (pe_slice sl_str (pv 1) po_none (po_some (pe_un un_neg pe_int))) pe_str)))
              (pss_one (ps_set (i := 1) scLawCut.nd rfl (.inl rfl) (pe_op op_add_str (pv 1) (pv 2)))))))))))
      (pss_one (ps_ret (pv 1)))), ?_⟩
    refine ⟨.str (S u), rfl, S u, rfl, fun i m σ H3 => ∃ y2, σ = [some (.str (S u)), some (.str (S (go [] (u.take i)).reverse)), y2] ∧ i + m = u.length ∧ H3 = H, ⟨u.length, none, rfl, by omega, rfl⟩, ?_⟩
    rintro i m σ H3 ⟨y2, rfl, em, rfl⟩
    have hwt : Wd (u.take i) := fun c hc => hw c (List.mem_of_mem_take hc)
    by_cases hi : i < u.length
    · refine .inr ⟨hi, fun σ' H' => ∃ y2, σ' = [some (.str (S u)), some (.str (S (go [] (u.take (i + 1))).reverse)), y2] ∧ H' = H3, ?_, ?_⟩
      · rintro σ' H' ⟨z2, e, e2⟩
        exact ⟨m - 1, by omega, z2, e, by omega, e2⟩
      · rintro v H' ⟨rfl, c, hc, rfl⟩
        have e : u[i]? = some c := by
          have e0 : (S u).cps[i]? = u[i]? := List.getElem?_toArray
          rw [← e0]
          exact hc
        have hsg : Sg c := hw c (List.mem_of_getElem? e)
        have et : u.take (i + 1) = u.take i ++ [c] := by
          rw [List.take_add_one, e]
          rfl
        have rd := go_rd rd_nil hwt
        have ln := go_len hwt
        rw [List.length_take] at ln
        rw [et, go_snoc]
        generalize go [] (u.take i) = st at rd ln ⊢
        have lst : (S st.reverse).length ≤ 20000 := by
          show st.reverse.length ≤ _
          rw [List.length_reverse]
          omega
        have lsz : (S st.reverse).length ≤ sizeLine := Nat.le_trans lst (by decide)
        have neg1 : -(1 : Int) = -((1 : Nat) : Int) := rfl
        refine ⟨.str (S st.reverse), rfl, ⟨_, rfl⟩, .str (S [c]), rfl, _, _, rfl, rfl, _, rfl, ?_⟩
        cases h1 : Txt.endswith (S st.reverse) (S [c]) with
        | true =>
          obtain ⟨r, rfl⟩ := ends_c.mp h1
          refine iteT ⟨.str (S (c :: r).reverse), rfl, 1, rfl, -1, rfl, _, rfl, lsz, some (.str (S [c])), ?_, rfl⟩
          have : cutS (S (c :: r).reverse) none (some (-1)) = S r.reverse := by
            rw [List.reverse_cons]
            exact cut_neg r.reverse [c] 1 rfl (by decide)
          show [some (V.str (S u)), some (V.str (cutS (S (c :: r).reverse) none (some (-1)))), some (V.str (S [c]))] = _
          rw [this, Nw.step_same]
        | false =>
        have n1 : ∀ r, st ≠ c :: r := fun r z => by
          rw [ends_c.mpr ⟨r, z⟩] at h1
          cases h1
        refine iteF ⟨.str (S [c]), rfl, rfl, _, rfl, ?_⟩
        by_cases c48 : c = 48
        · refine iteDT (str_is c48) ⟨.str (S st.reverse), rfl, ⟨_, rfl⟩, S st.reverse, S [48, 50], rfl, rfl, _, rfl, ?_⟩
          subst c48
          cases h2 : Txt.endswith (S st.reverse) (S [48, 50]) with
          | true =>
            obtain ⟨r, rfl⟩ := ends_02.mp h2
            have ec : cutS (S (50 :: 48 :: r).reverse) none (some (-2)) = S r.reverse := by
              rw [List.reverse_cons, List.reverse_cons, List.append_assoc]
              exact cut_neg r.reverse [48, 50] 2 rfl (by decide)
            refine iteT ⟨.str (S (50 :: 48 :: r).reverse), rfl, 2, rfl, -2, rfl, _, rfl, lsz, _, S [50], rfl, rfl, ?_, some (.str (S [48])), ?_, rfl⟩
            · refine Nat.le_trans (Nat.add_le_add_right (cutS_length _ _ _) _) (Nat.le_trans (Nat.add_le_add_right lst 1) (by decide))
            · show [some (V.str (S u)), some (V.str (cutS (S (50 :: 48 :: r).reverse) none (some (-2)) ++ S [50])), some (V.str (S [48]))] = _
              rw [ec, s_app, step_02, List.reverse_cons]
          | false =>
            have n2 : ∀ r, st ≠ 50 :: 48 :: r := fun r z => by
              rw [ends_02.mpr ⟨r, z⟩] at h2
              cases h2
            refine iteF ⟨.str (S [48]), rfl, rfl, _, rfl, iteDT rfl ⟨.str (S st.reverse), rfl, ⟨_, rfl⟩, S st.reverse, S [50], rfl, rfl, _, rfl, ?_⟩⟩
            cases h3 : Txt.endswith (S st.reverse) (S [50]) with
            | true =>
              obtain ⟨r, rfl⟩ := ends_c.mp h3
              have ec : cutS (S (50 :: r).reverse) none (some (-1)) = S r.reverse := by
                rw [List.reverse_cons]
                exact cut_neg r.reverse [50] 1 rfl (by decide)
              refine iteT ⟨.str (S (50 :: r).reverse), rfl, 1, rfl, -1, rfl, _, rfl, lsz, _, S [48, 50], rfl, rfl, ?_, some (.str (S [48])), ?_, rfl⟩
              · refine Nat.le_trans (Nat.add_le_add_right (cutS_length _ _ _) _) (Nat.le_trans (Nat.add_le_add_right lst 2) (by decide))
              · show [some (V.str (S u)), some (V.str (cutS (S (50 :: r).reverse) none (some (-1)) ++ S [48, 50])), some (V.str (S [48]))] = _
                rw [ec, s_app, step_2 (fun q z => n2 q (by rw [z])), List.reverse_cons, List.reverse_cons, List.append_assoc]
                rfl
            | false =>
              have n3 : ∀ r, st ≠ 50 :: r := fun r z => by
                rw [ends_c.mpr ⟨r, z⟩] at h3
                cases h3
              refine iteF ⟨.str (S st.reverse), rfl, .str (S [48]), rfl, _, _, rfl, rfl, ?_, some (.str (S [48])), ?_, rfl⟩
              · exact Nat.le_trans (Nat.add_le_add_right lst 1) (by decide)
              · have es : step st 48 = 48 :: st := by
                  rcases step_ways rd hsg with ⟨r, z, _⟩ | ⟨r, _, z, _⟩ | ⟨r, _, z, _, _⟩ | ⟨z, _⟩
                  · exact absurd z (n1 r)
                  · exact absurd z (n2 r)
                  · exact absurd z (n3 r)
                  · exact z
                show [some (V.str (S u)), some (V.str (S st.reverse ++ S [48])), some (V.str (S [48]))] = _
                rw [s_app, es, List.reverse_cons]
        · refine iteDF (str_one c48) (iteF ⟨.str (S [c]), rfl, rfl, _, rfl, iteDF (str_one c48) (iteF ⟨.str (S st.reverse), rfl, .str (S [c]), rfl, _, _, rfl, rfl, ?_, some (.str (S [c])), ?_, rfl⟩)⟩)
          · exact Nat.le_trans (Nat.add_le_add_right lst 1) (by decide)
          · have es : step st c = c :: st := by
              rcases step_ways rd hsg with ⟨r, z, _⟩ | ⟨r, y, z, _⟩ | ⟨r, y, z, _, _⟩ | ⟨z, _⟩
              · exact absurd z (n1 r)
              · exact absurd y c48
              · exact absurd y c48
              · exact z
            show [some (V.str (S u)), some (V.str (S st.reverse ++ S [c])), some (V.str (S [c]))] = _
            rw [s_app, es, List.reverse_cons]
    · refine .inl ⟨by show u.length ≤ i; omega, ?_⟩
      rw [List.take_of_length_le (by omega)]
      exact ⟨_, rfl, q⟩
end
end K7

namespace K7
open PySem PySem.Spec PyProof.Rows L2 Nr Nw
/-! ### nets -/
/-- the rows of the three changes -/
structure Net where
  a : List Nat
  b : List Nat
  c : List Nat
def Net.row (N : Net) (s : Nat) : List Nat := if s = 48 then N.a else if s = 49 then N.b else N.c
def Net.stp (N : Net) (x s : Nat) : Nat := (N.row s)[x]?.getD 0
def Net.lead (N : Net) (x : Nat) (u : List Nat) : Nat := u.foldl N.stp x
/-- rows of n flags -/
def Net.Of (N : Net) (n : Nat) : Prop := ∀ s, (N.row s).length = n ∧ ∀ x ∈ N.row s, x < n
def NetAt (K : PySem.W.Frag) (H : Hp) (p : Addr) (N : Net) : Prop := ∃ t0 t1 t2 : Addr, SqT K H p [.ref t0, .ref t1, .ref t2] ∧ SqT K H t0 (Vi N.a) ∧ SqT K H t1 (Vi N.b) ∧ SqT K H t2 (Vi N.c)
theorem rd_keep {H H' : Hp} {a : Addr} {u : HO} (s : ∀ o, H a = some o → H' a = some o) (h : Rd H a u) : Rd H' a u := by
  rcases h with h | ⟨o, h⟩
  · exact .inl (s _ h)
  · exact .inr ⟨o, s _ h⟩
theorem Net.Of.get {N : Net} {n x : Nat} (h : N.Of n) (hx : x < n) (s : Nat) : (N.row s)[x]? = some (N.stp x s) ∧ N.stp x s < n := by
  have hl : x < (N.row s).length := by rw [(h s).1]; exact hx
  have e : (N.row s)[x]? = some (N.row s)[x] := List.getElem?_eq_getElem hl
  have e2 : N.stp x s = (N.row s)[x] := by
    unfold Net.stp
    rw [e]
    rfl
  rw [e2]
  exact ⟨e, (h s).2 _ (List.getElem_mem hl)⟩
theorem vi_get {cs : List Nat} {i x : Nat} (h : cs[i]? = some x) : (Vi cs)[i]? = some (.int (x : Int)) := by
  unfold Vi
  rw [List.getElem?_map, h]
  rfl
theorem digit {c : Nat} (h : Sg c) : PySem.intText? (S [c]) = some (((c - 48 : Nat) : Int)) := by
  rcases h with e | e | e <;> subst e <;> decide +kernel
section
variable {P : Program} {w : World} {K : PySem.W.Frag} {mg : Str → Option Value} {base : Heap}
theorem NetAt.rows {H : Hp} {p : Addr} {N : Net} (h : NetAt K H p N) : ∃ t0 t1 t2 : Addr, SqT K H p [.ref t0, .ref t1, .ref t2] ∧ ∀ s, Sg s → ∃ t, ([V.ref t0, .ref t1, .ref t2] : List V)[s - 48]? = some (.ref t) ∧ SqT K H t (Vi (N.row s)) := by
  obtain ⟨t0, t1, t2, h1, h2, h3, h4⟩ := h
  refine ⟨t0, t1, t2, h1, fun s hs => ?_⟩
  rcases hs with e | e | e <;> subst e
  · exact ⟨t0, rfl, h2⟩
  · exact ⟨t1, rfl, h3⟩
  · exact ⟨t2, rfl, h4⟩
/-! ### _law_lead -/
def spLead (K : PySem.W.Frag) : Sp := fun vs H Q _ => ∃ (p : Addr) (N : Net) (n x : Nat) (u : List Nat), vs = [.ref p, .int (x : Int), .str (S u)] ∧ NetAt K H p N ∧ N.Of n ∧ x < n ∧ Wd u ∧ Q (.int (N.lead x u : Int)) H
/-! ### _law_same_lead -/
def spSameLead (K : PySem.W.Frag) : Sp := fun vs H Q _ => ∃ (p : Addr) (N : Net) (n : Nat) (u v : List Nat), vs = [.ref p, .str (S u), .str (S v)] ∧ NetAt K H p N ∧ N.Of n ∧ n ≤ 100000 ∧ Wd u ∧ Wd v ∧ (∀ x, x < n → N.lead x u = N.lead x v) ∧ Q (.bl true) H
/-! ### _law_is_ahead -/
def spLawAhead : Sp := fun vs H Q _ => ∃ u v : List Nat, vs = [.str (S u), .str (S v)] ∧ u.length ≤ 20000 ∧ v.length ≤ 20000 ∧ ∀ H', Same H H' → Q (.bl (ahead u v)) H'
end
end K7

namespace K7
open PySem PySem.Spec PyProof.Rows L2 Nr Nw
/-- a promise where no repr is under way -/
def OkG (P : Program) (w : World) (K : PySem.W.Frag) (mg : Str → Option Value) (base : Heap) (k : Nat) (x : String) (ps : List Str) (sp : Sp) : Prop :=
  ∃ (f : Addr) (fd : FuncData), mg x = some (.ref f) ∧ PySem.W.keepIn K (.ref f) = true ∧ Binds K fd ps [] ∧ FnG P w K mg base CX0 k f fd ps sp
theorem pe_callOG {X : Cx} {k j : Nat} {x : String} {ps : List Str} {sp : Sp} {p pos : Pos} {e : Expr} {es : List Expr} {t : TA} (O : OkG X.prog X.w X.K X.mg X.base k x ps sp) (hA : X.A.guards = some []) (hr : Room j X.A) (hkj : k ≤ j) (hg : Gl X x) (ha : PA X (e :: es) t)
    (hdb : ((x : Str) == ("__debug__" : Str)) = false := by decide) (he : starEach (e :: es) X.env = (false, eval e X.env) :: starEach es X.env := by rfl) (hpl : (backTo pos (starEach es X.env)).any (·.1) = false := by rfl) :
    PE X (.Call (.Name x p) (e :: es) [] pos) (fun σ H Q => t σ H fun vs H1 => sp vs H1 Q E0) := by
  obtain ⟨f, fd, h1, h2, h3, h4⟩ := O
  exact pe_callG h4 hA (hr.mono hkj) hg h1 h2 h3 pass0 ha hdb he hpl
section
variable {P : Program} {w : World} {K : PySem.W.Frag} {mg : Str → Option Value} {base : Heap}

/-! ### _law_like -/
def Shows (d : PyData) : Prop := d.showable = true ∧ d.hasDict = false ∧ d.depth ≤ 60 ∧ d.shown.length ≤ sizeLine
def spLike (K : PySem.W.Frag) : Sp := fun vs H Q _ => ∃ (a b : Addr) (d : PyData), vs = [.ref a, .ref b] ∧ Dp K H (.ref a) d ∧ Dp K H (.ref b) d ∧ Shows d ∧ Q (.bl true) H
theorem ok_like (T : Txt w K mg) : OkG P w K mg base 1 "_law_like" ["got", "due"] (spLike K) := by
  obtain ⟨f, fd, h1, F, h3⟩ := T.fLawLike
  refine ⟨f, fd, h1, F.kp, h3, ?_⟩
  refine Nr.Fun.okG F scLawLike (fun vs H Q E h => ?_) (fun cdv A outer s H vs Q E hg hr h => ?_)
  · obtain ⟨a, b, d, rfl, _⟩ := h
    rfl
  · obtain ⟨a, b, d, rfl, da, db, sh, q⟩ := h
    refine ⟨_, pss_one (ps_ret (pe_cmpR op_eq (pe_callB (call_reprD hg hr.units) (by rfl) T.nrepr (by decide +kernel) (pa_cons (pv 0) pa_nil)) (pe_callB (call_reprD hg hr.units) (by rfl) T.nrepr (by decide +kernel) (pa_cons (pv 1) pa_nil)) (nomark _))), ?_⟩
    refine ⟨.ref a, rfl, a, d, rfl, da, sh, .ref b, rfl, b, d, rfl, db, sh, rfl, ?_⟩
    rw [decide_eq_true rfl]
    exact q

/-! ### _law_begun -/
theorem merge_m (lc lg : Addr) : mergeK [] ([(Sum.inr "cells", V.ref lc), (Sum.inr "great", V.ref lg), (Sum.inr "spot", V.int 0)] : List (Key × V)) = mD lc lg 0 := by
  have p1 : putK ([] : List (Key × V)) (.inr "cells") (.ref lc) = [(.inr "cells", .ref lc)] := rfl
  have p2 : putK ([(Sum.inr "cells", V.ref lc)] : List (Key × V)) (.inr "great") (.ref lg) = [(.inr "cells", .ref lc), (.inr "great", .ref lg)] := by
    unfold putK
    rw [if_neg (by rw [List.any_cons, List.any_nil, decide_eq_false (inr_ne k_cg)]; decide)]
    rfl
  have p3 : putK ([(Sum.inr "cells", V.ref lc), (Sum.inr "great", V.ref lg)] : List (Key × V)) (.inr "spot") (.int 0) = mD lc lg 0 := by
    unfold putK
    rw [if_neg (by rw [List.any_cons, List.any_cons, List.any_nil, decide_eq_false (inr_ne k_cs), decide_eq_false (inr_ne k_gs)]; decide)]
    rfl
  unfold mergeK
  rw [List.foldl_cons, List.foldl_cons, List.foldl_cons, List.foldl_nil]
  show putK (putK (putK ([] : List (Key × V)) (Sum.inr "cells" : Key) (V.ref lc)) (Sum.inr "great" : Key) (V.ref lg)) (Sum.inr "spot" : Key) (V.int 0) = _
  rw [p1, p2, p3]
def spBegun (K : PySem.W.Frag) : Sp := fun vs H Q _ => ∃ (a : Addr) (ns : List Int), vs = [.ref a] ∧ SqL K H a (ns.map V.int) ∧ ns.length ≤ 63 ∧ ∀ (m lc lg : Addr) (H' : Hp), Same H H' → H m = none → H lc = none → H lg = none → MS H' m lc lg 0 → Q (.ref m) H'
theorem ok_begun (T : Txt w K mg) : Ok P w K mg base 2 "_law_begun" ["script"] (spBegun K) := by
  refine ok_of T.fLawBegun fun f fd F => ?_
  refine F.ok scLawBegun (fun vs H Q E h => ?_) (fun cdv A outer s H vs Q E hr h => ?_)
  · obtain ⟨a, ns, rfl, _⟩ := h
    rfl
  · obtain ⟨a, ns, rfl, hS, hz, q⟩ := h
    refine ⟨_, pss_cons (ps_set (i := 1) scLawBegun.nd rfl (.inl rfl) (pe_disp (pps_cons pe_str (pe_callO (ok_folded T) hr (by decide) (by rfl) (pa_cons (pv 0) pa_nil)) (pps_cons pe_str (pe_lst pa_nil) (pps_cons pe_str pe_int pps_nil))) (by rfl) (by rfl) (fun z => by cases z) (by decide)))
      (pss_cons (ps_dput (hu_of hr) (pv 1) pe_str (pe_lc (own := [("cell", 2)]) (g := gName 2) (tt := tYes) (by rfl) scLawBegun.nd (pi_list (pv 0)) (blkOk_by (N := ["script", "m", "cell"]) (sc := defScope sLawBegun) (by decide +kernel)) (fun _ _ _ _ _ => pg_name (i := 2) scLawBegun.nd rfl (.inl rfl)) (fun _ _ _ _ _ => pts_nil)
        (fun _ _ _ _ _ => pe_ifExp (pt_cmpR op_ge (pv 2) (pe_op op_pow pe_int pe_int) (nomark _)) (pv 2) pe_int)) (by rfl))
      (pss_one (ps_ret (pv 1)))), ?_⟩
    intro m nm
    have s0 : Same H (upd H m (.dK [])) := same_new nm
    refine ⟨.ref a, rfl, a, ns, rfl, s0.seq hS, fun lc H1 s1 nlc hc => ⟨Nat.zero_le _, fun l0 nl0 => ?_⟩⟩
    have em1 : H1 m = some (.dK []) := s1 _ _ upd_same
    have ne0 : m ≠ l0 := ne_of_none em1 nl0
    refine ⟨by rw [upd_ne ne0]; exact em1, [(Sum.inr "cells", V.ref lc), (Sum.inr "great", V.ref l0), (Sum.inr "spot", V.int 0)], rfl, by show 3 ≤ 15; decide, ?_⟩
    rw [merge_m]
    obtain ⟨fs, ef, hf⟩ := hc
    have nmc : m ≠ lc := fun e => by
      rw [← e, upd_same] at nlc
      cases nlc
    have sH : Same H H1 := fun b x e => s1 b x (s0 b x e)
    have ncl : H lc = none := by
      have := nlc
      rw [upd_ne nmc.symm] at this
      exact this
    have nh0 : H l0 = none := by
      cases z : H l0 with
      | none => rfl
      | some o => 
        rw [sH _ _ z] at nl0
        cases nl0
    have s2 : Same H (upd (upd H1 l0 (.lst [])) m (.dK (mD lc l0 0))) := same_mut (same_mut sH nh0) nm
    have em2 : (upd (upd H1 l0 (.lst [])) m (.dK (mD lc l0 0))) m = some (.dK (mD lc l0 0)) := upd_same
    have elc : lc ≠ l0 := ne_of_none ef nl0
    have ec2 : (upd (upd H1 l0 (.lst [])) m (.dK (mD lc l0 0))) lc = some (.lst (fs.map V.int)) := by
      rw [upd_ne nmc.symm, upd_ne elc]
      exact ef
    generalize upd (upd H1 l0 (.lst [])) m (.dK (mD lc l0 0)) = H2 at s2 em2 ec2 ⊢
    refine ⟨.ref a, rfl, a, rfl, ⟨_, s2.seq hS⟩, fun D nD => ?_⟩
    have nD0 : H D = none := by
      cases z : H D with
      | none => rfl
      | some o => 
        rw [s2 _ _ z] at nD
        cases nD
    refine lc_list (K := K) (a := a) (xs := ns.map V.int) (fun i H' => Same H2 H' ∧ ∃ gs : List Int, gs.length = i ∧ H' D = some (.lst (gs.map V.int))) ⟨same_new nD, [], rfl, upd_same⟩ (fun i H' hi h => h.1.seq (s2.seq hS)) (fun i x H' hx h => ?_) (fun H' h => ?_)
    · obtain ⟨sm, gs, hl, eD⟩ := h
      have hlt : i < ns.length := by
        have := (List.getElem?_eq_some_iff.mp hx).1
        rw [List.length_map] at this
        exact this
      have ex : x = .int ns[i] := by
        rw [List.getElem?_map, List.getElem?_eq_getElem hlt] at hx
        exact (Option.some.inj hx).symm
      subst ex
      have put : ∀ y : Int, ∃ acc, H' D = some (.lst acc) ∧ acc.length < sizeLine ∧ (Same H2 (upd H' D (.lst (acc ++ [V.int y]))) ∧ ∃ gs : List Int, gs.length = i + 1 ∧ (upd H' D (.lst (acc ++ [V.int y]))) D = some (.lst (gs.map V.int))) := by
        intro y
        refine ⟨_, eD, ?_, same_mut sm nD, gs ++ [y], ?_, ?_⟩
        · rw [List.length_map, hl]
          exact Nat.lt_of_lt_of_le hlt (Nat.le_trans hz (by decide))
        · rw [List.length_append, hl]
          rfl
        · rw [upd_same, List.map_append]
          rfl
      refine ⟨rfl, yes (iteT ?_)⟩
      refine ⟨.int ns[i], rfl, 10, 18, rfl, rfl, ⟨by decide, by decide, by decide⟩, _, _, rfl, rfl, _, rfl, ?_⟩
      refine ite2 (fun _ => ⟨.int ns[i], rfl, put _⟩) (fun _ => put 0)
    · obtain ⟨sm, gs, hl, eD⟩ := h
      have em3 := sm _ _ em2
      have nmD : m ≠ D := ne_of_none em2 nD
      have ncD : lc ≠ D := ne_of_none ec2 nD
      refine ⟨.ref m, rfl, m, upd H' m (.dK (mD lc D 0)), rfl, .inl ⟨_, .inr "great", em3, rfl, by show 3 < sizeLine; decide, by rw [mD_putG]⟩, .ref m, rfl, ?_⟩
      refine q m lc D _ (same_mut (fun b x e => sm b x (s2 b x e)) nm) nm ncl nD0 ⟨ncD, nmD, nmc, ⟨0, Nat.le_refl _, upd_same⟩, ⟨fs, ?_, hf⟩, gs, ?_, ?_⟩
      · rw [upd_ne nmc.symm]
        exact sm _ _ ec2
      · rw [hl, List.length_map]
        exact hz
      · rw [upd_ne nmD.symm]
        exact eD

/-! ### _law_word -/
theorem none_of {H H' : Hp} {p : Addr} (s : Same H H') (h : H' p = none) : H p = none := by
  cases z : H p with
  | none => rfl
  | some o =>
    rw [s _ _ z] at h
    cases h
theorem ones_sum : ∀ ws : List Nat, ((ws.map fun c => S [c]).map (·.length)).sum = ws.length
  | [] => rfl
  | c :: r => by
    rw [List.map_cons, List.map_cons, List.sum_cons, ones_sum r, List.length_cons]
    show 1 + r.length = _
    omega
theorem join_ones (ws : List Nat) : Txt.join (S []) (ws.map fun c => S [c]) = S ws := by
  have e : (ws.map fun c => S [c]) = (ws.map fun c => [c]).map S := by
    rw [List.map_map]
    rfl
  rw [e, join_flat]
  refine congrArg S ?_
  clear e
  induction ws with
  | nil => rfl
  | cons c r ih => rw [List.map_cons, List.flatten_cons, ih]; rfl
def spWord : Sp := fun vs H Q _ => ∃ (m lc lg : Addr) (k most : Nat), vs = [.ref m, .int (most : Int)] ∧ MS H m lc lg k ∧ most ≤ 1000 ∧ k + most < 800000 ∧
  ∀ (u : List Nat) (H' : Hp), Wd u → u.length ≤ most → MS H' m lc lg (k + 1 + most) → Off m lg H H' → Q (.str (S u)) H'
theorem ok_word (T : Txt w K mg) : Ok P w K mg base 3 "_law_word" ["m", "most"] spWord := by
  refine ok_of T.fLawWord fun f fd F => ?_
  refine F.ok scLawWord (fun vs H Q E h => ?_) (fun cdv A outer s H vs Q E hr h => ?_)
  · obtain ⟨m, lc, lg, k, most, rfl, _⟩ := h
    rfl
  · obtain ⟨m, lc, lg, k, most, rfl, hM, hm, hk, q⟩ := h
    refine ⟨_, pss_one (ps_ret (pe_join pe_str (pe_lc (own := [("turn", 2)]) (g := gName 2) (tt := tYes) (by rfl) scLawWord.nd (pi_range1 (by rfl) T.nrange (pa_cons (pe_callO (ok_draw T) hr (by decide) (by rfl) (pa_cons (pv 0) (pa_cons (pe_op op_add (pv 1) pe_int) pa_nil))) pa_nil))
      (blkOk_by (N := ["m", "most", "turn"]) (sc := defScope sLawWord) (by decide +kernel)) (fun _ _ _ _ _ => pg_name (i := 2) scLawWord.nd rfl (.inl rfl)) (fun _ _ _ _ _ => pts_nil)
      (fun _ _ _ _ _ => pe_ix ix_str pe_str (pe_callO (ok_draw T) hr (by decide) (by rfl) (pa_cons (pv 0) (pa_cons pe_int pa_nil))) (fun _ _ => rfl))))), ?_⟩
    refine ⟨⟨_, rfl⟩, .ref m, rfl, .int (most : Int), rfl, _, _, rfl, rfl, m, lc, lg, k, _, rfl, ⟨by omega, by omega⟩, hM, by omega, fun d H1 hd M1 o1 => ?_⟩
    refine ⟨(d : Int), rfl, by omega, by omega, fun D nD => ?_⟩
    obtain ⟨n1, n2, n3⟩ := M1.new nD
    have dn : ((d : Nat) : Int).toNat = d := Int.toNat_natCast d
    rw [dn]
    refine lc_range (lo := 0) (n := d) (fun i H' => ∃ ws : List Nat, H' D = some (.lst ((ws.map fun c => S [c]).map V.str)) ∧ ws.length = i ∧ Wd ws ∧ MS H' m lc lg (k + 1 + i) ∧ Off m lg H1 H') ⟨[], upd_same, rfl, (fun c hc => by cases hc), M1.mut n1 n2 n3, Off.same (same_new nD)⟩ (fun i H' hi h => ?_) (fun H' h => ?_)
    · obtain ⟨ws, eD, hl, hw, M, o⟩ := h
      refine ⟨rfl, yes (iteT ?_)⟩
      refine ⟨.ref m, rfl, m, lc, lg, k + 1 + i, 3, rfl, ⟨by decide, by decide⟩, M, by omega, fun c H2 hc M2 o2 => ?_⟩
      have hc3 : c < 3 := by omega
      have sgn : ([48, 49, 50] : List Nat)[c]? = some (c + 48) := by
        rcases c with _ | _ | _ | c
        · rfl
        · rfl
        · rfl
        · omega
      have wsg : Sg (c + 48) := by
        rcases c with _ | _ | _ | c
        · exact .inl rfl
        · exact .inr (.inl rfl)
        · exact .inr (.inr rfl)
        · omega
      refine ⟨S [48, 49, 50], _, c + 48, rfl, rfl, by show 3 ≤ sizeLine; decide, at_str sgn, _, o2 D _ n1 n3 eD, ?_, ws ++ [c + 48], ?_, ?_, ?_, M2.mut n1 n2 n3, ?_⟩
      · rw [List.length_map, List.length_map, hl]
        exact Nat.lt_of_lt_of_le hi (Nat.le_trans (show d ≤ 1001 by omega) (by decide))
      · rw [upd_same, List.map_append, List.map_append]
        rfl
      · rw [List.length_append, hl]
        rfl
      · exact wd_append.mpr ⟨hw, fun z hz => by rw [List.mem_singleton.mp hz]; exact wsg⟩
      · intro a ob h1 h2 e
        by_cases ea : a = D
        · rw [ea, nD] at e
          cases e
        · rw [upd_ne ea]
          exact o2 a ob h1 h2 (o a ob h1 h2 e)
    · obtain ⟨ws, eD, hl, hw, M, o⟩ := h
      refine ⟨_, D, ws.map (fun c => S [c]), rfl, rfl, .inl (.inl (.inl eD)), ?_, ?_⟩
      · rw [ones_sum, hl, List.length_map, hl]
        show d + d * (S ([] : List Nat)).length ≤ _
        have e0 : (S ([] : List Nat)).length = 0 := rfl
        rw [e0]
        omega
      · show Q (.str (Txt.join (S []) (ws.map fun c => S [c]))) H'
        rw [join_ones]
        exact q ws H' hw (by omega) (M.le (by omega)) (o1.to o)

/-! ### _law_order -/
def spOrder : Sp := fun vs H Q _ => ∃ (m lc lg : Addr) (k many : Nat), vs = [.ref m, .int (many : Int)] ∧ MS H m lc lg k ∧ many ≤ 1000 ∧ k + many < 800000 ∧
  ∀ (os : List Nat) (p : Addr) (H' : Hp), os.Perm (List.range many) → H p = none → H' p = some (.lst (Vi os)) → MS H' m lc lg (k + many) → Off m lg H H' → Q (.ref p) H'
theorem vi_erase (ls : List Nat) (d : Nat) : (Vi ls).eraseIdx d = Vi (ls.eraseIdx d) := by
  unfold Vi
  induction ls generalizing d with
  | nil => rfl
  | cons x r ih =>
    cases d with
    | zero => rfl
    | succ d => 
      rw [List.map_cons, List.eraseIdx_cons_succ, List.eraseIdx_cons_succ, List.map_cons, ih]
theorem erase_perm : ∀ (ls : List Nat) (d x : Nat), ls[d]? = some x → (x :: ls.eraseIdx d).Perm ls
  | [], d, x, h => by cases h
  | y :: r, 0, x, h => by
    cases h
    exact .refl _
  | y :: r, d + 1, x, h => by
    rw [List.eraseIdx_cons_succ]
    exact (List.Perm.swap y x _).trans ((erase_perm r d x h).cons y)
end
end K7

namespace K7
open PySem PySem.Spec PyProof.Rows L2 Nr Nw
/-- the net with its flags told in an order -/
def newRow (N : Net) (os : List Nat) (s : Nat) : List Nat := os.map fun x => os.idxOf (N.stp x s)
def Net.ren (N : Net) (os : List Nat) : Net := ⟨newRow N os 48, newRow N os 49, newRow N os 50⟩
theorem ren_row {N : Net} {os : List Nat} {s : Nat} (h : Sg s) : (N.ren os).row s = newRow N os s := by
  rcases h with e | e | e <;> subst e <;> rfl
theorem perm_mem {os : List Nat} {n : Nat} (h : os.Perm (List.range n)) (x : Nat) : x ∈ os ↔ x < n := by
  rw [h.mem_iff, List.mem_range]
theorem idx_get {os : List Nat} {x : Nat} (h : x ∈ os) : os[os.idxOf x]? = some x := by
  have := List.idxOf_lt_length_of_mem h
  rw [List.getElem?_eq_getElem this, List.getElem_idxOf this]
theorem ren_of {N : Net} {os : List Nat} {n : Nat} (hN : N.Of n) (h : os.Perm (List.range n)) : (N.ren os).Of n := by
  have hl : os.length = n := by rw [h.length_eq, List.length_range]
  have key : ∀ s, (newRow N os s).length = n ∧ ∀ x ∈ newRow N os s, x < n := by
    intro s
    refine ⟨by unfold newRow; rw [List.length_map]; exact hl, fun x hx => ?_⟩
    unfold newRow at hx
    obtain ⟨y, hy, rfl⟩ := List.mem_map.mp hx
    rw [← hl]
    exact List.idxOf_lt_length_of_mem ((perm_mem h _).mpr (hN.get ((perm_mem h y).mp hy) s).2)
  intro s
  unfold Net.row
  split
  · exact key 48
  · split
    · exact key 49
    · exact key 50
theorem ren_stp {N : Net} {os : List Nat} {n : Nat} (hN : N.Of n) (h : os.Perm (List.range n)) {i x s : Nat} (hx : os[i]? = some x) (hs : Sg s) : (N.ren os).stp i s = os.idxOf (N.stp x s) := by
  unfold Net.stp
  rw [ren_row hs]
  unfold newRow
  rw [List.getElem?_map, hx]
  rfl
/-- what the changes do, they do in every order of the flags -/
theorem ren_acts {N : Net} {os : List Nat} {n : Nat} (hN : N.Of n) (h : os.Perm (List.range n)) (A : Nw.Acts N.stp (· < n)) : Nw.Acts (N.ren os).stp (· < n) := by
  have hl : os.length = n := by rw [h.length_eq, List.length_range]
  have nd : os.Nodup := h.nodup_iff.mpr List.nodup_range
  have at_ : ∀ {i : Nat}, i < n → ∃ x, os[i]? = some x ∧ x < n := by
    intro i hi
    have h1 : i < os.length := by omega
    exact ⟨os[i], List.getElem?_eq_getElem h1, (perm_mem h _).mp (List.getElem_mem h1)⟩
  have idx : ∀ {i x : Nat}, os[i]? = some x → os.idxOf x = i := by
    intro i x e
    obtain ⟨h1, h2⟩ := List.getElem?_eq_some_iff.mp e
    rw [← h2]
    exact List.Nodup.idxOf_getElem nd i h1
  have st := fun {i x s : Nat} (hx : os[i]? = some x) (hs : Sg s) => ren_stp (s := s) hN h hx hs
  have nx : ∀ {i x s : Nat}, os[i]? = some x → x < n → Sg s → os[(N.ren os).stp i s]? = some (N.stp x s) ∧ N.stp x s < n := by
    intro i x s e hx hs
    rw [st e hs]
    have lt := (hN.get hx s).2
    exact ⟨idx_get ((perm_mem h _).mpr lt), lt⟩
  refine ⟨fun i s hi hs => ((ren_of hN h).get hi s).2, fun i s hi hs => ?_, fun i hi => ?_⟩
  · obtain ⟨x, e, hx⟩ := at_ hi
    obtain ⟨e1, l1⟩ := nx e hx hs
    rw [st e1 hs, A.back x s hx hs, idx e]
  · obtain ⟨x, e, hx⟩ := at_ hi
    have h0 : Sg 48 := .inl rfl
    have h2 : Sg 50 := .inr (.inr rfl)
    obtain ⟨e1, l1⟩ := nx e hx h0
    obtain ⟨e2, l2⟩ := nx e hx h2
    rw [st e1 h2, st e2 h0, A.comm x hx]
theorem sqt {K : PySem.W.Frag} {H H' : Hp} {a : Addr} {xs : List V} (e : Same H H') (h : SqT K H a xs) : SqT K H' a xs := by
  rcases h with h | h
  · exact .inl (rd_keep (fun o => e a o) h)
  · exact .inr h
section
variable {P : Program} {w : World} {K : PySem.W.Frag} {mg : Str → Option Value} {base : Heap}
/-- the names of the outer comprehension -/
def scCh : Scope := { kind := .function, names := [(".0", .local), ("change", .cell), ("tuple", .globalImplicit), ("order", .free), ("spots", .free)], isGenerator := false, isCoroutine := false }
def rTupOf (K : PySem.W.Frag) : List V → Hp → VK → Prop := fun xs H Q => ∃ p ys, xs = [.ref p] ∧ ((SqL K H p ys ∧ ∀ l, H l = none → Q (.ref l) (upd H l (.tup ys))) ∨ (SqT K H p ys ∧ Q (.ref p) H))
def spNumbered (K : PySem.W.Frag) : Sp := fun vs H Q _ => ∃ (p q : Addr) (N : Net) (n : Nat) (os : List Nat), vs = [.ref p, .ref q] ∧ NetAt K H p N ∧ N.Of n ∧ SqL K H q (Vi os) ∧ os.Perm (List.range n) ∧ n ≤ 1000 ∧
  ∀ (p' : Addr) (H' : Hp), Same H H' → NetAt K H' p' (N.ren os) → Q (.ref p') H'
end
end K7

namespace K7
open PySem PySem.Spec PyProof.Rows L2 Nr Nw
def endF (x : Nat) : Nat := if x % 2 = 0 then x + 1 else x - 1
def sideF (x : Nat) : Nat := if x % 4 < 2 then x + 2 else x - 2
/-- the net of squares whose flags change 1 leads as told -/
def pairN (ps : List Nat) : Net := ⟨(List.range ps.length).map endF, ps, (List.range ps.length).map sideF⟩
def PairOk (ps : List Nat) (n : Nat) : Prop := ps.length = n ∧ ∀ x, x < n → ∃ y, y < n ∧ ps[x]? = some y ∧ ps[y]? = some x
theorem endF_lt {x n : Nat} (h : n % 4 = 0) (hx : x < n) : endF x < n := by
  unfold endF
  split <;> omega
theorem sideF_lt {x n : Nat} (h : n % 4 = 0) (hx : x < n) : sideF x < n := by
  unfold sideF
  split <;> omega
theorem endF_back (x : Nat) : endF (endF x) = x := by
  unfold endF
  split <;> split <;> omega
theorem sideF_back (x : Nat) : sideF (sideF x) = x := by
  unfold sideF
  split <;> split <;> omega
theorem end_side (x : Nat) : sideF (endF x) = endF (sideF x) := by
  unfold sideF endF
  split <;> split <;> split <;> split <;> omega
theorem range_map_get {f : Nat → Nat} {n x : Nat} (h : x < n) : ((List.range n).map f)[x]? = some (f x) := by
  rw [List.getElem?_map, List.getElem?_range h]
  rfl
theorem pair_of {ps : List Nat} {n : Nat} (h : PairOk ps n) (h4 : n % 4 = 0) : (pairN ps).Of n := by
  have r1 : ∀ {f : Nat → Nat}, (∀ x, x < n → f x < n) → ((List.range ps.length).map f).length = n ∧ ∀ x ∈ (List.range ps.length).map f, x < n := by
    intro f hf
    refine ⟨by rw [List.length_map, List.length_range]; exact h.1, fun x hx => ?_⟩
    obtain ⟨y, hy, rfl⟩ := List.mem_map.mp hx
    refine hf y ?_
    rw [List.mem_range, h.1] at hy
    exact hy
  intro s
  unfold Net.row
  split
  · exact r1 fun x hx => endF_lt h4 hx
  · split
    · refine ⟨h.1, fun x hx => ?_⟩
      obtain ⟨i, hi, e⟩ := List.mem_iff_getElem.mp (show x ∈ ps from hx)
      obtain ⟨y, hy, e1, _⟩ := h.2 i (by rw [← h.1]; exact hi)
      have : ps[i]? = some x := by rw [List.getElem?_eq_getElem hi, e]
      rw [this] at e1
      cases e1
      exact hy
    · exact r1 fun x hx => sideF_lt h4 hx
theorem pair_stp {ps : List Nat} {n x : Nat} (h : PairOk ps n) (hx : x < n) : (pairN ps).stp x 48 = endF x ∧ (pairN ps).stp x 50 = sideF x ∧ (pairN ps).stp x 49 = ps[x]?.getD 0 := by
  refine ⟨?_, ?_, rfl⟩
  · show ((List.range ps.length).map endF)[x]?.getD 0 = _
    rw [range_map_get (by rw [h.1]; exact hx)]
    rfl
  · show ((List.range ps.length).map sideF)[x]?.getD 0 = _
    rw [range_map_get (by rw [h.1]; exact hx)]
    rfl
theorem pair_acts {ps : List Nat} {n : Nat} (h : PairOk ps n) (h4 : n % 4 = 0) : Nw.Acts (pairN ps).stp (· < n) := by
  have st := fun {x : Nat} (hx : x < n) => pair_stp h hx
  refine ⟨fun x s hx _ => ((pair_of h h4).get hx s).2, fun x s hx hs => ?_, fun x hx => ?_⟩
  · rcases hs with e | e | e <;> subst e
    · rw [(st hx).1, (st (endF_lt h4 hx)).1, endF_back]
    · obtain ⟨y, hy, e1, e2⟩ := h.2 x hx
      have s1 : (pairN ps).stp x 49 = y := by
        rw [(st hx).2.2, e1]
        rfl
      rw [s1, (st hy).2.2, e2]
      rfl
    · rw [(st hx).2.1, (st (sideF_lt h4 hx)).2.1, sideF_back]
  · rw [(st hx).1, (st hx).2.1, (st (endF_lt h4 hx)).2.1, (st (sideF_lt h4 hx)).1, end_side]
section
variable {P : Program} {w : World} {K : PySem.W.Frag} {mg : Str → Option Value} {base : Heap}
theorem vi_snoc (cs : List Nat) (c : Nat) : Vi cs ++ [.int (c : Int)] = Vi (cs ++ [c]) := by
  unfold Vi
  rw [List.map_append]
  rfl
def spPaired (K : PySem.W.Frag) : Sp := fun vs H Q _ => ∃ (l : Addr) (ps : List Nat), vs = [.ref l] ∧ SqL K H l (Vi ps) ∧ ps.length ≤ 1000 ∧ ∀ (p' : Addr) (H' : Hp), Same H H' → NetAt K H' p' (pairN ps) → Q (.ref p') H'
end
end K7

namespace K7
open PySem PySem.Spec PyProof.Rows L2 Nr Nw
/-- ls: flags without a partner; the others have one -/
structure Half (n : Nat) (ls ps : List Nat) : Prop where
  len : ps.length = n
  nd : ls.Nodup
  low : ∀ x ∈ ls, x < n
  has : ∀ x, x < n → x ∉ ls → ∃ y, y < n ∧ y ∉ ls ∧ ps[x]? = some y ∧ ps[y]? = some x
  mv : ∀ x, x < n → x ∉ ls → ps[x]? ≠ some x
theorem Half.moved {n : Nat} {ps : List Nat} (h : Half n [] ps) : ∀ x, x < n → ps[x]? ≠ some x := fun x hx => h.mv x hx List.not_mem_nil
theorem Half.ok {n : Nat} {ps : List Nat} (h : Half n [] ps) : PairOk ps n := ⟨h.len, fun x hx => by
  obtain ⟨y, h1, _, h3⟩ := h.has x hx (List.not_mem_nil)
  exact ⟨y, h1, h3⟩⟩
theorem set_get {ps : List Nat} {a b x : Nat} (ha : a < ps.length) : (ps.set a b)[x]? = if x = a then some b else ps[x]? := by
  by_cases e : x = a
  · rw [if_pos e, e, List.getElem?_set_self ha]
  · rw [if_neg e, List.getElem?_set_ne (Ne.symm e)]
/-- two flags are put together -/
theorem Half.put {n : Nat} {ls ps ls' : List Nat} {a b : Nat} (h : Half n ls ps) (hp : (a :: b :: ls').Perm ls) : Half n ls' ((ps.set a b).set b a) := by
  have nd : (a :: b :: ls').Nodup := hp.nodup_iff.mpr h.nd
  have mem : ∀ x, x ∈ ls ↔ x = a ∨ x = b ∨ x ∈ ls' := by
    intro x
    rw [← hp.mem_iff, List.mem_cons, List.mem_cons]
  have na : a ≠ b ∧ a ∉ ls' := by
    have := (List.nodup_cons.mp nd).1
    exact ⟨fun e => this (by rw [e]; exact List.mem_cons_self), fun e => this (List.mem_cons_of_mem _ e)⟩
  have nb : b ∉ ls' := (List.nodup_cons.mp (List.nodup_cons.mp nd).2).1
  have la : a < n := h.low a ((mem a).mpr (.inl rfl))
  have lb : b < n := h.low b ((mem b).mpr (.inr (.inl rfl)))
  have g : ∀ x, ((ps.set a b).set b a)[x]? = if x = b then some a else if x = a then some b else ps[x]? := by
    intro x
    rw [set_get (by rw [List.length_set, h.len]; exact lb), set_get (by rw [h.len]; exact la)]
  refine ⟨by rw [List.length_set, List.length_set]; exact h.len, (List.nodup_cons.mp (List.nodup_cons.mp nd).2).2, fun x hx => h.low x ((mem x).mpr (.inr (.inr hx))), fun x hx hn => ?_, fun x hx hn => ?_⟩
  rotate_left
  · rw [g]
    by_cases eb : x = b
    · rw [if_pos eb]
      exact fun z => na.1 (by rw [← eb]; exact Option.some.inj z)
    · rw [if_neg eb]
      by_cases ea : x = a
      · rw [if_pos ea]
        exact fun z => na.1 (by rw [← ea]; exact (Option.some.inj z).symm)
      · rw [if_neg ea]
        refine h.mv x hx fun z => ?_
        rcases (mem x).mp z with y | y | y
        · exact ea y
        · exact eb y
        · exact hn y
  by_cases ea : x = a
  · subst ea
    exact ⟨b, lb, nb, by rw [g, if_neg na.1, if_pos rfl], by rw [g, if_pos rfl]⟩
  · by_cases eb : x = b
    · subst eb
      exact ⟨a, la, na.2, by rw [g, if_pos rfl], by rw [g, if_neg na.1, if_pos rfl]⟩
    · have hx' : x ∉ ls := fun z => by
        rcases (mem x).mp z with y | y | y
        · exact ea y
        · exact eb y
        · exact hn y
      obtain ⟨y, h1, h2, h3, h4⟩ := h.has x hx hx'
      have ya : y ≠ a := fun z => h2 ((mem y).mpr (.inl z))
      have yb : y ≠ b := fun z => h2 ((mem y).mpr (.inr (.inl z)))
      exact ⟨y, h1, fun z => h2 ((mem y).mpr (.inr (.inr z))), by rw [g, if_neg eb, if_neg ea]; exact h3, by rw [g, if_neg yb, if_neg ya]; exact h4⟩
/-- no flag stays where it is -/
def Net.Free (N : Net) (n : Nat) : Prop := ∀ x, x < n → N.stp x 48 ≠ x ∧ N.stp x 49 ≠ x ∧ N.stp x 50 ≠ x ∧ N.stp (N.stp x 48) 50 ≠ x
theorem endF_ne (x : Nat) : endF x ≠ x := by
  unfold endF
  split <;> omega
theorem sideF_ne (x : Nat) : sideF x ≠ x := by
  unfold sideF
  split <;> omega
theorem both_ne (x : Nat) : sideF (endF x) ≠ x := by
  unfold sideF endF
  split <;> split <;> omega
theorem pair_free {ps : List Nat} {n : Nat} (h : PairOk ps n) (h4 : n % 4 = 0) (hm : ∀ x, x < n → ps[x]? ≠ some x) : (pairN ps).Free n := by
  intro x hx
  obtain ⟨s0, s2, s1⟩ := pair_stp h hx
  refine ⟨by rw [s0]; exact endF_ne x, ?_, by rw [s2]; exact sideF_ne x, ?_⟩
  · rw [s1]
    obtain ⟨y, _, e1, _⟩ := h.2 x hx
    have := hm x hx
    rw [e1] at this ⊢
    exact fun z => this (by rw [show y = x from z])
  · rw [s0, (pair_stp h (endF_lt h4 hx)).2.1]
    exact both_ne x
theorem ren_free {N : Net} {os : List Nat} {n : Nat} (hN : N.Of n) (h : os.Perm (List.range n)) (F : N.Free n) : (N.ren os).Free n := by
  intro i hi
  have lo : os.length = n := by rw [h.length_eq, List.length_range]
  have ndp : os.Nodup := h.nodup_iff.mpr List.nodup_range
  have gi : os[i]? = some os[i] := List.getElem?_eq_getElem (by omega)
  have xl : os[i] < n := (perm_mem h _).mp (List.getElem_mem (by omega))
  have back : os.idxOf os[i] = i := List.Nodup.idxOf_getElem ndp i (by omega)
  generalize os[i] = x at gi xl back
  obtain ⟨f0, f1, f2, f3⟩ := F x xl
  have inj : ∀ y, y < n → y ≠ x → os.idxOf y ≠ i := fun y hy ne z => ne (by
    have h1 := idx_get ((perm_mem h y).mpr hy)
    rw [z, gi] at h1
    exact (Option.some.inj h1).symm)
  have st := fun {j y s : Nat} (hy : os[j]? = some y) (hs : Sg s) => ren_stp hN h hy hs
  refine ⟨?_, ?_, ?_, ?_⟩
  · rw [st gi (.inl rfl)]
    exact inj _ (hN.get xl 48).2 f0
  · rw [st gi (.inr (.inl rfl))]
    exact inj _ (hN.get xl 49).2 f1
  · rw [st gi (.inr (.inr rfl))]
    exact inj _ (hN.get xl 50).2 f2
  · have l0 := (hN.get xl 48).2
    rw [st gi (.inl rfl), st (idx_get ((perm_mem h _).mpr l0)) (.inr (.inr rfl))]
    exact inj _ (hN.get l0 50).2 f3
section
variable {P : Program} {w : World} {K : PySem.W.Frag} {mg : Str → Option Value} {base : Heap}
theorem vi_set (cs : List Nat) (i c : Nat) : (Vi cs).set i (.int (c : Int)) = Vi (cs.set i c) := by
  unfold Vi
  rw [List.map_set]
def spNet (K : PySem.W.Frag) : Sp := fun vs H Q _ => ∃ (m lc lg : Addr) (k most : Nat), vs = [.ref m, .int (most : Int)] ∧ (0 < most ∧ most ≤ 20) ∧ MS H m lc lg k ∧ k < 700000 ∧
  ∀ (N : Net) (n : Nat) (p' : Addr) (H' : Hp), N.Of n → 0 < n → n ≤ 80 → Nw.Acts N.stp (· < n) → N.Free n → NetAt K H' p' N → MS H' m lc lg (k + 200) → Off m lg H H' → Q (.ref p') H'
end
end K7

namespace K7
open PySem PySem.Spec PyProof.Rows L2 Nr Nw
/-- texts of words -/
def Vs (ws : List (List Nat)) : List V := ws.map fun u => V.str (S u)
theorem vs_len (ws : List (List Nat)) : (Vs ws).length = ws.length := List.length_map ..
theorem vs_get {ws : List (List Nat)} {i : Nat} {u : List Nat} (h : ws[i]? = some u) : (Vs ws)[i]? = some (.str (S u)) := by
  unfold Vs
  rw [List.getElem?_map, h]
  rfl
theorem vs_snoc (ws : List (List Nat)) (u : List Nat) : Vs ws ++ [.str (S u)] = Vs (ws ++ [u]) := by
  unfold Vs
  rw [List.map_append]
  rfl
def Good (i : Nat) (w : List Nat) : Prop := Wd w ∧ cut w = w ∧ w.length ≤ i
section
variable {P : Program} {w : World} {K : PySem.W.Frag} {mg : Str → Option Value} {base : Heap}
def spAll : Sp := fun vs H Q _ => vs = [.int 5] ∧ ∀ (p : Addr) (H' : Hp) (ws : List (List Nat)), Same H H' → H p = none → H' p = some (.lst (Vs ws)) → (∀ u ∈ ws, Good 5 u) → ws.length ≤ 5001 → Q (.ref p) H'
theorem ok_all (T : Txt w K mg) : Ok P w K mg base 2 "_law_all_words" ["most"] spAll := by
  refine ok_of T.fLawAllWords fun f fd F => ?_
  refine F.ok scLawAllWords (fun vs H Q E h => ?_) (fun cdv A outer s H vs Q E hr h => ?_)
  · obtain ⟨rfl, _⟩ := h
    rfl
  · obtain ⟨rfl, q⟩ := h
    refine ⟨_, pss_cons (ps_par (i := 2) (j := 3) (by rfl) scLawAllWords.nd rfl rfl (by decide) rfl rfl (pa_cons (pe_lst (pa_cons pe_str pa_nil)) (pa_cons (pe_lst (pa_cons pe_str pa_nil)) pa_nil)) (by rfl))
      (pss_cons (ps_for PassesOwn.never rfl (pi_range1 (by rfl) T.nrange (pa_cons (pv 0) pa_nil)) (pg_name (i := 1) scLawAllWords.nd rfl (.inl rfl))
        (pss_cons (ps_set (i := 4) scLawAllWords.nd rfl (.inl rfl) (pe_lst pa_nil))
        (pss_cons (ps_for PassesOwn.never rfl (pi_list (pv 3)) (pg_name (i := 5) scLawAllWords.nd rfl (.inl rfl))
          (pss_one (ps_for PassesOwn.never rfl (pi_str pe_str) (pg_name (i := 6) scLawAllWords.nd rfl (.inl rfl))
            (pss_one (ps_if (pt_cmpR op_eq (pe_callO (ok_cut T) hr (by decide) (by rfl) (pa_cons (pe_op op_add_str (pv 5) (pv 6)) pa_nil)) (pe_op op_add_str (pv 5) (pv 6)) (nomark _))
              (pss_one (ps_expr (pe_bm PySem.F.plainAttrs_list PySem.F.slot_list_append PySem.F.type_list_append mt_append (pv 4) (pa_cons (pe_op op_add_str (pv 5) (pv 6)) pa_nil)))) pss_nil)))))
        (pss_cons (ps_set (i := 2) scLawAllWords.nd rfl (.inl rfl) (pe_op op_cat (pv 2) (pv 4)))
        (pss_one (ps_set (i := 3) scLawAllWords.nd rfl (.inl rfl) (pv 4)))))))
      (pss_one (ps_ret (pv 2)))), ?_⟩
    have one1 : (1 : Nat) ≤ sizeLine := by decide
    refine ⟨one1, fun fl nf => ?_⟩
    refine ⟨one1, fun rl nr => ?_⟩
    refine ⟨_, _, rfl, ?_⟩
    have nf0 : H fl = none := nf
    have nr0 : H rl = none := none_of (same_new nf) nr
    have nfr : fl ≠ rl := fun e => by
      rw [← e, upd_same] at nr
      cases nr
    have s1 : Same H (upd (upd H fl (.lst (Vs [[]]))) rl (.lst (Vs [[]]))) := same_mut (same_new nf) nr0
    have g0 : Good 0 [] := ⟨(fun c hc => by cases hc), rfl, Nat.le_refl _⟩
    refine ⟨.int 5, rfl, 5, rfl, by decide, by decide, ?_⟩
    refine ⟨fun i m σ H3 => ∃ (y1 y4 y5 y6 : Option V) (fl rl : Addr) (ws rs : List (List Nat)), σ = [some (.int 5), y1, some (.ref fl), some (.ref rl), y4, y5, y6] ∧ i + m = 5 ∧ Same H H3 ∧ H fl = none ∧ H3 fl = some (.lst (Vs ws)) ∧ H3 rl = some (.lst (Vs rs)) ∧ (∀ u ∈ ws, Good 5 u) ∧ (∀ u ∈ rs, Good i u) ∧ rs.length ≤ 3 ^ i ∧ ws.length ≤ 1 + 1000 * i,
      ⟨5, none, none, none, none, fl, rl, [[]], [[]], rfl, rfl, s1, nf0, by rw [upd_ne nfr]; exact upd_same, upd_same, (fun u hu => by rw [List.mem_singleton.mp hu]; exact ⟨g0.1, g0.2.1, Nat.zero_le _⟩), (fun u hu => by rw [List.mem_singleton.mp hu]; exact g0), by decide, by decide⟩, ?_⟩
    clear s1 nfr nf0 nr0 nr nf
    clear fl rl
    rintro i m σ H3 ⟨y1, y4, y5, y6, fl, rl, ws, rs, rfl, em, sm, nf, ef, er, gw, gr, lr, lw⟩
    by_cases hi : i < 5
    · refine .inr ⟨hi, fun σ' H' => ∃ (y1 y4 y5 y6 : Option V) (fl rl : Addr) (ws rs : List (List Nat)), σ' = [some (.int 5), y1, some (.ref fl), some (.ref rl), y4, y5, y6] ∧ Same H H' ∧ H fl = none ∧ H' fl = some (.lst (Vs ws)) ∧ H' rl = some (.lst (Vs rs)) ∧ (∀ u ∈ ws, Good 5 u) ∧ (∀ u ∈ rs, Good (i + 1) u) ∧ rs.length ≤ 3 ^ (i + 1) ∧ ws.length ≤ 1 + 1000 * (i + 1), ?_, ?_⟩
      · rintro σ' H' ⟨z1, z4, z5, z6, fl', rl', ws', rs', e, r⟩
        exact ⟨m - 1, by omega, z1, z4, z5, z6, fl', rl', ws', rs', e, by omega, r⟩
      · rintro v H' ⟨rfl, rfl⟩
        refine ⟨Nat.zero_le _, fun lo nlo => ?_⟩
        have nlo0 : H lo = none := none_of sm nlo
        have p5 : 3 ^ i ≤ 81 := by
          have : 3 ^ i ≤ 3 ^ 4 := Nat.pow_le_pow_right (by decide) (by omega)
          exact this
        have rne : rl ≠ lo := ne_of_none er nlo
        have fne : fl ≠ lo := ne_of_none ef nlo
        -- over the row
        refine ⟨.ref rl, rfl, rl, rfl, ⟨Vs rs, .inl (.inl (by rw [upd_ne rne]; exact er))⟩, ?_⟩
        refine ⟨fun j mm σ H4 => ∃ (y5 y6 : Option V) (ls : List (List Nat)), σ = [some (.int 5), some (.int (0 + (i : Nat))), some (.ref fl), some (.ref rl), some (.ref lo), y5, y6] ∧ j + mm = rs.length ∧ Same H H4 ∧ H4 fl = some (.lst (Vs ws)) ∧ H4 rl = some (.lst (Vs rs)) ∧ H4 lo = some (.lst (Vs ls)) ∧ (∀ u ∈ ls, Good (i + 1) u) ∧ ls.length ≤ 3 * j,
          ⟨rs.length, y5, y6, [], rfl, by omega, same_mut sm nlo0, by rw [upd_ne fne]; exact ef, by rw [upd_ne rne]; exact er, upd_same, (fun u hu => by cases hu), Nat.le_refl _⟩, ?_⟩
        rintro j mm σ H4 ⟨x5, x6, ls, rfl, em4, sm4, ef4, er4, el4, gl, ll⟩
        by_cases hj : j < rs.length
        · have gj : rs[j]? = some rs[j] := List.getElem?_eq_getElem hj
          have gu := gr _ (List.getElem_mem hj)
          generalize rs[j] = u at gj gu
          refine .inr ⟨⟨_, _, .inl (.inl er4), vs_get gj⟩, fun σ' H' => ∃ (y5 y6 : Option V) (ls : List (List Nat)), σ' = [some (.int 5), some (.int (0 + (i : Nat))), some (.ref fl), some (.ref rl), some (.ref lo), y5, y6] ∧ Same H H' ∧ H' fl = some (.lst (Vs ws)) ∧ H' rl = some (.lst (Vs rs)) ∧ H' lo = some (.lst (Vs ls)) ∧ (∀ u ∈ ls, Good (i + 1) u) ∧ ls.length ≤ 3 * (j + 1), ?_, ?_⟩
          · rintro σ' H' ⟨z5, z6, ls', e, r⟩
            exact ⟨mm - 1, by omega, z5, z6, ls', e, by omega, r⟩
          · rintro v H' ⟨rfl, fv⟩
            have ev := Option.some.inj ((fv _ (.inl (.inl er4))).symm.trans (vs_get gj))
            subst ev
            -- over the signs
            refine ⟨S [48, 49, 50], rfl, ?_⟩
            refine ⟨fun t mt σ H5 => ∃ (y6 : Option V) (ls : List (List Nat)), σ = [some (.int 5), some (.int (0 + (i : Nat))), some (.ref fl), some (.ref rl), some (.ref lo), some (.str (S u)), y6] ∧ t + mt = 3 ∧ Same H H5 ∧ H5 fl = some (.lst (Vs ws)) ∧ H5 rl = some (.lst (Vs rs)) ∧ H5 lo = some (.lst (Vs ls)) ∧ (∀ u ∈ ls, Good (i + 1) u) ∧ ls.length ≤ 3 * j + t,
              ⟨3, x6, ls, rfl, rfl, sm4, ef4, er4, el4, gl, ll⟩, ?_⟩
            rintro t mt σ H5 ⟨w6, ks, rfl, em5, sm5, ef5, er5, el5, gk, lk⟩
            by_cases ht : t < 3
            · refine .inr ⟨ht, fun σ' H' => ∃ (y6 : Option V) (ls : List (List Nat)), σ' = [some (.int 5), some (.int (0 + (i : Nat))), some (.ref fl), some (.ref rl), some (.ref lo), some (.str (S u)), y6] ∧ Same H H' ∧ H' fl = some (.lst (Vs ws)) ∧ H' rl = some (.lst (Vs rs)) ∧ H' lo = some (.lst (Vs ls)) ∧ (∀ u ∈ ls, Good (i + 1) u) ∧ ls.length ≤ 3 * j + (t + 1), ?_, ?_⟩
              · rintro σ' H' ⟨z6, ls', e, r⟩
                exact ⟨mt - 1, by omega, z6, ls', e, by omega, r⟩
              · rintro v H' ⟨rfl, c, hc, rfl⟩
                have sgc : Sg c := by
                  have e0 : ([48, 49, 50] : List Nat)[t]? = some c := (List.getElem?_toArray).symm.trans hc
                  have : c ∈ ([48, 49, 50] : List Nat) := List.mem_of_getElem? e0
                  simp only [List.mem_cons, List.not_mem_nil, or_false] at this
                  exact this
                have wd : Wd (u ++ [c]) := wd_append.mpr ⟨gu.1, fun z hz => by rw [List.mem_singleton.mp hz]; exact sgc⟩
                have lz : (u ++ [c]).length ≤ i + 1 := by
                  rw [List.length_append]
                  have := gu.2.2
                  have e1 : ([c] : List Nat).length = 1 := rfl
                  omega
                have fits : (S u).length + (S [c]).length ≤ sizeLine := by
                  show u.length + 1 ≤ _
                  have := gu.2.2
                  exact Nat.le_trans (show u.length + 1 ≤ 10 by omega) (by decide)
                have esc : S u ++ S [c] = S (u ++ [c]) := s_app u [c]
                refine ⟨.str (S u), rfl, .str (S [c]), rfl, _, _, rfl, rfl, fits, u ++ [c], congrArg (fun z => [V.str z]) esc, ⟨wd, by omega⟩, .str (S u), rfl, .str (S [c]), rfl, _, _, rfl, rfl, fits, rfl, _, rfl, ?_⟩
                by_cases hcut : cut (u ++ [c]) = u ++ [c]
                · refine iteDT (by rw [hcut, ← esc]) ?_
                  refine ⟨.ref lo, rfl, .inl ⟨rfl, _, .inl (.inl el5)⟩, .str (S u), rfl, .str (S [c]), rfl, _, _, rfl, rfl, fits, lo, _, _, rfl, rfl, el5, ?_, ?_⟩
                  · rw [vs_len]
                    exact Nat.lt_of_le_of_lt (show ks.length ≤ 1000 by omega) (by decide)
                  · refine ⟨_, ks ++ [u ++ [c]], rfl, same_mut sm5 nlo0, by rw [upd_ne fne]; exact ef5, by rw [upd_ne rne]; exact er5, ?_, ?_, ?_⟩
                    · rw [upd_same, ← vs_snoc, ← esc]
                    · intro z hz
                      rcases List.mem_append.mp hz with h | h
                      · exact gk z h
                      · rw [List.mem_singleton.mp h]
                        exact ⟨wd, hcut, lz⟩
                    · rw [List.length_append]
                      have e1 : ([u ++ [c]] : List (List Nat)).length = 1 := rfl
                      omega
                · refine iteDF (fun z => hcut ?_) ?_
                  · have := V.str.inj z
                    have z2 : S (cut (u ++ [c])) = S (u ++ [c]) := this.trans esc
                    exact s_inj z2
                  · exact ⟨_, ks, rfl, sm5, ef5, er5, el5, gk, by omega⟩
            · refine .inl ⟨by show 3 ≤ t; omega, ?_⟩
              exact ⟨_, _, ks, rfl, sm5, ef5, er5, el5, gk, by omega⟩
        · refine .inl ⟨⟨_, .inl (.inl er4), by rw [vs_len]; omega⟩, ?_⟩
          have jl : j ≤ rs.length := by omega
          refine ⟨.ref fl, rfl, .ref lo, rfl, fl, lo, Vs ws, Vs ls, rfl, rfl, ef4, el4, ?_, fun p np => ?_⟩
          · rw [vs_len, vs_len]
            exact Nat.le_trans (show ws.length + ls.length ≤ 10000 by omega) (by decide)
          · have sp : Same H4 (upd H4 p (.lst (Vs ws ++ Vs ls))) := same_new np
            refine ⟨.ref lo, rfl, some (.int (0 + (i : Nat))), some (.ref lo), x5, x6, p, lo, ws ++ ls, ls, rfl, Same.to sm4 sp, none_of sm4 np, ?_, sp _ _ el4, ?_, gl, ?_, ?_⟩
            · rw [upd_same]
              unfold Vs
              rw [List.map_append]
            · intro u hu
              rcases List.mem_append.mp hu with h | h
              · exact gw u h
              · have := gl u h
                exact ⟨this.1, this.2.1, Nat.le_trans this.2.2 (by omega)⟩
            · rw [Nat.pow_succ]
              omega
            · rw [List.length_append]
              omega
    · refine .inl ⟨by show 5 ≤ i; omega, ?_⟩
      exact ⟨.ref fl, rfl, q fl H3 ws sm nf ef gw (by omega)⟩
end
end K7

namespace K7
open PySem PySem.Spec PyProof.Rows L2 Nr Nw
/-! ### pieces -/
def pst (st : List (List Nat)) (c : Nat) : List (List Nat) := if c = 50 ∧ st.head? = some [48] then [48, 50] :: st.tail else [c] :: st
def P4 (p : List Nat) : Prop := p = [48] ∨ p = [50] ∨ p = [48, 50] ∨ p = [49]
/-- pieces, the last one first: one of two neighbors is "1" -/
def Pal : List (List Nat) → Prop
  | [] => True
  | [p] => P4 p
  | p :: q :: r => P4 p ∧ ((p = [49] ∧ q ≠ [49]) ∨ (p ≠ [49] ∧ q = [49])) ∧ Pal (q :: r)
theorem Pal.tail {p : List Nat} {r : List (List Nat)} (h : Pal (p :: r)) : Pal r := by
  cases r with
  | nil => trivial
  | cons q r => exact h.2.2
theorem Pal.head {p : List Nat} {r : List (List Nat)} (h : Pal (p :: r)) : P4 p := by
  cases r with
  | nil => exact h
  | cons q r => exact h.1
theorem Pal.all : ∀ {st : List (List Nat)}, Pal st → ∀ p ∈ st, P4 p
  | [], _, p, hp => by cases hp
  | q :: r, h, p, hp => by
    rcases List.mem_cons.mp hp with e | e
    · rw [e]; exact h.head
    · exact Pal.all h.tail p e
def pcs (u : List Nat) : List (List Nat) := u.foldl pst []
theorem pcs_snoc (u : List Nat) (c : Nat) : pcs (u ++ [c]) = pst (pcs u) c := by
  unfold pcs
  rw [List.foldl_append]
  rfl
theorem fw_snoc {u : List Nat} {c : Nat} (h : Fw (u ++ [c])) : Fw u ∧ Sg c ∧ ∀ a, u.getLast? = some a → Nb c a := by
  have hr := fw_rd h
  rw [List.reverse_append] at hr
  have hr' : Rd (c :: u.reverse) := hr
  refine ⟨rd_fw hr'.tail, hr'.head, fun a e => ?_⟩
  rw [← List.head?_reverse] at e
  cases e2 : u.reverse with
  | nil => rw [e2] at e; cases e
  | cons b r =>
    rw [e2] at e hr'
    cases e
    exact nb_of hr'
theorem pcs_pal : ∀ (n : Nat) (u : List Nat), u.length = n → Fw u → Pal (pcs u) ∧ (pcs u).reverse.flatten = u ∧ (∀ p, (pcs u).head? = some p → p.getLast? = u.getLast?)
  | 0, u, hn, _ => by
    rw [List.length_eq_zero_iff.mp hn]
    exact ⟨trivial, rfl, fun p h => by cases h⟩
  | n + 1, u, hn, hf => by
    have hne : u ≠ [] := fun z => by rw [z] at hn; cases hn
    have eu := (List.dropLast_concat_getLast hne).symm
    have hl : u.dropLast.length = n := by rw [List.length_dropLast]; omega
    rw [eu] at hf ⊢
    generalize u.dropLast = v at hf hl ⊢
    generalize u.getLast hne = c at hf ⊢
    obtain ⟨hv, hc, hnb⟩ := fw_snoc hf
    obtain ⟨h1, h2, h3⟩ := pcs_pal n v hl hv
    rw [pcs_snoc]
    have lastc : (v ++ [c]).getLast? = some c := List.getLast?_concat ..
    rw [lastc]
    generalize hst : pcs v = st at h1 h2 h3
    unfold pst
    by_cases e : c = 50 ∧ st.head? = some [48]
    · rw [if_pos e]
      obtain ⟨rfl, e2⟩ := e
      cases st with
      | nil => cases e2
      | cons p r =>
        cases e2
        refine ⟨?_, ?_, fun p hp => by cases hp; rfl⟩
        · cases r with
          | nil => exact .inr (.inr (.inl rfl))
          | cons q r =>
            refine ⟨.inr (.inr (.inl rfl)), ?_, h1.2.2⟩
            rcases h1.2.1 with ⟨z, _⟩ | ⟨_, z⟩
            · cases z
            · exact .inr ⟨by decide, z⟩
        · rw [← h2]
          rw [List.tail_cons, List.reverse_cons, List.reverse_cons, List.flatten_append, List.flatten_append, List.append_assoc]
          rfl
    · rw [if_neg e]
      have p4 : P4 [c] := by
        rcases hc with z | z | z <;> subst z
        · exact .inl rfl
        · exact .inr (.inr (.inr rfl))
        · exact .inr (.inl rfl)
      refine ⟨?_, ?_, fun p hp => by cases hp; rfl⟩
      · cases st with
        | nil => exact p4
        | cons q r =>
          refine ⟨p4, ?_, h1⟩
          have hq := h3 q rfl
          have q4 := h1.head
          have nb := fun a (ha : q.getLast? = some a) => hnb a (by rw [← hq]; exact ha)
          rcases q4 with z | z | z | z <;> subst z
          · have n1 := nb 48 rfl
            rcases hc with y | y | y
            · exact absurd y n1.1
            · subst y; exact .inl ⟨rfl, by decide⟩
            · exact absurd ⟨y, rfl⟩ e
          · have n1 := nb 50 rfl
            rcases hc with y | y | y
            · exact absurd ⟨rfl, y⟩ n1.2
            · subst y; exact .inl ⟨rfl, by decide⟩
            · exact absurd y n1.1
          · have n1 := nb 50 rfl
            rcases hc with y | y | y
            · exact absurd ⟨rfl, y⟩ n1.2
            · subst y; exact .inl ⟨rfl, by decide⟩
            · exact absurd y n1.1
          · have n1 := nb 49 rfl
            rcases hc with y | y | y
            · subst y; exact .inr ⟨by decide, rfl⟩
            · exact absurd y n1.1
            · subst y; exact .inr ⟨by decide, rfl⟩
      · rw [List.reverse_cons, List.flatten_append, h2]
        rfl
theorem lay_four : ∀ ps : List (List Nat), (∀ p ∈ ps, P4 p) → PyData.canLayAll0 (ps.map fun p => PyData.str (S p)) = true ∧ PyData.depthAll (ps.map fun p => PyData.str (S p)) = 0
  | [], _ => ⟨by rfl, by rfl⟩
  | p :: r, h => by
    have ih := lay_four r fun q hq => h q (List.mem_cons_of_mem _ hq)
    have hp := h p List.mem_cons_self
    refine ⟨?_, ?_⟩
    · rw [List.map_cons]
      unfold PyData.canLayAll0
      rw [ih.1]
      rcases hp with e | e | e | e <;> subst e <;> decide +kernel
    · rw [List.map_cons]
      unfold PyData.depthAll
      rw [ih.2]
      rfl
theorem shaped_four {ps : List (List Nat)} (h : ∀ p ∈ ps, P4 p) : SeqAt.shaped (.list (ps.map fun p => PyData.str (S p))) = true := by
  unfold SeqAt.shaped PyData.canLay0 PyData.depth
  rw [(lay_four ps h).1, (lay_four ps h).2]
  decide
theorem eqv_nilS (ps : List (List Nat)) : PyData.eqv (.list (ps.map fun p => PyData.str (S p))) (.list []) = ps.isEmpty := by
  cases ps <;> (unfold PyData.eqv; rfl)
theorem dpAll_strs {K : PySem.W.Frag} {H : Hp} : ∀ ps : List (List Nat), DpAll K H (Vs ps) (ps.map fun p => PyData.str (S p))
  | [] => .nil
  | p :: r => .cons (.str (S p)) (dpAll_strs r)
section
variable {P : Program} {w : World} {K : PySem.W.Frag} {mg : Str → Option Value} {base : Heap}
def spPieces : Sp := fun vs H Q _ => ∃ u : List Nat, vs = [.str (S u)] ∧ Fw u ∧ u.length ≤ 20000 ∧ ∀ (p : Addr) (H' : Hp), Same H H' → H p = none → H' p = some (.lst (Vs (pcs u).reverse)) → Q (.ref p) H'
theorem pcs_len : ∀ (n : Nat) (u : List Nat), u.length = n → (pcs u).length ≤ n
  | 0, u, hn => by
    rw [List.length_eq_zero_iff.mp hn]
    exact Nat.le_refl _
  | n + 1, u, hn => by
    have hne : u ≠ [] := fun z => by rw [z] at hn; cases hn
    rw [(List.dropLast_concat_getLast hne).symm, pcs_snoc]
    have ih := pcs_len n u.dropLast (by rw [List.length_dropLast]; omega)
    unfold pst
    split
    · simp only [List.length_cons, List.length_tail]
      omega
    · simp only [List.length_cons]
      omega
theorem ok_pieces (T : Txt w K mg) : Ok P w K mg base 1 "_law_pieces" ["word"] spPieces := by
  refine ok_of T.fLawPieces fun f fd F => ?_
  refine F.ok scLawPieces (fun vs H Q E h => ?_) (fun cdv A outer s H vs Q E hr h => ?_)
  · obtain ⟨u, rfl, _⟩ := h
    rfl
  · obtain ⟨u, rfl, hf, hz, q⟩ := h
    refine ⟨_, pss_cons (ps_set (i := 1) scLawPieces.nd rfl (.inl rfl) (pe_lst pa_nil))
      (pss_cons (ps_for PassesOwn.never rfl (pi_str (pv 0)) (pg_name (i := 2) scLawPieces.nd rfl (.inl rfl))
        (pss_one (ps_if (PW.pt (pw_and (pt_cmpR op_eq (pv 2) pe_str (nomark _)) (pw_and (pt_cmpR (op_neD hr.units) (pv 1) (pe_lst pa_nil) (nomark _)) (pw_and1 (pt_cmpR op_eq (pe_ix (r := rIxL K) ix_list (pv 1) (pe_un un_neg pe_int) (fun _ _ => rfl)) pe_str (nomark _))))))
          (pss_one (ps_asg pe_str (pg_sub (pv 1) (pe_un un_neg pe_int) set_list)))
          (pss_one (ps_expr (pe_bm PySem.F.plainAttrs_list PySem.F.slot_list_append PySem.F.type_list_append mt_append (pv 1) (pa_cons (pv 2) pa_nil)))))))
      (pss_one (ps_ret (pv 1)))), ?_⟩
    refine ⟨Nat.zero_le _, fun l nl => ?_⟩
    refine ⟨.str (S u), rfl, S u, rfl, fun i m σ H3 => ∃ y2, σ = [some (.str (S u)), some (.ref l), y2] ∧ i + m = u.length ∧ Same H H3 ∧ H3 l = some (.lst (Vs (pcs (u.take i)).reverse)), ⟨u.length, none, rfl, by omega, same_new nl, upd_same⟩, ?_⟩
    rintro i m σ H3 ⟨y2, rfl, em, sm, el⟩
    by_cases hi : i < u.length
    · refine .inr ⟨hi, fun σ' H' => ∃ y2, σ' = [some (.str (S u)), some (.ref l), y2] ∧ Same H H' ∧ H' l = some (.lst (Vs (pcs (u.take (i + 1))).reverse)), ?_, ?_⟩
      · rintro σ' H' ⟨z2, e, sm', el'⟩
        exact ⟨m - 1, by omega, z2, e, by omega, sm', el'⟩
      · rintro v H' ⟨rfl, c, hc, rfl⟩
        have e : u[i]? = some c := (List.getElem?_toArray).symm.trans hc
        have et : u.take (i + 1) = u.take i ++ [c] := by
          rw [List.take_add_one, e]
          rfl
        have hft : Fw (u.take i) := by
          have h1 := fw_rd hf
          refine rd_fw ?_
          rw [List.reverse_take]
          exact Rd.drop _ h1
        have pal := (pcs_pal _ (u.take i) rfl hft).1
        have pl := pcs_len _ (u.take i) rfl
        rw [List.length_take] at pl
        rw [et, pcs_snoc]
        generalize pcs (u.take i) = st at pal el pl ⊢
        have four : ∀ p ∈ st.reverse, P4 p := fun p hp => pal.all p (List.mem_reverse.mp hp)
        have stl : (Vs st.reverse).length < sizeLine := by
          rw [vs_len, List.length_reverse]
          exact Nat.lt_of_le_of_lt (show st.length ≤ 20000 by omega) (by decide)
        -- put on as it is
        have push : ∀ {Hx : Hp}, Same H' Hx → Hx l = some (.lst (Vs st.reverse)) → pst st c = [c] :: st → ∃ y, (fun (y : Option V) => True) y ∧ Same H (upd Hx l (.lst (Vs st.reverse ++ [.str (S [c])]))) ∧ (upd Hx l (.lst (Vs st.reverse ++ [.str (S [c])]))) l = some (.lst (Vs (pst st c).reverse)) := by
          intro Hx sx ex ep
          refine ⟨none, trivial, same_mut (Same.to sm sx) nl, ?_⟩
          rw [upd_same, vs_snoc, ep, List.reverse_cons]
        refine ⟨.str (S [c]), rfl, rfl, _, rfl, ?_⟩
        by_cases c50 : c = 50
        · refine iteDT (str_is c50) ⟨.ref l, rfl, Nat.zero_le _, fun b nb => ?_⟩
          have sb : Same H' (upd H' b (.lst [])) := same_new nb
          have elb := sb _ _ el
          have eb : (upd H' b (.lst [])) b = some (.lst []) := upd_same
          generalize upd H' b (.lst []) = Hb at sb elb eb ⊢
          refine ⟨_, .list [], .lst (.inl (.inl elb)) (dpAll_strs st.reverse), .lst (.inl (.inl eb)) .nil, shaped_four four, shaped_ints [], _, rfl, ?_⟩
          rw [eqv_nilS]
          cases st with
          | nil =>
            refine iteF (iteF ?_)
            obtain ⟨_, _, h1, h2⟩ := push (Hx := Hb) sb elb (by unfold pst; rw [if_neg (by rintro ⟨_, z⟩; cases z)])
            exact ⟨.ref l, rfl, .inl ⟨rfl, _, .inl (.inl elb)⟩, .str (S [c]), rfl, l, _, _, rfl, rfl, elb, stl, _, rfl, h1, h2⟩
          | cons p r =>
            have ne : (p :: r).reverse.isEmpty = false := by
              rw [List.reverse_cons]
              cases r.reverse <;> rfl
            rw [ne]
            have ev : Vs (p :: r).reverse = Vs r.reverse ++ [.str (S p)] := by rw [List.reverse_cons, vs_snoc]
            have elb2 := elb
            rw [ev] at elb2
            refine iteT ⟨.ref l, rfl, 1, rfl, l, _, _, .str (S p), rfl, rfl, .inl (.inl elb2), atI_last _ _, rfl, _, rfl, ?_⟩
            by_cases e48 : p = [48]
            · refine iteDT (by rw [e48]; rfl) ?_
              refine ⟨.ref l, rfl, 1, rfl, l, Vs r.reverse ++ [.str (S p)], -1, r.length, rfl, rfl, elb2, ?_, ?_⟩
              · unfold ixN
                rw [List.length_append, vs_len, List.length_reverse, if_neg (by decide)]
                have e1 : ([V.str (S p)] : List V).length = 1 := rfl
                rw [e1, if_pos (by omega)]
                congr 1
                omega
              · refine ⟨_, rfl, same_mut (Same.to sm sb) nl, ?_⟩
                have lr : r.length = (Vs r.reverse).length := by rw [vs_len, List.length_reverse]
                rw [upd_same, lr, List.set_append_right _ _ (Nat.le_refl _), Nat.sub_self]
                have ep : pst (p :: r) c = [48, 50] :: r := by
                  unfold pst
                  rw [if_pos ⟨c50, by rw [e48]; rfl⟩]
                  rfl
                rw [ep, List.reverse_cons, ← vs_snoc]
                rfl
            · refine iteDF (fun z => e48 (s_inj (V.str.inj z))) ?_
              obtain ⟨_, _, h1, h2⟩ := push (Hx := Hb) sb elb (by unfold pst; rw [if_neg (by rintro ⟨_, z⟩; exact e48 (Option.some.inj z))])
              exact ⟨.ref l, rfl, .inl ⟨rfl, _, .inl (.inl elb)⟩, .str (S [c]), rfl, l, _, _, rfl, rfl, elb, stl, _, rfl, h1, h2⟩
        · refine iteDF (str_one c50) (iteF ?_)
          obtain ⟨_, _, h1, h2⟩ := push (Hx := H') (Same.id _) el (by unfold pst; rw [if_neg (fun z => c50 z.1)])
          exact ⟨.ref l, rfl, .inl ⟨rfl, _, .inl (.inl el)⟩, .str (S [c]), rfl, l, _, _, rfl, rfl, el, stl, _, rfl, h1, h2⟩
    · refine .inl ⟨by show u.length ≤ i; omega, ?_⟩
      rw [List.take_of_length_le (by omega)] at el
      exact ⟨.ref l, rfl, q l H3 sm nl el⟩
end
end K7

namespace K7
open PySem PySem.Spec PyProof.Rows L2 Nr Nw
/-- a dict of partners: ls are the flags without one -/
structure HD (n : Nat) (ls ps : List Nat) (kvs : List (Key × V)) : Prop where
  half : Half n ls ps
  on : ∀ x y, x < n → x ∉ ls → ps[x]? = some y → valV kvs (.inl (x : Int)) = some (.int (y : Int))
  off : ∀ x, x ∈ ls → valV kvs (.inl (x : Int)) = none
theorem keyne {x y : Nat} (h : ¬ x = y) : ¬ ((Sum.inl (x : Int) : Key) = .inl (y : Int)) := fun e => h (by have := Sum.inl.inj e; omega)
theorem put_get {n a b x : Nat} {ps : List Nat} (hl : ps.length = n) (la : a < n) (lb : b < n) : ((ps.set a b).set b a)[x]? = if x = b then some a else if x = a then some b else ps[x]? := by
  rw [set_get (by rw [List.length_set, hl]; exact lb), set_get (by rw [hl]; exact la)]
theorem HD.put {n a b : Nat} {ls ps : List Nat} {kvs : List (Key × V)} (h : HD n (a :: b :: ls) ps kvs) : HD n ls ((ps.set a b).set b a) (putK (putK kvs (.inl (a : Int)) (.int (b : Int))) (.inl (b : Int)) (.int (a : Int))) := by
  have la : a < n := h.half.low a List.mem_cons_self
  have lb : b < n := h.half.low b (List.mem_cons_of_mem _ List.mem_cons_self)
  have nd := h.half.nd
  have nab : a ≠ b := fun e => (List.nodup_cons.mp nd).1 (by rw [e]; exact List.mem_cons_self)
  have na : a ∉ ls := fun e => (List.nodup_cons.mp nd).1 (List.mem_cons_of_mem _ e)
  have nb : b ∉ ls := (List.nodup_cons.mp (List.nodup_cons.mp nd).2).1
  refine ⟨h.half.put (List.Perm.refl _), fun x y hx hn hp => ?_, fun x hx => ?_⟩
  · rw [put_get h.half.len la lb] at hp
    rw [valV_put, valV_put]
    by_cases e1 : x = b
    · rw [if_pos e1] at hp
      cases hp
      rw [e1, if_pos rfl]
    · rw [if_neg e1] at hp
      rw [if_neg (keyne e1)]
      by_cases e2 : x = a
      · rw [if_pos e2] at hp
        cases hp
        rw [e2, if_pos rfl]
      · rw [if_neg e2] at hp
        rw [if_neg (keyne e2)]
        refine h.on x y hx (fun z => ?_) hp
        rcases List.mem_cons.mp z with z | z
        · exact e2 z
        · rcases List.mem_cons.mp z with z | z
          · exact e1 z
          · exact hn z
  · rw [valV_put, valV_put, if_neg (keyne fun e => nb (by rw [← e]; exact hx)), if_neg (keyne fun e => na (by rw [← e]; exact hx))]
    exact h.off x (List.mem_cons_of_mem _ (List.mem_cons_of_mem _ hx))
/-- links that are laid -/
def Kept (es : List (Nat × Nat)) (ls ps : List Nat) : Prop := ∀ e ∈ es, e.1 ∉ ls ∧ e.2 ∉ ls ∧ ps[e.1]? = some e.2 ∧ ps[e.2]? = some e.1
theorem Kept.put {n a b : Nat} {ls ps : List Nat} {es : List (Nat × Nat)} (h : Kept es (a :: b :: ls) ps) (hh : Half n (a :: b :: ls) ps) : Kept es ls ((ps.set a b).set b a) := by
  intro e he
  obtain ⟨h1, h2, h3, h4⟩ := h e he
  have la : a < n := hh.low a List.mem_cons_self
  have lb : b < n := hh.low b (List.mem_cons_of_mem _ List.mem_cons_self)
  have mem : ∀ x, x ∉ a :: b :: ls → x ≠ a ∧ x ≠ b ∧ x ∉ ls := fun x hx => ⟨fun z => hx (by rw [z]; exact List.mem_cons_self), fun z => hx (by rw [z]; exact List.mem_cons_of_mem _ List.mem_cons_self), fun z => hx (List.mem_cons_of_mem _ (List.mem_cons_of_mem _ z))⟩
  obtain ⟨x1, x2, x3⟩ := mem _ h1
  obtain ⟨y1, y2, y3⟩ := mem _ h2
  refine ⟨x3, y3, ?_, ?_⟩
  · rw [put_get hh.len la lb, if_neg x2, if_neg x1]
    exact h3
  · rw [put_get hh.len la lb, if_neg y2, if_neg y1]
    exact h4
theorem Kept.new {n a b : Nat} {ls ps : List Nat} {es : List (Nat × Nat)} (h : Kept es (a :: b :: ls) ps) (hh : Half n (a :: b :: ls) ps) : Kept (es ++ [(a, b)]) ls ((ps.set a b).set b a) := by
  intro e he
  have la : a < n := hh.low a List.mem_cons_self
  have lb : b < n := hh.low b (List.mem_cons_of_mem _ List.mem_cons_self)
  have nd := hh.nd
  have nab : a ≠ b := fun e => (List.nodup_cons.mp nd).1 (by rw [e]; exact List.mem_cons_self)
  have na : a ∉ ls := fun e => (List.nodup_cons.mp nd).1 (List.mem_cons_of_mem _ e)
  have nb : b ∉ ls := (List.nodup_cons.mp (List.nodup_cons.mp nd).2).1
  rcases List.mem_append.mp he with he | he
  · exact h.put hh e he
  · rw [List.mem_singleton.mp he]
    refine ⟨na, nb, ?_, ?_⟩
    · show ((ps.set a b).set b a)[a]? = some b
      rw [put_get hh.len la lb, if_neg nab, if_pos rfl]
    · show ((ps.set a b).set b a)[b]? = some a
      rw [put_get hh.len la lb, if_pos rfl]
def ends (es : List (Nat × Nat)) : List Nat := es.flatMap fun e => [e.1, e.2]
theorem ends_len : ∀ es : List (Nat × Nat), (ends es).length = 2 * es.length
  | [] => rfl
  | e :: r => by
    show (e.1 :: e.2 :: ends r).length = 2 * (r.length + 1)
    have := ends_len r
    simp only [List.length_cons]
    omega
theorem ends_drop {es : List (Nat × Nat)} {i : Nat} {e : Nat × Nat} (h : es[i]? = some e) : ends (es.drop i) = e.1 :: e.2 :: ends (es.drop (i + 1)) := by
  obtain ⟨h1, h2⟩ := List.getElem?_eq_some_iff.mp h
  rw [List.drop_eq_getElem_cons h1, h2]
  rfl
theorem take_get {α : Type} {u : List α} {i : Nat} {e : α} (h : u[i]? = some e) : u.take (i + 1) = u.take i ++ [e] := by
  obtain ⟨h1, h2⟩ := List.getElem?_eq_some_iff.mp h
  rw [take_next h1, h2]
theorem drop_get {α : Type} {u : List α} {i : Nat} {e : α} (h : u[i]? = some e) : u.drop i = e :: u.drop (i + 1) := by
  obtain ⟨h1, h2⟩ := List.getElem?_eq_some_iff.mp h
  rw [List.drop_eq_getElem_cons h1, h2]
section
variable {P : Program} {w : World} {K : PySem.W.Frag} {mg : Str → Option Value} {base : Heap}
/-- a list of links -/
def LinksAt (H : Hp) (l : Addr) (es : List (Nat × Nat)) : Prop := ∃ rs : List Addr, rs.length = es.length ∧ H l = some (.lst (rs.map V.ref)) ∧ ∀ (i : Nat) (e : Nat × Nat), es[i]? = some e → ∃ t, rs[i]? = some t ∧ H t = some (.tup [.int (e.1 : Int), .int (e.2 : Int)])
theorem LinksAt.same {H H' : Hp} {l : Addr} {es : List (Nat × Nat)} (h : LinksAt H l es) (s : Same H H') : LinksAt H' l es := by
  obtain ⟨rs, h1, h2, h3⟩ := h
  refine ⟨rs, h1, s _ _ h2, fun i e he => ?_⟩
  obtain ⟨t, h4, h5⟩ := h3 i e he
  exact ⟨t, h4, s _ _ h5⟩
def spHung (K : PySem.W.Frag) : Sp := fun vs H Q _ => ∃ (m lc lg l : Addr) (k many : Nat) (es : List (Nat × Nat)), vs = [.ref m, .int (many : Int), .ref l] ∧ many ≤ 30 ∧ MS H m lc lg k ∧ k < 700000 ∧ LinksAt H l es ∧ (ends es).Nodup ∧ (∀ x ∈ ends es, x < 4 * many) ∧
  ∀ (ps : List Nat) (p' : Addr) (H' : Hp), PairOk ps (4 * many) → (∀ x, x < 4 * many → ps[x]? ≠ some x) → Kept es [] ps → NetAt K H' p' (pairN ps) → MS H' m lc lg (k + 120) → Off m lg H H' → Q (.ref p') H'
end
end K7

namespace K7
open PySem PySem.Spec PyProof.Rows L2 Nr Nw
/-- the worth of a piece that is not "1" -/
def pv4 (p : List Nat) : Nat := if p = [48] then 1 else if p = [50] then 2 else 3
/-- where a walk over pieces is: flag, links, edges -/
structure Wk where
  h : Nat
  es : List (Nat × Nat)
  k : Nat
def wst (s : Wk) (p : List Nat) : Wk := if p = [49] then ⟨4 * (s.k + 1), s.es ++ [(s.h, 4 * (s.k + 1))], s.k + 1⟩ else ⟨s.h + pv4 p, s.es, s.k⟩
def wOf (ps : List (List Nat)) : Wk := ps.foldl wst ⟨0, [], 0⟩
theorem wOf_snoc (ps : List (List Nat)) (p : List Nat) : wOf (ps ++ [p]) = wst (wOf ps) p := by
  unfold wOf
  rw [List.foldl_append]
  rfl
theorem wst_one (s : Wk) : wst s [49] = ⟨4 * (s.k + 1), s.es ++ [(s.h, 4 * (s.k + 1))], s.k + 1⟩ := if_pos rfl
theorem wst_ne (s : Wk) {p : List Nat} (h : p ≠ [49]) : wst s p = ⟨s.h + pv4 p, s.es, s.k⟩ := if_neg h
theorem pv4_le (p : List Nat) : 1 ≤ pv4 p ∧ pv4 p ≤ 3 := by
  unfold pv4
  split
  · omega
  · split <;> omega
theorem ends_app (es : List (Nat × Nat)) (a b : Nat) : ends (es ++ [(a, b)]) = ends es ++ [a, b] := by
  unfold ends
  rw [List.flatMap_append]
  rfl
structure WInv (st : List (List Nat)) (s : Wk) : Prop where
  one : st.head? = some [49] → s.h = 4 * s.k ∧ 0 < s.k
  nil : st = [] → s.h = 0 ∧ s.k = 0 ∧ s.es = []
  oth : ∀ p, st.head? = some p → p ≠ [49] → s.h = 4 * s.k + pv4 p
  nd : (ends s.es).Nodup
  low : ∀ x ∈ ends s.es, x ≤ 4 * s.k
  len : s.es.length = s.k
  kl : s.k ≤ st.length
theorem w_inv : ∀ {st : List (List Nat)}, Pal st → WInv st (wOf st.reverse)
  | [], _ => by
    have e : wOf ([] : List (List Nat)).reverse = ⟨0, [], 0⟩ := rfl
    rw [e]
    exact ⟨(fun z => by cases z), (fun _ => ⟨rfl, rfl, rfl⟩), (fun p z => by cases z), List.nodup_nil, fun x hx => (by cases hx), rfl, Nat.le_refl _⟩
  | p :: r, hp => by
    have ih := w_inv hp.tail
    rw [List.reverse_cons, wOf_snoc]
    generalize wOf r.reverse = s at ih ⊢
    by_cases e : p = [49]
    · subst e
      rw [wst_one]
      have hh : s.h ∉ ends s.es ∧ s.h ≤ 4 * s.k + 3 := by
        cases r with
        | nil =>
          obtain ⟨h1, h2, h3⟩ := ih.nil rfl
          rw [h3, h1]
          exact ⟨List.not_mem_nil, by omega⟩
        | cons q r =>
          have nq : q ≠ [49] := by
            rcases hp.2.1 with z | z
            · exact z.2
            · exact absurd rfl z.1
          have := ih.oth q rfl nq
          have := pv4_le q
          exact ⟨fun z => by have := ih.low _ z; omega, by omega⟩
      refine ⟨fun _ => ⟨rfl, Nat.succ_pos _⟩, (fun z => by cases z), (fun p z hz => by cases z; exact absurd rfl hz), ?_, ?_, ?_, ?_⟩
      · show (ends (s.es ++ [(s.h, 4 * (s.k + 1))])).Nodup
        rw [ends_app, List.nodup_append]
        refine ⟨ih.nd, ?_, ?_⟩
        · refine List.nodup_cons.mpr ⟨fun z => ?_, List.nodup_cons.mpr ⟨List.not_mem_nil, List.nodup_nil⟩⟩
          have := List.mem_singleton.mp z
          omega
        · intro a ha b hb e
          subst e
          have l1 := ih.low a ha
          rcases List.mem_cons.mp hb with z | z
          · exact hh.1 (by rw [← z]; exact ha)
          · have := List.mem_singleton.mp z
            omega
      · intro x hx
        have hx' : x ∈ ends (s.es ++ [(s.h, 4 * (s.k + 1))]) := hx
        show x ≤ 4 * (s.k + 1)
        rw [ends_app] at hx'
        rcases List.mem_append.mp hx' with z | z
        · have := ih.low x z
          omega
        · rcases List.mem_cons.mp z with z | z
          · omega
          · have := List.mem_singleton.mp z
            omega
      · show (s.es ++ [(s.h, 4 * (s.k + 1))]).length = s.k + 1
        rw [List.length_append, ih.len]
        rfl
      · show s.k + 1 ≤ r.length + 1
        have := ih.kl
        omega
    · rw [wst_ne s e]
      have hh : s.h = 4 * s.k := by
        cases r with
        | nil =>
          obtain ⟨h1, h2, h3⟩ := ih.nil rfl
          omega
        | cons q r =>
          have nq : q = [49] := by
            rcases hp.2.1 with z | z
            · exact absurd z.1 e
            · exact z.2
          exact (ih.one (by rw [nq]; rfl)).1
      refine ⟨fun z => absurd (Option.some.inj z) e, (fun z => by cases z), (fun p z hz => by cases z; show s.h + pv4 _ = 4 * s.k + pv4 _; omega), ih.nd, ih.low, ih.len, ?_⟩
      show s.k ≤ r.length + 1
      have := ih.kl
      omega
theorem w_pos {st : List (List Nat)} {s : Wk} (h : WInv st s) (hne : st ≠ []) : s.h ≠ 0 := by
  cases st with
  | nil => exact absurd rfl hne
  | cons p r =>
    by_cases e : p = [49]
    · have := h.one (by rw [e]; rfl)
      omega
    · have := h.oth p rfl e
      have := pv4_le p
      omega
theorem w_h {st : List (List Nat)} {s : Wk} (h : WInv st s) : s.h < 4 * (s.k + 1) := by
  cases st with
  | nil =>
    have := h.nil rfl
    omega
  | cons p r =>
    by_cases e : p = [49]
    · have := h.one (by rw [e]; rfl)
      omega
    · have := h.oth p rfl e
      have := pv4_le p
      omega
/-- the told net leads as the walk goes -/
theorem w_lead {ps : List Nat} {n : Nat} (hok : PairOk ps n) : ∀ {st : List (List Nat)}, Pal st → (∀ e ∈ (wOf st.reverse).es, ps[e.1]? = some e.2) → 4 * ((wOf st.reverse).k + 1) ≤ n → (pairN ps).lead 0 st.reverse.flatten = (wOf st.reverse).h
  | [], _, _, _ => rfl
  | p :: r, hp, hk, hn => by
    have inv := w_inv hp.tail
    rw [List.reverse_cons, wOf_snoc] at hk hn ⊢
    have kk : (wOf r.reverse).k ≤ (wst (wOf r.reverse) p).k ∧ ∀ e ∈ (wOf r.reverse).es, e ∈ (wst (wOf r.reverse) p).es := by
      unfold wst
      split
      · exact ⟨Nat.le_succ _, fun e he => List.mem_append_left _ he⟩
      · exact ⟨Nat.le_refl _, fun e he => he⟩
    have ih := w_lead hok hp.tail (fun e he => hk e (kk.2 e he)) (by have := kk.1; omega)
    have el : (pairN ps).lead 0 (r.reverse ++ [p]).flatten = p.foldl (pairN ps).stp ((pairN ps).lead 0 r.reverse.flatten) := by
      unfold Net.lead
      rw [List.flatten_append, List.foldl_append]
      have : ([p] : List (List Nat)).flatten = p := List.append_nil p
      rw [this]
    rw [el, ih]
    generalize hs : wOf r.reverse = s at inv hk hn kk ⊢
    have hlt := w_h inv
    have k1 := kk.1
    have hx : s.h < n := by omega
    by_cases e : p = [49]
    · subst e
      rw [wst_one] at hk ⊢
      show (pairN ps).stp s.h 49 = 4 * (s.k + 1)
      rw [(pair_stp hok hx).2.2, hk (s.h, 4 * (s.k + 1)) (List.mem_append_right _ List.mem_cons_self)]
      rfl
    · rw [wst_ne s e] at hn ⊢
      show p.foldl (pairN ps).stp s.h = s.h + pv4 p
      have hn' : 4 * (s.k + 1) ≤ n := hn
      have h4 : s.h % 4 = 0 := by
        cases r with
        | nil =>
          have := inv.nil rfl
          omega
        | cons q r =>
          have nq : q = [49] := by
            rcases hp.2.1 with z | z
            · exact absurd z.1 e
            · exact z.2
          have := (inv.one (by rw [nq]; rfl)).1
          omega
      have s0 : (pairN ps).stp s.h 48 = s.h + 1 := by
        rw [(pair_stp hok hx).1]
        unfold endF
        rw [if_pos (by omega)]
      have s2 : (pairN ps).stp s.h 50 = s.h + 2 := by
        rw [(pair_stp hok hx).2.1]
        unfold sideF
        rw [if_pos (by omega)]
      have s3 : (pairN ps).stp (s.h + 1) 50 = s.h + 3 := by
        rw [(pair_stp hok (show s.h + 1 < n by omega)).2.1]
        unfold sideF
        rw [if_pos (by omega)]
      rcases hp.head with z | z | z | z
      · subst z; exact s0
      · subst z; exact s2
      · subst z
        show (pairN ps).stp ((pairN ps).stp s.h 48) 50 = _
        rw [s0, s3]
        rfl
      · exact absurd z e
theorem worth {p : List Nat} (h : P4 p) (hn : p ≠ [49]) : valV (mergeK [] ([(Sum.inr "0", V.int 1), (Sum.inr "2", V.int 2), (Sum.inr "02", V.int 3)] : List (Key × V))) (.inr (S p)) = some (.int (pv4 p : Int)) := by
  unfold mergeK
  rw [List.foldl_cons, List.foldl_cons, List.foldl_cons, List.foldl_nil, valV_put, valV_put, valV_put]
  rcases h with e | e | e | e
  · subst e
    rw [if_neg (inr_ne (by decide +kernel)), if_neg (inr_ne (by decide +kernel)), if_pos (by rfl)]
    rfl
  · subst e
    rw [if_neg (inr_ne (by decide +kernel)), if_pos (by rfl)]
    rfl
  · subst e
    rw [if_pos (by rfl)]
    rfl
  · exact absurd e hn
theorem vs_mem {ws : List (List Nat)} {i : Nat} (h : i < ws.length) : ∃ u, ws[i]? = some u ∧ u ∈ ws ∧ (Vs ws)[i]? = some (.str (S u)) := ⟨ws[i], List.getElem?_eq_getElem h, List.getElem_mem h, vs_get (List.getElem?_eq_getElem h)⟩
section
variable {P : Program} {w : World} {K : PySem.W.Frag} {mg : Str → Option Value} {base : Heap}
def spSplit (K : PySem.W.Frag) : Sp := fun vs H Q _ => ∃ (m lc lg : Addr) (k : Nat) (u : List Nat), vs = [.ref m, .str (S u)] ∧ Fw u ∧ u ≠ [] ∧ u.length ≤ 25 ∧ MS H m lc lg k ∧ k < 700000 ∧
  ∀ (N : Net) (n : Nat) (p' : Addr) (H' : Hp), N.Of n → 0 < n → n ≤ 1000 → Nw.Acts N.stp (· < n) → N.lead 0 u ≠ 0 → NetAt K H' p' N → MS H' m lc lg (k + 120) → Off m lg H H' → Q (.ref p') H'
end
end K7

namespace K7
open PySem PySem.Spec PyProof.Rows L2 Nr Nw
theorem call_reprS {X : Cx} : CallR X (.builtin "repr") (fun xs H Q => ∃ z, xs = [.str z] ∧ (reprText z).length ≤ sizeLine ∧ Q (.str (reprText z)) H) := by
  intro pins s σ H xs us Q I r h
  obtain ⟨z, rfl, hz, q⟩ := h
  obtain ⟨u, rfl, t, rfl⟩ := vals1 r
  exact P.repr_of_str ⟨.str (reprText z), H, I.tok _, ⟨_, rfl⟩, q⟩ hz
theorem repr_short {u : List Nat} (h : Wd u) (hl : u.length ≤ 100) : (reprText (S u)).length ≤ 1002 := by
  have := StrLaws.reprText_len (S u) (fun c hc => by
    have hc' : c ∈ u := hc
    rcases h c hc' with e | e | e <;> subst e <;> decide)
  have e : (S u).length = u.length := rfl
  omega
def Leaf (d : PyData) : Prop := (∃ u, d = .str (S u) ∧ Wd u ∧ u.length ≤ 100) ∨ ∃ b, d = .bool b
theorem Leaf.shown {d : PyData} (h : Leaf d) : d.showable = true ∧ d.hasDict = false ∧ d.depth = 0 ∧ d.shown.length ≤ 1002 := by
  rcases h with ⟨u, rfl, hu, hl⟩ | ⟨b, rfl⟩
  · exact ⟨by unfold PyData.showable; rfl, by unfold PyData.hasDict; rfl, by unfold PyData.depth; rfl, by unfold PyData.shown; exact repr_short hu hl⟩
  · exact ⟨by unfold PyData.showable; rfl, by unfold PyData.hasDict; rfl, by unfold PyData.depth; rfl, by unfold PyData.shown; cases b <;> decide +kernel⟩
theorem leaf_all : ∀ {ds : List PyData}, (∀ d ∈ ds, Leaf d) → PyData.showableAll ds = true ∧ PyData.hasDictAll ds = false ∧ PyData.depthAll ds = 0 ∧ (PyData.shownAll ds).length = ds.length ∧ ∀ t ∈ PyData.shownAll ds, t.length ≤ 1002
  | [], _ => ⟨by unfold PyData.showableAll; rfl, by unfold PyData.hasDictAll; rfl, by unfold PyData.depthAll; rfl, by unfold PyData.shownAll; rfl, fun t ht => by unfold PyData.shownAll at ht; cases ht⟩
  | d :: r, h => by
    obtain ⟨h1, h2, h3, h4⟩ := (h d List.mem_cons_self).shown
    obtain ⟨i1, i2, i3, i4, i5⟩ := leaf_all fun x hx => h x (List.mem_cons_of_mem _ hx)
    refine ⟨?_, ?_, ?_, ?_, fun t ht => ?_⟩
    · unfold PyData.showableAll
      rw [h1, i1]
      rfl
    · unfold PyData.hasDictAll
      rw [h2, i2]
      rfl
    · unfold PyData.depthAll
      rw [h3, i3]
      rfl
    · unfold PyData.shownAll
      simp only [List.length_cons, i4]
    · unfold PyData.shownAll at ht
      rcases List.mem_cons.mp ht with e | e
      · rw [e]; exact h4
      · exact i5 t e
theorem textFrom_le : ∀ (ts : List Str) (k : Nat) (acc : Str), (∀ t ∈ ts, t.length ≤ 1002) → (textFrom k acc ts).length ≤ acc.length + 1004 * ts.length
  | [], k, acc, _ => Nat.le_refl _
  | t :: r, k, acc, h => by
    have ih := textFrom_le r (k + 1) (acc ++ (if k > 0 then ", " else "" : String) ++ t) fun x hx => h x (List.mem_cons_of_mem _ hx)
    have ht := h t List.mem_cons_self
    have e : textFrom k acc (t :: r) = textFrom (k + 1) (acc ++ (if k > 0 then ", " else "" : String) ++ t) r := rfl
    rw [e]
    have l : (acc ++ ((if k > 0 then ", " else "" : String) : Str) ++ t).length ≤ acc.length + 2 + t.length := by
      rw [strLen_append, strLen_append]
      split
      · exact Nat.le_refl _
      · show acc.length + 0 + t.length ≤ _
        omega
    simp only [List.length_cons]
    omega
theorem shows_list {ds : List PyData} (h : ∀ d ∈ ds, Leaf d) (hl : ds.length ≤ 10) : Shows (.list ds) := by
  obtain ⟨h1, h2, h3, h4, h5⟩ := leaf_all h
  refine ⟨?_, ?_, ?_, ?_⟩
  · unfold PyData.showable; exact h1
  · unfold PyData.hasDict; exact h2
  · unfold PyData.depth
    rw [h3]
    decide
  · unfold PyData.shown
    have := textFrom_le (PyData.shownAll ds) 0 "[" h5
    unfold listText
    rw [strLen_append]
    rw [h4] at this
    have e1 : ("[" : Str).length = 1 := rfl
    have e2 : ("]" : Str).length = 1 := rfl
    rw [e1] at this
    show _ + ("]" : Str).length ≤ _
    rw [e2]
    exact Nat.le_trans (show _ ≤ 20000 by omega) (by decide)
section
variable {P : Program} {w : World} {K : PySem.W.Frag} {mg : Str → Option Value} {base : Heap}
def spLk (K : PySem.W.Frag) : Sp := fun vs H Q _ => (∃ (a b : Addr) (d : PyData), vs = [.ref a, .ref b] ∧ Dp K H (.ref a) d ∧ Dp K H (.ref b) d ∧ Shows d ∧ Q (.bl true) H) ∨ ∃ u : List Nat, vs = [.str (S u), .str (S u)] ∧ Wd u ∧ u.length ≤ 100 ∧ Q (.bl true) H
theorem ok_lk (T : Txt w K mg) : OkG P w K mg base 1 "_law_like" ["got", "due"] (spLk K) := by
  obtain ⟨f, fd, h1, F, h3⟩ := T.fLawLike
  refine ⟨f, fd, h1, F.kp, h3, ?_⟩
  refine Nr.Fun.okG F scLawLike (fun vs H Q E h => ?_) (fun cdv A outer s H vs Q E hg hr h => ?_)
  · rcases h with ⟨a, b, d, rfl, _⟩ | ⟨u, rfl, _⟩ <;> rfl
  · refine ⟨_, pss_one (ps_ret (pe_cmpR op_eq (pe_callB ((call_reprD hg hr.units).or call_reprS) (by rfl) T.nrepr (by decide +kernel) (pa_cons (pv 0) pa_nil)) (pe_callB ((call_reprD hg hr.units).or call_reprS) (by rfl) T.nrepr (by decide +kernel) (pa_cons (pv 1) pa_nil)) (nomark _))), ?_⟩
    rcases h with ⟨a, b, d, rfl, da, db, sh, q⟩ | ⟨u, rfl, hu, hl, q⟩
    · refine ⟨.ref a, rfl, .inl ⟨a, d, rfl, da, sh, .ref b, rfl, .inl ⟨b, d, rfl, db, sh, rfl, ?_⟩⟩⟩
      rw [decide_eq_true rfl]
      exact q
    · have lz : (reprText (S u)).length ≤ sizeLine := Nat.le_trans (repr_short hu hl) (by decide)
      refine ⟨.str (S u), rfl, .inr ⟨S u, rfl, lz, .str (S u), rfl, .inr ⟨S u, rfl, lz, rfl, ?_⟩⟩⟩
      rw [decide_eq_true rfl]
      exact q
end
end K7

namespace K7
open PySem PySem.Spec PyProof.Rows L2 Nr Nw
/-! ### codes: a row of them, both ways; mirrors -/
abbrev Ty (a : Nat) : Bool := decide (a = 4)
theorem ty_ne {a b : Nat} : Ty a ≠ Ty b ↔ (a = 4 ∧ b ≠ 4) ∨ (a ≠ 4 ∧ b = 4) := by
  unfold Ty
  by_cases h1 : a = 4 <;> by_cases h2 : b = 4 <;> simp [h1, h2]
theorem alt_cons {a : Nat} {r : List Nat} : Alt (a :: r) ↔ Cd a ∧ Alt r ∧ ∀ b, r.head? = some b → Ty a ≠ Ty b := by
  cases r with
  | nil => exact ⟨fun h => ⟨h, trivial, (fun b hb => by cases hb)⟩, fun h => h.1⟩
  | cons b q =>
    constructor
    · intro h
      exact ⟨h.1, h.2.2, fun c hc => by cases hc; exact ty_ne.mpr h.2.1⟩
    · intro h
      exact ⟨h.1, ty_ne.mp (h.2.2 b rfl), h.2.1⟩
theorem alt_app : ∀ {A B : List Nat}, Alt (A ++ B) ↔ Alt A ∧ Alt B ∧ ∀ a b, A.getLast? = some a → B.head? = some b → Ty a ≠ Ty b
  | [], B => ⟨fun h => ⟨trivial, h, (fun a b ha => by cases ha)⟩, fun h => h.2.1⟩
  | [x], B => by
    show Alt (x :: B) ↔ _
    rw [alt_cons]
    constructor
    · rintro ⟨h1, h2, h3⟩
      exact ⟨h1, h2, fun a b ha hb => by cases ha; exact h3 b hb⟩
    · rintro ⟨h1, h2, h3⟩
      exact ⟨h1, h2, fun b hb => h3 x b rfl hb⟩
  | x :: y :: r, B => by
    show Alt (x :: ((y :: r) ++ B)) ↔ _
    rw [alt_cons, alt_app, alt_cons (r := y :: r)]
    have e : (x :: y :: r).getLast? = (y :: r).getLast? := List.getLast?_cons_cons
    rw [e]
    constructor
    · rintro ⟨h1, ⟨h2, h3, h4⟩, h5⟩
      exact ⟨⟨h1, h2, fun b hb => h5 b hb⟩, h3, h4⟩
    · rintro ⟨⟨h1, h2, h5⟩, h3, h4⟩
      exact ⟨h1, ⟨h2, h3, h4⟩, fun b hb => h5 b hb⟩
theorem alt_rev : ∀ {A : List Nat}, Alt A → Alt A.reverse
  | [], _ => trivial
  | a :: r, h => by
    obtain ⟨h1, h2, h3⟩ := alt_cons.mp h
    rw [List.reverse_cons, alt_app]
    refine ⟨alt_rev h2, h1, fun x y hx hy => ?_⟩
    cases hy
    rw [List.getLast?_reverse] at hx
    exact (h3 x hx).symm
/-- led on by the codes of a word's signs -/
def Fo (s u : List Nat) : List Nat := u.foldl (fun s c => put s (cd c)) s
theorem fo_app (s u v : List Nat) : Fo s (u ++ v) = Fo (Fo s u) v := List.foldl_append ..
theorem put_ty {s : List Nat} {c : Nat} (h : ∀ b, s.head? = some b → Ty b ≠ Ty c) : put s c = c :: s := by
  cases s with
  | nil => rfl
  | cons a r =>
    rw [put_cons]
    exact if_pos (h a rfl)
theorem fo_sg {s : List Nat} {a : Nat} (ha : Cd a) (h : ∀ b, s.head? = some b → Ty b ≠ Ty a) : Fo s (sg a) = a :: s ∧ Fo s (sg a).reverse = a :: s := by
  rcases ha with e | e | e | e <;> subst e
  · exact ⟨put_ty h, put_ty h⟩
  · exact ⟨put_ty h, put_ty h⟩
  · have h1 : put s 1 = 1 :: s := put_ty h
    have h2 : put s 2 = 2 :: s := put_ty h
    constructor
    · show put (put s 2) 1 = _
      rw [h2]
      rfl
    · show put (put s 1) 2 = _
      rw [h1]
      rfl
  · exact ⟨put_ty h, put_ty h⟩
theorem fo_spell : ∀ {st s0 : List Nat}, Alt st → (∀ a b, s0.head? = some a → st.head? = some b → Ty a ≠ Ty b) → Fo s0 (spell st) = st.reverse ++ s0
  | [], s0, _, _ => rfl
  | a :: r, s0, h, hd => by
    obtain ⟨h1, h2, h3⟩ := alt_cons.mp h
    rw [spell_cons, fo_app, (fo_sg h1 fun b hb => hd b a hb rfl).1, fo_spell h2 (fun x y hx hy => by cases hx; exact h3 y hy), List.reverse_cons, List.append_assoc]
    rfl
theorem codes_back {st : List Nat} (h : Alt st) : codesOf (spell st) = st.reverse := by
  have := fo_spell (s0 := []) h (fun a b ha => by cases ha)
  rw [List.append_nil] at this
  exact this
theorem codes_word : ∀ {st : List Nat}, Alt st → codesOf (spell st).reverse = st
  | [], _ => rfl
  | a :: r, h => by
    obtain ⟨h1, h2, h3⟩ := alt_cons.mp h
    rw [spell_cons, List.reverse_append]
    show Fo [] ((spell r).reverse ++ (sg a).reverse) = _
    rw [fo_app]
    have ih : Fo [] (spell r).reverse = r := codes_word h2
    rw [ih, (fo_sg h1 fun b hb => (h3 b hb).symm).2]
theorem spell_inj {s t : List Nat} (hs : Alt s) (ht : Alt t) (h : spell s = spell t) : s = t := by
  rw [← codes_word hs, ← codes_word ht, h]
theorem spell_codes {u : List Nat} (h : Wd u) : spell (codesOf u) = go [] u := (codes_go (s := []) trivial h).2
theorem cut_codes {u : List Nat} (h : Wd u) : cut u = (spell (codesOf u)).reverse := by rw [spell_codes h]; rfl
theorem codes_same {u v : List Nat} (hu : Wd u) (hv : Wd v) : codesOf u = codesOf v ↔ cut u = cut v := by
  constructor
  · intro h
    rw [cut_codes hu, cut_codes hv, h]
  · intro h
    refine spell_inj (codes_alt hu) (codes_alt hv) ?_
    have := congrArg List.reverse h
    rw [cut_codes hu, cut_codes hv, List.reverse_reverse, List.reverse_reverse] at this
    exact this
theorem sg_wd (c : Nat) : Wd (sg c) := by
  unfold sg
  intro x hx
  split at hx
  · rw [List.mem_singleton.mp hx]; exact .inl rfl
  · split at hx
    · rw [List.mem_singleton.mp hx]; exact .inr (.inr rfl)
    · split at hx
      · rcases List.mem_cons.mp hx with e | e
        · rw [e]; exact .inr (.inr rfl)
        · rw [List.mem_singleton.mp e]; exact .inl rfl
      · rw [List.mem_singleton.mp hx]; exact .inr (.inl rfl)
theorem spell_wd (s : List Nat) : Wd (spell s) := fun x hx => by
  obtain ⟨c, _, h⟩ := List.mem_flatMap.mp hx
  exact sg_wd c x h
theorem codes_rev {u : List Nat} (h : Wd u) : codesOf u.reverse = (codesOf u).reverse := by
  rw [← codes_back (codes_alt h), codes_same (wd_rev.mpr h) (spell_wd _)]
  have := cut_rev h
  rw [cut_codes h, List.reverse_reverse] at this
  exact this.symm
/-- words that lead alike -/
def E2 (u v : List Nat) : Prop := ∀ s, Rd s → go s u = go s v
theorem e2_of {u v : List Nat} (hu : Wd u) (hv : Wd v) (h : cut u = cut v) : E2 u v := fun s hs => by
  rw [← go_cut hs hu, ← go_cut hs hv, h]
theorem cut_of {u v : List Nat} (h : E2 u v) : cut u = cut v := by
  unfold cut
  rw [h [] rd_nil]
theorem E2.app {u v x y : List Nat} (hu : Wd u) (h : E2 u v) (k : E2 x y) : E2 (u ++ x) (v ++ y) := fun s hs => by
  rw [go_append, go_append, ← h s hs, k _ (go_rd hs hu)]
theorem E2.sym {u v : List Nat} (h : E2 u v) : E2 v u := fun s hs => (h s hs).symm
theorem E2.trans {u v x : List Nat} (h : E2 u v) (k : E2 v x) : E2 u x := fun s hs => (h s hs).trans (k s hs)
theorem E2.id (u : List Nat) : E2 u u := fun _ _ => rfl
theorem E2.home {u : List Nat} (h : Wd u) : E2 (u ++ u.reverse) [] := fun s hs => by
  rw [go_append, go_home hs h]
  rfl
theorem E2.home' {u : List Nat} (h : Wd u) : E2 (u.reverse ++ u) [] := by
  have := E2.home (wd_rev.mpr h)
  rw [List.reverse_reverse] at this
  exact this
/-- a word done twice vanishes if the word is its own back -/
theorem twice_iff {u : List Nat} (h : Wd u) : cut (u ++ u) = [] ↔ codesOf u = (codesOf u).reverse := by
  rw [← codes_rev h, codes_same h (wd_rev.mpr h)]
  constructor
  · intro e
    have := cut_eq_of (u := u.reverse) (wd_rev.mpr h) h (by rw [List.reverse_reverse]; exact e)
    exact this.symm
  · intro e
    have := E2.app h (E2.id u) (e2_of h (wd_rev.mpr h) e)
    rw [cut_of (this.trans (E2.home h))]
    rfl
/-- rows of codes of even length have unlike ends -/
theorem alt_ends : ∀ (n : Nat) {s : List Nat}, s.length = n → Alt s → ∀ a b, s.head? = some a → s.getLast? = some b → (Ty a = Ty b ↔ n % 2 = 1)
  | 0, s, hn, _, a, b, ha, _ => by
    rw [List.length_eq_zero_iff.mp hn] at ha
    cases ha
  | 1, s, hn, _, a, b, ha, hb => by
    match s, hn with
    | [x], _ =>
      cases ha
      cases hb
      exact ⟨fun _ => rfl, fun _ => rfl⟩
  | n + 2, s, hn, h, a, b, ha, hb => by
    match s, hn with
    | x :: y :: r, hn =>
      cases ha
      obtain ⟨_, h2, h3⟩ := alt_cons.mp h
      have ih := alt_ends (n + 1) (s := y :: r) (by simpa using hn) h2 y b rfl (by rw [← hb]; exact (List.getLast?_cons_cons).symm)
      have hxy := h3 y rfl
      have key : ∀ p q r : Bool, p ≠ q → ((p = r) ↔ ¬ (q = r)) := by decide
      rw [key _ _ _ hxy, ih]
      omega
/-- one's own back: exactly odd rows -/
theorem pal_odd {s : List Nat} (h : Alt s) (hp : s = s.reverse) : s ≠ [] ↔ s.length % 2 = 1 := by
  constructor
  · intro hne
    cases s with
    | nil => exact absurd rfl hne
    | cons a r =>
      have hl : (a :: r).getLast? = some a := by
        rw [hp, List.getLast?_reverse]
        rfl
      exact (alt_ends _ rfl h a a rfl hl).mp rfl
  · intro ho hn
    rw [hn] at ho
    cases ho
def isMir (u : List Nat) : Bool := decide ((codesOf u).length % 2 = 1) && decide (codesOf u = (codesOf u).reverse)
theorem cut_nil {u : List Nat} (h : Wd u) : cut u = [] ↔ codesOf u = [] := by
  have := codes_same h (v := []) (fun c hc => by cases hc)
  exact this.symm
theorem isMir_iff {u : List Nat} (h : Wd u) : isMir u = true ↔ cut u ≠ [] ∧ cut (u ++ u) = [] := by
  unfold isMir
  rw [Bool.and_eq_true, decide_eq_true_iff, decide_eq_true_iff, twice_iff h]
  constructor
  · rintro ⟨h1, h2⟩
    exact ⟨fun z => (pal_odd (codes_alt h) h2).mpr h1 ((cut_nil h).mp z), h2⟩
  · rintro ⟨h1, h2⟩
    exact ⟨(pal_odd (codes_alt h) h2).mp fun z => h1 ((cut_nil h).mpr z), h2⟩
theorem spell_len : ∀ s : List Nat, (spell s).length ≤ 2 * s.length
  | [] => Nat.le_refl _
  | c :: r => by
    have ih := spell_len r
    rw [spell_cons, List.length_append, List.length_cons]
    have h : (sg c).length ≤ 2 := by
      unfold sg
      split
      · decide
      · split
        · decide
        · split <;> decide
    omega
end K7

namespace K7
open PySem PySem.Spec PyProof.Rows L2 Nr Nw
/-! ### rows of codes as words, and rings -/
def pw (c : Nat) : List Nat := (sg c).reverse
def flat (L : List Nat) : List Nat := L.flatMap pw
theorem flat_app (L M : List Nat) : flat (L ++ M) = flat L ++ flat M := List.flatMap_append ..
theorem flat_cons (a : Nat) (L : List Nat) : flat (a :: L) = pw a ++ flat L := rfl
theorem flat_eq : ∀ L : List Nat, flat L = (spell L.reverse).reverse
  | [] => rfl
  | a :: r => by
    have h : spell (r.reverse ++ [a]) = spell r.reverse ++ sg a := by
      unfold spell
      rw [List.flatMap_append]
      exact congrArg (_ ++ ·) (List.append_nil _)
    rw [flat_cons, flat_eq r, List.reverse_cons, h, List.reverse_append]
    rfl
theorem pw_wd (c : Nat) : Wd (pw c) := wd_rev.mpr (sg_wd c)
theorem flat_wd (L : List Nat) : Wd (flat L) := by
  rw [flat_eq]
  exact wd_rev.mpr (spell_wd _)
theorem codes_flat {L : List Nat} (h : Alt L) : codesOf (flat L) = L.reverse := by
  rw [flat_eq]
  exact codes_word (alt_rev h)
theorem cut_flat {L : List Nat} (h : Alt L) : cut (flat L) = flat L := by
  rw [cut_codes (flat_wd L), codes_flat h, ← flat_eq]
theorem cut_flat_rev {L : List Nat} (h : Alt L) : cut (flat L).reverse = flat L.reverse := by
  rw [cut_codes (wd_rev.mpr (flat_wd L)), codes_rev (flat_wd L), codes_flat h, List.reverse_reverse, flat_eq, List.reverse_reverse]
theorem flat_len : ∀ L : List Nat, (flat L).length ≤ 2 * L.length := fun L => by
  rw [flat_eq, List.length_reverse]
  have := spell_len L.reverse
  rw [List.length_reverse] at this
  exact this
theorem flat_ne {L : List Nat} (h : Alt L) (hn : L ≠ []) : flat L ≠ [] := fun z => by
  have := codes_flat h
  rw [z] at this
  exact hn (by rw [← List.reverse_reverse L, ← this]; rfl)
/-- a piece done twice leads home -/
theorem pw_twice {c : Nat} (h : Cd c) : E2 (pw c ++ pw c) [] := by
  rcases h with e | e | e | e <;> subst e
  · exact E2.home (u := [48]) (pw_wd 1)
  · exact E2.home (u := [50]) (pw_wd 2)
  · intro s hs
    show go s [48, 50, 48, 50] = s
    have h1 : go s [48, 50] = go s [50, 48] := step_comm hs
    have h2 : go s ([48, 50] ++ [48, 50]) = go (go s [50, 48]) [48, 50] := by rw [go_append, h1]
    have h3 := go_home (s := s) (w := [50, 48]) hs (fun c hc => by
      rcases List.mem_cons.mp hc with e | e
      · exact .inr (.inr e)
      · exact .inl (List.mem_singleton.mp e))
    exact h2.trans h3
  · exact E2.home (u := [49]) (pw_wd 4)
theorem pw_rev {c : Nat} (h : Cd c) : E2 (pw c).reverse (pw c) := by
  have h1 : E2 ((pw c).reverse ++ (pw c ++ pw c)) ((pw c).reverse ++ []) := E2.app (wd_rev.mpr (pw_wd c)) (E2.id _) (pw_twice h)
  have h2 : E2 ((pw c).reverse ++ pw c ++ pw c) ([] ++ pw c) := E2.app (wd_append.mpr ⟨wd_rev.mpr (pw_wd c), pw_wd c⟩) (E2.home' (pw_wd c)) (E2.id _)
  rw [List.append_assoc] at h2
  rw [List.append_nil] at h1
  exact h1.sym.trans h2
/-- two pieces that aren't 1 -/
theorem pw_two {a b : Nat} (ha : Cd a) (hb : Cd b) (a4 : a ≠ 4) (b4 : b ≠ 4) (hab : a ≠ b) : cut (pw b ++ pw a) = pw (b ^^^ a) ∧ Cd (b ^^^ a) ∧ b ^^^ a ≠ 4 := by
  rcases ha with e | e | e | e <;> rcases hb with f | f | f | f <;> subst e <;> subst f <;> first | exact absurd rfl hab | exact absurd rfl a4 | exact absurd rfl b4 | decide
theorem pcs_codes : ∀ (n : Nat) (u : List Nat), u.length = n → Fw u → pcs u = (codesOf u).map pw
  | 0, u, hn, _ => by
    rw [List.length_eq_zero_iff.mp hn]
    rfl
  | n + 1, u, hn, hf => by
    have hne : u ≠ [] := fun z => by rw [z] at hn; cases hn
    have eu := (List.dropLast_concat_getLast hne).symm
    have hl : u.dropLast.length = n := by rw [List.length_dropLast]; omega
    rw [eu] at hf ⊢
    generalize u.dropLast = v at hf hl ⊢
    generalize u.getLast hne = c at hf ⊢
    obtain ⟨hv, hc, hnb⟩ := fw_snoc hf
    have ih := pcs_codes n v hl hv
    obtain ⟨_, _, h3⟩ := pcs_pal n v hl hv
    rw [pcs_snoc, codes_snoc, ih]
    rw [ih] at h3
    have alt := codes_alt hv.wd
    generalize codesOf v = st at h3 alt
    cases st with
    | nil =>
      rcases hc with e | e | e <;> subst e <;> rfl
    | cons a r =>
      have hh := h3 (pw a) rfl
      have nb := fun x (hx : (pw a).getLast? = some x) => hnb x (by rw [← hh]; exact hx)
      rcases alt.head with e | e | e | e <;> subst e
      · have n1 := nb 48 rfl
        rcases hc with y | y | y <;> subst y
        · exact absurd rfl n1.1
        · rfl
        · rfl
      · have n1 := nb 50 rfl
        rcases hc with y | y | y <;> subst y
        · exact absurd ⟨rfl, rfl⟩ n1.2
        · rfl
        · exact absurd rfl n1.1
      · have n1 := nb 50 rfl
        rcases hc with y | y | y <;> subst y
        · exact absurd ⟨rfl, rfl⟩ n1.2
        · rfl
        · exact absurd rfl n1.1
      · have n1 := nb 49 rfl
        rcases hc with y | y | y <;> subst y
        · rfl
        · exact absurd rfl n1.1
        · rfl
/-! ### one turn of a ring -/
/-- the ring's state: L the codes, y the way, u the word -/
structure RInv (u L y : List Nat) : Prop where
  alt : Alt L
  ne : L ≠ []
  wd : Wd y
  eq : E2 (y.reverse ++ flat L ++ y) u
/-- both ends of one kind -/
theorem ends_split {L : List Nat} {a b : Nat} (ha : L.head? = some a) (hb : L.getLast? = some b) (hl : 1 < L.length) : ∃ M, L = a :: (M ++ [b]) := by
  cases L with
  | nil => cases ha
  | cons x r =>
    cases ha
    cases r with
    | nil => exact absurd hl (Nat.lt_irrefl 1)
    | cons y q =>
      have hne : (y :: q) ≠ [] := by intro z; cases z
      refine ⟨(y :: q).dropLast, ?_⟩
      have e : (y :: q).getLast hne = b := by
        rw [List.getLast?_cons_cons, List.getLast?_eq_getLast hne] at hb
        exact Option.some.inj hb
      rw [← e, List.dropLast_concat_getLast hne]
theorem rinv_step {u M y : List Nat} {a b : Nat} (h : RInv u (a :: (M ++ [b])) y) (ht : Ty a = Ty b) : M ≠ [] ∧ Cd a ∧ Cd b ∧
    (a = b → RInv u M (cut (pw b ++ y))) ∧ (a ≠ b → cut (pw b ++ pw a) = pw (b ^^^ a) ∧ RInv u ((b ^^^ a) :: M) (cut (pw b ++ y))) := by
  obtain ⟨h1, h2, h3⟩ := alt_cons.mp h.alt
  obtain ⟨m1, m2, m3⟩ := alt_app.mp h2
  have hb : Cd b := m2
  have hM : M ≠ [] := fun z => by
    subst z
    exact h3 b rfl ht
  have wy : Wd (pw b ++ y) := wd_append.mpr ⟨pw_wd b, h.wd⟩
  have wc := cut_wd wy
  -- the way's back, then the way
  have ey : E2 (cut (pw b ++ y)) (pw b ++ y) := e2_of wc wy (cut_cut wy)
  have eyr : E2 (cut (pw b ++ y)).reverse (y.reverse ++ pw b) := by
    have h1 : E2 (cut (pw b ++ y)).reverse (pw b ++ y).reverse := e2_of (wd_rev.mpr wc) (wd_rev.mpr wy) (cut_rev wy)
    rw [List.reverse_append] at h1
    exact h1.trans (E2.app (wd_rev.mpr h.wd) (E2.id _) (pw_rev hb))
  have old := h.eq
  rw [flat_cons, flat_app] at old
  have one : flat [b] = pw b := List.append_nil _
  rw [one] at old
  have mk : ∀ X : List Nat, Wd X → E2 (pw b ++ X ++ pw b) (pw a ++ (flat M ++ pw b)) → E2 ((cut (pw b ++ y)).reverse ++ X ++ cut (pw b ++ y)) u := by
    intro X hX hE
    have g1 : E2 ((cut (pw b ++ y)).reverse ++ X ++ cut (pw b ++ y)) ((y.reverse ++ pw b) ++ X ++ (pw b ++ y)) := E2.app (wd_append.mpr ⟨wd_rev.mpr wc, hX⟩) (E2.app (wd_rev.mpr wc) eyr (E2.id X)) ey
    have g2 : (y.reverse ++ pw b) ++ X ++ (pw b ++ y) = y.reverse ++ (pw b ++ X ++ pw b) ++ y := by simp only [List.append_assoc]
    rw [g2] at g1
    refine g1.trans (E2.trans ?_ old)
    exact E2.app (wd_append.mpr ⟨wd_rev.mpr h.wd, wd_append.mpr ⟨wd_append.mpr ⟨pw_wd b, hX⟩, pw_wd b⟩⟩) (E2.app (wd_rev.mpr h.wd) (E2.id _) hE) (E2.id y)
  refine ⟨hM, h1, hb, fun e => ?_, fun e => ?_⟩
  · subst e
    refine ⟨m1, hM, wc, mk (flat M) (flat_wd M) ?_⟩
    rw [List.append_assoc]
    exact E2.id _
  · have a4 : a ≠ 4 := fun z => e (by
      subst z
      exact (of_decide_eq_true (ht.symm.trans (decide_eq_true rfl))).symm)
    have b4 : b ≠ 4 := fun z => e (by
      subst z
      exact of_decide_eq_true (ht.trans (decide_eq_true rfl)))
    obtain ⟨c1, c2, c3⟩ := pw_two h1 hb a4 b4 e
    refine ⟨c1, ?_, (by intro z; cases z), wc, mk _ (flat_wd _) ?_⟩
    · rw [alt_cons]
      refine ⟨c2, m1, fun x hx => ?_⟩
      have hxx : (M ++ [b]).head? = some x := by
        cases M with
        | nil => cases hx
        | cons z q => exact hx
      have := h3 x hxx
      have t1 : Ty (b ^^^ a) = false := decide_eq_false c3
      have t2 : Ty a = false := decide_eq_false a4
      rw [t1]
      rw [t2] at this
      exact this
    · have e1 : E2 (pw (b ^^^ a)) (pw b ++ pw a) := by
        have : E2 (cut (pw b ++ pw a)) (pw b ++ pw a) := e2_of (cut_wd (wd_append.mpr ⟨pw_wd b, pw_wd a⟩)) (wd_append.mpr ⟨pw_wd b, pw_wd a⟩) (cut_cut (wd_append.mpr ⟨pw_wd b, pw_wd a⟩))
        rw [c1] at this
        exact this
      rw [flat_cons]
      have s1 : E2 (pw b ++ (pw (b ^^^ a) ++ flat M) ++ pw b) (pw b ++ ((pw b ++ pw a) ++ flat M) ++ pw b) := E2.app (wd_append.mpr ⟨pw_wd b, wd_append.mpr ⟨pw_wd _, flat_wd M⟩⟩) (E2.app (pw_wd b) (E2.id _) (E2.app (pw_wd _) e1 (E2.id _))) (E2.id _)
      refine s1.trans ?_
      have s2 : pw b ++ ((pw b ++ pw a) ++ flat M) ++ pw b = (pw b ++ pw b) ++ (pw a ++ (flat M ++ pw b)) := by simp only [List.append_assoc]
      rw [s2]
      show E2 _ ([] ++ (pw a ++ (flat M ++ pw b)))
      exact E2.app (wd_append.mpr ⟨pw_wd b, pw_wd b⟩) (pw_twice hb) (E2.id _)
end K7

namespace K7
open PySem PySem.Spec PyProof.Rows L2 Nr Nw
/-! ### the ring of a row of codes -/
theorem cd_ty {a b : Nat} (ha : Cd a) (hb : Cd b) : Ty a = Ty b ↔ (a = 4 ∧ b = 4) ∨ (a ≠ 4 ∧ b ≠ 4) := by
  rcases ha with e | e | e | e <;> rcases hb with f | f | f | f <;> subst e <;> subst f <;> decide
/-- where both ends are unlike: the ring that begins with 1 -/
def fnr (a : Nat) (M : List Nat) (b : Nat) : List Nat := if a = 4 then a :: (M ++ [b]) else if b = 4 then M ++ [b, a] else M ++ [b ^^^ a]
inductive Rg : List Nat → List Nat → Prop
  | nil : Rg [] []
  | one (c : Nat) : Rg [c] [c]
  | strip (a : Nat) (M ρ : List Nat) : M ≠ [] → Rg M ρ → Rg (a :: (M ++ [a])) ρ
  | fin (a : Nat) (M : List Nat) (b : Nat) : a ≠ b → Rg (a :: (M ++ [b])) (fnr a M b)
theorem snoc_inj {a : Nat} {M N : List Nat} {b c d : Nat} (h : a :: (M ++ [b]) = c :: (N ++ [d])) : a = c ∧ M = N ∧ b = d := by
  have h1 := (List.cons.inj h).1
  have h2 := (List.cons.inj h).2
  have h3 := List.append_inj' h2 rfl
  exact ⟨h1, h3.1, (List.cons.inj h3.2).1⟩
theorem rg_fun : ∀ {L ρ σ : List Nat}, Rg L ρ → Rg L σ → ρ = σ := by
  intro L ρ σ h
  induction h generalizing σ with
  | nil =>
    intro k
    generalize e : ([] : List Nat) = X at k
    cases k with
    | nil => rfl
    | one c => cases e
    | strip a M ρ _ => cases e
    | fin a M b _ => cases e
  | one c =>
    intro k
    generalize e : [c] = X at k
    cases k with
    | nil => cases e
    | one d => cases e; rfl
    | strip a M ρ _ _ =>
      have := congrArg List.length e
      simp at this
    | fin a M b _ =>
      have := congrArg List.length e
      simp at this
  | strip a M ρ hne _ ih =>
    intro k
    generalize e : a :: (M ++ [a]) = X at k
    cases k with
    | nil => cases e
    | one d =>
      have := congrArg List.length e
      simp at this
    | strip c N τ hn k =>
      obtain ⟨_, rfl, _⟩ := snoc_inj e
      exact ih k
    | fin c N d hcd =>
      obtain ⟨rfl, _, h3⟩ := snoc_inj e
      exact absurd h3 hcd
  | fin a M b hab =>
    intro k
    generalize e : a :: (M ++ [b]) = X at k
    cases k with
    | nil => cases e
    | one d =>
      have := congrArg List.length e
      simp at this
    | strip c N τ hn k =>
      obtain ⟨rfl, _, h3⟩ := snoc_inj e
      exact absurd h3.symm hab
    | fin c N d hcd =>
      obtain ⟨rfl, rfl, rfl⟩ := snoc_inj e
      rfl
/-- a row of two codes or more -/
theorem two_ends {L : List Nat} (h : 2 ≤ L.length) : ∃ a M b, L = a :: (M ++ [b]) := by
  cases L with
  | nil => simp at h
  | cons a r =>
    have hne : r ≠ [] := fun z => by rw [z] at h; simp at h
    exact ⟨a, r.dropLast, r.getLast hne, by rw [List.dropLast_concat_getLast hne]⟩
theorem mid_alt {a : Nat} {M : List Nat} {b : Nat} (h : Alt (a :: (M ++ [b]))) : Cd a ∧ Alt M ∧ Cd b ∧ (∀ x, M.head? = some x → Ty a ≠ Ty x) ∧ (∀ x, M.getLast? = some x → Ty x ≠ Ty b) := by
  obtain ⟨h1, h2, h3⟩ := alt_cons.mp h
  obtain ⟨m1, m2, m3⟩ := alt_app.mp h2
  refine ⟨h1, m1, m2, fun x hx => ?_, fun x hx => m3 x b hx rfl⟩
  refine h3 x ?_
  cases M with
  | nil => cases hx
  | cons y q => exact hx
theorem mid_ne {a : Nat} {M : List Nat} (h : Alt (a :: (M ++ [a]))) : M ≠ [] := fun z => by
  subst z
  exact (alt_cons.mp h).2.2 a rfl rfl
theorem rg_ex : ∀ (n : Nat) {L : List Nat}, L.length ≤ n → Alt L → ∃ ρ, Rg L ρ
  | 0, L, hn, _ => by
    rw [List.length_eq_zero_iff.mp (Nat.le_zero.mp hn)]
    exact ⟨_, .nil⟩
  | n + 1, L, hn, h => by
    by_cases h2 : 2 ≤ L.length
    · obtain ⟨a, M, b, rfl⟩ := two_ends h2
      by_cases e : a = b
      · subst e
        obtain ⟨ρ, k⟩ := rg_ex n (L := M) (by simp at hn; omega) (mid_alt h).2.1
        exact ⟨ρ, .strip _ _ _ (mid_ne h) k⟩
      · exact ⟨_, .fin a M b e⟩
    · match L, h2 with
      | [], _ => exact ⟨_, .nil⟩
      | [c], _ => exact ⟨_, .one c⟩
      | a :: b :: r, h2 => exact absurd (by simp) h2
/-! ### moved by a code -/
def mvc (k : Nat) (L : List Nat) : List Nat := put (put L.reverse k).reverse k
theorem put_other {a k : Nat} {r : List Nat} (h : Ty a ≠ Ty k) : put (a :: r) k = k :: a :: r := by rw [put_cons, if_pos h]
theorem put_same {k : Nat} {r : List Nat} : put (k :: r) k = r := by rw [put_cons, if_neg (fun z => z rfl), if_pos rfl]
theorem put_mix {a k : Nat} {r : List Nat} (h : Ty a = Ty k) (e : a ≠ k) : put (a :: r) k = (a ^^^ k) :: r := by rw [put_cons, if_neg (fun z => z h), if_neg e]
theorem xor3 {a b : Nat} (ha : Cd a) (hb : Cd b) (a4 : a ≠ 4) (b4 : b ≠ 4) (hab : a ≠ b) : Cd (a ^^^ b) ∧ a ^^^ b ≠ 4 ∧ a ^^^ b ≠ a ∧ a ^^^ b ≠ b ∧ a ^^^ b ^^^ b = a := by
  rcases ha with e | e | e | e <;> rcases hb with f | f | f | f <;> subst e <;> subst f <;> first | exact absurd rfl hab | exact absurd rfl a4 | exact absurd rfl b4 | decide
theorem both4 {a b : Nat} (ha : Cd a) (hb : Cd b) (h : Ty a = Ty b) (e : a ≠ b) : a ≠ 4 ∧ b ≠ 4 := by
  rcases (cd_ty ha hb).mp h with ⟨x, y⟩ | x
  · exact absurd (x.trans y.symm) e
  · exact x
/-- rings that are read alike: the same one, or turned by two codes -/
inductive Tn : List Nat → List Nat → Prop
  | id (ρ : List Nat) : Tn ρ ρ
  | on (b : Nat) (r : List Nat) : Tn (4 :: b :: r) (r ++ [4, b])
  | back (b : Nat) (r : List Nat) : Tn (r ++ [4, b]) (4 :: b :: r)
theorem rev_ends (a : Nat) (M : List Nat) (b : Nat) : (a :: (M ++ [b])).reverse = b :: (M.reverse ++ [a]) := by simp
theorem rev_ends' (a : Nat) (M : List Nat) (b : Nat) : (b :: (M.reverse ++ [a])).reverse = a :: (M ++ [b]) := by simp
theorem fnr4 (M : List Nat) (b : Nat) : fnr 4 M b = 4 :: (M ++ [b]) := if_pos rfl
theorem fnr_4 {a : Nat} (h : a ≠ 4) (M : List Nat) : fnr a M 4 = M ++ [4, a] := by unfold fnr; rw [if_neg h, if_pos rfl]
theorem fnr_x {a b : Nat} (h : a ≠ 4) (k : b ≠ 4) (M : List Nat) : fnr a M b = M ++ [b ^^^ a] := by unfold fnr; rw [if_neg h, if_neg k]
theorem rg_mv {k : Nat} (hk : Cd k) {L ρ σ : List Nat} (h : Alt L) (r1 : Rg L ρ) (r2 : Rg (mvc k L) σ) : Tn ρ σ := by
  by_cases h2 : 2 ≤ L.length
  · obtain ⟨a, M, b, rfl⟩ := two_ends h2
    obtain ⟨ca, am, cb, ea, eb⟩ := mid_alt h
    have hM : Ty a = Ty b → M ≠ [] := fun t z => by
      subst z
      exact (alt_cons.mp h).2.2 b rfl t
    unfold mvc at r2
    rw [rev_ends] at r2
    by_cases tb : Ty b = Ty k
    · by_cases bk : b = k
      · -- b is taken off
        subst bk
        rw [put_same] at r2
        have rr : (M.reverse ++ [a]).reverse = a :: M := by simp
        rw [rr] at r2
        by_cases ta : Ty a = Ty b
        · by_cases ab : a = b
          · subst ab
            rw [put_same] at r2
            have := rg_fun r1 (.strip a M σ (hM rfl) r2)
            rw [this]
            exact .id _
          · obtain ⟨a4, b4⟩ := both4 ca cb ta ab
            obtain ⟨x1, x2, x3, x4, x5⟩ := xor3 ca cb a4 b4 ab
            rw [put_mix ta ab] at r2
            have e1 := rg_fun r1 (.fin a M b ab)
            rw [fnr_x a4 b4] at e1
            -- the other one: (a ^^^ b) :: M
            obtain ⟨N, c, rfl⟩ : ∃ N c, M = N ++ [c] := ⟨_, _, (List.dropLast_concat_getLast (hM ta)).symm⟩
            have c4 : c = 4 := by
              have := eb c (by simp)
              by_cases z : c = 4
              · exact z
              · exact absurd ((cd_ty (am.all c (by simp)) cb).mpr (.inr ⟨z, b4⟩)) this
            subst c4
            have e2 := rg_fun r2 (.fin (a ^^^ b) N 4 x2)
            rw [fnr_4 x2] at e2
            rw [e1, e2, Nat.xor_comm b a, List.append_assoc]
            exact .id _
        · rw [put_other ta] at r2
          have e1 := rg_fun r1 (.fin a M b (fun z => ta (by rw [z])))
          by_cases a4 : a = 4
          · -- b is no 4: turned once
            subst a4
            have b4 : b ≠ 4 := fun z => ta (by rw [z])
            rw [fnr4] at e1
            cases M with
            | nil =>
              have e2 := rg_fun r2 (.fin b [] 4 b4)
              rw [fnr_4 b4] at e2
              rw [e1, e2]
              exact .id _
            | cons x M =>
              obtain ⟨N, c, e⟩ : ∃ N c, x :: M = N ++ [c] := ⟨_, _, (List.dropLast_concat_getLast (List.cons_ne_nil x M)).symm⟩
              have c4 : c = 4 := by
                have := eb c (by rw [e]; simp)
                by_cases z : c = 4
                · exact z
                · exact absurd ((cd_ty (am.all c (by rw [e]; simp)) cb).mpr (.inr ⟨z, b4⟩)) this
              subst c4
              rw [e] at r2 e1
              have e2 := rg_fun r2 (.fin b (4 :: N) 4 b4)
              rw [fnr_4 b4] at e2
              rw [e1, e2]
              have : 4 :: N ++ [4, b] = 4 :: (N ++ [4] ++ [b]) := by simp
              rw [this]
              exact .id _
          · have b4 : b = 4 := by
              by_cases z : b = 4
              · exact z
              · exact absurd ((cd_ty ca cb).mpr (.inr ⟨a4, z⟩)) ta
            subst b4
            rw [fnr_4 a4] at e1
            cases M with
            | nil =>
              have e2 := rg_fun r2 (.fin 4 [] a (fun z => a4 z.symm))
              rw [fnr4] at e2
              rw [e1, e2]
              exact .id _
            | cons x M =>
              obtain ⟨N, c, e⟩ : ∃ N c, x :: M = N ++ [c] := ⟨_, _, (List.dropLast_concat_getLast (List.cons_ne_nil x M)).symm⟩
              have c4 : c ≠ 4 := fun z => by
                have := eb c (by rw [e]; simp)
                exact this (by rw [z])
              rw [e] at r2 e1
              have e2 := rg_fun r2 (.fin 4 (a :: N) c (fun z => c4 z.symm))
              rw [fnr4] at e2
              rw [e1, e2]
              exact .back a (N ++ [c])
      · -- b is mixed with k
        obtain ⟨b4, k4⟩ := both4 cb hk tb bk
        obtain ⟨x1, x2, x3, x4, x5⟩ := xor3 cb hk b4 k4 bk
        rw [put_mix tb bk, rev_ends'] at r2
        by_cases ta : Ty a = Ty k
        · by_cases ak : a = k
          · subst ak
            have ab : a ≠ b := fun z => bk z.symm
            rw [put_same] at r2
            have e1 := rg_fun r1 (.fin a M b ab)
            rw [fnr_x k4 b4] at e1
            have hm := hM (ta.trans tb.symm)
            cases M with
            | nil => exact absurd rfl hm
            | cons x N =>
              have x4' : x = 4 := by
                have := ea x rfl
                by_cases z : x = 4
                · exact z
                · exact absurd ((cd_ty ca (am.all x (by simp))).mpr (.inr ⟨k4, z⟩)) this
              subst x4'
              have e2 := rg_fun r2 (.fin 4 N (b ^^^ a) (fun z => x2 z.symm))
              rw [fnr4] at e2
              rw [e1, e2]
              exact .id _
          · have a4 : a ≠ 4 := (both4 ca hk ta ak).1
            obtain ⟨y1, y2, y3, y4, y5⟩ := xor3 ca hk a4 k4 ak
            rw [put_mix ta ak] at r2
            by_cases ab : a = b
            · subst ab
              have hm := hM rfl
              obtain ⟨τ, ht⟩ := rg_ex _ (Nat.le_refl _) am
              rw [rg_fun r1 (.strip a M τ hm ht), rg_fun r2 (.strip (a ^^^ k) M τ hm ht)]
              exact .id _
            · have e1 := rg_fun r1 (.fin a M b ab)
              rw [fnr_x a4 b4] at e1
              have ne : a ^^^ k ≠ b ^^^ k := fun z => ab (by rw [← y5, z, x5])
              have e2 := rg_fun r2 (.fin (a ^^^ k) M (b ^^^ k) ne)
              rw [fnr_x y2 x2] at e2
              have : b ^^^ k ^^^ (a ^^^ k) = b ^^^ a := by
                rw [Nat.xor_comm a k, ← Nat.xor_assoc, x5]
              rw [e1, e2, this]
              exact .id _
        · rw [put_other ta] at r2
          have a4 : a = 4 := by
            by_cases z : a = 4
            · exact z
            · exact absurd ((cd_ty ca hk).mpr (.inr ⟨z, k4⟩)) ta
          subst a4
          have e1 := rg_fun r1 (.fin 4 M b (fun z => b4 z.symm))
          rw [fnr4] at e1
          have ne : k ≠ b ^^^ k := fun z => x4 z.symm
          have e2 := rg_fun r2 (.fin k (4 :: M) (b ^^^ k) ne)
          rw [fnr_x k4 x2, x5] at e2
          rw [e1, e2]
          exact .id _
    · -- k is put behind b
      rw [put_other tb] at r2
      have rr : (k :: b :: (M.reverse ++ [a])).reverse = a :: (M ++ [b] ++ [k]) := by simp
      rw [rr] at r2
      by_cases ta : Ty a = Ty k
      · have ab : a ≠ b := fun z => tb (by rw [← z]; exact ta)
        have e1 := rg_fun r1 (.fin a M b ab)
        by_cases ak : a = k
        · subst ak
          rw [put_same] at r2
          by_cases a4 : a = 4
          · subst a4
            rw [fnr4] at e1
            have b4 : b ≠ 4 := fun z => ab z.symm
            cases M with
            | nil =>
              have e2 := rg_fun r2 (.fin b [] 4 b4)
              rw [fnr_4 b4] at e2
              rw [e1, e2]
              exact .id _
            | cons x N =>
              have x4 : x ≠ 4 := fun z => ea x rfl (by rw [z])
              have e2 := rg_fun r2 (.fin x (N ++ [b]) 4 x4)
              rw [fnr_4 x4] at e2
              rw [e1, e2]
              exact .on x (N ++ [b])
          · have b4 : b = 4 := by
              by_cases z : b = 4
              · exact z
              · exact absurd ((cd_ty cb ca).mpr (.inr ⟨z, a4⟩)) tb
            subst b4
            rw [fnr_4 a4] at e1
            cases M with
            | nil =>
              have e2 := rg_fun r2 (.fin 4 [] a (fun z => a4 z.symm))
              rw [fnr4] at e2
              rw [e1, e2]
              exact .id _
            | cons x N =>
              have x4 : x = 4 := by
                have := ea x rfl
                by_cases z : x = 4
                · exact z
                · exact absurd ((cd_ty ca (am.all x (by simp))).mpr (.inr ⟨a4, z⟩)) this
              subst x4
              have r2' : Rg (4 :: (N ++ [4] ++ [a])) σ := r2
              have e2 := rg_fun r2' (.fin 4 (N ++ [4]) a (fun z => a4 z.symm))
              rw [fnr4] at e2
              rw [e1, e2]
              have : 4 :: N ++ [4, a] = 4 :: (N ++ [4] ++ [a]) := by simp
              rw [this]
              exact .id _
        · have a4 : a ≠ 4 := (both4 ca hk ta ak).1
          have k4 : k ≠ 4 := (both4 ca hk ta ak).2
          have b4 : b = 4 := by
            by_cases z : b = 4
            · exact z
            · exact absurd ((cd_ty cb hk).mpr (.inr ⟨z, k4⟩)) tb
          subst b4
          obtain ⟨y1, y2, y3, y4, y5⟩ := xor3 ca hk a4 k4 ak
          rw [put_mix ta ak] at r2
          rw [fnr_4 a4] at e1
          have e2 := rg_fun r2 (.fin (a ^^^ k) (M ++ [4]) k y4)
          have y6 : k ^^^ (a ^^^ k) = a := by rw [Nat.xor_comm, y5]
          rw [fnr_x y2 k4, y6] at e2
          rw [e1, e2, List.append_assoc]
          exact .id _
      · rw [put_other ta] at r2
        have e2 := rg_fun r2 (.strip k (a :: (M ++ [b])) ρ (by simp) r1)
        rw [e2]
        exact .id _
  · match L, h2, h, r1, r2 with
    | [], _, _, r1, r2 =>
      have : mvc k [] = [] := put_same
      rw [this] at r2
      rw [rg_fun r1 .nil, rg_fun r2 .nil]
      exact .id _
    | [a], _, h, r1, r2 =>
      have ca : Cd a := h
      rw [rg_fun r1 (.one a)]
      unfold mvc at r2
      by_cases ta : Ty a = Ty k
      · by_cases ak : a = k
        · subst ak
          have : put (put [a].reverse a).reverse a = [a] := by
            show put (put [a] a).reverse a = [a]
            rw [put_same]
            rfl
          rw [this] at r2
          rw [rg_fun r2 (.one a)]
          exact .id _
        · have hx := both4 ca hk ta ak
          obtain ⟨y1, y2, y3, y4, y5⟩ := xor3 ca hk hx.1 hx.2 ak
          have : put (put [a].reverse k).reverse k = [a] := by
            show put (put [a] k).reverse k = [a]
            rw [put_mix ta ak]
            show put [a ^^^ k] k = [a]
            rw [put_mix ((cd_ty y1 hk).mpr (.inr ⟨y2, hx.2⟩)) y4, y5]
          rw [this] at r2
          rw [rg_fun r2 (.one a)]
          exact .id _
      · have : put (put [a].reverse k).reverse k = k :: ([a] ++ [k]) := by
          show put (put [a] k).reverse k = _
          rw [put_other ta]
          show put [a, k] k = _
          rw [put_other ta]
          rfl
        rw [this] at r2
        rw [rg_fun r2 (.strip k [a] [a] (by simp) (.one a))]
        exact .id _
    | a :: b :: r, h2, _, _, _ => exact absurd (by simp) h2
end K7

namespace K7
open PySem PySem.Spec PyProof.Rows L2 Nr Nw
/-! ### rings in pairs, readings, the least one -/
inductive Prs : List Nat → Prop
  | nil : Prs []
  | cons (b : Nat) (r : List Nat) : Cd b → b ≠ 4 → Prs r → Prs (4 :: b :: r)
theorem prs_of : ∀ (n : Nat) {X : List Nat}, X.length ≤ n → Alt X → (∀ a, X.head? = some a → a = 4) → (∀ b, X.getLast? = some b → b ≠ 4) → Prs X
  | _, [], _, _, _, _ => .nil
  | 0, a :: r, hn, _, _, _ => by simp at hn
  | n + 1, a :: r, hn, h, h4, hl => by
    have e := h4 a rfl
    subst e
    obtain ⟨_, h2, h3⟩ := alt_cons.mp h
    cases r with
    | nil => exact absurd rfl (hl 4 rfl)
    | cons b q =>
      have b4 : b ≠ 4 := fun z => h3 b rfl (by rw [z])
      refine .cons b q h2.head b4 (prs_of n (by simp at hn; omega) h2.tail (fun x hx => ?_) (fun x hx => hl x ?_))
      · have := (alt_cons.mp h2).2.2 x hx
        by_cases z : x = 4
        · exact z
        · exfalso
          apply this
          unfold Ty
          rw [decide_eq_false b4, decide_eq_false z]
      · cases q with
        | nil => cases hx
        | cons y q => rw [List.getLast?_cons_cons, List.getLast?_cons_cons]; exact hx
theorem Prs.alt {X : List Nat} (h : Prs X) : Alt X := by
  induction h with
  | nil => trivial
  | cons b r hb b4 hr ih =>
    refine ⟨by decide, .inl ⟨rfl, b4⟩, ?_⟩
    cases hr with
    | nil => exact hb
    | cons c q hc c4 hq => exact ⟨hb, .inr ⟨b4, rfl⟩, ih⟩
theorem Prs.app {X Y : List Nat} (h : Prs X) (k : Prs Y) : Prs (X ++ Y) := by
  induction h with
  | nil => exact k
  | cons b r hb b4 _ ih => exact .cons b _ hb b4 ih
theorem ty_of {a b : Nat} (ha : Cd a) (hb : Cd b) (h : Ty a ≠ Ty b) (b4 : b ≠ 4) : a = 4 := by
  by_cases z : a = 4
  · exact z
  · exact absurd ((cd_ty ha hb).mpr (.inr ⟨z, b4⟩)) h
/-- what a ring is -/
theorem rg_ok {L ρ : List Nat} (h : Rg L ρ) (al : Alt L) : (∃ c, Cd c ∧ ρ = [c]) ∨ Prs ρ := by
  induction h with
  | nil => exact .inr .nil
  | one c => exact .inl ⟨c, al, rfl⟩
  | strip a M ρ _ _ ih => exact ih (mid_alt al).2.1
  | fin a M b hab =>
    right
    obtain ⟨ca, am, cb, ea, eb⟩ := mid_alt al
    by_cases a4 : a = 4
    · subst a4
      rw [fnr4]
      refine prs_of _ (Nat.le_refl _) al (fun x hx => by cases hx; rfl) (fun x hx => ?_)
      rw [← List.cons_append, List.getLast?_concat] at hx
      cases hx
      exact fun z => hab z.symm
    · have hM : ∀ x, M.head? = some x → x = 4 := fun x hx => ty_of (am.all x (List.mem_of_mem_head? hx)) ca (ea x hx).symm a4
      by_cases b4 : b = 4
      · subst b4
        rw [fnr_4 a4]
        refine prs_of _ (Nat.le_refl _) (alt_app.mpr ⟨am, ⟨by decide, .inl ⟨rfl, a4⟩, ca⟩, fun x y hx hy => by cases hy; exact eb x hx⟩) (fun x hx => ?_) (fun x hx => ?_)
        · cases M with
          | nil => cases hx; rfl
          | cons y q => exact hM x hx
        · have e : M ++ [4, a] = M ++ [4] ++ [a] := by simp
          rw [e, List.getLast?_concat] at hx
          cases hx
          exact a4
      · rw [fnr_x a4 b4]
        obtain ⟨x1, x2, _⟩ := xor3 cb ca b4 a4 (fun z => hab z.symm)
        have hne : M ≠ [] := fun z => by
          subst z
          exact (alt_cons.mp al).2.2 b rfl ((cd_ty ca cb).mpr (.inr ⟨a4, b4⟩))
        refine prs_of _ (Nat.le_refl _) (alt_app.mpr ⟨am, x1, fun x y hx hy => ?_⟩) (fun x hx => ?_) (fun x hx => ?_)
        · cases hy
          have := ty_of (am.all x (List.mem_of_mem_getLast? hx)) cb (eb x hx) b4
          subst this
          exact fun z => x2 (of_decide_eq_true (z.symm.trans (decide_eq_true rfl)))
        · cases M with
          | nil => exact absurd rfl hne
          | cons y q => exact hM x hx
        · rw [List.getLast?_concat] at hx
          cases hx
          exact x2
def rest (c : Nat) : List Nat := if c = 1 then [] else [50]
/-- a reading that begins with 0 -/
def Rdg (ρ s : List Nat) : Prop := ∃ P c Q, ρ = P ++ c :: Q ∧ (c = 1 ∨ c = 3) ∧ s = 48 :: (flat (Q ++ P) ++ rest c)
def Lst (ρ t : List Nat) : Prop := if ρ.length < 2 then t = flat ρ else (Rdg ρ t ∧ ∀ s, Rdg ρ s → t ≤ s) ∨ ((∀ s, ¬ Rdg ρ s) ∧ t = flat ρ)
theorem le_anti {s t : List Nat} (h : s ≤ t) (k : t ≤ s) : s = t := List.le_antisymm h k
theorem lst_fun {ρ s t : List Nat} (h : Lst ρ s) (k : Lst ρ t) : s = t := by
  unfold Lst at h k
  by_cases e : ρ.length < 2
  · rw [if_pos e] at h k
    rw [h, k]
  · rw [if_neg e] at h k
    rcases h with ⟨h1, h2⟩ | ⟨h1, h2⟩ <;> rcases k with ⟨k1, k2⟩ | ⟨k1, k2⟩
    · exact le_anti (h2 t k1) (k2 s h1)
    · exact absurd h1 (k1 s)
    · exact absurd k1 (h1 t)
    · rw [h2, k2]
theorem rdg_turn {X Y s : List Nat} (h : Rdg (X ++ Y) s) : Rdg (Y ++ X) s := by
  obtain ⟨P, c, Q, e, hc, rfl⟩ := h
  rcases List.append_eq_append_iff.mp e with ⟨Z, e1, e2⟩ | ⟨Z, e1, e2⟩
  · subst e1
    subst e2
    exact ⟨Z, c, Q ++ X, by simp, hc, by simp⟩
  · cases Z with
    | nil =>
      rw [List.append_nil] at e1
      rw [List.nil_append] at e2
      subst e1
      subst e2
      exact ⟨[], c, Q ++ X, rfl, hc, by simp⟩
    | cons z Z =>
      have := (List.cons.inj (show c :: Q = z :: (Z ++ Y) from e2))
      obtain ⟨rfl, rfl⟩ := this
      subst e1
      exact ⟨Y ++ P, c, Z, by simp, hc, by simp⟩
/-- rows of 1 and 2 alone -/
theorem prs_two {X : List Nat} (h : Prs X) (no : ∀ s, ¬ Rdg X s) : ∀ c ∈ X, c = 4 ∨ c = 2 := fun c hc => by
  rcases h.alt.all c hc with e | e | e | e
  · obtain ⟨P, Q, rfl⟩ := List.append_of_mem hc
    exact absurd ⟨P, c, Q, rfl, .inl e, rfl⟩ (no _)
  · exact .inr e
  · obtain ⟨P, Q, rfl⟩ := List.append_of_mem hc
    exact absurd ⟨P, c, Q, rfl, .inr e, rfl⟩ (no _)
  · exact .inl e
theorem prs_same {X Y : List Nat} (h : Prs X) (hx : ∀ c ∈ X, c = 4 ∨ c = 2) (k : Prs Y) (hy : ∀ c ∈ Y, c = 4 ∨ c = 2) (hl : X.length = Y.length) : X = Y := by
  induction h generalizing Y with
  | nil => exact (List.length_eq_zero_iff.mp hl.symm).symm
  | cons b r hb b4 _ ih =>
    cases k with
    | nil => simp at hl
    | cons c q hc c4 kq =>
      have e1 : b = 2 := (hx b (by simp)).resolve_left b4
      have e2 : c = 2 := (hy c (by simp)).resolve_left c4
      subst e1
      subst e2
      rw [ih (fun x h => hx x (by simp [h])) kq (fun x h => hy x (by simp [h])) (by simpa using hl)]
/-- turned by any row: the least reading stays -/
theorem lst_turn {X Y t : List Nat} (hx : Prs (X ++ Y)) (hy : Prs (Y ++ X)) (h : Lst (X ++ Y) t) : Lst (Y ++ X) t := by
  have hl : (X ++ Y).length = (Y ++ X).length := by simp; omega
  unfold Lst at h ⊢
  by_cases e : (X ++ Y).length < 2
  · rw [if_pos e] at h
    rw [if_pos (by omega)]
    cases hx' : X ++ Y with
    | nil =>
      have : Y ++ X = [] := List.length_eq_zero_iff.mp (by rw [← hl, hx']; rfl)
      rw [h, hx', this]
    | cons a r =>
      rw [hx'] at hx e
      cases hx with
      | cons b r _ _ _ => exact absurd e (by simp)
  · rw [if_neg e] at h
    rw [if_neg (by omega)]
    rcases h with ⟨h1, h2⟩ | ⟨h1, h2⟩
    · exact .inl ⟨rdg_turn h1, fun s hs => h2 s (rdg_turn hs)⟩
    · have no : ∀ s, ¬ Rdg (Y ++ X) s := fun s hs => h1 s (rdg_turn hs)
      exact .inr ⟨no, by rw [h2, prs_same hx (prs_two hx h1) hy (prs_two hy no) hl]⟩
theorem lst_tn {ρ σ t : List Nat} (h : Tn ρ σ) (hr : Prs ρ) (hs : Prs σ) (k : Lst ρ t) : Lst σ t := by
  cases h with
  | id => exact k
  | on b r => exact lst_turn (X := [4, b]) (Y := r) hr hs k
  | back b r => exact lst_turn (X := r) (Y := [4, b]) hr hs k
theorem tn_one {ρ σ : List Nat} (h : Tn ρ σ) {c : Nat} (e : ρ = [c]) : σ = [c] := by
  cases h with
  | id => exact e
  | on b r => cases e
  | back b r =>
    have := congrArg List.length e
    simp at this
theorem lst_tn' {ρ σ t : List Nat} (h : Tn ρ σ) (hr : (∃ c, Cd c ∧ ρ = [c]) ∨ Prs ρ) (hs : (∃ c, Cd c ∧ σ = [c]) ∨ Prs σ) (k : Lst ρ t) : Lst σ t := by
  rcases hr with ⟨c, _, e⟩ | hr
  · rw [tn_one h e, ← e]
    exact k
  · rcases hs with ⟨c, _, e⟩ | hs
    · cases h with
      | id => exact k
      | on b r =>
        have := congrArg List.length e
        simp at this
      | back b r => cases e
    · exact lst_tn h hr hs k
/-! ### the class -/
def Cls (L t : List Nat) : Prop := ∃ ρ, Rg L ρ ∧ Lst ρ t
theorem cls_fun {L s t : List Nat} (h : Cls L s) (k : Cls L t) : s = t := by
  obtain ⟨ρ, h1, h2⟩ := h
  obtain ⟨σ, k1, k2⟩ := k
  rw [rg_fun h1 k1] at h2
  exact lst_fun h2 k2
theorem mvc_alt {k : Nat} (hk : k = 1 ∨ k = 2 ∨ k = 4) {L : List Nat} (h : Alt L) : Alt (mvc k L) := put_alt (alt_rev (put_alt (alt_rev h) hk)) hk
theorem cls_mv {k : Nat} (hk : k = 1 ∨ k = 2 ∨ k = 4) {L t : List Nat} (h : Alt L) (c : Cls L t) : Cls (mvc k L) t := by
  obtain ⟨ρ, r1, l1⟩ := c
  have hk' : Cd k := by rcases hk with e | e | e <;> subst e <;> decide
  have al := mvc_alt hk h
  obtain ⟨σ, r2⟩ := rg_ex _ (Nat.le_refl _) al
  exact ⟨σ, r2, lst_tn' (rg_mv hk' h r1 r2) (rg_ok r1 h) (rg_ok r2 al) l1⟩
/-- the class of a word -/
def Cw (u t : List Nat) : Prop := Cls (codesOf u).reverse t
theorem cw_sign {u t : List Nat} {c : Nat} (hu : Wd u) (hc : Sg c) (h : Cw u t) : Cw (c :: (u ++ [c])) t := by
  have hk := cd_of hc
  have h2 := cls_mv hk (alt_rev (codes_alt hu)) h
  unfold Cw
  have wc : Wd (u ++ [c]) := wd_append.mpr ⟨hu, fun x hx => by rw [List.mem_singleton.mp hx]; exact hc⟩
  have wc2 : Wd (c :: (u ++ [c])) := fun x hx => by
    rcases List.mem_cons.mp hx with e | e
    · rw [e]; exact hc
    · exact wc x e
  have e : (codesOf (c :: (u ++ [c]))).reverse = mvc (cd c) (codesOf u).reverse := by
    rw [← codes_rev wc2]
    have : (c :: (u ++ [c])).reverse = (u ++ [c]).reverse ++ [c] := by rw [List.reverse_cons]
    rw [this, codes_snoc, codes_rev wc, codes_snoc]
    unfold mvc
    rw [List.reverse_reverse]
  rw [e]
  exact h2
theorem cw_word : ∀ (n : Nat) {u t v : List Nat}, v.length = n → Wd u → Wd v → Cw u t → Cw (v.reverse ++ u ++ v) t
  | 0, u, t, v, hn, _, _, h => by
    rw [List.length_eq_zero_iff.mp hn]
    simpa using h
  | n + 1, u, t, v, hn, hu, hv, h => by
    have hne : v ≠ [] := fun z => by rw [z] at hn; cases hn
    have ev := (List.dropLast_concat_getLast hne).symm
    have hl : v.dropLast.length = n := by rw [List.length_dropLast]; omega
    rw [ev] at hv ⊢
    generalize v.dropLast = x at hl hv ⊢
    generalize v.getLast hne = c at hv ⊢
    obtain ⟨hx, hc⟩ := wd_append.mp hv
    have ih := cw_word n hl hu hx h
    have := cw_sign (c := c) (wd_append.mpr ⟨wd_append.mpr ⟨wd_rev.mpr hx, hu⟩, hx⟩) (hc c (by simp)) ih
    simpa using this
theorem cw_cut {u v t : List Nat} (hu : Wd u) (hv : Wd v) (e : cut u = cut v) (h : Cw u t) : Cw v t := by
  unfold Cw at h ⊢
  rw [← (codes_same hu hv).mpr e]
  exact h
theorem cw_moved {X y u t : List Nat} (hX : Wd X) (hy : Wd y) (hu : Wd u) (e : E2 (y.reverse ++ X ++ y) u) (h : Cw X t) : Cw u t :=
  cw_cut (wd_append.mpr ⟨wd_append.mpr ⟨wd_rev.mpr hy, hX⟩, hy⟩) hu (cut_of e) (cw_word _ rfl hX hy h)
theorem cw_fun {u s t : List Nat} (h : Cw u s) (k : Cw u t) : s = t := cls_fun h k
theorem cw_ex {u : List Nat} (hu : Wd u) : ∃ t, Cw u t := by
  obtain ⟨ρ, h⟩ := rg_ex _ (Nat.le_refl _) (alt_rev (codes_alt hu))
  by_cases e : ρ.length < 2
  · exact ⟨flat ρ, ρ, h, by unfold Lst; rw [if_pos e]⟩
  · by_cases r : ∃ s, Rdg ρ s
    · -- the least of finitely many
      have fin : ∀ n : Nat, n ≤ ρ.length → (∃ t, Rdg ρ t ∧ ∀ P c Q, ρ = P ++ c :: Q → P.length < n → (c = 1 ∨ c = 3) → t ≤ 48 :: (flat (Q ++ P) ++ rest c)) ∨ (∀ P c Q, ρ = P ++ c :: Q → P.length < n → ¬ (c = 1 ∨ c = 3)) := by
        intro n
        induction n with
        | zero => exact fun _ => .inr fun _ _ _ _ h => absurd h (Nat.not_lt_zero _)
        | succ n ih =>
          intro hn
          have hn' : n < ρ.length := hn
          have es : ρ = ρ.take n ++ ρ[n] :: ρ.drop (n + 1) := by
            rw [← List.drop_eq_getElem_cons hn', List.take_append_drop]
          have uniq : ∀ P c Q, ρ = P ++ c :: Q → P.length = n → P = ρ.take n ∧ c = ρ[n] ∧ Q = ρ.drop (n + 1) := by
            intro P c Q e hl
            have h1 : P = ρ.take n := by rw [e, ← hl, List.take_left]
            have h2 : c :: Q = ρ[n] :: ρ.drop (n + 1) := by rw [← List.drop_eq_getElem_cons hn']; rw [e, ← hl]; simp
            exact ⟨h1, (List.cons.inj h2).1, (List.cons.inj h2).2⟩
          by_cases hc : ρ[n] = 1 ∨ ρ[n] = 3
          · have new : Rdg ρ (48 :: (flat (ρ.drop (n + 1) ++ ρ.take n) ++ rest ρ[n])) := ⟨_, _, _, es, hc, rfl⟩
            left
            rcases ih (by omega) with ⟨t, h1, h2⟩ | h0
            · rcases List.le_total t (48 :: (flat (ρ.drop (n + 1) ++ ρ.take n) ++ rest ρ[n])) with le | le
              · refine ⟨t, h1, fun P c Q e hl hc => ?_⟩
                by_cases z : P.length < n
                · exact h2 P c Q e z hc
                · obtain ⟨rfl, rfl, rfl⟩ := uniq P c Q e (by omega)
                  exact le
              · refine ⟨_, new, fun P c Q e hl hc => ?_⟩
                by_cases z : P.length < n
                · exact List.le_trans le (h2 P c Q e z hc)
                · obtain ⟨rfl, rfl, rfl⟩ := uniq P c Q e (by omega)
                  exact List.le_refl _
            · refine ⟨_, new, fun P c Q e hl hc => ?_⟩
              by_cases z : P.length < n
              · exact absurd hc (h0 P c Q e z)
              · obtain ⟨rfl, rfl, rfl⟩ := uniq P c Q e (by omega)
                exact List.le_refl _
          · rcases ih (by omega) with ⟨t, h1, h2⟩ | h0
            · refine .inl ⟨t, h1, fun P c Q e hl hc' => ?_⟩
              by_cases z : P.length < n
              · exact h2 P c Q e z hc'
              · obtain ⟨_, rfl, _⟩ := uniq P c Q e (by omega)
                exact absurd hc' hc
            · refine .inr fun P c Q e hl => ?_
              by_cases z : P.length < n
              · exact h0 P c Q e z
              · obtain ⟨_, rfl, _⟩ := uniq P c Q e (by omega)
                exact hc
      rcases fin ρ.length (Nat.le_refl _) with ⟨t, h1, h2⟩ | h0
      · refine ⟨t, ρ, h, ?_⟩
        unfold Lst
        rw [if_neg e]
        refine .inl ⟨h1, ?_⟩
        rintro s ⟨P, c, Q, e1, hc, rfl⟩
        exact h2 P c Q e1 (by rw [e1]; simp) hc
      · obtain ⟨s, P, c, Q, e1, hc, _⟩ := r
        exact absurd hc (h0 P c Q e1 (by rw [e1]; simp))
    · refine ⟨flat ρ, ρ, h, ?_⟩
      unfold Lst
      rw [if_neg e]
      exact .inr ⟨fun s hs => r ⟨s, hs⟩, rfl⟩
end K7

namespace K7
open PySem PySem.Spec PyProof.Rows L2 Nr Nw
/-! ### the readings of a text -/
theorem pw1 : pw 1 = [48] := rfl
theorem pw2 : pw 2 = [50] := rfl
theorem pw3 : pw 3 = [48, 50] := rfl
theorem pw4 : pw 4 = [49] := rfl
theorem le_cons {a b : Nat} {s t : List Nat} (h : a < b) : a :: s ≤ b :: t := List.le_of_lt (List.cons_lt_cons_iff.mpr (.inl h))
theorem le_same {a : Nat} {s t : List Nat} (h : s ≤ t) : a :: s ≤ a :: t := fun z => (List.cons_lt_cons_iff.mp z).elim (fun y => Nat.lt_irrefl _ y) (fun y => h y.2)
theorem prs_head {X : List Nat} (h : Prs X) (hne : X ≠ []) : ∃ b r, X = 4 :: b :: r ∧ b ≠ 4 := by
  cases h with
  | nil => exact absurd rfl hne
  | cons b r _ b4 _ => exact ⟨b, r, rfl, b4⟩
/-- where a 0 stands in a text of pieces -/
theorem flat_zero : ∀ {L U V : List Nat}, Alt L → flat L = U ++ 48 :: V → ∃ P c Q, L = P ++ c :: Q ∧ U = flat P ∧ ((c = 1 ∧ V = flat Q) ∨ (c = 3 ∧ V = 50 :: flat Q))
  | [], U, V, _, e => by
    have := congrArg List.length e
    simp [flat] at this
  | d :: L, U, V, h, e => by
    rw [flat_cons] at e
    have hL := (alt_cons.mp h).2.1
    have go : ∀ {W : List Nat}, flat L = W ++ 48 :: V → U = pw d ++ W → ∃ P c Q, d :: L = P ++ c :: Q ∧ U = flat P ∧ ((c = 1 ∧ V = flat Q) ∨ (c = 3 ∧ V = 50 :: flat Q)) := by
      intro W e1 e2
      obtain ⟨P, c, Q, e3, e4, e5⟩ := flat_zero hL e1
      exact ⟨d :: P, c, Q, by rw [e3]; rfl, by rw [e2, e4, flat_cons], e5⟩
    rcases h.head with z | z | z | z <;> subst z
    · rw [pw1] at e go
      cases U with
      | nil => exact ⟨[], 1, L, rfl, rfl, .inl ⟨rfl, (List.cons.inj e).2.symm⟩⟩
      | cons x U =>
        obtain ⟨rfl, e2⟩ := List.cons.inj e
        exact go e2 rfl
    · rw [pw2] at e go
      cases U with
      | nil => exact absurd (List.cons.inj e).1 (by decide)
      | cons x U =>
        obtain ⟨rfl, e2⟩ := List.cons.inj e
        exact go e2 rfl
    · rw [pw3] at e go
      cases U with
      | nil => exact ⟨[], 3, L, rfl, rfl, .inr ⟨rfl, (List.cons.inj e).2.symm⟩⟩
      | cons x U =>
        obtain ⟨rfl, e2⟩ := List.cons.inj e
        cases U with
        | nil => exact absurd (List.cons.inj e2).1 (by decide)
        | cons y U =>
          obtain ⟨rfl, e3⟩ := List.cons.inj e2
          exact go e3 rfl
    · rw [pw4] at e go
      cases U with
      | nil => exact absurd (List.cons.inj e).1 (by decide)
      | cons x U =>
        obtain ⟨rfl, e2⟩ := List.cons.inj e
        exact go e2 rfl
/-- where a 1 stands -/
theorem flat_one : ∀ {L U V : List Nat}, Alt L → flat L = U ++ 49 :: V → ∃ P Q, L = P ++ 4 :: Q ∧ U = flat P ∧ V = flat Q
  | [], U, V, _, e => by
    have := congrArg List.length e
    simp [flat] at this
  | d :: L, U, V, h, e => by
    rw [flat_cons] at e
    have hL := (alt_cons.mp h).2.1
    have go : ∀ {W : List Nat}, flat L = W ++ 49 :: V → U = pw d ++ W → ∃ P Q, d :: L = P ++ 4 :: Q ∧ U = flat P ∧ V = flat Q := by
      intro W e1 e2
      obtain ⟨P, Q, e3, e4, e5⟩ := flat_one hL e1
      exact ⟨d :: P, Q, by rw [e3]; rfl, by rw [e2, e4, flat_cons], e5⟩
    rcases h.head with z | z | z | z <;> subst z
    · rw [pw1] at e go
      cases U with
      | nil => exact absurd (List.cons.inj e).1 (by decide)
      | cons x U =>
        obtain ⟨rfl, e2⟩ := List.cons.inj e
        exact go e2 rfl
    · rw [pw2] at e go
      cases U with
      | nil => exact absurd (List.cons.inj e).1 (by decide)
      | cons x U =>
        obtain ⟨rfl, e2⟩ := List.cons.inj e
        exact go e2 rfl
    · rw [pw3] at e go
      cases U with
      | nil => exact absurd (List.cons.inj e).1 (by decide)
      | cons x U =>
        obtain ⟨rfl, e2⟩ := List.cons.inj e
        cases U with
        | nil => exact absurd (List.cons.inj e2).1 (by decide)
        | cons y U =>
          obtain ⟨rfl, e3⟩ := List.cons.inj e2
          exact go e3 rfl
    · rw [pw4] at e go
      cases U with
      | nil => exact ⟨[], L, rfl, rfl, (List.cons.inj e).2.symm⟩
      | cons x U =>
        obtain ⟨rfl, e2⟩ := List.cons.inj e
        exact go e2 rfl
def shift (x : List Nat) (n : Nat) : List Nat := x.drop n ++ x.take n
def readOf (s : List Nat) : List (List Nat) := if s.take 2 = [48, 50] then [s, 48 :: (s.drop 2 ++ [50])] else [s]
def readL (x : List Nat) : List (List Nat) := (List.range x.length).flatMap fun n => readOf (shift x n)
theorem mem_readL {x s : List Nat} : s ∈ readL x ↔ ∃ n, n < x.length ∧ s ∈ readOf (shift x n) := by
  unfold readL
  rw [List.mem_flatMap]
  constructor
  · rintro ⟨n, h1, h2⟩
    exact ⟨n, List.mem_range.mp h1, h2⟩
  · rintro ⟨n, h1, h2⟩
    exact ⟨n, List.mem_range.mpr h1, h2⟩
theorem last_app {A B : List Nat} (h : B ≠ []) : (A ++ B).getLast? = B.getLast? := by
  rw [List.getLast?_append]
  cases e : B.getLast? with
  | none => exact absurd (List.getLast?_eq_none_iff.mp e) h
  | some x => rfl
/-- the law's ring: no 1 ahead, a 1 behind -/
structure Lr (L : List Nat) : Prop where
  alt : Alt L
  hd : ∃ a X, L = a :: X ∧ a ≠ 4
  lt : ∃ Y, L = Y ++ [4]
theorem Lr.split {L : List Nat} (h : Lr L) : ∃ a M, L = a :: (M ++ [4]) ∧ a ≠ 4 ∧ Cd a := by
  obtain ⟨a, X, e, a4⟩ := h.hd
  obtain ⟨Y, e2⟩ := h.lt
  cases Y with
  | nil =>
    rw [e] at e2
    exact absurd (List.cons.inj e2).1 a4
  | cons y Y =>
    rw [e] at e2
    obtain ⟨rfl, e3⟩ := List.cons.inj e2
    refine ⟨a, Y, e.trans (congrArg (a :: ·) e3), a4, ?_⟩
    exact h.alt.all a (by rw [e]; simp)
/-- what stands behind a piece that isn't 1 -/
theorem Lr.next {L P Q : List Nat} {c : Nat} (h : Lr L) (e : L = P ++ c :: Q) (c4 : c ≠ 4) : ∃ q, Q = 4 :: q := by
  obtain ⟨Y, e2⟩ := h.lt
  have al := h.alt
  rw [e] at al
  have a2 := (alt_app.mp al).2.1
  cases Q with
  | nil =>
    rw [e] at e2
    have := congrArg List.getLast? e2
    rw [List.getLast?_concat, List.getLast?_concat] at this
    exact absurd (Option.some.inj this) c4
  | cons x q =>
    have := (alt_cons.mp a2).2.2 x rfl
    have x4 := ty_of (a2.tail.head) a2.head (fun z => this z.symm) c4
    exact ⟨q, by rw [x4]⟩
theorem lst_readings {L t : List Nat} (h : Lr L) {a : Nat} {M : List Nat} (e : L = a :: (M ++ [4])) (a4 : a ≠ 4) (hl : Lst (M ++ [4, a]) t) : t ∈ readL (flat L) ∧ ∀ s ∈ readL (flat L), t ≤ s := by
  have hp : Prs (M ++ [4, a]) := by
    have r : Rg L (fnr a M 4) := by rw [e]; exact .fin a M 4 a4
    rw [fnr_4 a4] at r
    rcases rg_ok r h.alt with ⟨c, _, z⟩ | hp
    · have := congrArg List.length z
      simp at this
    · exact hp
  have e' : M ++ [4, a] = (M ++ [4]) ++ [a] := by simp
  have toL : ∀ s, Rdg (M ++ [4, a]) s → Rdg L s := fun s hs => by
    rw [e'] at hs
    have := rdg_turn hs
    rw [e]
    exact this
  have ofL : ∀ s, Rdg L s → Rdg (M ++ [4, a]) s := fun s hs => by
    rw [e]at hs
    rw [e']
    exact rdg_turn (X := [a]) hs
  have l2 : ¬ (M ++ [4, a]).length < 2 := by simp
  unfold Lst at hl
  rw [if_neg l2] at hl
  -- readings that begin with 0 are told
  have told : ∀ s, Rdg L s → s ∈ readL (flat L) := by
    rintro s ⟨P, c, Q, e1, hc, rfl⟩
    have ef : flat L = flat P ++ (pw c ++ flat Q) := by rw [e1, flat_app, flat_cons]
    rw [mem_readL]
    refine ⟨(flat P).length, ?_, ?_⟩
    · rw [ef, List.length_append, List.length_append]
      rcases hc with z | z <;> subst z
      · rw [pw1]; simp; omega
      · rw [pw3]; simp; omega
    · have es : shift (flat L) (flat P).length = pw c ++ flat Q ++ flat P := by
        unfold shift
        rw [ef, List.drop_left, List.take_left]
      rw [es]
      rcases hc with z | z <;> subst z
      · have : 48 :: (flat (Q ++ P) ++ rest 1) = pw 1 ++ flat Q ++ flat P := by
          rw [flat_app, pw1]
          simp [rest]
        rw [this]
        unfold readOf
        split
        · exact List.mem_cons_self
        · exact List.mem_singleton.mpr rfl
      · have : pw 3 ++ flat Q ++ flat P = 48 :: 50 :: (flat Q ++ flat P) := by rw [pw3]; rfl
        rw [this]
        unfold readOf
        rw [if_pos (show List.take 2 (48 :: 50 :: (flat Q ++ flat P)) = [48, 50] from rfl), flat_app]
        exact List.mem_cons_of_mem _ (List.mem_singleton.mpr rfl)
  -- how a shifted text begins
  have begins : ∀ n, n < (flat L).length → ∃ U x V, flat L = U ++ x :: V ∧ shift (flat L) n = x :: (V ++ U) ∧ Sg x := by
    intro n hn
    refine ⟨(flat L).take n, (flat L)[n], (flat L).drop (n + 1), ?_, ?_, flat_wd L _ (List.getElem_mem hn)⟩
    · rw [← List.drop_eq_getElem_cons hn, List.take_append_drop]
    · unfold shift
      rw [List.drop_eq_getElem_cons hn]
      rfl
  have zero : ∀ U V s, flat L = U ++ 48 :: V → s ∈ readOf (48 :: (V ++ U)) → ∃ r, Rdg L r ∧ r ≤ s := by
    intro U V s ef hs
    obtain ⟨P, c, Q, e1, rfl, hV⟩ := flat_zero h.alt ef
    rcases hV with ⟨rfl, rfl⟩ | ⟨rfl, rfl⟩
    · obtain ⟨q, rfl⟩ := h.next e1 (by decide)
      refine ⟨_, ⟨P, 1, 4 :: q, e1, .inl rfl, rfl⟩, ?_⟩
      unfold readOf at hs
      rw [flat_cons, pw4] at hs
      rw [if_neg (by intro z; exact absurd (List.cons.inj (List.cons.inj z).2).1 (by decide))] at hs
      rw [List.mem_singleton.mp hs, flat_app, flat_cons, pw4]
      simp [rest]
    · obtain ⟨q, rfl⟩ := h.next e1 (by decide)
      refine ⟨_, ⟨P, 3, 4 :: q, e1, .inr rfl, rfl⟩, ?_⟩
      have hs' : s ∈ readOf (48 :: 50 :: (flat (4 :: q) ++ flat P)) := hs
      unfold readOf at hs'
      rw [if_pos (show List.take 2 (48 :: 50 :: (flat (4 :: q) ++ flat P)) = [48, 50] from rfl)] at hs'
      rcases List.mem_cons.mp hs' with z | z
      · rw [z, flat_app, flat_cons, pw4]
        exact le_same (le_cons (by decide))
      · rw [List.mem_singleton.mp z, flat_app]
        exact List.le_refl _
  have other : ∀ x V U s, x ≠ 48 → s ∈ readOf (x :: (V ++ U)) → s = x :: (V ++ U) := by
    intro x V U s hx hs
    unfold readOf at hs
    rw [if_neg (by intro z; exact hx (List.cons.inj (show x :: _ = _ from z)).1)] at hs
    exact List.mem_singleton.mp hs
  rcases hl with ⟨h1, h2⟩ | ⟨h1, h2⟩
  · refine ⟨told t (toL t h1), fun s hs => ?_⟩
    obtain ⟨n, hn, hs⟩ := mem_readL.mp hs
    obtain ⟨U, x, V, ef, es, sg⟩ := begins n hn
    rw [es] at hs
    by_cases hx : x = 48
    · subst hx
      obtain ⟨r, hr, le⟩ := zero U V s ef hs
      exact List.le_trans (h2 r (ofL r hr)) le
    · rw [other x V U s hx hs]
      obtain ⟨P, c, Q, _, _, rfl⟩ := h1
      refine le_cons ?_
      rcases sg with z | z | z
      · exact absurd z hx
      · omega
      · omega
  · have no : ∀ s, ¬ Rdg L s := fun s hs => h1 s (ofL s hs)
    have two := prs_two hp h1
    -- all that begins with 1 is the ring's text
    have one : ∀ U V, flat L = U ++ 49 :: V → 49 :: (V ++ U) = flat (M ++ [4, a]) := by
      intro U V ef
      obtain ⟨P, Q, e1, rfl, rfl⟩ := flat_one h.alt ef
      have hq : Prs (4 :: Q ++ P) := by
        have al := h.alt
        obtain ⟨x, X, ex, x4⟩ := h.hd
        obtain ⟨Y, ey⟩ := h.lt
        rw [e1] at al
        obtain ⟨p1, p2, p3⟩ := alt_app.mp al
        have hPne : P ≠ [] := fun z => by
          subst z
          rw [e1] at ex
          exact x4 (List.cons.inj ex).1.symm
        have lastQ : (4 :: Q).getLast? = some 4 := by
          have : L.getLast? = some 4 := by rw [ey]; exact List.getLast?_concat ..
          rw [e1, last_app (List.cons_ne_nil _ _)] at this
          exact this
        have headP : ∀ y, P.head? = some y → y = x := fun y hy => by
          cases P with
          | nil => cases hy
          | cons z r =>
            cases hy
            rw [e1] at ex
            exact (List.cons.inj ex).1
        refine prs_of _ (Nat.le_refl _) (alt_app.mpr ⟨p2, p1, fun u y hu hy => ?_⟩) (fun y hy => by cases hy; rfl) (fun y hy => ?_)
        · rw [lastQ] at hu
          cases hu
          rw [headP y hy]
          intro z
          exact x4 (of_decide_eq_true (z.symm.trans (decide_eq_true rfl)))
        · rw [last_app hPne] at hy
          have := p3 y 4 hy rfl
          intro z
          exact this (by rw [z])
      have memL : ∀ c ∈ L, c = 4 ∨ c = 2 := fun c hc => two c (by
        rw [e] at hc
        simp at hc ⊢
        rcases hc with z | z | z
        · exact .inr (.inr z)
        · exact .inl z
        · exact .inr (.inl z))
      have same := prs_same hq (fun c hc => memL c (by rw [e1]; simp at hc ⊢; rcases hc with z | z | z; exact .inr (.inl z); exact .inr (.inr z); exact .inl z)) hp two (by
        have := congrArg List.length (e1.symm.trans e)
        simp at this ⊢
        omega)
      rw [← same, flat_app, flat_cons, pw4]
      rfl
    obtain ⟨b, r, er, b4⟩ := prs_head hp (by simp)
    have ft : flat (M ++ [4, a]) = 49 :: flat (b :: r) := by rw [er, flat_cons, pw4]; rfl
    have hin : t ∈ readL (flat L) := by
      obtain ⟨Y, ey⟩ := h.lt
      have ef : flat L = flat Y ++ 49 :: [] := by rw [ey, flat_app]; rfl
      have := one _ _ ef
      rw [h2, ← this]
      rw [mem_readL]
      refine ⟨(flat Y).length, by rw [ef]; simp, ?_⟩
      have es : shift (flat L) (flat Y).length = 49 :: ([] ++ flat Y) := by
        unfold shift
        rw [ef, List.drop_left, List.take_left]
        rfl
      rw [es]
      unfold readOf
      rw [if_neg (by intro z; exact absurd (List.cons.inj (show (49 : Nat) :: _ = _ from z)).1 (by decide))]
      exact List.mem_singleton.mpr rfl
    refine ⟨hin, fun s hs => ?_⟩
    obtain ⟨n, hn, hs⟩ := mem_readL.mp hs
    obtain ⟨U, x, V, ef, es, sg⟩ := begins n hn
    rw [es] at hs
    rcases sg with z | z | z
    · subst z
      obtain ⟨r, hr, _⟩ := zero U V s ef hs
      exact absurd hr (no r)
    · subst z
      rw [other 49 V U s (by decide) hs, one U V ef, h2]
      exact List.le_refl _
    · subst z
      rw [other 50 V U s (by decide) hs, h2, ft]
      exact le_cons (by decide)
/-! ### none of a class is ahead of the least -/
theorem rdg_len {ρ s : List Nat} (h : Rdg ρ s) : s.length = (flat ρ).length := by
  obtain ⟨P, c, Q, rfl, hc, rfl⟩ := h
  rw [flat_app, flat_app, flat_cons]
  rcases hc with z | z <;> subst z
  · rw [pw1]; simp [rest]; omega
  · rw [pw3]; simp [rest]; omega
theorem lst_len {ρ t : List Nat} (h : Lst ρ t) : t.length = (flat ρ).length := by
  unfold Lst at h
  split at h
  · rw [h]
  · rcases h with ⟨h, _⟩ | ⟨_, h⟩
    · exact rdg_len h
    · rw [h]
def NotAhead (u t : List Nat) : Prop := t.length < u.length ∨ (t.length = u.length ∧ t ≤ u)
/-- how the least one begins -/
theorem lst_begins {ρ t : List Nat} (hp : Prs ρ) (hne : ρ ≠ []) (h : Lst ρ t) : (∃ r, t = 48 :: r) ∨ (t = flat ρ ∧ ∃ r, t = 49 :: r) := by
  obtain ⟨b, r, er, b4⟩ := prs_head hp hne
  have l2 : ¬ ρ.length < 2 := by rw [er]; simp
  unfold Lst at h
  rw [if_neg l2] at h
  rcases h with ⟨⟨P, c, Q, _, _, e⟩, _⟩ | ⟨_, e⟩
  · exact .inl ⟨_, e⟩
  · refine .inr ⟨e, flat (b :: r), ?_⟩
    rw [e, er, flat_cons, pw4]
    rfl
theorem lst_least {ρ t : List Nat} (l2 : ¬ ρ.length < 2) (h : Lst ρ t) {s : List Nat} (hs : Rdg ρ s) : t ≤ s := by
  unfold Lst at h
  rw [if_neg l2] at h
  rcases h with ⟨_, h⟩ | ⟨h, _⟩
  · exact h s hs
  · exact absurd hs (h s)
theorem rg_not_ahead {L ρ t : List Nat} (h : Rg L ρ) (al : Alt L) (hl : Lst ρ t) : NotAhead (flat L) t := by
  induction h with
  | nil =>
    unfold Lst at hl
    rw [if_pos (by decide)] at hl
    rw [hl]
    exact .inr ⟨rfl, List.le_refl _⟩
  | one c =>
    unfold Lst at hl
    rw [if_pos (by show 1 < 2; decide)] at hl
    rw [hl]
    exact .inr ⟨rfl, List.le_refl _⟩
  | strip a M ρ _ _ ih =>
    left
    have := ih (mid_alt al).2.1 hl
    have h1 : t.length ≤ (flat M).length := by
      rcases this with h | ⟨h, _⟩ <;> omega
    have h2 : 0 < (pw a).length := by
      rcases (mid_alt al).1 with z | z | z | z <;> subst z <;> decide
    rw [flat_cons, flat_app, List.length_append, List.length_append]
    omega
  | fin a M b hab =>
    have len := lst_len hl
    obtain ⟨ca, am, cb, ea, eb⟩ := mid_alt al
    have hp : Prs (fnr a M b) := by
      rcases rg_ok (.fin a M b hab) al with ⟨c, cc, e⟩ | hp
      · exfalso
        unfold fnr at e
        split at e
        · have := congrArg List.length e
          simp at this
        · split at e
          · have := congrArg List.length e
            simp at this
          · next a4 b4 =>
            have hne : M ≠ [] := fun z => by
              subst z
              exact (alt_cons.mp al).2.2 b rfl ((cd_ty ca cb).mpr (.inr ⟨a4, b4⟩))
            cases M with
            | nil => exact hne rfl
            | cons x q =>
              have := congrArg List.length e
              simp at this
      · exact hp
    by_cases a4 : a = 4
    · subst a4
      rw [fnr4] at hl len hp
      refine .inr ⟨len, ?_⟩
      rcases lst_begins hp (by simp) hl with ⟨r, e⟩ | ⟨e, _⟩
      · rw [e, flat_cons, pw4]
        exact le_cons (by decide)
      · rw [e]
        exact List.le_refl _
    · by_cases b4 : b = 4
      · subst b4
        rw [fnr_4 a4] at hl len hp
        have l2 : ¬ (M ++ [4, a]).length < 2 := by simp
        have len2 : t.length = (flat (a :: (M ++ [4]))).length := by
          rw [len]
          have : M ++ [4, a] = (M ++ [4]) ++ [a] := by simp
          have e3 : flat [a] = pw a := List.append_nil _
          rw [this, flat_app, e3, flat_cons, List.length_append, List.length_append]
          omega
        refine .inr ⟨len2, ?_⟩
        rcases ca with z | z | z | z
        · subst z
          refine lst_least l2 hl ⟨M ++ [4], 1, [], by simp, .inl rfl, ?_⟩
          rw [flat_cons, pw1]
          simp [rest]
        · subst z
          rw [flat_cons, pw2]
          rcases lst_begins hp (by simp) hl with ⟨r, e⟩ | ⟨_, r, e⟩ <;> rw [e] <;> exact le_cons (by decide)
        · subst z
          have h1 := lst_least l2 hl (s := 48 :: (flat ([] ++ (M ++ [4])) ++ rest 3)) ⟨M ++ [4], 3, [], by simp, .inr rfl, rfl⟩
          refine List.le_trans h1 ?_
          have hM : ∃ q, M ++ [4] = 4 :: q := by
            cases M with
            | nil => exact ⟨[], rfl⟩
            | cons x q =>
              have := ty_of (am.all x (by simp)) (.inr (.inr (.inl rfl))) (ea x rfl).symm (by decide)
              exact ⟨q ++ [4], by rw [this]; rfl⟩
          obtain ⟨q, eq⟩ := hM
          rw [flat_cons, pw3, List.nil_append, eq, flat_cons, pw4]
          exact le_same (le_cons (by decide))
        · exact absurd z a4
      · rw [fnr_x a4 b4] at hl len hp
        have hne : M ≠ [] := fun z => by
          subst z
          exact (alt_cons.mp al).2.2 b rfl ((cd_ty ca cb).mpr (.inr ⟨a4, b4⟩))
        have l2 : ¬ (M ++ [b ^^^ a]).length < 2 := by
          cases M with
          | nil => exact absurd rfl hne
          | cons x q => simp
        have lens : (flat (a :: (M ++ [b]))).length = (pw a).length + (flat M).length + (pw b).length := by
          rw [flat_cons, flat_app, List.length_append, List.length_append]
          have : flat [b] = pw b := List.append_nil _
          rw [this]
          omega
        have lent : t.length = (flat M).length + (pw (b ^^^ a)).length := by
          rw [len, flat_app, List.length_append]
          have : flat [b ^^^ a] = pw (b ^^^ a) := List.append_nil _
          rw [this]
        have case12 : a = 1 → b = 2 → NotAhead (flat (a :: (M ++ [b]))) t := by
          intro z y
          subst z
          subst y
          refine .inr ⟨by rw [lens, lent]; show (flat M).length + 2 = 1 + (flat M).length + 1; omega, ?_⟩
          have : flat (1 :: (M ++ [2])) = 48 :: (flat ([] ++ M) ++ rest 3) := by
            rw [flat_cons, pw1, flat_app]
            rfl
          rw [this]
          exact lst_least l2 hl ⟨M, 3, [], rfl, .inr rfl, rfl⟩
        have case21 : a = 2 → b = 1 → NotAhead (flat (a :: (M ++ [b]))) t := by
          intro z y
          subst z
          subst y
          refine .inr ⟨by rw [lens, lent]; show (flat M).length + 2 = 1 + (flat M).length + 1; omega, ?_⟩
          rw [flat_cons, pw2]
          rcases lst_begins hp (by simp) hl with ⟨r, e⟩ | ⟨_, r, e⟩ <;> rw [e] <;> exact le_cons (by decide)
        have other : (pw (b ^^^ a)).length < (pw a).length + (pw b).length → NotAhead (flat (a :: (M ++ [b]))) t := fun z => .inl (by rw [lens, lent]; omega)
        rcases ca with z | z | z | z <;> rcases cb with y | y | y | y <;> first | exact absurd z a4 | exact absurd y b4 | exact absurd (z.trans y.symm) hab | exact case12 z y | exact case21 z y | exact other (by rw [z, y]; decide)
theorem cw_not_ahead {u t : List Nat} (hu : Wd u) (h : Cw u t) : NotAhead (cut u) t := by
  obtain ⟨ρ, r, l⟩ := h
  have al := alt_rev (codes_alt hu)
  have := rg_not_ahead r al l
  rw [flat_eq, List.reverse_reverse, ← cut_codes hu] at this
  exact this
/-- the least one of a class leads as the class does -/
theorem cw_self {L t : List Nat} (al : Alt L) (h : Cls L t) : Cw (flat L) t := by
  unfold Cw
  rw [codes_flat al, List.reverse_reverse]
  exact h
end K7

namespace K7
open PySem PySem.Spec PyProof.Rows L2 Nr Nw
def PV (L : List Nat) : List V := Vs (L.map pw)
theorem pv_len (L : List Nat) : (PV L).length = L.length := by
  unfold PV
  rw [vs_len, List.length_map]
theorem pv_app (L M : List Nat) : PV (L ++ M) = PV L ++ PV M := by
  unfold PV Vs
  rw [List.map_append, List.map_append]
theorem cut_tail (x : V) (r : List V) : cutV (x :: r) (some 1) none = r := by
  unfold cutV
  have h1 : HT.sIx (x :: r).length 0 (some ((1 : Nat) : Int)) = 1 := (HT.sIx_nat _ _ 1).trans (Nat.min_eq_left (by rw [List.length_cons]; omega))
  have h1' : HT.sIx (x :: r).length 0 (some 1) = 1 := h1
  have h2 : HT.sIx (x :: r).length (x :: r).length none = (x :: r).length := rfl
  rw [h1', h2]
  show List.take _ r = r
  exact List.take_of_length_le (by rw [List.length_cons]; omega)
theorem pw_one {a : Nat} (h : Cd a) : decide (V.str (S (pw a)) = V.str (S [49])) = Ty a := by
  have hs : (V.str (S (pw a)) = V.str (S [49])) ↔ pw a = [49] := ⟨fun z => s_inj (V.str.inj z), fun z => by rw [z]⟩
  have h2 : pw a = [49] ↔ a = 4 := by rcases h with e | e | e | e <;> subst e <;> decide
  by_cases e : a = 4
  · rw [decide_eq_true (hs.mpr (h2.mpr e))]
    exact (decide_eq_true e).symm
  · rw [decide_eq_false fun z => e (h2.mp (hs.mp z))]
    exact (decide_eq_false e).symm
theorem pw_len {c : Nat} (h : Cd c) : (pw c).length ≤ 2 ∧ pw c ≠ [] := by
  rcases h with e | e | e | e <;> subst e <;> decide
def Done (L : List Nat) : Prop := ∀ a b, L.head? = some a → L.getLast? = some b → 1 < L.length → Ty a ≠ Ty b
structure RI (u L y : List Nat) : Prop where
  alt : Alt L
  wd : Wd y
  eq : E2 (y.reverse ++ flat L ++ y) u
theorem RI.to {u L y : List Nat} (h : RI u L y) (ne : L ≠ []) : RInv u L y := ⟨h.alt, ne, h.wd, h.eq⟩
theorem ri {u L y : List Nat} (h : RInv u L y) : RI u L y := ⟨h.alt, h.wd, h.eq⟩
/-- what the law's ring tells -/
structure RingC (u L y : List Nat) : Prop where
  alt : Alt L
  wd : Wd y
  eq : E2 (y.reverse ++ flat L ++ y) u
  sh : L.length < 2 ∨ Lr L
  ly : y.length ≤ 1000
  ll : L.length ≤ u.length
section
variable {P : Program} {w : World} {K : PySem.W.Frag} {mg : Str → Option Value} {base : Heap}
def spRing : Sp := fun vs H Q _ => ∃ u : List Nat, vs = [.str (S u)] ∧ Fw u ∧ u.length ≤ 100 ∧
  ∀ (L y : List Nat) (p q : Addr) (H' : Hp), Same H H' → H p = none → H q = none → H' q = some (.lst (PV L)) → H' p = some (.tup [.ref q, .str (S y)]) → RingC u L y → Q (.ref p) H'
theorem ok_ring (T : Txt w K mg) : Ok P w K mg base 2 "_law_ring" ["word"] spRing := by
  refine ok_of T.fLawRing fun f fd F => ?_
  refine F.ok scLawRing (fun vs H Q E h => ?_) (fun cdv A outer s H vs Q E hr h => ?_)
  · obtain ⟨u, rfl, _⟩ := h
    rfl
  · obtain ⟨u, rfl, hf, hz, q⟩ := h
    refine ⟨_, pss_cons (ps_par (i := 2) (j := 3) (by rfl) scLawRing.nd rfl rfl (by decide) rfl rfl (pa_cons (pe_callO (ok_pieces T) hr (by decide) (by rfl) (pa_cons (pv 0) (pa_nil))) (pa_cons (pe_str) (pa_nil))) (by rfl))
         (pss_cons (ps_for PassesOwn.never rfl (pi_range1 (by rfl) T.nrange (pa_cons (pe_callB call_len_seq (by rfl) T.nlen PySem.boot_len (pa_cons (pv 2) (pa_nil))) (pa_nil))) (pg_name (i := 1) scLawRing.nd rfl (.inl rfl)) (pss_one (ps_if (PW.pt (pw_and (pt_cmpR (op_gt) (pe_callB call_len_seq (by rfl) T.nlen PySem.boot_len (pa_cons (pv 2) (pa_nil))) (pe_int) (nomark _)) (pw_and1 (pt_cmpR (op_eq) (pe_cmpR (op_eq) (pe_ix (r := rIxL K) ix_list (pv 2) (pe_int) (fun _ _ => rfl)) (pe_str) (nomark _)) (pe_cmpR (op_eq) (pe_ix (r := rIxL K) ix_list (pv 2) (pe_un un_neg pe_int) (fun _ _ => rfl)) (pe_str) (nomark _)) (nomark _))))) (pss_cons (ps_set (i := 4) scLawRing.nd rfl (.inl rfl) (pe_bm0 PySem.F.plainAttrs_list PySem.F.slot_list_pop PySem.F.type_list_pop mt_pop (pv 2)))
         (pss_cons (ps_set (i := 3) scLawRing.nd rfl (.inl rfl) (pe_callO (ok_cut T) hr (by decide) (by rfl) (pa_cons (pe_op op_add_str (pv 4) (pv 3)) (pa_nil))))
         (pss_cons (ps_set (i := 5) scLawRing.nd rfl (.inl rfl) (pe_callO (ok_cut T) hr (by decide) (by rfl) (pa_cons (pe_op op_add_str (pv 4) (pe_ix (r := rIxL K) ix_list (pv 2) (pe_int) (fun _ _ => rfl))) (pa_nil))))
         (pss_one (ps_set (i := 2) scLawRing.nd rfl (.inl rfl) (pe_ifExp (pt_cmpR (op_eq) (pv 5) (pe_str) (nomark _)) (pe_slice sl_list (pv 2) (po_some pe_int) po_none) (pe_op op_cat (pe_lst (pa_cons (pv 5) (pa_nil))) (pe_slice sl_list (pv 2) (po_some pe_int) po_none)))))))) (pss_nil))))
         (pss_cons (ps_if (PW.pt (pw_and (pt_cmpR (op_gt) (pe_callB call_len_seq (by rfl) T.nlen PySem.boot_len (pa_cons (pv 2) (pa_nil))) (pe_int) (nomark _)) (pw_and1 (pt_cmpR (op_eq) (pe_ix (r := rIxL K) ix_list (pv 2) (pe_int) (fun _ _ => rfl)) (pe_str) (nomark _))))) (pss_one (ps_par (i := 2) (j := 3) (by rfl) scLawRing.nd rfl rfl (by decide) rfl rfl (pa_cons (pe_op op_cat (pe_slice sl_list (pv 2) (po_some pe_int) po_none) (pe_lst (pa_cons (pe_str) (pa_nil)))) (pa_cons (pe_callO (ok_cut T) hr (by decide) (by rfl) (pa_cons (pe_op op_add_str (pe_str) (pv 3)) (pa_nil))) (pa_nil))) (by rfl))) (pss_nil))
         (pss_one (ps_ret (pe_tup (pa_cons (pv 2) (pa_cons (pv 3) (pa_nil)))))))), ?_⟩
    have hu := hf.wd
    have hcu : cut u = u := cut_of_fw hf
    have pcu := pcs_codes _ u rfl hf
    have alt := codes_alt hu
    have clen := codes_len _ u rfl
    obtain ⟨cs, hcs⟩ : ∃ cs, cs = (codesOf u).reverse := ⟨_, rfl⟩
    have acs : Alt cs := by rw [hcs]; exact alt_rev alt
    have fit : ∀ z : Nat, z ≤ 10000 → z ≤ sizeLine := fun z hz => Nat.le_trans hz (by decide)
    have fcs : flat cs = u := by
      rw [flat_eq, hcs, List.reverse_reverse, ← cut_codes hu, hcu]
    have lcs : cs.length ≤ 100 := by rw [hcs, List.length_reverse]; omega
    have lcu : cs.length ≤ u.length := by rw [hcs, List.length_reverse]; exact clen
    refine ⟨.str (S u), rfl, u, rfl, hf, by omega, fun q0 H1 s1 nq e1 => ?_⟩
    have e1' : H1 q0 = some (.lst (PV cs)) := by
      rw [e1, pcu, ← List.map_reverse, ← hcs]
      rfl
    refine ⟨_, _, rfl, ?_⟩
    refine ⟨.ref q0, rfl, q0, PV cs, rfl, .inl (.inl (.inl e1')), ((PV cs).length : Int), rfl, by rw [pv_len]; omega, by rw [pv_len]; omega, ?_⟩
    rw [pv_len, Int.toNat_natCast]
    refine ⟨fun i mm σ H3 => ∃ y1 y4 y5 q1 L y, σ = [some (.str (S u)), y1, some (.ref q1), some (.str (S y)), y4, y5] ∧ i + mm = cs.length ∧ Same H H3 ∧ H q1 = none ∧ H3 q1 = some (.lst (PV L)) ∧ RI u L y ∧ y.length ≤ 2 * i ∧ L.length ≤ cs.length ∧ (Done L ∨ L.length + i ≤ cs.length),
      ⟨cs.length, none, none, none, q0, cs, [], rfl, by omega, s1, nq, e1', ⟨acs, fun c hc => absurd hc List.not_mem_nil, by show E2 ([] ++ flat cs ++ []) u; rw [List.append_nil, fcs]; exact E2.id u⟩, Nat.le_refl _, Nat.le_refl _, .inr (Nat.le_refl _)⟩, ?_⟩
    rintro i mm σ H3 ⟨y1, y4, y5, q1, L, y, rfl, em, sm, nq1, eq1, hI, ly, lL, hD⟩
    have altL := hI.alt
    by_cases hi : i < cs.length
    · refine .inr ⟨hi, fun σ' H' => ∃ y1 y4 y5 q1 L y, σ' = [some (.str (S u)), y1, some (.ref q1), some (.str (S y)), y4, y5] ∧ Same H H' ∧ H q1 = none ∧ H' q1 = some (.lst (PV L)) ∧ RI u L y ∧ y.length ≤ 2 * (i + 1) ∧ L.length ≤ cs.length ∧ (Done L ∨ L.length + (i + 1) ≤ cs.length), ?_, ?_⟩
      · rintro σ' H' ⟨z1, z4, z5, q', L', y', e, r⟩
        exact ⟨mm - 1, by omega, z1, z4, z5, q', L', y', e, by omega, r⟩
      · rintro v H' ⟨rfl, rfl⟩
        refine ⟨.ref q1, rfl, q1, PV L, rfl, .inl (.inl (.inl eq1)), ((PV L).length : Int), 1, rfl, rfl, _, rfl, ?_⟩
        rw [pv_len]
        by_cases hl : 1 < L.length
        · refine iteDT (by omega) ?_
          obtain ⟨a, ha⟩ : ∃ a, L.head? = some a := by
            cases L with
            | nil => exact absurd hl (by simp)
            | cons a r => exact ⟨a, rfl⟩
          obtain ⟨b, hb⟩ : ∃ b, L.getLast? = some b := ⟨_, List.getLast?_eq_getLast (fun z => by rw [z] at ha; cases ha)⟩
          obtain ⟨M, rfl⟩ := ends_split ha hb hl
          clear ha hb
          have ca : Cd a := altL.head
          have cb : Cd b := altL.all b (by simp)
          have pe : PV (a :: (M ++ [b])) = PV (a :: M) ++ [.str (S (pw b))] := by
            rw [← List.cons_append, pv_app]
            rfl
          have t1 := pw_one ca
          have t2 := pw_one cb
          have e1q := eq1
          rw [pe] at e1q
          refine ⟨.ref q1, rfl, q1, PV (a :: (M ++ [b])), 0, .str (S (pw a)), rfl, rfl, .inl (.inl eq1), atI_nat (j := 0) rfl, rfl, .ref q1, rfl, 1, rfl, q1, _, _, .str (S (pw b)), rfl, rfl, .inl (.inl e1q), atI_last _ _, rfl, rfl, _, rfl, ?_⟩
          by_cases ht : Ty a = Ty b
          · refine iteDT (congrArg V.bl (t1.trans (ht.trans t2.symm))) ?_
            obtain ⟨hM, _, _, stepS, stepN⟩ := rinv_step (hI.to (by simp)) ht
            have wby : Wd (pw b ++ y) := wd_append.mpr ⟨pw_wd b, hI.wd⟩
            have lby : (pw b ++ y).length ≤ 2 * (i + 1) := by
              rw [List.length_append]
              have := (pw_len cb).1
              omega
            have lc := cut_len _ _ rfl wby
            have wba : Wd (pw b ++ pw a) := wd_append.mpr ⟨pw_wd b, pw_wd a⟩
            have lba : (pw b ++ pw a).length ≤ 4 := by
              rw [List.length_append]
              have h1 := (pw_len ca).1
              have h2 := (pw_len cb).1
              omega
            have lLM : (a :: (M ++ [b])).length = M.length + 2 := by simp
            rw [lLM] at lL hD
            have hD' : M.length + 2 + i ≤ cs.length := by
              rcases hD with h | h
              · exact absurd ht (h a b rfl (by rw [← List.cons_append]; exact List.getLast?_concat ..) (by rw [lLM]; omega))
              · exact h
            refine ⟨.ref q1, rfl, .inl ⟨rfl, _, .inl (.inl eq1)⟩, q1, PV (a :: M) ++ [.str (S (pw b))], .str (S (pw b)), rfl, rfl, e1q, by rw [List.length_append]; exact List.getElem?_concat_length, ?_⟩
            rw [List.dropLast_concat]
            have s2 := same_mut (o := .lst (PV (a :: M))) sm nq1
            have e2 : (upd H' q1 (.lst (PV (a :: M)))) q1 = some (.lst (PV (a :: M))) := upd_same
            show (fun x H1 => gName 4 x _ H1 _) (V.str (S (pw b))) (upd H' q1 (.lst (PV (a :: M))))
            generalize upd H' q1 (.lst (PV (a :: M))) = H4 at s2 e2 ⊢
            refine ⟨.str (S (pw b)), rfl, .str (S y), rfl, S (pw b), S y, rfl, rfl, fit _ (show (pw b).length + y.length ≤ 10000 by rw [List.length_append] at lby; omega), pw b ++ y, congrArg (fun z => [V.str z]) (s_app _ _), ⟨wby, by omega⟩, ?_⟩
            refine ⟨.str (S (pw b)), rfl, .ref q1, rfl, q1, PV (a :: M), 0, .str (S (pw a)), rfl, rfl, .inl (.inl e2), atI_nat (j := 0) rfl, S (pw b), S (pw a), rfl, rfl, fit _ (show (pw b).length + (pw a).length ≤ 10000 by rw [List.length_append] at lba; omega), pw b ++ pw a, congrArg (fun z => [V.str z]) (s_app _ _), ⟨wba, by omega⟩, ?_⟩
            refine ⟨.str (S (cut (pw b ++ pw a))), rfl, rfl, _, rfl, ?_⟩
            by_cases eab : a = b
            · have c0 : cut (pw b ++ pw a) = [] := by
                rw [eab, cut_of (pw_twice cb)]
                rfl
              refine iteDT (by rw [c0]; rfl) ⟨.ref q1, rfl, 1, rfl, q1, PV (a :: M), rfl, .inl (.inl e2), fun q2 nq2 => ?_⟩
              refine ⟨_, _, _, q2, M, cut (pw b ++ y), rfl, Same.to s2 (same_new nq2), none_of s2 nq2, ?_, ri (stepS eab), by omega, by omega, .inr (by omega)⟩
              rw [upd_same]
              exact congrArg (fun z => some (HO.lst z)) (cut_tail _ _)
            · obtain ⟨c1, rI⟩ := stepN eab
              have cne' : cut (pw b ++ pw a) ≠ [] := by
                rw [c1]
                exact (pw_len (rI.alt.head)).2
              refine iteDF (fun z => cne' (s_inj (V.str.inj z))) ⟨.str (S (cut (pw b ++ pw a))), rfl, by show 1 ≤ sizeLine; decide, fun q2 nq2 => ?_⟩
              have n12 : q1 ≠ q2 := ne_of_none e2 nq2
              have e3 : (upd H4 q2 (.lst [.str (S (cut (pw b ++ pw a)))])) q2 = some (.lst [.str (S (cut (pw b ++ pw a)))]) := upd_same
              have e4 : (upd H4 q2 (.lst [.str (S (cut (pw b ++ pw a)))])) q1 = some (.lst (PV (a :: M))) := by rw [upd_ne n12]; exact e2
              have s3 := Same.to s2 (same_new (o := .lst [.str (S (cut (pw b ++ pw a)))]) nq2)
              refine ⟨.ref q1, rfl, 1, rfl, q1, PV (a :: M), rfl, .inl (.inl e4), fun q3 nq3 => ?_⟩
              have n23 : q2 ≠ q3 := ne_of_none e3 nq3
              have s4 := Same.to s3 (same_new (o := .lst (cutV (PV (a :: M)) (some 1) none)) nq3)
              have ect : cutV (PV (a :: M)) (some 1) none = PV M := cut_tail _ _
              refine ⟨q2, q3, [.str (S (cut (pw b ++ pw a)))], cutV (PV (a :: M)) (some 1) none, rfl, rfl, by rw [upd_ne n23]; exact e3, upd_same, ?_, fun q4 nq4 => ?_⟩
              · rw [ect, pv_len]
                exact fit _ (show 1 + M.length ≤ 10000 by omega)
              · refine ⟨_, _, _, q4, (b ^^^ a) :: M, cut (pw b ++ y), rfl, Same.to s4 (same_new nq4), none_of s4 nq4, ?_, ri rI, by omega, by rw [List.length_cons]; omega, .inr (by rw [List.length_cons]; omega)⟩
                rw [upd_same, ect, c1]
                rfl
          · refine iteDF (fun z => ht (t1.symm.trans ((V.bl.inj z).trans t2))) ?_
            refine ⟨_, _, _, q1, a :: (M ++ [b]), y, rfl, sm, nq1, eq1, hI, by omega, lL, .inl fun a' b' ha' hb' _ => ?_⟩
            cases ha'
            rw [← List.cons_append, List.getLast?_concat] at hb'
            cases hb'
            exact ht
        · refine iteDF (by omega) ?_
          exact iteF ⟨_, _, _, q1, L, y, rfl, sm, nq1, eq1, hI, by omega, lL, .inl fun _ _ _ _ h => absurd h hl⟩
    · refine .inl ⟨by show cs.length ≤ i; omega, ?_⟩
      have i0 : i = cs.length := by omega
      have done : Done L := by
        rcases hD with h | h
        · exact h
        · have z : L = [] := List.length_eq_zero_iff.mp (by omega)
          subst z
          exact fun a b ha => by cases ha
      refine ⟨.ref q1, rfl, q1, PV L, rfl, .inl (.inl (.inl eq1)), ((PV L).length : Int), 1, rfl, rfl, _, rfl, ?_⟩
      rw [pv_len]
      have fin : ∀ (L' y' : List Nat) (q2 : Addr) (H4 : Hp) (r1 r4 r5 : Option V), Same H H4 → H q2 = none → H4 q2 = some (.lst (PV L')) → RingC u L' y' →
          (tTup (tCons (tVar 2) (tCons (tVar 3) tNil))) [some (.str (S u)), r1, some (.ref q2), some (.str (S y')), r4, r5] H4 (fun x H' => Q x H') := by
        intro L' y' q2 H4 r1 r4 r5 s4 n2 e2 hR
        refine ⟨.ref q2, rfl, .str (S y'), rfl, by show 2 ≤ sizeLine; decide, fun p np => ?_⟩
        exact q L' y' p q2 _ (Same.to s4 (same_new np)) (none_of s4 np) n2 (same_new np _ _ e2) upd_same hR
      by_cases hl : 1 < L.length
      · refine iteDT (by omega) ?_
        obtain ⟨a, ha⟩ : ∃ a, L.head? = some a := by
          cases L with
          | nil => exact absurd hl (by simp)
          | cons a r => exact ⟨a, rfl⟩
        obtain ⟨b, hb⟩ : ∃ b, L.getLast? = some b := ⟨_, List.getLast?_eq_getLast (fun z => by rw [z] at ha; cases ha)⟩
        have dab := done a b ha hb hl
        obtain ⟨M, rfl⟩ := ends_split ha hb hl
        have ca : Cd a := altL.head
        have cb : Cd b := altL.all b (by simp)
        have t1 := pw_one ca
        refine ⟨.ref q1, rfl, q1, PV (a :: (M ++ [b])), 0, .str (S (pw a)), rfl, rfl, .inl (.inl eq1), atI_nat (j := 0) rfl, rfl, _, rfl, ?_⟩
        by_cases a4 : a = 4
        · have wy' : Wd ([49] ++ y) := wd_append.mpr ⟨fun c hc => by rw [List.mem_singleton.mp hc]; exact .inr (.inl rfl), hI.wd⟩
          have ly' : ([49] ++ y).length ≤ 300 := by
            rw [List.length_append]
            show 1 + y.length ≤ 300
            omega
          have lcy := cut_len _ _ rfl wy'
          refine iteDT (of_decide_eq_true (t1.trans (decide_eq_true a4))) ?_
          refine ⟨.ref q1, rfl, 1, rfl, q1, PV (a :: (M ++ [b])), rfl, .inl (.inl eq1), fun q2 nq2 => ?_⟩
          have s2 := Same.to sm (same_new (o := .lst (cutV (PV (a :: (M ++ [b]))) (some 1) none)) nq2)
          have e2 : (upd H3 q2 (.lst (cutV (PV (a :: (M ++ [b]))) (some 1) none))) q2 = some (.lst (cutV (PV (a :: (M ++ [b]))) (some 1) none)) := upd_same
          refine ⟨by show 1 ≤ sizeLine; decide, fun q3 nq3 => ?_⟩
          have n23 : q2 ≠ q3 := ne_of_none e2 nq3
          have s3 := Same.to s2 (same_new (o := .lst [.str (S [49])]) nq3)
          have ect : cutV (PV (a :: (M ++ [b]))) (some 1) none = PV (M ++ [b]) := cut_tail _ _
          refine ⟨q2, q3, cutV (PV (a :: (M ++ [b]))) (some 1) none, [.str (S [49])], rfl, rfl, by rw [upd_ne n23]; exact e2, upd_same, ?_, fun q4 nq4 => ?_⟩
          · rw [ect, pv_len]
            exact fit _ (by simp only [List.length_cons, List.length_append, List.length_nil] at lL ⊢; omega)
          · have s4 := Same.to s3 (same_new (o := .lst (cutV (PV (a :: (M ++ [b]))) (some 1) none ++ [.str (S [49])])) nq4)
            refine ⟨.str (S y), rfl, S [49], S y, rfl, rfl, fit _ (show 1 + y.length ≤ 10000 by omega), [49] ++ y, congrArg (fun z => [V.str z]) (s_app _ _), ⟨wy', by omega⟩, _, _, rfl, ?_⟩
            refine fin (M ++ [b] ++ [4]) (cut ([49] ++ y)) q4 _ _ _ _ s4 (none_of s3 nq4) ?_ ⟨?_, cut_wd wy', ?_, .inr ⟨?_, ?_, ⟨_, rfl⟩⟩, by omega, ?_⟩
            · rw [upd_same, ect, pv_app (M ++ [b]) [4]]
              rfl
            · obtain ⟨h1, h2, h3⟩ := alt_cons.mp altL
              refine alt_app.mpr ⟨h2, (show Cd 4 by decide), fun x y hx hy => ?_⟩
              cases hy
              rw [List.getLast?_concat] at hx
              cases hx
              rw [a4] at dab
              exact dab.symm
            · subst a4
              have ey : E2 (cut ([49] ++ y)) ([49] ++ y) := e2_of (cut_wd wy') wy' (cut_cut wy')
              have eyr : E2 (cut ([49] ++ y)).reverse (y.reverse ++ [49]) := by
                have h1 : E2 (cut ([49] ++ y)).reverse ([49] ++ y).reverse := e2_of (wd_rev.mpr (cut_wd wy')) (wd_rev.mpr wy') (cut_rev wy')
                rw [List.reverse_append] at h1
                exact h1
              have w49 : Wd [49] := pw_wd 4
              have wfl := flat_wd (M ++ [b])
              have g1 : E2 ((cut ([49] ++ y)).reverse ++ flat (M ++ [b] ++ [4]) ++ cut ([49] ++ y)) ((y.reverse ++ [49]) ++ (flat (M ++ [b]) ++ [49]) ++ ([49] ++ y)) := by
                refine E2.app (wd_append.mpr ⟨wd_rev.mpr (cut_wd wy'), flat_wd _⟩) (E2.app (wd_rev.mpr (cut_wd wy')) eyr ?_) ey
                rw [flat_app (M ++ [b]) [4]]
                exact E2.id _
              have g2 : (y.reverse ++ [49]) ++ (flat (M ++ [b]) ++ [49]) ++ ([49] ++ y) = (y.reverse ++ ([49] ++ flat (M ++ [b]))) ++ (([49] ++ [49]) ++ y) := by simp only [List.append_assoc]
              rw [g2] at g1
              have g3 : E2 ((y.reverse ++ ([49] ++ flat (M ++ [b]))) ++ (([49] ++ [49]) ++ y)) ((y.reverse ++ ([49] ++ flat (M ++ [b]))) ++ ([] ++ y)) :=
                E2.app (wd_append.mpr ⟨wd_rev.mpr hI.wd, wd_append.mpr ⟨w49, wfl⟩⟩) (E2.id _) (E2.app (wd_append.mpr ⟨w49, w49⟩) (pw_twice (c := 4) (by decide)) (E2.id _))
              exact g1.trans (g3.trans hI.eq)
            · obtain ⟨h1, h2, h3⟩ := alt_cons.mp altL
              refine alt_app.mpr ⟨h2, (show Cd 4 by decide), fun x y hx hy => ?_⟩
              cases hy
              rw [List.getLast?_concat] at hx
              cases hx
              rw [a4] at dab
              exact dab.symm
            · obtain ⟨h1, h2, h3⟩ := alt_cons.mp altL
              cases M with
              | nil =>
                refine ⟨b, _, rfl, fun z => ?_⟩
                exact dab (by rw [a4, z])
              | cons x r =>
                refine ⟨x, _, rfl, fun z => ?_⟩
                exact h3 x rfl (by rw [a4, z])
            · simp only [List.length_cons, List.length_append, List.length_nil] at lL ⊢
              omega
        · refine iteDF (fun z => a4 (of_decide_eq_true (t1.symm.trans (decide_eq_true z)))) ?_
          have b4 : b = 4 := by
            by_cases e : b = 4
            · exact e
            · exact absurd (show Ty a = Ty b by unfold Ty; rw [decide_eq_false a4, decide_eq_false e]) dab
          subst b4
          exact fin _ y q1 H3 _ _ _ sm nq1 eq1 ⟨altL, hI.wd, hI.eq, .inr ⟨altL, ⟨a, _, rfl, a4⟩, ⟨a :: M, rfl⟩⟩, by omega, by omega⟩
      · refine iteDF (by omega) ?_
        exact iteF (fin L y q1 H3 _ _ _ sm nq1 eq1 ⟨altL, hI.wd, hI.eq, .inl (by omega), by omega, by omega⟩)
end
end K7

namespace K7
open PySem PySem.Spec PyProof.Rows L2 Nr Nw
/-! ### words in their order -/
def fibp : Nat → Nat × Nat
  | 0 => (1, 1)
  | n + 1 => ((fibp n).2, (fibp n).1 + (fibp n).2)
def tl (n : Nat) : Nat := (fibp n).1
theorem tl_2 (n : Nat) : tl (n + 2) = tl n + tl (n + 1) := rfl
theorem tl_0 : tl 0 = 1 := rfl
theorem tl_1 : tl 1 = 1 := rfl
theorem tl_pos : ∀ n, 1 ≤ tl n
  | 0 => Nat.le_refl _
  | 1 => Nat.le_refl _
  | n + 2 => by
    rw [tl_2]
    have := tl_pos n
    omega
def ways (s many : Nat) : Nat := if s = 50 then tl many else tl (many + 1)
theorem ways_pos (s many : Nat) : 1 ≤ ways s many := by
  unfold ways
  split <;> exact tl_pos _
/-- what may stand behind a sign; 0: at the beginning -/
def beh (a : Nat) : List Nat := if a = 48 then [49, 50] else if a = 49 then [48, 50] else if a = 50 then [49] else [48, 49, 50]
theorem beh_cases (a : Nat) : (a = 48 ∧ beh a = [49, 50]) ∨ (a = 49 ∧ beh a = [48, 50]) ∨ (a = 50 ∧ beh a = [49]) ∨ (a ≠ 48 ∧ a ≠ 49 ∧ a ≠ 50 ∧ beh a = [48, 49, 50]) := by
  unfold beh
  by_cases h1 : a = 48
  · exact .inl ⟨h1, if_pos h1⟩
  · by_cases h2 : a = 49
    · exact .inr (.inl ⟨h2, by rw [if_neg h1, if_pos h2]⟩)
    · by_cases h3 : a = 50
      · exact .inr (.inr (.inl ⟨h3, by rw [if_neg h1, if_neg h2, if_pos h3]⟩))
      · exact .inr (.inr (.inr ⟨h1, h2, h3, by rw [if_neg h1, if_neg h2, if_neg h3]⟩))
theorem beh_up (a : Nat) : (beh a).Pairwise (· < ·) := by
  rcases beh_cases a with ⟨_, h⟩ | ⟨_, h⟩ | ⟨_, h⟩ | ⟨_, _, _, h⟩ <;> rw [h] <;> decide
theorem beh_sg {a s : Nat} (h : s ∈ beh a) : Sg s := by
  rcases beh_cases a with ⟨_, e⟩ | ⟨_, e⟩ | ⟨_, e⟩ | ⟨_, _, _, e⟩ <;> rw [e] at h <;> simp only [List.mem_cons, List.not_mem_nil, or_false] at h
  · rcases h with z | z
    · exact .inr (.inl z)
    · exact .inr (.inr z)
  · rcases h with z | z
    · exact .inl z
    · exact .inr (.inr z)
  · exact .inr (.inl h)
  · exact h
theorem fl_pos {x s : Nat} (h : x < s) (r : List Nat) : (x :: r).filter (fun o => decide (o < s)) = x :: r.filter (fun o => decide (o < s)) := by simp [List.filter_cons, h]
def sumW (l : List Nat) (many : Nat) : Nat := (l.map fun s => ways s many).sum
theorem sumW_cons (s : Nat) (l : List Nat) (many : Nat) : sumW (s :: l) many = ways s many + sumW l many := rfl
theorem sumW_nil (many : Nat) : sumW [] many = 0 := rfl
def cnt (a : Nat) : Nat → Nat
  | 0 => 1
  | L + 1 => sumW (beh a) L
theorem ways_cnt {s : Nat} (hs : Sg s) : ∀ L, ways s L = cnt s L
  | 0 => by rcases hs with e | e | e <;> subst e <;> rfl
  | L + 1 => by
    rcases hs with e | e | e <;> subst e
    · show tl (L + 2) = ways 49 L + (ways 50 L + 0)
      rw [tl_2]
      show _ = tl (L + 1) + (tl L + 0)
      omega
    · show tl (L + 2) = ways 48 L + (ways 50 L + 0)
      rw [tl_2]
      show _ = tl (L + 1) + (tl L + 0)
      omega
    · show tl (L + 1) = ways 49 L + 0
      rfl
def Al (a : Nat) : List Nat → Prop
  | [] => True
  | s :: r => s ∈ beh a ∧ Al s r
def rk (a : Nat) : List Nat → Nat
  | [] => 0
  | s :: r => sumW ((beh a).filter fun o => decide (o < s)) r.length + rk s r
theorem rk_cons (a s : Nat) (r : List Nat) : rk a (s :: r) = sumW ((beh a).filter fun o => decide (o < s)) r.length + rk s r := rfl
def pick : List Nat → Nat → Nat → Nat × Nat
  | [], n, _ => (0, n)
  | s :: r, n, many => if n < ways s many then (s, n) else pick r (n - ways s many) many
theorem pick_ok : ∀ {l : List Nat} {n many : Nat}, l.Pairwise (· < ·) → n < sumW l many → (pick l n many).1 ∈ l ∧ (pick l n many).2 < ways (pick l n many).1 many ∧ sumW (l.filter fun o => decide (o < (pick l n many).1)) many + (pick l n many).2 = n
  | [], n, many, _, h => absurd h (Nat.not_lt_zero _)
  | s :: r, n, many, hp, h => by
    obtain ⟨h1, h2⟩ := List.pairwise_cons.mp hp
    unfold pick
    by_cases c : n < ways s many
    · rw [if_pos c]
      refine ⟨List.mem_cons_self, c, ?_⟩
      have : (s :: r).filter (fun o => decide (o < s)) = [] := List.filter_eq_nil_iff.mpr fun o ho z => by
        have z := of_decide_eq_true z
        rcases List.mem_cons.mp ho with e | e
        · omega
        · have := h1 o e
          omega
      show sumW ((s :: r).filter fun o => decide (o < s)) many + n = n
      rw [this, sumW_nil, Nat.zero_add]
    · rw [if_neg c]
      rw [sumW_cons] at h
      obtain ⟨a, b, d⟩ := pick_ok (many := many) (n := n - ways s many) h2 (by omega)
      refine ⟨List.mem_cons_of_mem _ a, b, ?_⟩
      have : s < (pick r (n - ways s many) many).1 := h1 _ a
      rw [fl_pos this, sumW_cons]
      omega
theorem pick_at : ∀ {l : List Nat} {s m many : Nat}, l.Pairwise (· < ·) → s ∈ l → m < ways s many → pick l (sumW (l.filter fun o => decide (o < s)) many + m) many = (s, m)
  | [], s, m, many, _, h, _ => by cases h
  | x :: r, s, m, many, hp, h, hm => by
    obtain ⟨h1, h2⟩ := List.pairwise_cons.mp hp
    unfold pick
    rcases List.mem_cons.mp h with e | e
    · subst e
      have : (s :: r).filter (fun o => decide (o < s)) = [] := List.filter_eq_nil_iff.mpr fun o ho z => by
        have z := of_decide_eq_true z
        rcases List.mem_cons.mp ho with e | e
        · omega
        · have := h1 o e
          omega
      rw [this, sumW_nil, Nat.zero_add, if_pos hm]
    · have hx : x < s := h1 s e
      rw [fl_pos hx, sumW_cons, if_neg (by omega)]
      have : ways x many + sumW (r.filter fun o => decide (o < s)) many + m - ways x many = sumW (r.filter fun o => decide (o < s)) many + m := by omega
      rw [this]
      exact pick_at h2 e hm
def unr (a n : Nat) : Nat → List Nat
  | 0 => []
  | L + 1 => (pick (beh a) n L).1 :: unr (pick (beh a) n L).1 (pick (beh a) n L).2 L
theorem unr_len (a n : Nat) : ∀ L, (unr a n L).length = L
  | 0 => rfl
  | L + 1 => congrArg (· + 1) (unr_len _ _ L)
theorem unr_ok : ∀ {L a n : Nat}, n < cnt a L → Al a (unr a n L) ∧ rk a (unr a n L) = n
  | 0, a, n, h => ⟨trivial, by have : cnt a 0 = 1 := rfl; show 0 = n; omega⟩
  | L + 1, a, n, h => by
    obtain ⟨h1, h2, h3⟩ := pick_ok (beh_up a) h
    rw [ways_cnt (beh_sg h1)] at h2
    obtain ⟨i1, i2⟩ := unr_ok h2
    refine ⟨⟨h1, i1⟩, ?_⟩
    show rk a ((pick (beh a) n L).1 :: unr (pick (beh a) n L).1 (pick (beh a) n L).2 L) = n
    rw [rk_cons, unr_len, i2]
    exact h3
theorem rk_lt : ∀ {u : List Nat} {a : Nat}, Al a u → rk a u < cnt a u.length
  | [], a, _ => Nat.one_pos
  | s :: r, a, h => by
    have i := rk_lt h.2
    rw [← ways_cnt (beh_sg h.1)] at i
    rw [rk_cons]
    have : ∀ l : List Nat, l.Pairwise (· < ·) → s ∈ l → sumW (l.filter fun o => decide (o < s)) r.length + ways s r.length ≤ sumW l r.length := by
      intro l hp hs
      induction l with
      | nil => cases hs
      | cons x t ih =>
        obtain ⟨h1, h2⟩ := List.pairwise_cons.mp hp
        rcases List.mem_cons.mp hs with e | e
        · subst e
          have : (s :: t).filter (fun o => decide (o < s)) = [] := List.filter_eq_nil_iff.mpr fun o ho z => by
            have z := of_decide_eq_true z
            rcases List.mem_cons.mp ho with e | e
            · omega
            · have := h1 o e
              omega
          rw [this, sumW_nil, sumW_cons]
          omega
        · rw [fl_pos (h1 s e), sumW_cons, sumW_cons]
          have := ih h2 e
          omega
    have := this (beh a) (beh_up a) h.1
    show _ < sumW (beh a) r.length
    omega
theorem unr_rk : ∀ {u : List Nat} {a : Nat}, Al a u → unr a (rk a u) u.length = u
  | [], a, _ => rfl
  | s :: r, a, h => by
    have i := rk_lt h.2
    rw [← ways_cnt (beh_sg h.1)] at i
    have p := pick_at (beh_up a) h.1 i
    rw [← rk_cons] at p
    show (pick (beh a) (rk a (s :: r)) r.length).1 :: unr (pick (beh a) (rk a (s :: r)) r.length).1 (pick (beh a) (rk a (s :: r)) r.length).2 r.length = s :: r
    rw [p]
    exact congrArg (s :: ·) (unr_rk h.2)
theorem al_fw : ∀ {u : List Nat} {a : Nat}, Al a u → Fw u ∧ ∀ s, u.head? = some s → s ∈ beh a
  | [], a, _ => ⟨trivial, fun s h => by cases h⟩
  | [s], a, h => ⟨beh_sg h.1, fun t e => by cases e; exact h.1⟩
  | s :: t :: r, a, h => by
    obtain ⟨f, g⟩ := al_fw h.2
    refine ⟨⟨beh_sg h.1, ?_, f⟩, fun t e => by cases e; exact h.1⟩
    have := h.2.1
    have hs := beh_sg h.1
    rcases hs with e | e | e <;> subst e <;> simp [beh] at this <;> (try rcases this with z | z) <;> (try subst z) <;> (try subst this) <;> constructor <;> decide
theorem fw_al : ∀ {u : List Nat} {a : Nat}, Fw u → (∀ s, u.head? = some s → s ∈ beh a) → Al a u
  | [], a, _, _ => trivial
  | [s], a, f, h => ⟨h s rfl, trivial⟩
  | s :: t :: r, a, f, h => by
    refine ⟨h s rfl, fw_al f.tail fun x e => ?_⟩
    cases e
    have hs := f.head
    have ht := f.tail.head
    obtain ⟨n1, n2⟩ := f.nb
    rcases hs with e | e | e <;> subst e <;> rcases ht with z | z | z <;> subst z <;> first | exact absurd rfl n1 | exact absurd ⟨rfl, rfl⟩ n2 | decide
theorem fw_al0 {u : List Nat} (h : Fw u) : Al 0 u := fw_al h fun s e => by
  have : Sg s := by
    cases u with
    | nil => cases e
    | cons x r => cases e; exact h.head
  rcases this with z | z | z <;> subst z <;> decide
def base : Nat → Nat
  | 0 => 0
  | L + 1 => base L + cnt 0 L
theorem cnt_pos (a : Nat) : ∀ L, 1 ≤ cnt a L
  | 0 => Nat.le_refl _
  | L + 1 => by
    rcases beh_cases a with ⟨_, h⟩ | ⟨_, h⟩ | ⟨_, h⟩ | ⟨_, _, _, h⟩ <;> (show 1 ≤ sumW (beh a) L; rw [h, sumW_cons]; have := fun s => ways_pos s L; have := this 48; have := ways_pos 49 L; omega)
theorem base_mono {L M : Nat} (h : L ≤ M) : base L ≤ base M := by
  induction h with
  | refl => exact Nat.le_refl _
  | step _ ih => exact Nat.le_trans ih (Nat.le_add_right _ _)
def num (u : List Nat) : Nat := base u.length + rk 0 u
theorem num_len {u v : List Nat} (hu : Fw u) (hv : Fw v) (h : num u = num v) : u.length = v.length := by
  have a := rk_lt (fw_al0 hu)
  have b := rk_lt (fw_al0 hv)
  unfold num at h
  rcases Nat.lt_trichotomy u.length v.length with c | c | c
  · have m : base (u.length + 1) ≤ base v.length := base_mono c
    have e : base (u.length + 1) = base u.length + cnt 0 u.length := rfl
    omega
  · exact c
  · have m : base (v.length + 1) ≤ base u.length := base_mono c
    have e : base (v.length + 1) = base v.length + cnt 0 v.length := rfl
    omega
theorem num_inj {u v : List Nat} (hu : Fw u) (hv : Fw v) (h : num u = num v) : u = v := by
  have l := num_len hu hv h
  have e : rk 0 u = rk 0 v := by
    unfold num at h
    rw [l] at h
    omega
  rw [← unr_rk (fw_al0 hu), ← unr_rk (fw_al0 hv), e, l]
theorem unr_num {L n : Nat} (h : n < cnt 0 L) : Fw (unr 0 n L) ∧ num (unr 0 n L) = base L + n := by
  obtain ⟨a, b⟩ := unr_ok h
  refine ⟨(al_fw a).1, ?_⟩
  unfold num
  rw [unr_len, b]
/-! ### the next word -/
def prv (a : Nat) : List Nat → Nat
  | [] => a
  | s :: r => prv s r
def lst0 (a : Nat) : Nat → List Nat
  | 0 => []
  | m + 1 => (if a = 48 ∨ a = 50 then 49 else 48) :: lst0 (if a = 48 ∨ a = 50 then 49 else 48) m
theorem lst0_len (a : Nat) : ∀ m, (lst0 a m).length = m
  | 0 => rfl
  | m + 1 => congrArg (· + 1) (lst0_len _ m)
theorem lst0_ok : ∀ (m a : Nat), Al a (lst0 a m) ∧ rk a (lst0 a m) = 0
  | 0, a => ⟨trivial, rfl⟩
  | m + 1, a => by
    obtain ⟨i1, i2⟩ := lst0_ok m (if a = 48 ∨ a = 50 then 49 else 48)
    have h : (if a = 48 ∨ a = 50 then 49 else 48) ∈ beh a ∧ (beh a).filter (fun o => decide (o < (if a = 48 ∨ a = 50 then 49 else 48))) = [] := by
      rcases beh_cases a with ⟨e, h⟩ | ⟨e, h⟩ | ⟨e, h⟩ | ⟨e1, e2, e3, h⟩
      · subst e; decide
      · subst e; decide
      · subst e; decide
      · rw [if_neg (by omega), h]; decide
    refine ⟨⟨h.1, i1⟩, ?_⟩
    show rk a ((if a = 48 ∨ a = 50 then 49 else 48) :: lst0 (if a = 48 ∨ a = 50 then 49 else 48) m) = 0
    rw [rk_cons, h.2, i2]
    rfl
theorem rk_swap : ∀ (x : List Nat) {a : Nat} {y z : List Nat}, y.length = z.length → rk a (x ++ y) + rk (prv a x) z = rk a (x ++ z) + rk (prv a x) y
  | [], a, y, z, _ => Nat.add_comm _ _
  | s :: r, a, y, z, h => by
    have i := rk_swap r (a := s) h
    show rk a (s :: (r ++ y)) + rk (prv s r) z = rk a (s :: (r ++ z)) + rk (prv s r) y
    rw [rk_cons, rk_cons, List.length_append, List.length_append, h]
    omega
theorem al_app : ∀ {x : List Nat} {a : Nat} {y : List Nat}, Al a (x ++ y) ↔ Al a x ∧ Al (prv a x) y
  | [], a, y => ⟨fun h => ⟨trivial, h⟩, fun h => h.2⟩
  | s :: r, a, y => by
    show (s ∈ beh a ∧ Al s (r ++ y)) ↔ (s ∈ beh a ∧ Al s r) ∧ Al (prv s r) y
    rw [al_app]
    exact ⟨fun h => ⟨⟨h.1, h.2.1⟩, h.2.2⟩, fun h => ⟨h.1.1, h.1.2, h.2⟩⟩
/-- the first thing behind a that is greater than s -/
def nxt1 (a s : Nat) : Option Nat := (beh a).find? fun o => decide (s < o)
theorem nxt_some {a s o : Nat} (hs : s ∈ beh a) (h : nxt1 a s = some o) (many : Nat) : o ∈ beh a ∧ sumW ((beh a).filter fun x => decide (x < o)) many = sumW ((beh a).filter fun x => decide (x < s)) many + ways s many := by
  unfold nxt1 at h
  rcases beh_cases a with ⟨e, h2⟩ | ⟨e, h2⟩ | ⟨e, h2⟩ | ⟨_, _, _, h2⟩ <;> rw [h2] at hs h ⊢ <;> simp only [List.mem_cons, List.not_mem_nil, or_false] at hs
  · rcases hs with z | z <;> subst z
    · cases h; exact ⟨by decide, by show ways 49 many + 0 = 0 + ways 49 many; omega⟩
    · cases h
  · rcases hs with z | z <;> subst z
    · cases h; exact ⟨by decide, by show ways 48 many + 0 = 0 + ways 48 many; omega⟩
    · cases h
  · subst hs; cases h
  · rcases hs with z | z | z <;> subst z
    · cases h; exact ⟨by decide, by show ways 48 many + 0 = 0 + ways 48 many; omega⟩
    · cases h; exact ⟨by decide, by show ways 48 many + (ways 49 many + 0) = ways 48 many + 0 + ways 49 many; omega⟩
    · cases h
theorem nxt_none {a s : Nat} (hs : s ∈ beh a) (h : nxt1 a s = none) (many : Nat) : sumW ((beh a).filter fun x => decide (x < s)) many + ways s many = sumW (beh a) many := by
  unfold nxt1 at h
  rcases beh_cases a with ⟨e, h2⟩ | ⟨e, h2⟩ | ⟨e, h2⟩ | ⟨_, _, _, h2⟩ <;> rw [h2] at hs h ⊢ <;> simp only [List.mem_cons, List.not_mem_nil, or_false] at hs
  · rcases hs with z | z <;> subst z
    · cases h
    · show ways 49 many + 0 + ways 50 many = ways 49 many + (ways 50 many + 0); omega
  · rcases hs with z | z <;> subst z
    · cases h
    · show ways 48 many + 0 + ways 50 many = ways 48 many + (ways 50 many + 0); omega
  · subst hs
    show 0 + ways 49 many = ways 49 many + 0; omega
  · rcases hs with z | z | z <;> subst z
    · cases h
    · cases h
    · show ways 48 many + (ways 49 many + 0) + ways 50 many = ways 48 many + (ways 49 many + (ways 50 many + 0)); omega
/-- the rest behind place p is the last of its kind -/
def Full (u : List Nat) (p : Nat) : Prop := ∀ x s y, u = x ++ s :: y → x.length + 1 = p → rk s y + 1 = cnt s y.length
/-- v is the next word -/
def Nxt (u v : List Nat) : Prop := Fw v ∧ num v = num u + 1
theorem nxt_found {x y : List Nat} {s o : Nat} (fu : Fw (x ++ s :: y)) (full : rk s y + 1 = cnt s y.length) (h : nxt1 (prv 0 x) s = some o) : Nxt (x ++ s :: y) (x ++ o :: lst0 o y.length) := by
  obtain ⟨a1, a2⟩ := al_app.mp (fw_al0 fu)
  obtain ⟨o1, o2⟩ := nxt_some a2.1 h y.length
  obtain ⟨l1, l2⟩ := lst0_ok y.length o
  have ln := lst0_len o y.length
  have len : (s :: y).length = (o :: lst0 o y.length).length := by simp [ln]
  have ay : Al (prv 0 x) (o :: lst0 o y.length) := ⟨o1, l1⟩
  refine ⟨(al_fw (al_app.mpr ⟨a1, ay⟩)).1, ?_⟩
  have sw := rk_swap x (a := 0) len
  rw [rk_cons, rk_cons, ln, l2, o2] at sw
  unfold num
  rw [List.length_append, List.length_append, ← len]
  rw [ways_cnt (beh_sg a2.1)] at sw
  omega
theorem nxt_over {x y : List Nat} {s : Nat} (fu : Fw (x ++ s :: y)) (full : rk s y + 1 = cnt s y.length) (h : nxt1 (prv 0 x) s = none) : rk (prv 0 x) (s :: y) + 1 = cnt (prv 0 x) (s :: y).length := by
  obtain ⟨a1, a2⟩ := al_app.mp (fw_al0 fu)
  have o := nxt_none a2.1 h y.length
  rw [ways_cnt (beh_sg a2.1)] at o
  rw [rk_cons]
  show _ = sumW (beh (prv 0 x)) y.length
  omega
theorem nxt_last {u : List Nat} (fu : Fw u) (h : rk 0 u + 1 = cnt 0 u.length) : Nxt u (lst0 0 (u.length + 1)) := by
  obtain ⟨l1, l2⟩ := lst0_ok (u.length + 1) 0
  refine ⟨(al_fw l1).1, ?_⟩
  unfold num
  rw [lst0_len, l2]
  show base u.length + cnt 0 u.length + 0 = _
  omega
theorem nxt_fun {u v w : List Nat} (h : Nxt u v) (k : Nxt u w) : v = w := num_inj h.1 k.1 (h.2.trans k.2.symm)
theorem base_num (L : Nat) : Fw (lst0 0 L) ∧ num (lst0 0 L) = base L := by
  obtain ⟨l1, l2⟩ := lst0_ok L 0
  refine ⟨(al_fw l1).1, ?_⟩
  unfold num
  rw [lst0_len, l2]
  rfl
end K7

namespace K7
open PySem PySem.Spec PyProof.Rows L2 Nr Nw
theorem for_str {u : List Nat} {g : TG} {tb : TS} {D : Ends} {σ : L2.St} {H : Hp} (Pv : Nat → L2.St → Hp → Prop) (h0 : Pv 0 σ H)
    (hs : ∀ i c σ H, u[i]? = some c → Pv i σ H → g (.str (S [c])) σ H fun σ2 H2 => tb { D with nx := Pv (i + 1), ct := Pv (i + 1), bk := D.nx } σ2 H2) (hd : ∀ σ H, Pv u.length σ H → D.nx σ H) :
    ∃ W : Nat → Nat → L2.St → Hp → Prop, (∃ m, W 0 m σ H) ∧ ∀ i m σ H, W i m σ H →
      ((Its (S u)).stop i H ∧ D.nx σ H) ∨ ((Its (S u)).go i H ∧ ∃ N : L2.St → Hp → Prop, (∀ σ' H', N σ' H' → ∃ m', m' < m ∧ W (i + 1) m' σ' H') ∧ ∀ x H', (Its (S u)).yld i H x H' → g x σ H' fun σ2 H2 => tb { D with nx := N, ct := N, bk := D.nx } σ2 H2) := by
  refine ⟨fun i m σ H => m = u.length - i ∧ i ≤ u.length ∧ Pv i σ H, ⟨u.length, by simp, Nat.zero_le _, h0⟩, ?_⟩
  rintro i m σ H ⟨rfl, hi, p⟩
  by_cases hlt : i < u.length
  · refine .inr ⟨hlt, Pv (i + 1), fun σ' H' p' => ⟨u.length - (i + 1), by omega, rfl, hlt, p'⟩, fun x H' y => ?_⟩
    obtain ⟨e, c, hc, e2⟩ := y
    subst e e2
    exact hs i c σ _ (List.getElem?_toArray.symm.trans hc) p
  · have e : i = u.length := by omega
    subst e
    exact .inl ⟨Nat.le_refl _, hd σ H p⟩
theorem lc_str {u : List Nat} {g : TG} {tt : TT} {te : TE} {vs : List Nat} {σ : L2.St} {H1 : Hp} {D : Addr} {Qd : Hp → Prop} (Pv : Nat → Hp → Prop) (h0 : Pv 0 (upd H1 D (.lst [])))
    (hs : ∀ i c H, u[i]? = some c → Pv i H → g (.str (S [c])) (wipe σ vs) H fun σ2 H2 => wipe σ2 vs = wipe σ vs ∧ tt σ2 H2 fun b H3 =>
      if b = true then te σ2 H3 fun y H4 => ∃ acc, H4 D = some (.lst acc) ∧ acc.length < sizeLine ∧ Pv (i + 1) (upd H4 D (.lst (acc ++ [y]))) else Pv (i + 1) H3) (hd : ∀ H, Pv u.length H → Qd H) :
    ∃ W : Nat → Nat → Hp → Prop, (∃ m, W 0 m (upd H1 D (.lst []))) ∧ ∀ i m H, W i m H →
      ((Its (S u)).stop i H ∧ Qd H) ∨ ((Its (S u)).go i H ∧ ∃ Nx : Hp → Prop, (∀ H', Nx H' → ∃ m', m' < m ∧ W (i + 1) m' H') ∧ ∀ x H', (Its (S u)).yld i H x H' → g x (wipe σ vs) H' fun σ2 H2 => wipe σ2 vs = wipe σ vs ∧ tt σ2 H2 fun b H3 =>
        if b = true then te σ2 H3 fun y H4 => ∃ acc, H4 D = some (.lst acc) ∧ acc.length < sizeLine ∧ Nx (upd H4 D (.lst (acc ++ [y]))) else Nx H3) := by
  refine ⟨fun i m H => m = u.length - i ∧ i ≤ u.length ∧ Pv i H, ⟨u.length, by simp, Nat.zero_le _, h0⟩, ?_⟩
  rintro i m H ⟨rfl, hi, p⟩
  by_cases hlt : i < u.length
  · refine .inr ⟨hlt, Pv (i + 1), fun H' p' => ⟨u.length - (i + 1), by omega, rfl, hlt, p'⟩, fun x H' y => ?_⟩
    obtain ⟨e, c, hc, e2⟩ := y
    subst e e2
    exact hs i c _ (List.getElem?_toArray.symm.trans hc) p
  · have e : i = u.length := by omega
    subst e
    exact .inl ⟨Nat.le_refl _, hd H p⟩
theorem atI_last2 {α : Type} (xs : List α) (u v : α) : atI (xs ++ [u, v]) (-2) = some u := by
  unfold atI ixN
  have hl : (xs ++ [u, v]).length = xs.length + 2 := by simp
  rw [if_neg (by decide), if_pos (by rw [hl]; omega)]
  have e : ((-2 : Int) + ((xs ++ [u, v]).length : Nat)).toNat = xs.length := by rw [hl]; omega
  show (xs ++ [u, v])[((-2 : Int) + ((xs ++ [u, v]).length : Nat)).toNat]? = some u
  rw [e, List.getElem?_append_right (Nat.le_refl _), Nat.sub_self]
  rfl
def tlist (n : Nat) : List Nat := (List.range n).map tl
theorem tlist_len (n : Nat) : (tlist n).length = n := by unfold tlist; simp
theorem tlist_get {n i : Nat} (h : i < n) : (tlist n)[i]? = some (tl i) := by
  unfold tlist
  rw [List.getElem?_map, List.getElem?_range h]
  rfl
theorem tlist_succ (n : Nat) : tlist (n + 1) = tlist n ++ [tl n] := by
  unfold tlist
  rw [List.range_succ, List.map_append]
  rfl
section
variable {P : Program} {w : World} {K : PySem.W.Frag} {mg : Str → Option Value} {base : Heap}
def spDrawW : Sp := fun vs H Q _ => ∃ (m lc lg : Addr) (k : Nat) (z : Int), vs = [.ref m, .int z] ∧ (0 < z ∧ z < 10 ^ 70) ∧ MS H m lc lg k ∧ k < 900000 ∧
  ∀ (d : Nat) (H' : Hp), (d : Int) < z → MS H' m lc lg (k + 1) → Off m lg H H' → Q (.int (d : Int)) H'
theorem ok_drawW (T : Txt w K mg) : Ok P w K mg base 2 "_law_draw" ["m", "limit"] spDrawW := by
  refine ok_of T.fLawDraw fun f fd F => ?_
  refine F.ok scLawDraw (fun vs H Q E h => ?_) (fun cdv A outer s H vs Q E hr h => ?_)
  · obtain ⟨m, lc, lg, k, z, rfl, _⟩ := h
    rfl
  · obtain ⟨m, lc, lg, k, z, rfl, ⟨z0, z1⟩, ⟨d1, d2, d3, ⟨n, hn, em⟩, ⟨fs, ef, hf⟩, gs, hg, eg⟩, hk, q⟩ := h
    have hu := hu_of hr
    refine ⟨_, pss_cons (ps_set (i := 2) scLawDraw.nd rfl (.inl rfl) (pe_dget hu (pv 0) pe_str (fun _ _ => rfl)))
      (pss_cons (ps_dput hu (pv 0) pe_str (pe_op op_add (pv 2) pe_int) rfl)
      (pss_cons (ps_if (pt_cmpR (op_neD hr.units) (pe_dget hu (pv 0) pe_str (fun _ _ => rfl)) (pe_lst pa_nil) (nomark _))
        (pss_cons (ps_set (i := 3) scLawDraw.nd rfl (.inl rfl) (pe_dget hu (pv 0) pe_str (fun _ _ => rfl)))
        (pss_cons (ps_set (i := 4) scLawDraw.nd rfl (.inl rfl) (pe_op op_mod (pe_callTy call_int1 (by rfl) T.nint (by decide +kernel) (pa_cons (pv 2) pa_nil)) (pe_callB call_len_seq (by rfl) T.nlen PySem.boot_len (pa_cons (pv 3) pa_nil))))
        (pss_cons (ps_set (i := 5) scLawDraw.nd rfl (.inl rfl) (pe_ix (r := rIxL K) ix_list (pv 3) (pv 4) (fun _ _ => rfl)))
        (pss_one (ps_if (pt_cmpR op_gt (pv 5) pe_int (nomark _))
          (pss_cons (ps_asg (pe_op op_fdivW (pv 5) (pv 1)) (pg_sub (pv 3) (pv 4) set_list))
          (pss_one (ps_ret (pe_op op_mod (pe_callTy call_int1 (by rfl) T.nint (by decide +kernel) (pa_cons (pv 5) pa_nil)) (pv 1))))) pss_nil))))) pss_nil)
      (pss_cons (ps_set (i := 3) scLawDraw.nd rfl (.inl rfl) (pe_dget hu (pv 0) pe_str (fun _ _ => rfl)))
      (pss_one (ps_ret (pe_op op_mod (pe_callTy call_int1 (by rfl) T.nint (by decide +kernel) (pa_cons (pe_callO (ok_mixed T) hr (by decide) (by rfl)
        (pa_cons (pe_callO (ok_mixed T) hr (by decide) (by rfl) (pa_cons (pe_op op_add (pe_ix (r := rIxL K) ix_list (pv 3) (pe_op op_mod (pe_callTy call_int1 (by rfl) T.nint (by decide +kernel) (pa_cons (pv 2) pa_nil)) pe_int) (fun _ _ => rfl)) (pe_op op_mul pe_int (pe_op op_fdiv (pv 2) pe_int))) (pa_cons (pv 2) pa_nil)))
          (pa_cons (pe_op op_add (pv 2) pe_int) pa_nil))) pa_nil)) (pv 1))))))), ?_⟩
    have getk : ∀ {H' : Hp} {n' : Nat} {x : Str} {v : V}, H' m = some (.dK (mD lc lg n')) → valV (mD lc lg n') (.inr x) = some v → DGet H' m (.str x) (some v) := by
      intro H' n' x v e1 e2
      exact .inl ⟨_, .inr x, .inl e1, rfl, e2.symm⟩
    -- n = m['spot']
    refine ⟨.ref m, rfl, m, .int (n : Int), rfl, getk em (mD_spot lc lg n), ?_⟩
    -- m['spot'] = n + 1
    refine ⟨.int (n : Int), rfl, _, _, rfl, rfl, .ref m, rfl, m, upd H m (.dK (mD lc lg (n + 1))), rfl, .inl ⟨_, .inr "spot", em, rfl, by show 3 < sizeLine; decide, ?_⟩, ?_⟩
    · have e : (n : Int) + 1 = ((n + 1 : Nat) : Int) := by omega
      show _ = upd H m (.dK (putK (mD lc lg n) (.inr "spot") (.int ((n : Int) + 1))))
      rw [e, mD_put]
    generalize eH : upd H m (.dK (mD lc lg (n + 1))) = H1
    have em1 : H1 m = some (.dK (mD lc lg (n + 1))) := by rw [← eH]; exact upd_same
    have ef1 : H1 lc = some (.lst (fs.map V.int)) := by rw [← eH, upd_ne d3.symm]; exact ef
    have eg1 : H1 lg = some (.lst (gs.map V.int)) := by rw [← eH, upd_ne d2.symm]; exact eg
    have off1 : Off m lg H H1 := fun a o h1 _ e => by rw [← eH, upd_ne h1]; exact e
    -- if m['great'] != []
    refine ⟨.ref m, rfl, m, .ref lg, rfl, getk em1 (mD_great lc lg _), Nat.zero_le _, fun b nb => ?_⟩
    have s2 : Same H1 (upd H1 b (.lst [])) := same_new nb
    have em2 := s2 _ _ em1
    have ef2 := s2 _ _ ef1
    have eg2 := s2 _ _ eg1
    have eb2 : (upd H1 b (.lst [])) b = some (.lst []) := upd_same
    have off2 : Off m lg H (upd H1 b (.lst [])) := off1.to (Off.same s2)
    generalize upd H1 b (.lst []) = H2 at em2 ef2 eg2 eb2 off2 ⊢
    obtain ⟨x, hx, x0, x1⟩ := hf.get (j := n % 64) (Nat.mod_lt _ (by decide))
    have pos64 : (0 : Int) < 64 := by decide
    -- a number and its rest
    have fin : ∀ (t : Int) (H' : Hp), Off m lg H H' → (∃ n : Nat, n ≤ k + 1 ∧ H' m = some (.dK (mD lc lg n))) → H' lc = some (.lst (fs.map V.int)) → (∃ gs : List Int, gs.length ≤ 63 ∧ H' lg = some (.lst (gs.map V.int))) → Q (.int (t % z)) H' := by
      intro t H' o e1 e2 e3
      have h0 := Int.emod_nonneg t (show z ≠ 0 by omega)
      have h1 := Int.emod_lt_of_pos t z0
      obtain ⟨d, hd⟩ := Int.eq_ofNat_of_zero_le h0
      rw [hd] at h1 ⊢
      exact q d H' h1 ⟨d1, d2, d3, e1, ⟨fs, e2, hf⟩, e3⟩ o
    refine ⟨.list (gs.map PyData.int), .list [], .lst (.inl (.inl eg2)) (dpAll_ints gs), .lst (.inl (.inl eb2)) .nil, shaped_ints gs, shaped_ints [], _, rfl, ?_⟩
    rw [eqv_nil]
    cases gs with
    | nil =>
      refine iteF ?_
      refine ⟨.ref m, rfl, m, .ref lc, rfl, getk em2 (mD_cells lc lg _), ?_⟩
      refine ⟨.ref lc, rfl, .int (n : Int), rfl, .inl ⟨_, rfl, _, _, rfl, rfl, pos64, lc, _, _, .int x, rfl, rfl, .inl (.inl ef2), atI_nat (map_int_get hx), .int (n : Int), rfl, _, _, rfl, rfl, ⟨by decide, by decide⟩, _, _, rfl, rfl, .inl ⟨by decide, by decide⟩, _, _, rfl, rfl, .int (n : Int), rfl, ?_⟩⟩
      refine ⟨x + 31 * ((n : Int) / 64), (n : Int), rfl, by omega, by omega, fun r r0 r1 => ⟨.int (n : Int), rfl, _, _, rfl, rfl, ?_⟩⟩
      refine ⟨r, (n : Int) + 7, rfl, by omega, by omega, fun t t0 t1 => .inl ⟨_, rfl, .int z, rfl, _, _, rfl, rfl, z0, ?_⟩⟩
      exact fin t H2 off2 ⟨n + 1, by omega, em2⟩ ef2 ⟨[], hg, eg2⟩
    | cons g0 gr =>
      refine iteT ?_
      refine ⟨.ref m, rfl, m, .ref lg, rfl, getk em2 (mD_great lc lg _), ?_⟩
      have posL : (0 : Int) < (((g0 :: gr).map V.int).length : Nat) := by
        rw [List.length_map, List.length_cons]
        omega
      refine ⟨.int (n : Int), rfl, .inl ⟨_, rfl, .ref lg, rfl, lg, _, rfl, .inl (.inl (.inl eg2)), _, _, rfl, rfl, posL, ?_⟩⟩
      have il : ((n : Nat) : Int) % (((g0 :: gr).map V.int).length : Nat) = ((n % (g0 :: gr).length : Nat) : Int) := by
        rw [List.length_map]
        rfl
      have hlt : n % (g0 :: gr).length < (g0 :: gr).length := Nat.mod_lt _ (by rw [List.length_cons]; omega)
      have hg2 : (g0 :: gr)[n % (g0 :: gr).length]? = some (g0 :: gr)[n % (g0 :: gr).length] := List.getElem?_eq_getElem hlt
      generalize (g0 :: gr)[n % (g0 :: gr).length] = c at hg2
      generalize n % (g0 :: gr).length = here at hlt hg2 il
      have idx : (((n : Nat) : Int) % (((g0 :: gr).map V.int).length : Nat)) = (here : Int) := il
      refine ⟨.ref lg, rfl, .int (((n : Nat) : Int) % (((g0 :: gr).map V.int).length : Nat)), rfl, lg, _, _, .int c, rfl, rfl, .inl (.inl eg2), by rw [idx]; exact atI_nat (map_int_get hg2), ?_⟩
      refine ⟨.int c, rfl, _, _, rfl, rfl, _, rfl, ?_⟩
      by_cases hc : 0 < c
      · refine iteDT hc ?_
        have zw : CDivW c z := ⟨z0, by
          have h1 : z.natAbs < 10 ^ 70 := by omega
          have h2 : z.natAbs ≠ 0 := by omega
          have h3 : z.natAbs < 2 ^ 9000 := Nat.lt_of_lt_of_le h1 (by decide +kernel)
          exact (Nat.log2_lt h2).mpr h3⟩
        refine ⟨.int c, rfl, .int z, rfl, _, _, rfl, rfl, zw, .ref lg, rfl, .int (((n : Nat) : Int) % (((g0 :: gr).map V.int).length : Nat)), rfl, lg, _, _, here, rfl, rfl, eg2, ?_, ?_⟩
        · rw [idx, List.length_map]
          exact ixN_nat hlt
        · refine ⟨.int c, rfl, .inl ⟨_, rfl, .int z, rfl, _, _, rfl, rfl, z0, ?_⟩⟩
          have nm : m ≠ lg := d2
          have nc : lc ≠ lg := d1
          refine fin c _ (fun a o h1 h2 e => ?_) ⟨n + 1, by omega, ?_⟩ ?_ ⟨(g0 :: gr).set here (c / z), ?_, ?_⟩
          · rw [upd_ne h2]
            exact off2 a o h1 h2 e
          · rw [upd_ne nm]
            exact em2
          · rw [upd_ne nc]
            exact ef2
          · rw [List.length_set]
            exact hg
          · rw [upd_same, List.map_set]
      · refine iteDF hc ?_
        refine ⟨.ref m, rfl, m, .ref lc, rfl, getk em2 (mD_cells lc lg _), ?_⟩
        refine ⟨.ref lc, rfl, .int (n : Int), rfl, .inl ⟨_, rfl, _, _, rfl, rfl, pos64, lc, _, _, .int x, rfl, rfl, .inl (.inl ef2), atI_nat (map_int_get hx), .int (n : Int), rfl, _, _, rfl, rfl, ⟨by decide, by decide⟩, _, _, rfl, rfl, .inl ⟨by decide, by decide⟩, _, _, rfl, rfl, .int (n : Int), rfl, ?_⟩⟩
        refine ⟨x + 31 * ((n : Int) / 64), (n : Int), rfl, by omega, by omega, fun r r0 r1 => ⟨.int (n : Int), rfl, _, _, rfl, rfl, ?_⟩⟩
        refine ⟨r, (n : Int) + 7, rfl, by omega, by omega, fun t t0 t1 => .inl ⟨_, rfl, .int z, rfl, _, _, rfl, rfl, z0, ?_⟩⟩
        exact fin t H2 off2 ⟨n + 1, by omega, em2⟩ ef2 ⟨g0 :: gr, hg, eg2⟩

def spIsNumber : Sp := fun vs H Q _ => ∃ n : Int, vs = [.int n] ∧ Q (.bl true) H
theorem ok_isNumber (T : Txt w K mg) : Ok P w K mg base 1 "is_number" ["value"] spIsNumber := by
  refine ok_of T.fIsNumber fun f fd F => ?_
  refine F.ok scIsNumber (fun vs H Q E h => ?_) (fun cdv A outer s H vs Q E hr h => ?_)
  · obtain ⟨n, rfl, _⟩ := h
    rfl
  · obtain ⟨n, rfl, q⟩ := h
    refine ⟨_, pss_one (ps_ret (pe_and (pe_callB call_isi (by rfl) T.nisinstance (by decide +kernel) (pa_cons (pv 0) (pa_cons (pe_bltn (v := .ty "int") (by rfl) T.nint (by decide +kernel) rfl) pa_nil))) (pe_one (pe_not (pe_callB call_isi (by rfl) T.nisinstance (by decide +kernel) (pa_cons (pv 0) (pa_cons (pe_bltn (v := .ty "bool") (by rfl) T.nbool (by decide +kernel) rfl) pa_nil))))))), ?_⟩
    refine ⟨.int n, rfl, .int n, .ty "int", .type "int", .type "int", true, rfl, .ty "int", .base (.int _), kit_ty (by decide +kernel), true, rfl, iteT ?_⟩
    exact ⟨.int n, rfl, .int n, .ty "bool", .type "int", .type "bool", false, rfl, .ty "bool", .base (.int _), kit_ty (by decide +kernel), false, rfl, q⟩
def spIsNumberIn : Sp := fun vs H Q _ => ∃ n a b : Int, vs = [.int n, .int a, .int b] ∧ a ≤ n ∧ n ≤ b ∧ Q (.bl true) H
theorem ok_isNumberIn (T : Txt w K mg) : Ok P w K mg base 2 "is_number_in" ["value", "least", "most"] spIsNumberIn := by
  refine ok_of T.fIsNumberIn fun f fd F => ?_
  refine F.ok scIsNumberIn (fun vs H Q E h => ?_) (fun cdv A outer s H vs Q E hr h => ?_)
  · obtain ⟨n, a, b, rfl, _⟩ := h
    rfl
  · obtain ⟨n, a, b, rfl, ha, hb, q⟩ := h
    refine ⟨_, pss_one (ps_ret (pe_and (pe_callO (ok_isNumber T) hr (by decide) (by rfl) (pa_cons (pv 0) (pa_nil))) (pe_one (pe_chain op_le op_le (pv 1) (pv 0) (pv 2))))), ?_⟩
    refine ⟨.int n, rfl, n, rfl, true, rfl, iteT ?_⟩
    refine ⟨.int a, rfl, .int n, rfl, a, n, rfl, rfl, _, rfl, iteDT ha ⟨.int b, rfl, n, b, rfl, rfl, ?_⟩⟩
    show Q (.bl (decide (n ≤ b))) H
    rw [decide_eq_true hb]
    exact q
def spNeedNumberIn : Sp := fun vs H Q _ => ∃ n a b : Int, vs = [.int n, .int a, .int b] ∧ a ≤ n ∧ n ≤ b ∧ Q (.int n) H
theorem ok_needNumberIn (T : Txt w K mg) : Ok P w K mg base 3 "need_number_in" ["value", "least", "most"] spNeedNumberIn := by
  refine ok_of T.fNeedNumberIn fun f fd F => ?_
  refine F.ok scNeedNumberIn (fun vs H Q E h => ?_) (fun cdv A outer s H vs Q E hr h => ?_)
  · obtain ⟨n, a, b, rfl, _⟩ := h
    rfl
  · obtain ⟨n, a, b, rfl, ha, hb, q⟩ := h
    refine ⟨_, pss_cons (ps_if (pt_not (pt_val (pe_callO (ok_isNumberIn T) hr (by decide) (by rfl) (pa_cons (pv 0) (pa_cons (pv 1) (pa_cons (pv 2) (pa_nil))))))) (pss_one ps_never) (pss_nil))
         (pss_one (ps_ret (pv 0))), ?_⟩
    exact ⟨.int n, rfl, .int a, rfl, .int b, rfl, n, a, b, rfl, ha, hb, true, rfl, iteF ⟨.int n, rfl, q⟩⟩
def spTails : Sp := fun vs H Q _ => ∃ n : Nat, vs = [.int (n : Int)] ∧ n ≤ 5000 ∧ ∀ (p : Addr) (H' : Hp), Same H H' → H p = none → H' p = some (.lst (Vi (tlist (n + 2)))) → Q (.ref p) H'
theorem ok_tails (T : Txt w K mg) : Ok P w K mg base 1 "_tails" ["many"] spTails := by
  refine ok_of T.fTails fun f fd F => ?_
  refine F.ok scTails (fun vs H Q E h => ?_) (fun cdv A outer s H vs Q E hr h => ?_)
  · obtain ⟨n, rfl, _⟩ := h
    rfl
  · obtain ⟨n, rfl, hn, q⟩ := h
    refine ⟨_, pss_cons (ps_set (i := 1) scTails.nd rfl (.inl rfl) (pe_lst (pa_cons (pe_int) (pa_cons (pe_int) (pa_nil)))))
         (pss_cons (ps_while PassesOwn.never (pt_cmpR (op_lt) (pe_callB call_len_seq (by rfl) T.nlen PySem.boot_len (pa_cons (pv 1) (pa_nil))) (pe_op op_add (pv 0) (pe_int)) (nomark _)) (pss_one (ps_expr (pe_bm PySem.F.plainAttrs_list PySem.F.slot_list_append PySem.F.type_list_append mt_append (pv 1) (pa_cons (pe_op op_add (pe_ix (r := rIxL K) ix_list (pv 1) (pe_un un_neg pe_int) (fun _ _ => rfl)) (pe_ix (r := rIxL K) ix_list (pv 1) (pe_un un_neg pe_int) (fun _ _ => rfl))) (pa_nil))))))
         (pss_one (ps_ret (pv 1)))), ?_⟩
    refine ⟨by show 2 ≤ sizeLine; decide, fun l nl => ?_⟩
    refine ⟨fun m σ H3 => ∃ i, m = n - i ∧ i ≤ n ∧ σ = [some (.int (n : Int)), some (.ref l)] ∧ Same H H3 ∧ H3 l = some (.lst (Vi (tlist (i + 2)))), ⟨n, 0, rfl, Nat.zero_le _, rfl, same_new nl, upd_same⟩, ?_⟩
    rintro m σ H3 ⟨i, rfl, hi, rfl, sm, el⟩
    refine ⟨.ref l, rfl, l, _, rfl, .inl (.inl (.inl el)), .int (n : Int), rfl, _, _, rfl, rfl, _, _, rfl, rfl, _, rfl, ?_⟩
    rw [vi_len, tlist_len]
    by_cases c : i < n
    · refine iteDT (by omega) ?_
      refine ⟨fun σ' H' => ∃ i', i < i' ∧ i' ≤ n ∧ σ' = [some (.int (n : Int)), some (.ref l)] ∧ Same H H' ∧ H' l = some (.lst (Vi (tlist (i' + 2)))), fun σ' H' ⟨i', h1, h2, h3⟩ => ⟨n - i', by omega, i', rfl, h2, h3⟩, ?_⟩
      have e2 : Vi (tlist (i + 2)) = Vi (tlist i) ++ [.int (tl i : Int), .int (tl (i + 1) : Int)] := by
        rw [tlist_succ, tlist_succ]
        unfold Vi
        rw [List.map_append, List.map_append, List.append_assoc]
        rfl
      have a1 : atI (Vi (tlist (i + 2))) (-1) = some (.int (tl (i + 1) : Int)) := by
        rw [e2]
        have := atI_last (Vi (tlist i) ++ [.int (tl i : Int)]) (V.int (tl (i + 1) : Int))
        rw [List.append_assoc] at this
        exact this
      have a2 : atI (Vi (tlist (i + 2))) (-2) = some (.int (tl i : Int)) := by rw [e2]; exact atI_last2 _ _ _
      refine ⟨.ref l, rfl, .inl ⟨rfl, _, .inl (.inl el)⟩, .ref l, rfl, 1, rfl, l, _, _, .int (tl (i + 1) : Int), rfl, rfl, .inl (.inl el), a1, .ref l, rfl, 2, rfl, l, _, _, .int (tl i : Int), rfl, rfl, .inl (.inl el), a2, _, _, rfl, rfl, l, _, _, rfl, rfl, el, ?_, ?_⟩
      · rw [vi_len, tlist_len]
        exact Nat.lt_of_le_of_lt (show i + 2 ≤ 10000 by omega) (by decide)
      · refine ⟨i + 1, by omega, by omega, rfl, same_mut sm nl, ?_⟩
        have e3 : (tl (i + 1) : Int) + (tl i : Int) = ((tl (i + 2) : Nat) : Int) := by rw [tl_2]; omega
        rw [upd_same]
        show some (HO.lst (Vi (tlist (i + 2)) ++ [V.int ((tl (i + 1) : Int) + (tl i : Int))])) = _
        rw [e3, vi_snoc, ← tlist_succ]
    · refine iteDF (by omega) ?_
      have e : i = n := by omega
      subst e
      exact ⟨.ref l, rfl, q l H3 sm nl el⟩
/-- the numbers of ways are there -/
def TL (K : PySem.W.Frag) (H : Hp) (l : Addr) (many : Nat) : Prop := ∃ n, many + 1 < n ∧ SqL K H l (Vi (tlist n))
theorem TL.same {H H' : Hp} {l : Addr} {many : Nat} (h : TL K H l many) (s : Same H H') : TL K H' l many := by
  obtain ⟨n, a, b⟩ := h
  exact ⟨n, a, s.seq b⟩
theorem TL.le {H : Hp} {l : Addr} {many less : Nat} (h : TL K H l many) (k : less ≤ many) : TL K H l less := by
  obtain ⟨n, a, b⟩ := h
  exact ⟨n, by omega, b⟩
def spWaysOn (K : PySem.W.Frag) : Sp := fun vs H Q _ => ∃ (l : Addr) (s many : Nat), vs = [.ref l, .str (S [s]), .int (many : Int)] ∧ TL K H l many ∧ Q (.int (ways s many : Int)) H
theorem ok_waysOn (T : Txt w K mg) : Ok P w K mg base 1 "_ways_on" ["tails", "sign", "many"] (spWaysOn K) := by
  refine ok_of T.fWaysOn fun f fd F => ?_
  refine F.ok scWaysOn (fun vs H Q E h => ?_) (fun cdv A outer s H vs Q E hr h => ?_)
  · obtain ⟨l, s, many, rfl, _⟩ := h
    rfl
  · obtain ⟨l, x, many, rfl, ⟨n, hn, hl⟩, q⟩ := h
    refine ⟨_, pss_cons (ps_if (pt_cmpR (op_eq) (pv 1) (pe_str) (nomark _)) (pss_one (ps_ret (pe_ix (r := rIxL K) ix_list (pv 0) (pv 2) (fun _ _ => rfl)))) (pss_nil))
         (pss_one (ps_ret (pe_ix (r := rIxL K) ix_list (pv 0) (pe_op op_add (pv 2) (pe_int)) (fun _ _ => rfl)))), ?_⟩
    refine ⟨.str (S [x]), rfl, rfl, _, rfl, ?_⟩
    have q' := q
    unfold ways at q'
    by_cases e : x = 50
    · rw [if_pos e] at q'
      exact iteDT (show V.str (S [x]) = V.str (S [50]) from by rw [e]) ⟨.ref l, rfl, .int (many : Int), rfl, l, _, _, .int (tl many : Int), rfl, rfl, hl, atI_nat (vi_get (tlist_get (by omega))), q'⟩
    · rw [if_neg e] at q'
      refine iteDF (fun z => e (List.cons.inj (s_inj (V.str.inj z))).1) ⟨.ref l, rfl, .int (many : Int), rfl, _, _, rfl, rfl, l, _, ((many + 1 : Nat) : Int), .int (tl (many + 1) : Int), rfl, rfl, hl, atI_nat (vi_get (tlist_get (by omega))), q'⟩
def spWordsWith (K : PySem.W.Frag) : Sp := fun vs H Q _ => ∃ (l : Addr) (n : Nat), vs = [.ref l, .int (n : Int)] ∧ TL K H l n ∧ ∀ H', Same H H' → Q (.int (cnt 0 n : Int)) H'
theorem ok_wordsWith (T : Txt w K mg) : Ok P w K mg base 2 "_words_with" ["tails", "length"] (spWordsWith K) := by
  refine ok_of T.fWordsWith fun f fd F => ?_
  refine F.ok scWordsWith (fun vs H Q E h => ?_) (fun cdv A outer s H vs Q E hr h => ?_)
  · obtain ⟨l, n, rfl, _⟩ := h
    rfl
  · obtain ⟨l, n, rfl, hT, q⟩ := h
    refine ⟨_, pss_cons (ps_if (pt_cmpR (op_eq) (pv 1) (pe_int) (nomark _)) (pss_one (ps_ret (pe_int))) (pss_nil))
         (pss_one (ps_ret (pe_callB (cr_sum rfl) (by rfl) T.nsum (by decide +kernel) (pa_cons (pe_lc (own := [("sign", 2)]) (g := gName 2) (tt := tYes) (by rfl) scWordsWith.nd (pi_str pe_str) (blkOk_by (N := ["tails", "length", "sign"]) (sc := defScope sWordsWith) (by decide +kernel)) (fun _ _ _ _ _ => pg_name (i := 2) scWordsWith.nd rfl (.inl rfl)) (fun _ _ _ _ _ => pts_nil) (fun _ _ _ _ _ => pe_callO (ok_waysOn T) hr (by decide) (by rfl) (pa_cons (pv 0) (pa_cons (pv 2) (pa_cons (pe_op op_sub (pv 1) (pe_int)) (pa_nil)))))) (pa_nil))))), ?_⟩
    refine ⟨.int (n : Int), rfl, rfl, _, rfl, ?_⟩
    cases n with
    | zero => exact iteDT rfl (q H (Same.id _))
    | succ n =>
      refine iteDF (fun z => by have := V.int.inj z; omega) ?_
      refine ⟨S [48, 49, 50], rfl, fun D nD => ?_⟩
      refine lc_str (u := [48, 49, 50]) (fun i H' => Same H H' ∧ H' D = some (.lst (((([48, 49, 50] : List Nat).take i).map fun s => (ways s n : Int)).map V.int))) ⟨same_new nD, upd_same⟩ (fun i c H' hc h => ?_) (fun H' h => ?_)
      · obtain ⟨sm, hD⟩ := h
        have i3 : i < 3 := (List.getElem?_eq_some_iff.mp hc).1
        refine ⟨rfl, yes (iteT ?_)⟩
        refine ⟨.ref l, rfl, .str (S [c]), rfl, .int ((n + 1 : Nat) : Int), rfl, _, _, rfl, rfl, l, c, n, ?_, (hT.le (by omega)).same sm, _, hD, ?_, same_mut sm nD, ?_⟩
        · have e : (((n + 1 : Nat) : Int) - 1) = (n : Int) := by omega
          show [V.ref l, V.str (S [c]), V.int (((n + 1 : Nat) : Int) - 1)] = _
          rw [e]
        · rw [List.length_map, List.length_map, List.length_take]
          exact Nat.lt_of_le_of_lt (show min i _ ≤ 10 by omega) (by decide)
        · rw [upd_same, List.take_succ, hc, List.map_append, List.map_append]
          rfl
      · obtain ⟨sm, hD⟩ := h
        refine ⟨D, ([48, 49, 50] : List Nat).map fun s => (ways s n : Int), rfl, .inl (.inl hD), ?_⟩
        have e : ((([48, 49, 50] : List Nat).map fun s => (ways s n : Int))).sum = ((cnt 0 (n + 1) : Nat) : Int) := by
          show (ways 48 n : Int) + ((ways 49 n : Int) + ((ways 50 n : Int) + 0)) = ((ways 48 n + (ways 49 n + (ways 50 n + 0)) : Nat) : Int)
          omega
        rw [e]
        exact q H' sm
end
end K7

namespace K7
open PySem PySem.Spec PyProof.Rows L2 Nr Nw
def OkA (a : Nat) : Prop := a = 0 ∨ Sg a
def ah (a : Nat) : List Nat := if a = 0 then [] else [a]
theorem ah_sg {s : Nat} (h : Sg s) : ah s = [s] := by
  unfold ah
  rw [if_neg (by rcases h with e | e | e <;> omega)]
theorem prv_snoc (x : List Nat) (s a : Nat) : prv a (x ++ [s]) = s := by
  induction x generalizing a with
  | nil => rfl
  | cons c r ih => exact ih c
theorem prv_ok {x : List Nat} (h : Wd x) : OkA (prv 0 x) := by
  by_cases e : x = []
  · rw [e]; exact .inl rfl
  · have : x = x.dropLast ++ [x.getLast e] := (List.dropLast_concat_getLast e).symm
    rw [this, prv_snoc]
    exact .inr (h _ (List.getLast_mem e))
theorem base_sum (n : Nat) : ((List.range n).map fun l => ((cnt 0 l : Nat) : Int)).sum = (base n : Int) := by
  induction n with
  | zero => rfl
  | succ n ih =>
    rw [List.range_succ, List.map_append, List.sum_append, ih]
    show (base n : Int) + ((cnt 0 n : Int) + 0) = ((base n + cnt 0 n : Nat) : Int)
    omega
theorem lt_one (a b : Nat) : decide ((S [a]).cps.toList < (S [b]).cps.toList) = decide (a < b) := by
  show decide ([a] < [b]) = decide (a < b)
  by_cases h : a < b
  · rw [decide_eq_true h]
    exact decide_eq_true (List.Lex.rel h)
  · rw [decide_eq_false h]
    refine decide_eq_false fun z => ?_
    cases z with
    | rel q => exact h q
    | cons q => cases q
theorem pick_cons (o : Nat) (r : List Nat) (x many : Nat) : pick (o :: r) x many = if x < ways o many then (o, x) else pick r (x - ways o many) many := rfl
theorem sumW_app (l m : List Nat) (n : Nat) : sumW (l ++ m) n = sumW l n + sumW m n := by
  unfold sumW
  rw [List.map_append, List.sum_append]
section
variable {P : Program} {w : World} {K : PySem.W.Frag} {mg : Str → Option Value} {base : Heap}
theorem kd_behind {aB : Addr} (h0 : KDct K w aB "0" (.str "12")) (h1 : KDct K w aB "1" (.str "02")) (h2 : KDct K w aB "2" (.str "1")) (h3 : KDct K w aB "" (.str "012")) {a : Nat} (ha : OkA a) : KDct K w aB (S (ah a)) (.str (S (beh a))) := by
  rcases ha with e | e | e | e
  · subst e; exact h3
  · subst e; exact h0
  · subst e; exact h1
  · subst e; exact h2
def spNumberOf : Sp := fun vs H Q _ => ∃ u : List Nat, vs = [.str (S u)] ∧ Wd u ∧ u.length ≤ 2000 ∧ ∀ H', Same H H' → Q (.int (num (cut u) : Int)) H'
theorem ok_numberOf (T : Txt w K mg) : Ok P w K mg base 4 "number_of" ["word"] spNumberOf := by
  refine ok_of T.fNumberOf fun f fd F => ?_
  obtain ⟨aB, gB, k0, k1, k2, k3⟩ := T.behind
  obtain ⟨tM, gM⟩ := T.most
  refine F.ok scNumberOf (fun vs H Q E h => ?_) (fun cdv A outer s H vs Q E hr h => ?_)
  · obtain ⟨u, rfl, _⟩ := h
    rfl
  · obtain ⟨u, rfl, hu, lu, q⟩ := h
    refine ⟨_, pss_cons (ps_set (i := 1) scNumberOf.nd rfl (.inl rfl) (pe_callO (ok_redText T) hr (by decide) (by rfl) (pa_cons (pe_callO (ok_need T) hr (by decide) (by rfl) (pa_cons (pv 0) (pa_nil))) (pa_nil))))
         (pss_cons (ps_if (pt_cmpR (op_gt) (pe_callB call_len_str (by rfl) T.nlen PySem.boot_len (pa_cons (pv 1) (pa_nil))) (pe_glob (v := .int 4000) rfl gM ⟨_, rfl⟩) (nomark _)) (pss_one ps_never) (pss_nil))
         (pss_cons (ps_set (i := 2) scNumberOf.nd rfl (.inr rfl) (pe_callO (ok_tails T) hr (by decide) (by rfl) (pa_cons (pe_callB call_len_str (by rfl) T.nlen PySem.boot_len (pa_cons (pv 1) (pa_nil))) (pa_nil))))
         (pss_cons (ps_set (i := 3) scNumberOf.nd rfl (.inl rfl) (pe_callB (cr_sum rfl) (by rfl) T.nsum (by decide +kernel) (pa_cons (pe_lc (own := [("length", 8)]) (g := gName 8) (tt := tYes) (by rfl) scNumberOf.nd (pi_range1 (by rfl) T.nrange (pa_cons (pe_callB call_len_str (by rfl) T.nlen PySem.boot_len (pa_cons (pv 1) (pa_nil))) (pa_nil))) (blkOk_by (N := ["word", "text", "tails", "number", "ahead", "place", "sign", "other", "length"]) (sc := defScope sNumberOf) (by decide +kernel)) (fun _ _ _ _ _ => pg_name (i := 8) scNumberOf.nd rfl (.inl rfl)) (fun _ _ _ _ _ => pts_nil) (fun _ _ _ _ _ => pe_callO (ok_wordsWith T) hr (by decide) (by rfl) (pa_cons (pv 2) (pa_cons (pv 8) (pa_nil))))) (pa_nil))))
         (pss_cons (ps_set (i := 4) scNumberOf.nd rfl (.inl rfl) (pe_str))
         (pss_cons (ps_for PassesOwn.never rfl (pi_es (by rfl) T.nenumerate (pa_cons (pv 1) (pa_nil))) (pg_tup rfl (pgs_cons (pg_name (i := 5) scNumberOf.nd rfl (.inl rfl)) (pgs_cons (pg_name (i := 6) scNumberOf.nd rfl (.inl rfl)) (pgs_nil)))) (pss_cons (ps_for PassesOwn.never rfl (pi_str (pe_ix (r := rIxD K w) ix_kdict (pe_glob (v := .ref aB) rfl gB rfl) (pv 4) (fun _ _ => rfl))) (pg_name (i := 7) scNumberOf.nd rfl (.inl rfl)) (pss_one (ps_if (pt_cmpR (op_lt_str) (pv 7) (pv 6) (nomark _)) (pss_one (ps_aug (i := 3) scNumberOf.nd rfl (.inl rfl) (pe_callO (ok_waysOn T) hr (by decide) (by rfl) (pa_cons (pv 2) (pa_cons (pv 7) (pa_cons (pe_op op_sub (pe_op op_sub (pe_callB call_len_str (by rfl) T.nlen PySem.boot_len (pa_cons (pv 1) (pa_nil))) (pv 5)) (pe_int)) (pa_nil))))) ip_add)) (pss_nil))))
         (pss_one (ps_set (i := 4) scNumberOf.nd rfl (.inl rfl) (pv 6)))))
         (pss_one (ps_ret (pv 3)))))))), ?_⟩
    have fit : ∀ z : Nat, z ≤ 10000 → z ≤ sizeLine := fun z hz => Nat.le_trans hz (by decide)
    refine ⟨.str (S u), rfl, u, rfl, hu, fun H1 s1 => ⟨u, rfl, ⟨hu, by omega⟩, fun H2 s2 => ?_⟩⟩
    have ft := fw_cut hu
    have lt := cut_len _ u rfl hu
    generalize cut u = t at ft lt q ⊢
    have at0 := fw_al0 ft
    refine ⟨.str (S t), rfl, S t, rfl, fit _ (show t.length ≤ _ by omega), _, _, rfl, rfl, _, rfl, ?_⟩
    refine iteDF (show ¬ (4000 : Int) < ((S t).length : Int) from by show ¬ (4000 : Int) < ((t.length : Nat) : Int); omega) ?_
    refine ⟨.str (S t), rfl, S t, rfl, fit _ (show t.length ≤ _ by omega), t.length, rfl, by omega, fun l H3 s3 nl el => ?_⟩
    have sA := Same.to s1 (Same.to s2 s3)
    have hTL : TL K H3 l t.length := ⟨t.length + 2, by omega, .inl (.inl el)⟩
    refine ⟨.str (S t), rfl, S t, rfl, fit _ (show t.length ≤ _ by omega), (t.length : Int), rfl, by omega, by omega, fun D nD => ?_⟩
    rw [Int.toNat_natCast]
    refine lc_range (lo := 0) (n := t.length) (fun i H' => Same H3 H' ∧ H' D = some (.lst (((List.range i).map fun l => ((cnt 0 l : Nat) : Int)).map V.int))) ⟨same_new nD, upd_same⟩ (fun i H' hi h => ?_) (fun H4 h => ?_)
    · obtain ⟨sm, hD⟩ := h
      have e0 : (0 : Int) + (i : Int) = (i : Int) := by omega
      rw [e0]
      refine ⟨rfl, yes (iteT ?_)⟩
      refine ⟨.ref l, rfl, .int (i : Int), rfl, l, i, rfl, (hTL.le (by omega)).same sm, fun H'' s' => ⟨_, s' _ _ hD, ?_, same_mut (Same.to sm s') nD, ?_⟩⟩
      · rw [List.length_map, List.length_map, List.length_range]
        exact Nat.lt_of_le_of_lt (show i ≤ 10000 by omega) (by decide)
      · rw [upd_same, List.range_succ, List.map_append, List.map_append]
        rfl
    obtain ⟨s4, hD⟩ := h
    refine ⟨D, _, rfl, .inl (.inl hD), ?_⟩
    rw [base_sum]
    have hT4 := hTL.same s4
    have sB := Same.to sA s4
    refine ⟨.str (S t), rfl, S t, rfl, fun i m σ H5 => ∃ (n : Nat) (y5 y6 y7 y8 : Option V), σ = [some (.str (S u)), some (.str (S t)), some (.ref l), some (.int (n : Int)), some (.str (S (ah (prv 0 (t.take i))))), y5, y6, y7, y8] ∧ i + m = t.length ∧ Same H4 H5 ∧ n + rk (prv 0 (t.take i)) (t.drop i) = num t,
      ⟨t.length, K7.base t.length, none, none, none, none, rfl, by omega, Same.id _, rfl⟩, ?_⟩
    rintro i m σ H5 ⟨n, y5, y6, y7, y8, rfl, em, sm, hn⟩
    by_cases hi : i < t.length
    · refine .inr ⟨hi, fun σ' H' => ∃ (n : Nat) (y5 y6 y7 y8 : Option V), σ' = [some (.str (S u)), some (.str (S t)), some (.ref l), some (.int (n : Int)), some (.str (S (ah (prv 0 (t.take (i + 1)))))), y5, y6, y7, y8] ∧ Same H4 H' ∧ n + rk (prv 0 (t.take (i + 1))) (t.drop (i + 1)) = num t, ?_, ?_⟩
      · rintro σ' H' ⟨n', z5, z6, z7, z8, e, sm', hn'⟩
        exact ⟨m - 1, by omega, n', z5, z6, z7, z8, e, by omega, sm', hn'⟩
      · rintro v H' ⟨Tp, c, rfl, nT, hc, rfl⟩
        have ec : t[i]? = some c := by
          have e0 : (S t).cps[i]? = t[i]? := List.getElem?_toArray
          rw [← e0]
          exact hc
        have sc : Sg c := ft.wd c (List.mem_of_getElem? ec)
        have ed : t.drop i = c :: t.drop (i + 1) := by
          obtain ⟨h1, h2⟩ := List.getElem?_eq_some_iff.mp ec
          rw [List.drop_eq_getElem_cons h1, h2]
        have et : t.take (i + 1) = t.take i ++ [c] := by rw [List.take_succ, ec]; rfl
        have ld : (t.drop (i + 1)).length = t.length - i - 1 := by rw [List.length_drop]; omega
        rw [ed, rk_cons, ld] at hn
        have okA : OkA (prv 0 (t.take i)) := prv_ok fun z hz => ft.wd z (List.mem_of_mem_take hz)
        have kb := kd_behind k0 k1 k2 k3 okA
        rw [et, prv_snoc, ah_sg sc]
        generalize prv 0 (t.take i) = a at hn okA kb ⊢
        refine ⟨Tp, [.int (i : Nat), .str ⟨#[c]⟩], rfl, .inl (.inl upd_same), rfl, _, [.str ⟨#[c]⟩], rfl, _, [], rfl, rfl, ?_⟩
        have s6 := Same.to sm (same_new (o := .tup [.int (i : Nat), .str ⟨#[c]⟩]) nT)
        generalize upd H5 Tp (.tup [.int (i : Nat), .str ⟨#[c]⟩]) = H6 at s6 ⊢
        refine ⟨.str (S (ah a)), rfl, aB, S (ah a), .str (S (beh a)), rfl, rfl, kb, S (beh a), rfl, ?_⟩
        refine for_str (u := beh a) (fun j σ H' => ∃ y7, σ = [some (.str (S u)), some (.str (S t)), some (.ref l), some (.int ((n + sumW (((beh a).take j).filter fun o => decide (o < c)) (t.length - i - 1) : Nat) : Int)), some (.str (S (ah a))), some (.int (i : Nat)), some (.str (S [c])), y7, y8] ∧ Same H4 H') ⟨y7, by rw [List.take_zero]; rfl, s6⟩ (fun j o σ H' ho h => ?_) (fun σ H' h => ?_)
        · obtain ⟨z7, rfl, sm'⟩ := h
          refine ⟨.str (S [o]), rfl, .str (S [c]), rfl, S [o], S [c], rfl, rfl, _, rfl, ?_⟩
          rw [lt_one, List.take_succ, ho, List.filter_append, sumW_app]
          by_cases hlt : o < c
          · refine iteDT hlt ?_
            refine ⟨_, rfl, .ref l, rfl, .str (S [o]), rfl, .str (S t), rfl, S t, rfl, fit _ (show t.length ≤ _ by omega), .int (i : Nat), rfl, _, _, rfl, rfl, _, _, rfl, rfl, l, o, t.length - i - 1, ?_, (hT4.le (by omega)).same sm', _, _, rfl, rfl, some (.str (S [o])), ?_, sm'⟩
            · have e1 : ((((S t).length : Nat) : Int) - (i : Int) - 1) = ((t.length - i - 1 : Nat) : Int) := by
                show (((t.length : Nat) : Int) - (i : Int) - 1) = _
                omega
              show [V.ref l, V.str (S [o]), V.int ((((S t).length : Nat) : Int) - (i : Int) - 1)] = _
              rw [e1]
            · have e2 : sumW ([o].filter fun x => decide (x < c)) (t.length - i - 1) = ways o (t.length - i - 1) := by
                have : [o].filter (fun x => decide (x < c)) = [o] := by simp [List.filter_cons, hlt]
                rw [this]
                rfl
              have e3 : sumW ((some o).toList.filter fun x => decide (x < c)) (t.length - i - 1) = ways o (t.length - i - 1) := e2
              rw [e3, ← Nat.add_assoc]
              rfl
          · refine iteDF hlt ⟨some (.str (S [o])), ?_, sm'⟩
            have e3 : sumW ((some o).toList.filter fun x => decide (x < c)) (t.length - i - 1) = 0 := by
              have : [o].filter (fun x => decide (x < c)) = [] := by simp [List.filter_cons, hlt]
              show sumW ([o].filter fun x => decide (x < c)) (t.length - i - 1) = 0
              rw [this]
              rfl
            rw [e3, Nat.add_zero]
            rfl
        · obtain ⟨z7, rfl, sm'⟩ := h
          rw [List.take_length]
          exact ⟨.str (S [c]), rfl, _, _, _, _, _, rfl, sm', by omega⟩
    · refine .inl ⟨by show t.length ≤ i; omega, ?_⟩
      have e : t.drop i = [] := List.drop_eq_nil_of_le (by omega)
      rw [e] at hn
      have hn' : n = num t := hn
      rw [hn']
      exact ⟨_, rfl, q H5 (Same.to sB sm)⟩
def spSignAt (K : PySem.W.Frag) : Sp := fun vs H Q _ => ∃ (l : Addr) (a n many : Nat), vs = [.ref l, .str (S (ah a)), .int (n : Int), .int (many : Int)] ∧ OkA a ∧ TL K H l many ∧ n < sumW (beh a) many ∧
  ∀ (p : Addr) (H' : Hp), Same H H' → H p = none → H' p = some (.tup [.str (S [(pick (beh a) n many).1]), .int ((pick (beh a) n many).2 : Int)]) → Q (.ref p) H'
theorem ok_signAt (T : Txt w K mg) : Ok P w K mg base 2 "_sign_at" ["tails", "ahead", "number", "many"] (spSignAt K) := by
  refine ok_of T.fSignAt fun f fd F => ?_
  obtain ⟨aB, gB, k0, k1, k2, k3⟩ := T.behind
  refine F.ok scSignAt (fun vs H Q E h => ?_) (fun cdv A outer s H vs Q E hr h => ?_)
  · obtain ⟨l, a, n, many, rfl, _⟩ := h
    rfl
  · obtain ⟨l, a, n, many, rfl, okA, hT, hn, q⟩ := h
    refine ⟨_, pss_cons (ps_for PassesOwn.never rfl (pi_str (pe_ix (r := rIxD K w) ix_kdict (pe_glob (v := .ref aB) rfl gB rfl) (pv 1) (fun _ _ => rfl))) (pg_name (i := 4) scSignAt.nd rfl (.inl rfl)) (pss_cons (ps_set (i := 5) scSignAt.nd rfl (.inl rfl) (pe_callO (ok_waysOn T) hr (by decide) (by rfl) (pa_cons (pv 0) (pa_cons (pv 4) (pa_cons (pv 3) (pa_nil))))))
         (pss_cons (ps_if (pt_cmpR (op_lt) (pv 2) (pv 5) (nomark _)) (pss_one (ps_ret (pe_tup (pa_cons (pv 4) (pa_cons (pv 2) (pa_nil)))))) (pss_nil))
         (pss_one (ps_set (i := 2) scSignAt.nd rfl (.inl rfl) (pe_op op_sub (pv 2) (pv 5)))))))
         (pss_one (ps_ret (pe_non))), ?_⟩
    have kb := kd_behind k0 k1 k2 k3 okA
    refine ⟨.str (S (ah a)), rfl, aB, S (ah a), .str (S (beh a)), rfl, rfl, kb, S (beh a), rfl, ?_⟩
    refine for_str (u := beh a) (fun j σ H' => ∃ (x : Nat) (y4 y5 : Option V), σ = [some (.ref l), some (.str (S (ah a))), some (.int (x : Int)), some (.int (many : Int)), y4, y5] ∧ H' = H ∧ x < sumW ((beh a).drop j) many ∧ pick ((beh a).drop j) x many = pick (beh a) n many) ⟨n, none, none, rfl, rfl, hn, rfl⟩ (fun j o σ H' ho h => ?_) (fun σ H' h => ?_)
    · obtain ⟨x, y4, y5, rfl, rfl, hx, hp⟩ := h
      have ed : (beh a).drop j = o :: (beh a).drop (j + 1) := by
        obtain ⟨h1, h2⟩ := List.getElem?_eq_some_iff.mp ho
        rw [List.drop_eq_getElem_cons h1, h2]
      rw [ed] at hx hp
      rw [sumW_cons] at hx
      rw [pick_cons] at hp
      refine ⟨.ref l, rfl, .str (S [o]), rfl, .int (many : Int), rfl, l, o, many, rfl, hT, .int (x : Int), rfl, .int (ways o many : Int), rfl, _, _, rfl, rfl, _, rfl, ?_⟩
      by_cases c : x < ways o many
      · refine iteDT (by omega) ?_
        rw [if_pos c] at hp
        refine ⟨.str (S [o]), rfl, .int (x : Int), rfl, by show 2 ≤ sizeLine; decide, fun p np => ?_⟩
        refine q p _ (same_new np) np ?_
        rw [upd_same, ← hp]
      · refine iteDF (by omega) ?_
        rw [if_neg c] at hp
        refine ⟨.int (x : Int), rfl, .int (ways o many : Int), rfl, _, _, rfl, rfl, x - ways o many, some (.str (S [o])), some (.int (ways o many : Int)), ?_, rfl, by omega, hp⟩
        have e : (x : Int) - (ways o many : Int) = ((x - ways o many : Nat) : Int) := by omega
        rw [← e]
        rfl
    · obtain ⟨x, y4, y5, rfl, rfl, hx, hp⟩ := h
      rw [List.drop_length] at hx
      exact absurd hx (Nat.not_lt_zero _)
theorem base_big : 10 ^ 62 ≤ K7.base 400 := by decide +kernel
def spWordNumbered : Sp := fun vs H Q _ => ∃ n : Nat, vs = [.int (n : Int)] ∧ n < 10 ^ 62 ∧ ∀ (u : List Nat) (H' : Hp), Fw u → num u = n → u.length ≤ 400 → Same H H' → Q (.str (S u)) H'
theorem ok_wordNumbered (T : Txt w K mg) : Ok P w K mg base 3 "word_numbered" ["number"] spWordNumbered := by
  refine ok_of T.fWordNumbered fun f fd F => ?_
  obtain ⟨tT, gT⟩ := T.mtold
  refine F.ok scWordNumbered (fun vs H Q E h => ?_) (fun cdv A outer s H vs Q E hr h => ?_)
  · obtain ⟨n, rfl, _⟩ := h
    rfl
  · obtain ⟨n, rfl, hn, q⟩ := h
    refine ⟨_, pss_cons (ps_if (PW.pt (pw_or (pt_not (pt_val (pe_callO (ok_isNumber T) hr (by decide) (by rfl) (pa_cons (pv 0) (pa_nil))))) (pw_or1 (pt_cmpR (op_lt) (pv 0) (pe_int) (nomark _))))) (pss_one ps_never) (pss_nil))
         (pss_cons (ps_set (i := 1) scWordNumbered.nd rfl (.inl rfl) (pe_lst (pa_cons (pe_int) (pa_cons (pe_int) (pa_nil)))))
         (pss_cons (ps_par (i := 5) (j := 6) (by rfl) scWordNumbered.nd rfl rfl (by decide) rfl rfl (pa_cons (pe_int) (pa_cons (pv 0) (pa_nil))) (by rfl))
         (pss_cons (ps_while PassesOwn.never (pt_cmpR (op_ge) (pv 6) (pe_callO (ok_wordsWith T) hr (by decide) (by rfl) (pa_cons (pv 1) (pa_cons (pv 5) (pa_nil)))) (nomark _)) (pss_cons (ps_set (i := 6) scWordNumbered.nd rfl (.inl rfl) (pe_op op_sub (pv 6) (pe_callO (ok_wordsWith T) hr (by decide) (by rfl) (pa_cons (pv 1) (pa_cons (pv 5) (pa_nil))))))
         (pss_cons (ps_aug (i := 5) scWordNumbered.nd rfl (.inl rfl) (pe_int) ip_add)
         (pss_cons (ps_if (pt_cmpR (op_gt) (pv 5) (pe_glob (v := .int 20000) rfl gT ⟨_, rfl⟩) (nomark _)) (pss_one ps_never) (pss_nil))
         (pss_one (ps_expr (pe_bm PySem.F.plainAttrs_list PySem.F.slot_list_append PySem.F.type_list_append mt_append (pv 1) (pa_cons (pe_op op_add (pe_ix (r := rIxL K) ix_list (pv 1) (pe_un un_neg pe_int) (fun _ _ => rfl)) (pe_ix (r := rIxL K) ix_list (pv 1) (pe_un un_neg pe_int) (fun _ _ => rfl))) (pa_nil)))))))))
         (pss_cons (ps_set (i := 2) scWordNumbered.nd rfl (.inl rfl) (pe_lst (pa_nil)))
         (pss_cons (ps_set (i := 3) scWordNumbered.nd rfl (.inl rfl) (pe_str))
         (pss_cons (ps_for PassesOwn.never rfl (pi_range3 (by rfl) T.nrange (pa_cons (pe_op op_sub (pv 5) (pe_int)) (pa_cons (pe_un un_neg pe_int) (pa_cons (pe_un un_neg pe_int) (pa_nil))))) (pg_name (i := 4) scWordNumbered.nd rfl (.inl rfl)) (pss_cons (ps_asg (pe_callO (ok_signAt T) hr (by decide) (by rfl) (pa_cons (pv 1) (pa_cons (pv 3) (pa_cons (pv 6) (pa_cons (pv 4) (pa_nil)))))) (pg_tup rfl (pgs_cons (pg_name (i := 3) scWordNumbered.nd rfl (.inl rfl)) (pgs_cons (pg_name (i := 6) scWordNumbered.nd rfl (.inl rfl)) (pgs_nil)))))
         (pss_one (ps_expr (pe_bm PySem.F.plainAttrs_list PySem.F.slot_list_append PySem.F.type_list_append mt_append (pv 2) (pa_cons (pv 3) (pa_nil)))))))
         (pss_one (ps_ret (pe_join pe_str (pv 2)))))))))), ?_⟩
    have n400 : n < K7.base 400 := Nat.lt_of_lt_of_le hn base_big
    refine ⟨.int (n : Int), rfl, n, rfl, true, rfl, iteF ⟨.int (n : Int), rfl, _, _, rfl, rfl, _, rfl, iteDF (by omega) ?_⟩⟩
    refine ⟨by show 2 ≤ sizeLine; decide, fun l nl => ?_⟩
    refine ⟨.int (n : Int), rfl, _, _, rfl, ?_⟩
    refine ⟨fun m σ H3 => ∃ (L x : Nat) (y2 y3 y4 : Option V), m = 401 - L ∧ σ = [some (.int (n : Int)), some (.ref l), y2, y3, y4, some (.int (L : Int)), some (.int (x : Int))] ∧ Same H H3 ∧ H3 l = some (.lst (Vi (tlist (L + 2)))) ∧ K7.base L + x = n, ⟨401, 0, n, none, none, none, rfl, rfl, same_new nl, upd_same, Nat.zero_add _⟩, ?_⟩
    rintro m σ H3 ⟨L, x, y2, y3, y4, rfl, rfl, sm, el, hx⟩
    have L400 : L < 400 := by
      rcases Nat.lt_or_ge L 400 with h | h
      · exact h
      · have := base_mono h
        omega
    have hT : TL K H3 l L := ⟨L + 2, by omega, .inl (.inl el)⟩
    refine ⟨.int (x : Int), rfl, .ref l, rfl, .int (L : Int), rfl, l, L, rfl, hT, fun H4 s4 => ⟨_, _, rfl, rfl, _, rfl, ?_⟩⟩
    have el4 := s4 _ _ el
    have sA := Same.to sm s4
    by_cases c : cnt 0 L ≤ x
    · refine iteDT (by omega) ?_
      refine ⟨fun σ' H' => ∃ (x : Nat) (y2 y3 y4 : Option V), σ' = [some (.int (n : Int)), some (.ref l), y2, y3, y4, some (.int ((L + 1 : Nat) : Int)), some (.int (x : Int))] ∧ Same H H' ∧ H' l = some (.lst (Vi (tlist (L + 1 + 2)))) ∧ K7.base (L + 1) + x = n, fun σ' H' ⟨x', z2, z3, z4, h1, h2, h3, h4⟩ => ⟨401 - (L + 1), by omega, L + 1, x', z2, z3, z4, rfl, h1, h2, h3, h4⟩, ?_⟩
      refine ⟨.int (x : Int), rfl, .ref l, rfl, .int (L : Int), rfl, l, L, rfl, hT.same s4, fun H5 s5 => ⟨_, _, rfl, rfl, ?_⟩⟩
      have el5 := s5 _ _ el4
      have sB := Same.to sA s5
      refine ⟨_, rfl, _, _, rfl, rfl, ?_⟩
      have eL : (L : Int) + 1 = ((L + 1 : Nat) : Int) := by omega
      have ex : (x : Int) - (cnt 0 L : Int) = ((x - cnt 0 L : Nat) : Int) := by omega
      refine ⟨.int ((L : Int) + 1), rfl, _, _, rfl, rfl, _, rfl, iteDF (by omega) ?_⟩
      have e2 : Vi (tlist (L + 2)) = Vi (tlist L) ++ [.int (tl L : Int), .int (tl (L + 1) : Int)] := by
        rw [tlist_succ, tlist_succ]
        unfold Vi
        rw [List.map_append, List.map_append, List.append_assoc]
        rfl
      have a1 : atI (Vi (tlist (L + 2))) (-1) = some (.int (tl (L + 1) : Int)) := by
        rw [e2]
        have := atI_last (Vi (tlist L) ++ [.int (tl L : Int)]) (V.int (tl (L + 1) : Int))
        rw [List.append_assoc] at this
        exact this
      have a2 : atI (Vi (tlist (L + 2))) (-2) = some (.int (tl L : Int)) := by rw [e2]; exact atI_last2 _ _ _
      refine ⟨.ref l, rfl, .inl ⟨rfl, _, .inl (.inl el5)⟩, .ref l, rfl, 1, rfl, l, _, _, .int (tl (L + 1) : Int), rfl, rfl, .inl (.inl el5), a1, .ref l, rfl, 2, rfl, l, _, _, .int (tl L : Int), rfl, rfl, .inl (.inl el5), a2, _, _, rfl, rfl, l, _, _, rfl, rfl, el5, ?_, ?_⟩
      · rw [vi_len, tlist_len]
        exact Nat.lt_of_le_of_lt (show L + 2 ≤ 10000 by omega) (by decide)
      · refine ⟨x - cnt 0 L, y2, y3, y4, ?_, same_mut sB nl, ?_, ?_⟩
        · rw [← eL, ← ex]
          rfl
        · have e3 : (tl (L + 1) : Int) + (tl L : Int) = ((tl (L + 2) : Nat) : Int) := by rw [tl_2]; omega
          rw [upd_same]
          show some (HO.lst (Vi (tlist (L + 2)) ++ [V.int ((tl (L + 1) : Int) + (tl L : Int))])) = _
          rw [e3, vi_snoc, ← tlist_succ]
        · show K7.base L + cnt 0 L + (x - cnt 0 L) = n
          omega
    · refine iteDF (by omega) ?_
      have hcx : x < cnt 0 L := by omega
      obtain ⟨fu, nu⟩ := unr_num hcx
      refine ⟨Nat.zero_le _, fun D nD => ?_⟩
      have nD0 := none_of sA nD
      have g1 := same_new (o := .lst []) nD
      refine ⟨.int (L : Int), rfl, _, _, rfl, rfl, 1, rfl, 1, rfl, (L : Int) - 1, -1, -1, L, rfl, ?_, ?_⟩
      · have := RgC.neg (i := (L : Int) - 1) (j := -1) (by omega) (by omega) (by decide) (by decide)
        have e : (((L : Int) - 1) - (-1)).toNat = L := by omega
        rw [e] at this
        exact this
      have hT4 := hT.same s4
      refine for_rangeC (lo := (L : Int) - 1) (c := -1) (n := L) (fun i σ H' => ∃ (ws : List Nat) (z : Nat) (y4 : Option V), σ = [some (.int (n : Int)), some (.ref l), some (.ref D), some (.str (S (ah (prv 0 ws)))), y4, some (.int (L : Int)), some (.int (z : Int))] ∧ Same H4 H' ∧ H' D = some (.lst ((ws.map fun c => S [c]).map V.str)) ∧ ws.length = i ∧ Wd ws ∧ i ≤ L ∧ z < cnt (prv 0 ws) (L - i) ∧ ws ++ unr (prv 0 ws) z (L - i) = unr 0 x L)
        ⟨[], x, y4, rfl, g1, upd_same, rfl, (fun c hc => by cases hc), Nat.zero_le _, hcx, rfl⟩ (fun i σ H' hi h => ?_) (fun σ H' h => ?_)
      · obtain ⟨ws, z, z4, rfl, sm', hD, lw, ww, _, hz, he⟩ := h
        have ei : (L : Int) - 1 + (i : Nat) * (-1) = ((L - i - 1 : Nat) : Int) := by omega
        rw [ei]
        have eLi : L - i = (L - i - 1) + 1 := by omega
        rw [eLi] at hz he
        have hz' : z < sumW (beh (prv 0 ws)) (L - i - 1) := hz
        obtain ⟨p1, p2, _⟩ := pick_ok (beh_up (prv 0 ws)) hz'
        refine ⟨.ref l, rfl, .str (S (ah (prv 0 ws))), rfl, .int (z : Int), rfl, .int ((L - i - 1 : Nat) : Int), rfl, l, prv 0 ws, z, L - i - 1, rfl, prv_ok ww, (hT4.le (by omega)).same sm', hz', fun p H'' s' np ep => ?_⟩
        have sg := beh_sg p1
        have he' : ws ++ ((pick (beh (prv 0 ws)) z (L - i - 1)).1 :: unr (pick (beh (prv 0 ws)) z (L - i - 1)).1 (pick (beh (prv 0 ws)) z (L - i - 1)).2 (L - i - 1)) = unr 0 x L := he
        rw [ways_cnt sg] at p2
        generalize (pick (beh (prv 0 ws)) z (L - i - 1)).1 = o at sg ep he' p2
        generalize (pick (beh (prv 0 ws)) z (L - i - 1)).2 = z' at ep he' p2
        have hD'' := s' _ _ hD
        refine ⟨p, _, rfl, .inl (.inl ep), rfl, _, _, rfl, _, _, rfl, rfl, ?_⟩
        refine ⟨.ref D, rfl, .inl ⟨rfl, _, .inl (.inl hD'')⟩, .str (S [o]), rfl, D, _, _, rfl, rfl, hD'', ?_, ?_⟩
        · rw [List.length_map, List.length_map]
          exact Nat.lt_of_le_of_lt (show ws.length ≤ 10000 by omega) (by decide)
        · refine ⟨ws ++ [o], z', some (.int ((L - i - 1 : Nat) : Int)), ?_, same_mut (Same.to sm' s') nD, ?_, ?_, ?_, by omega, ?_, ?_⟩
          · rw [prv_snoc, ah_sg sg]
            rfl
          · rw [upd_same, List.map_append, List.map_append]
            rfl
          · rw [List.length_append, lw]
            rfl
          · exact wd_append.mpr ⟨ww, fun c hc => by rw [List.mem_singleton.mp hc]; exact sg⟩
          · rw [prv_snoc, show L - (i + 1) = L - i - 1 by omega]
            exact p2
          · rw [prv_snoc, show L - (i + 1) = L - i - 1 by omega, List.append_assoc]
            exact he'
      · obtain ⟨ws, z, z4, rfl, sm', hD, lw, ww, _, hz, he⟩ := h
        rw [Nat.sub_self] at he
        have ew : ws = unr 0 x L := by
          rw [← he]
          exact (List.append_nil ws).symm
        refine ⟨⟨_, rfl⟩, .ref D, rfl, S [], D, ws.map (fun c => S [c]), rfl, rfl, .inl (.inl (.inl hD)), ?_, ?_⟩
        · rw [ones_sum, List.length_map, lw]
          show L + L * (S ([] : List Nat)).length ≤ _
          have e0 : (S ([] : List Nat)).length = 0 := rfl
          rw [e0]
          exact Nat.le_trans (show L + L * 0 ≤ 1000 by omega) (by decide)
        · rw [join_ones]
          refine q ws H' (by rw [ew]; exact fu) (by rw [ew, nu]; exact hx) (by omega) (Same.to sA sm')
def spWordsOf : Sp := fun vs H Q _ => ∃ n : Nat, vs = [.int (n : Int)] ∧ n ≤ 4000 ∧ ∀ H', Same H H' → Q (.int (cnt 0 n : Int)) H'
theorem ok_wordsOf (T : Txt w K mg) : Ok P w K mg base 4 "words_of" ["length"] spWordsOf := by
  refine ok_of T.fWordsOf fun f fd F => ?_
  obtain ⟨tM, gM⟩ := T.most
  refine F.ok scWordsOf (fun vs H Q E h => ?_) (fun cdv A outer s H vs Q E hr h => ?_)
  · obtain ⟨n, rfl, _⟩ := h
    rfl
  · obtain ⟨n, rfl, hn, q⟩ := h
    refine ⟨_, pss_cons (ps_expr (pe_callO (ok_needNumberIn T) hr (by decide) (by rfl) (pa_cons (pv 0) (pa_cons (pe_int) (pa_cons (pe_glob (v := .int 4000) rfl gM ⟨_, rfl⟩) (pa_nil))))))
         (pss_one (ps_ret (pe_callO (ok_wordsWith T) hr (by decide) (by rfl) (pa_cons (pe_callO (ok_tails T) hr (by decide) (by rfl) (pa_cons (pv 0) (pa_nil))) (pa_cons (pv 0) (pa_nil)))))), ?_⟩
    refine ⟨.int (n : Int), rfl, n, 0, 4000, rfl, by omega, by omega, ?_⟩
    refine ⟨.int (n : Int), rfl, n, rfl, by omega, fun p H1 s1 np ep => ?_⟩
    refine ⟨.int (n : Int), rfl, p, n, rfl, ⟨n + 2, by omega, .inl (.inl ep)⟩, fun H2 s2 => q H2 (Same.to s1 s2)⟩
end
end K7

namespace K7
open PySem PySem.Spec PyProof.Rows L2 Nr Nw
theorem mul_s (u : List Nat) (k : Nat) : Txt.mul (S u) (k : Int) = S (List.replicate k u).flatten := Nr.mul_list u k
theorem alt_a : ∀ (k m : Nat), m ≤ 2 * k → ((List.replicate k [48, 49]).flatten).take m = lst0 49 m
  | 0, m, h => by
    have : m = 0 := by omega
    subst this
    rfl
  | k + 1, m, h => by
    rw [List.replicate_succ, List.flatten_cons]
    match m with
    | 0 => rfl
    | 1 => rfl
    | m + 2 =>
      have i := alt_a k m (by omega)
      show 48 :: 49 :: ((List.replicate k [48, 49]).flatten).take m = 48 :: 49 :: lst0 49 m
      rw [i]
theorem alt_b : ∀ (k m : Nat), m ≤ 2 * k → ((List.replicate k [49, 48]).flatten).take m = lst0 48 m
  | 0, m, h => by
    have : m = 0 := by omega
    subst this
    rfl
  | k + 1, m, h => by
    rw [List.replicate_succ, List.flatten_cons]
    match m with
    | 0 => rfl
    | 1 => rfl
    | m + 2 =>
      have i := alt_b k m (by omega)
      show 49 :: 48 :: ((List.replicate k [49, 48]).flatten).take m = 49 :: 48 :: lst0 48 m
      rw [i]
theorem lst0_0 (m : Nat) : lst0 0 m = lst0 49 m := by cases m <;> rfl
theorem lst0_50 (m : Nat) : lst0 50 m = lst0 48 m := by cases m <;> rfl
theorem rep_len2 (u : List Nat) (k : Nat) : (List.replicate k u).flatten.length = k * u.length := by
  induction k with
  | zero => simp
  | succ k ih => rw [List.replicate_succ, List.flatten_cons, List.length_append, ih, Nat.succ_mul, Nat.add_comm]
theorem inV_strs (x : List Nat) : ∀ ws : List (List Nat), inV (V.str (S x)) (Vs ws) = decide (x ∈ ws)
  | [] => rfl
  | y :: r => by
    have ih := inV_strs x r
    unfold inV at ih ⊢
    show (eqV (V.str (S y)) (V.str (S x)) || (Vs r).any fun y => eqV y (V.str (S x))) = _
    rw [ih]
    have e : eqV (V.str (S y)) (V.str (S x)) = decide (x = y) := by
      show (S y == S x) = _
      by_cases h : x = y
      · subst h
        rw [decide_eq_true rfl]
        exact beq_self_eq_true _
      · rw [decide_eq_false h]
        exact beq_false_of_ne fun z => h (s_inj z).symm
    rw [e]
    by_cases h : x = y
    · have hm : x ∈ y :: r := h ▸ List.mem_cons_self
      rw [decide_eq_true h, decide_eq_true hm]
      rfl
    · by_cases h2 : x ∈ r
      · rw [decide_eq_true h2, decide_eq_true (List.mem_cons_of_mem _ h2), Bool.or_true]
      · rw [decide_eq_false h, decide_eq_false h2, decide_eq_false (fun z => (List.mem_cons.mp z).elim h h2)]
        rfl
theorem cut_last1 (x : List Nat) (hx : Wd x) : cutS (S x) (some (-1)) none = S (ah (prv 0 x)) := by
  unfold cutS
  have h1 : (S x).length = x.length := rfl
  have h2 : HT.sIx x.length 0 (some (-1)) = x.length - 1 := by
    show (if (-1 : Int) < 0 then ((-1 : Int) + ((x.length : Nat) : Int)).toNat else min ((-1 : Int)).toNat x.length) = _
    rw [if_pos (by decide)]
    omega
  rw [h1, h2, HT.sIx_none]
  show (⟨((x.drop (x.length - 1)).take (x.length - (x.length - 1))).toArray⟩ : Str) = _
  by_cases e : x = []
  · subst e; rfl
  · obtain ⟨y, s, rfl⟩ : ∃ y s, x = y ++ [s] := ⟨x.dropLast, x.getLast e, (List.dropLast_concat_getLast e).symm⟩
    rw [prv_snoc, ah_sg (hx s (by simp))]
    have l1 : (y ++ [s]).length - 1 = y.length := by simp
    have l2 : (y ++ [s]).length - y.length = 1 := by simp
    rw [l1, l2, List.drop_left]
    rfl
theorem find_at {p : Nat → Bool} {o : Nat} : ∀ {l : List Nat} {j : Nat}, l[j]? = some o → (∀ x ∈ l.take j, p x = false) → p o = true → l.find? p = some o
  | [], j, h, _, _ => by cases h
  | x :: r, 0, h, _, ho => by
    cases h
    rw [List.find?_cons, ho]
  | x :: r, j + 1, h, hn, ho => by
    rw [List.find?_cons, hn x (by simp)]
    exact find_at (l := r) (j := j) h (fun y hy => hn y (by simp [hy])) ho
theorem find_no {p : Nat → Bool} {l : List Nat} (h : ∀ x ∈ l, p x = false) : l.find? p = none := List.find?_eq_none.mpr fun x hx => by rw [h x hx]; decide
theorem nxt_len {u v : List Nat} (hu : Fw u) (h : Nxt u v) : v.length ≤ u.length + 1 := by
  rcases Nat.lt_or_ge (u.length + 1) v.length with c | c
  · have a := rk_lt (fw_al0 hu)
    have m : base (u.length + 2) ≤ base v.length := base_mono c
    have e : base (u.length + 2) = base u.length + cnt 0 u.length + cnt 0 (u.length + 1) := rfl
    have p := cnt_pos 0 (u.length + 1)
    have := h.2
    unfold num at this
    omega
  · exact c
/-- nothing is ahead behind this place -/
def Fin (u : List Nat) (i : Nat) : Prop := rk (prv 0 (u.take (u.length - i))) (u.drop (u.length - i)) + 1 = cnt (prv 0 (u.take (u.length - i))) i
theorem fin_0 (u : List Nat) : Fin u 0 := by
  unfold Fin
  rw [Nat.sub_zero, List.drop_length]
  rfl
/-- a word at a place -/
theorem at_place {u : List Nat} {p : Nat} (h : p < u.length) : ∃ s, u[p]? = some s ∧ u = u.take p ++ s :: u.drop (p + 1) := by
  refine ⟨u[p], List.getElem?_eq_getElem h, ?_⟩
  rw [← List.drop_eq_getElem_cons h, List.take_append_drop]
theorem fin_step {u : List Nat} {i p s : Nat} (fu : Fw u) (hp : p + 1 + i = u.length) (hF : Fin u i) (e : u = u.take p ++ s :: u.drop (p + 1)) : rk s (u.drop (p + 1)) + 1 = cnt s (u.drop (p + 1)).length ∧ (u.drop (p + 1)).length = i ∧ (nxt1 (prv 0 (u.take p)) s = none → Fin u (i + 1)) := by
  have e1 : u.length - i = p + 1 := by omega
  have ld : (u.drop (p + 1)).length = i := by rw [List.length_drop]; omega
  have lt : (u.take p).length = p := by rw [List.length_take]; omega
  have ep : prv 0 (u.take (u.length - i)) = s := by
    have h1 : u.take (u.length - i) = u.take p ++ [s] := by
      rw [e1, List.take_succ]
      have h2 : (u.take p ++ s :: u.drop (p + 1))[p]? = some s := by
        rw [List.getElem?_append_right (by omega), lt, Nat.sub_self]
        rfl
      rw [← e] at h2
      rw [h2]
      rfl
    rw [h1, prv_snoc]
  unfold Fin at hF
  rw [ep, e1] at hF
  refine ⟨by rw [ld]; exact hF, ld, fun hn => ?_⟩
  unfold Fin
  have e2 : u.length - (i + 1) = p := by omega
  have ed : u.drop p = s :: u.drop (p + 1) := by
    have h2 : (u.take p ++ s :: u.drop (p + 1)).drop p = s :: u.drop (p + 1) := by
      rw [List.drop_append_of_le_length (by omega), List.drop_eq_nil_of_le (by omega)]
      rfl
    rw [← e] at h2
    exact h2
  have := nxt_over (x := u.take p) (by rw [← e]; exact fu) (by rw [ld]; exact hF) hn
  rw [e2, ed, this]
  show cnt _ ((u.drop (p + 1)).length + 1) = _
  rw [ld]
section
variable {P : Program} {w : World} {K : PySem.W.Frag} {mg : Str → Option Value} {base : Heap}
def spLeastTail : Sp := fun vs H Q _ => ∃ (a m : Nat), vs = [.str (S (ah a)), .int (m : Int)] ∧ OkA a ∧ m ≤ 4500 ∧ ∀ H', Same H H' → Q (.str (S (lst0 a m))) H'
theorem ok_leastTail (T : Txt w K mg) : Ok P w K mg base 1 "_least_tail" ["ahead", "many"] spLeastTail := by
  refine ok_of T.fLeastTail fun f fd F => ?_
  refine F.ok scLeastTail (fun vs H Q E h => ?_) (fun cdv A outer s H vs Q E hr h => ?_)
  · obtain ⟨a, m, rfl, _⟩ := h
    rfl
  · obtain ⟨a, m, rfl, okA, hm, q⟩ := h
    refine ⟨_, pss_cons (ps_if (pt_cmpR op_in_seq (pv 0) (pe_tup (pa_cons (pe_str) (pa_cons (pe_str) (pa_nil)))) (by rfl)) (pss_one (ps_ret (pe_slice sl_str (pe_op op_mulS (pe_str) (pv 1)) po_none (po_some (pv 1))))) (pss_nil))
         (pss_one (ps_ret (pe_slice sl_str (pe_op op_mulS (pe_str) (pv 1)) po_none (po_some (pv 1))))), ?_⟩
    have fit : ∀ z : Nat, z ≤ 10000 → z ≤ sizeLine := fun z hz => Nat.le_trans hz (by decide)
    refine ⟨.str (S (ah a)), rfl, by show 2 ≤ sizeLine; decide, fun p np => ?_⟩
    have s1 := same_new (o := .tup (Vs [[], [49]])) np
    refine ⟨p, Vs [[], [49]], rfl, .inr (.inl (.inl upd_same)), rfl, rfl, _, rfl, ?_⟩
    rw [inV_strs]
    have t1 : ∀ x : List Nat, x.length = 2 → cutS (S (List.replicate m x).flatten) none (some (m : Int)) = S (((List.replicate m x).flatten).take m) := fun x hx => cut_upto (by rw [rep_len2, hx]; omega)
    have l2 : ∀ x : List Nat, x.length = 2 → (S (List.replicate m x).flatten).length ≤ sizeLine := fun x hx => fit _ (show (List.replicate m x).flatten.length ≤ _ by rw [rep_len2, hx]; omega)
    by_cases c : ah a ∈ ([[], [49]] : List (List Nat))
    · refine iteDT c ⟨.int (m : Int), rfl, S [48, 49], m, rfl, rfl, (show 2 * m ≤ 100000 by omega), by omega, .int (m : Int), rfl, (m : Int), rfl, ?_⟩
      rw [mul_s]
      refine ⟨_, rfl, l2 _ rfl, ?_⟩
      rw [t1 _ rfl, alt_a m m (by omega)]
      have e : lst0 49 m = lst0 a m := by
        rcases okA with h | h | h | h
        · subst h; exact (lst0_0 m).symm
        · subst h; exact absurd c (by decide)
        · subst h; rfl
        · subst h; exact absurd c (by decide)
      rw [e]
      exact q _ s1
    · refine iteDF c ⟨.int (m : Int), rfl, S [49, 48], m, rfl, rfl, (show 2 * m ≤ 100000 by omega), by omega, .int (m : Int), rfl, (m : Int), rfl, ?_⟩
      rw [mul_s]
      refine ⟨_, rfl, l2 _ rfl, ?_⟩
      rw [t1 _ rfl, alt_b m m (by omega)]
      have e : lst0 48 m = lst0 a m := by
        rcases okA with h | h | h | h
        · subst h; exact absurd (by decide) c
        · subst h; rfl
        · subst h; exact absurd (by decide) c
        · subst h; exact (lst0_50 m).symm
      rw [e]
      exact q _ s1
def spNextWord : Sp := fun vs H Q _ => ∃ u : List Nat, vs = [.str (S u)] ∧ Fw u ∧ u.length ≤ 3000 ∧ ∀ (v : List Nat) (H' : Hp), Nxt u v → Same H H' → Q (.str (S v)) H'
theorem ok_nextWord (T : Txt w K mg) : Ok P w K mg base 2 "_next_word" ["word"] spNextWord := by
  refine ok_of T.fNextWord fun f fd F => ?_
  obtain ⟨aB, gB, k0, k1, k2, k3⟩ := T.behind
  refine F.ok scNextWord (fun vs H Q E h => ?_) (fun cdv A outer s H vs Q E hr h => ?_)
  · obtain ⟨u, rfl, _⟩ := h
    rfl
  · obtain ⟨u, rfl, fu, lu, q⟩ := h
    refine ⟨_, pss_cons (ps_for PassesOwn.never rfl (pi_range3 (by rfl) T.nrange (pa_cons (pe_op op_sub (pe_callB call_len_str (by rfl) T.nlen PySem.boot_len (pa_cons (pv 0) (pa_nil))) (pe_int)) (pa_cons (pe_un un_neg pe_int) (pa_cons (pe_un un_neg pe_int) (pa_nil))))) (pg_name (i := 1) scNextWord.nd rfl (.inl rfl)) (pss_one (ps_for PassesOwn.never rfl (pi_str (pe_ix (r := rIxD K w) ix_kdict (pe_glob (v := .ref aB) rfl gB rfl) (pe_slice sl_str (pe_slice sl_str (pv 0) po_none (po_some (pv 1))) (po_some (pe_un un_neg pe_int)) po_none) (fun _ _ => rfl))) (pg_name (i := 2) scNextWord.nd rfl (.inl rfl)) (pss_one (ps_if (pt_cmpR (op_gt_str) (pv 2) (pe_ix ix_str (pv 0) (pv 1) (fun _ _ => rfl)) (nomark _)) (pss_one (ps_ret (pe_op op_add_str (pe_op op_add_str (pe_slice sl_str (pv 0) po_none (po_some (pv 1))) (pv 2)) (pe_callO (ok_leastTail T) hr (by decide) (by rfl) (pa_cons (pv 2) (pa_cons (pe_op op_sub (pe_op op_sub (pe_callB call_len_str (by rfl) T.nlen PySem.boot_len (pa_cons (pv 0) (pa_nil))) (pv 1)) (pe_int)) (pa_nil))))))) (pss_nil))))))
         (pss_one (ps_ret (pe_callO (ok_leastTail T) hr (by decide) (by rfl) (pa_cons (pe_str) (pa_cons (pe_op op_add (pe_callB call_len_str (by rfl) T.nlen PySem.boot_len (pa_cons (pv 0) (pa_nil))) (pe_int)) (pa_nil)))))), ?_⟩
    have fit : ∀ z : Nat, z ≤ 10000 → z ≤ sizeLine := fun z hz => Nat.le_trans hz (by decide)
    have zu : (S u).length ≤ sizeLine := fit _ (show u.length ≤ _ by omega)
    refine ⟨.str (S u), rfl, S u, rfl, zu, _, _, rfl, rfl, 1, rfl, 1, rfl, ((u.length : Nat) : Int) - 1, -1, -1, u.length, rfl, ?_, ?_⟩
    · have := RgC.neg (i := ((u.length : Nat) : Int) - 1) (j := -1) (by omega) (by omega) (by decide) (by decide)
      have e : ((((u.length : Nat) : Int) - 1) - (-1)).toNat = u.length := by omega
      rw [e] at this
      exact this
    refine for_rangeC (lo := ((u.length : Nat) : Int) - 1) (c := -1) (n := u.length) (fun i σ H' => ∃ (y1 y2 : Option V), σ = [some (.str (S u)), y1, y2] ∧ Same H H' ∧ Fin u i) ⟨none, none, rfl, Same.id _, fin_0 u⟩ (fun i σ H' hi h => ?_) (fun σ H' h => ?_)
    · obtain ⟨y1, y2, rfl, sm, hF⟩ := h
      obtain ⟨p, hp⟩ : ∃ p, p + 1 + i = u.length := ⟨u.length - 1 - i, by omega⟩
      have ei : ((u.length : Nat) : Int) - 1 + (i : Nat) * (-1) = ((p : Nat) : Int) := by omega
      rw [ei]
      obtain ⟨x, hx, ex⟩ := at_place (show p < u.length by omega)
      obtain ⟨f1, f2, f3⟩ := fin_step fu hp hF ex
      have wt : Wd (u.take p) := fun z hz => fu.wd z (List.mem_of_mem_take hz)
      have okA := prv_ok wt
      have kb := kd_behind k0 k1 k2 k3 okA
      have c1 : cutS (S u) none (some (p : Int)) = S (u.take p) := cut_upto (by omega)
      have zt : (S (u.take p)).length ≤ sizeLine := fit _ (show (u.take p).length ≤ _ by rw [List.length_take]; omega)
      refine ⟨.str (S u), rfl, .int (p : Int), rfl, (p : Int), rfl, S u, rfl, zu, 1, rfl, -1, rfl, S (u.take p), ?_, zt, ?_⟩
      · rw [c1]
      rw [cut_last1 _ wt]
      refine ⟨aB, S (ah (prv 0 (u.take p))), .str (S (beh (prv 0 (u.take p)))), rfl, rfl, kb, S (beh (prv 0 (u.take p))), rfl, ?_⟩
      refine for_str (u := beh (prv 0 (u.take p))) (fun j σ H2 => ∃ y2, σ = [some (.str (S u)), some (.int (p : Int)), y2] ∧ H2 = H' ∧ ∀ o ∈ (beh (prv 0 (u.take p))).take j, decide (x < o) = false) ⟨y2, rfl, rfl, fun o ho => by cases ho⟩ (fun j o σ H2 ho h => ?_) (fun σ H2 h => ?_)
      · obtain ⟨z2, rfl, rfl, hN⟩ := h
        refine ⟨.str (S [o]), rfl, .str (S u), rfl, .int (p : Int), rfl, S u, (p : Int), x, rfl, rfl, zu, at_str hx, S [o], S [x], rfl, rfl, _, rfl, ?_⟩
        rw [lt_one]
        by_cases c : x < o
        · refine iteDT c ?_
          have hn : nxt1 (prv 0 (u.take p)) x = some o := find_at ho hN (decide_eq_true c)
          have fu2 := fu
          rw [ex] at fu2
          have nx := nxt_found fu2 f1 hn
          rw [← ex, f2] at nx
          have so : Sg o := beh_sg (List.mem_of_getElem? ho)
          refine ⟨.str (S u), rfl, .int (p : Int), rfl, (p : Int), rfl, S u, rfl, zu, .str (S [o]), rfl, _, _, rfl, rfl, ?_, .str (S [o]), rfl, .str (S u), rfl, S u, rfl, zu, .int (p : Int), rfl, _, _, rfl, rfl, _, _, rfl, rfl, o, i, ?_, .inr so, by omega, fun H3 s3 => ?_⟩
          · rw [c1]
            exact fit _ (show (u.take p).length + 1 ≤ _ by rw [List.length_take]; omega)
          · have e1 : (((u.length : Nat) : Int) - (p : Int) - 1) = (i : Int) := by omega
            show [V.str (S [o]), V.int (((u.length : Nat) : Int) - (p : Int) - 1)] = _
            rw [e1, ah_sg so]
          · rw [c1, s_app]
            refine ⟨_, _, rfl, rfl, fit _ (show (u.take p ++ [o]).length + (lst0 o i).length ≤ _ by rw [List.length_append, List.length_take, lst0_len]; show _ + 1 + _ ≤ _; omega), ?_⟩
            rw [s_app, List.append_assoc]
            exact q _ _ nx (Same.to sm s3)
        · refine iteDF c ⟨some (.str (S [o])), rfl, rfl, fun o' ho' => ?_⟩
          rw [List.take_succ, ho] at ho'
          rcases List.mem_append.mp ho' with h | h
          · exact hN o' h
          · rw [List.mem_singleton.mp h]
            exact decide_eq_false c
      · obtain ⟨z2, rfl, rfl, hN⟩ := h
        rw [List.take_length] at hN
        exact ⟨_, _, rfl, sm, f3 (find_no hN)⟩
    · obtain ⟨y1, y2, rfl, sm, hF⟩ := h
      unfold Fin at hF
      rw [Nat.sub_self] at hF
      have nx := nxt_last fu hF
      refine ⟨.str (S u), rfl, S u, rfl, zu, _, _, rfl, rfl, 0, u.length + 1, rfl, .inl rfl, by omega, fun H3 s3 => q _ _ nx (Same.to sm s3)⟩
/-- words one after the other -/
def Run (t : List Nat) (ws : List (List Nat)) : Prop := ∀ i v, ws[i]? = some v → Fw v ∧ num v = num t + 1 + i ∧ v.length ≤ t.length + 1 + i
theorem run_nil (t : List Nat) : Run t [] := fun i v h => by cases h
def endR (t : List Nat) (ws : List (List Nat)) : List Nat := ws.getLast?.getD t
theorem run_end {t : List Nat} {ws : List (List Nat)} (ft : Fw t) (h : Run t ws) : Fw (endR t ws) ∧ num (endR t ws) = num t + ws.length ∧ (endR t ws).length ≤ t.length + ws.length := by
  by_cases e : ws = []
  · subst e
    exact ⟨ft, rfl, Nat.le_refl _⟩
  · obtain ⟨ys, y, rfl⟩ : ∃ ys y, ws = ys ++ [y] := ⟨ws.dropLast, ws.getLast e, (List.dropLast_concat_getLast e).symm⟩
    have : (ys ++ [y])[ys.length]? = some y := by rw [List.getElem?_append_right (Nat.le_refl _), Nat.sub_self]; rfl
    obtain ⟨a, b, c⟩ := h _ _ this
    have e2 : endR t (ys ++ [y]) = y := by unfold endR; rw [List.getLast?_append]; rfl
    rw [e2, List.length_append]
    exact ⟨a, by show _ = num t + (ys.length + 1); omega, by show _ ≤ t.length + (ys.length + 1); omega⟩
theorem endR_snoc (t : List Nat) (ws : List (List Nat)) (v : List Nat) : endR t (ws ++ [v]) = v := by unfold endR; rw [List.getLast?_append]; rfl
theorem run_snoc {t v : List Nat} {ws : List (List Nat)} (ft : Fw t) (h : Run t ws) (n : Nxt (endR t ws) v) : Run t (ws ++ [v]) := by
  obtain ⟨a, b, c⟩ := run_end ft h
  intro i w hw
  by_cases hi : i < ws.length
  · rw [List.getElem?_append_left hi] at hw
    exact h i w hw
  · have hl := (List.getElem?_eq_some_iff.mp hw).1
    rw [List.length_append] at hl
    have ei : i = ws.length := by
      have : ([v] : List (List Nat)).length = 1 := rfl
      omega
    subst ei
    rw [List.getElem?_append_right (Nat.le_refl _), Nat.sub_self] at hw
    have e : v = w := Option.some.inj hw
    subst e
    have l := nxt_len a n
    exact ⟨n.1, by rw [n.2, b]; omega, by omega⟩
theorem run_fun {t : List Nat} {ws us : List (List Nat)} (h : Run t ws) (k : Run t us) (l : ws.length = us.length) : ws = us := by
  refine List.ext_getElem? fun i => ?_
  by_cases hi : i < ws.length
  · have e1 : ws[i]? = some ws[i] := List.getElem?_eq_getElem hi
    have e2 : us[i]? = some (us[i]'(by omega)) := List.getElem?_eq_getElem (by omega)
    obtain ⟨a1, a2, _⟩ := h _ _ e1
    obtain ⟨b1, b2, _⟩ := k _ _ e2
    rw [e1, e2, num_inj a1 b1 (a2.trans b2.symm)]
  · rw [List.getElem?_eq_none (by omega), List.getElem?_eq_none (by omega)]
def spNextWords : Sp := fun vs H Q _ => ∃ (u : List Nat) (n : Nat), vs = [.str (S u), .int (n : Int)] ∧ Wd u ∧ u.length ≤ 1000 ∧ n ≤ 10 ∧ ∀ (ws : List (List Nat)) (p : Addr) (H' : Hp), Run (cut u) ws → ws.length = n → Same H H' → H p = none → H' p = some (.tup (Vs ws)) → Q (.ref p) H'
theorem ok_nextWords (T : Txt w K mg) : Ok P w K mg base 4 "next_words" ["word", "many"] spNextWords := by
  refine ok_of T.fNextWords fun f fd F => ?_
  obtain ⟨tM, gM⟩ := T.most
  refine F.ok scNextWords (fun vs H Q E h => ?_) (fun cdv A outer s H vs Q E hr h => ?_)
  · obtain ⟨u, n, rfl, _⟩ := h
    rfl
  · obtain ⟨u, n, rfl, hu, lu, hn, q⟩ := h
    refine ⟨_, pss_cons (ps_expr (pe_callO (ok_need T) hr (by decide) (by rfl) (pa_cons (pv 0) (pa_nil))))
         (pss_cons (ps_expr (pe_callO (ok_needNumberIn T) hr (by decide) (by rfl) (pa_cons (pv 1) (pa_cons (pe_int) (pa_cons (pe_int) (pa_nil))))))
         (pss_cons (ps_set (i := 2) scNextWords.nd rfl (.inl rfl) (pe_callO (ok_redText T) hr (by decide) (by rfl) (pa_cons (pv 0) (pa_nil))))
         (pss_cons (ps_if (pt_cmpR (op_gt) (pe_callB call_len_str (by rfl) T.nlen PySem.boot_len (pa_cons (pv 2) (pa_nil))) (pe_glob (v := .int 4000) rfl gM ⟨_, rfl⟩) (nomark _)) (pss_one ps_never) (pss_nil))
         (pss_cons (ps_set (i := 3) scNextWords.nd rfl (.inl rfl) (pe_lst (pa_nil)))
         (pss_cons (ps_while PassesOwn.never (pt_cmpR (op_lt) (pe_callB call_len_seq (by rfl) T.nlen PySem.boot_len (pa_cons (pv 3) (pa_nil))) (pv 1) (nomark _)) (pss_cons (ps_set (i := 2) scNextWords.nd rfl (.inl rfl) (pe_callO (ok_nextWord T) hr (by decide) (by rfl) (pa_cons (pv 2) (pa_nil))))
         (pss_cons (ps_if (pt_cmpR (op_gt) (pe_callB call_len_str (by rfl) T.nlen PySem.boot_len (pa_cons (pv 2) (pa_nil))) (pe_glob (v := .int 4000) rfl gM ⟨_, rfl⟩) (nomark _)) (pss_one ps_never) (pss_nil))
         (pss_one (ps_expr (pe_bm PySem.F.plainAttrs_list PySem.F.slot_list_append PySem.F.type_list_append mt_append (pv 3) (pa_cons (pv 2) (pa_nil))))))))
         (pss_one (ps_ret (pe_callTy call_tuple_of (by rfl) T.ntuple (by decide +kernel) (pa_cons (pv 3) (pa_nil)))))))))), ?_⟩
    have fit : ∀ z : Nat, z ≤ 10000 → z ≤ sizeLine := fun z hz => Nat.le_trans hz (by decide)
    refine ⟨.str (S u), rfl, u, rfl, hu, fun H1 s1 => ?_⟩
    refine ⟨.int (n : Int), rfl, n, 0, 200, rfl, by omega, by omega, ?_⟩
    refine ⟨.str (S u), rfl, u, rfl, ⟨hu, by omega⟩, fun H2 s2 => ?_⟩
    have ft := fw_cut hu
    have lt := cut_len _ u rfl hu
    have sA := Same.to s1 s2
    generalize cut u = t at ft lt q ⊢
    refine ⟨.str (S t), rfl, S t, rfl, fit _ (show t.length ≤ _ by omega), _, _, rfl, rfl, _, rfl, ?_⟩
    refine iteDF (show ¬ (4000 : Int) < ((S t).length : Int) from by show ¬ (4000 : Int) < ((t.length : Nat) : Int); omega) ?_
    refine ⟨Nat.zero_le _, fun D nD => ?_⟩
    have nD0 := none_of sA nD
    refine ⟨fun m σ H3 => ∃ ws : List (List Nat), m = n - ws.length ∧ ws.length ≤ n ∧ σ = [some (.str (S u)), some (.int (n : Int)), some (.str (S (endR t ws))), some (.ref D)] ∧ Same H2 H3 ∧ H3 D = some (.lst (Vs ws)) ∧ Run t ws, ⟨n, [], rfl, Nat.zero_le _, rfl, same_new nD, upd_same, run_nil t⟩, ?_⟩
    rintro m σ H3 ⟨ws, rfl, hl, rfl, sm, hD, hR⟩
    refine ⟨.ref D, rfl, D, _, rfl, .inl (.inl (.inl hD)), .int (n : Int), rfl, _, _, rfl, rfl, _, rfl, ?_⟩
    rw [vs_len]
    obtain ⟨e1, e2, e3⟩ := run_end ft hR
    by_cases c : ws.length < n
    · refine iteDT (by omega) ?_
      refine ⟨fun σ' H' => ∃ v, σ' = [some (.str (S u)), some (.int (n : Int)), some (.str (S (endR t (ws ++ [v])))), some (.ref D)] ∧ Same H2 H' ∧ H' D = some (.lst (Vs (ws ++ [v]))) ∧ Run t (ws ++ [v]), fun σ' H' ⟨v, h1, h2, h3, h4⟩ => ⟨n - (ws ++ [v]).length, by rw [List.length_append]; show n - (ws.length + 1) < _; omega, ws ++ [v], rfl, by rw [List.length_append]; show ws.length + 1 ≤ n; omega, h1, h2, h3, h4⟩, ?_⟩
      refine ⟨.str (S (endR t ws)), rfl, endR t ws, rfl, e1, by omega, fun v H4 nx s4 => ?_⟩
      have lv := nxt_len e1 nx
      refine ⟨.str (S v), rfl, S v, rfl, fit _ (show v.length ≤ _ by omega), _, _, rfl, rfl, _, rfl, ?_⟩
      refine iteDF (show ¬ (4000 : Int) < ((S v).length : Int) from by show ¬ (4000 : Int) < ((v.length : Nat) : Int); omega) ?_
      have hD4 := s4 _ _ hD
      refine ⟨.ref D, rfl, .inl ⟨rfl, _, .inl (.inl hD4)⟩, .str (S v), rfl, D, _, _, rfl, rfl, hD4, ?_, v, ?_, same_mut (Same.to sm s4) nD, ?_, run_snoc ft hR nx⟩
      · rw [vs_len]
        exact Nat.lt_of_le_of_lt (show ws.length ≤ 10 by omega) (by decide)
      · rw [endR_snoc]
        rfl
      · rw [upd_same, vs_snoc]
    · refine iteDF (by omega) ?_
      refine ⟨.ref D, rfl, D, _, rfl, .inl ⟨.inl (.inl hD), fun p np => ?_⟩⟩
      have sB := Same.to sA sm
      exact q ws p _ hR (by omega) (Same.to sB (same_new np)) (none_of sB np) upd_same
/-! ### the law's own next word -/
theorem lst0_snoc : ∀ (m a : Nat), lst0 a (m + 1) = lst0 a m ++ [if prv a (lst0 a m) = 48 ∨ prv a (lst0 a m) = 50 then 49 else 48]
  | 0, a => rfl
  | m + 1, a => by
    have i := lst0_snoc m (if a = 48 ∨ a = 50 then 49 else 48)
    show (if a = 48 ∨ a = 50 then 49 else 48) :: lst0 (if a = 48 ∨ a = 50 then 49 else 48) (m + 1) = _
    rw [i]
    rfl
theorem prv_app (x y : List Nat) (a : Nat) : prv a (x ++ y) = prv (prv a x) y := by
  induction x generalizing a with
  | nil => rfl
  | cons c r ih => exact ih c
theorem lst0_wd (a m : Nat) : Wd (lst0 a m) := (al_fw (lst0_ok m a).1).1.wd
def spFilled : Sp := fun vs H Q _ => ∃ (u : List Nat) (n : Nat), vs = [.str (S u), .int (n : Int)] ∧ Wd u ∧ u.length ≤ n ∧ n ≤ 3000 ∧ ∀ H', Same H H' → Q (.str (S (u ++ lst0 (prv 0 u) (n - u.length)))) H'
theorem ok_filled (T : Txt w K mg) : Ok P w K mg base 1 "_law_filled" ["word", "many"] spFilled := by
  refine ok_of T.fLawFilled fun f fd F => ?_
  refine F.ok scLawFilled (fun vs H Q E h => ?_) (fun cdv A outer s H vs Q E hr h => ?_)
  · obtain ⟨u, n, rfl, _⟩ := h
    rfl
  · obtain ⟨u, n, rfl, hu, lu, hn, q⟩ := h
    refine ⟨_, pss_cons (ps_for PassesOwn.never rfl (pi_range1 (by rfl) T.nrange (pa_cons (pe_op op_sub (pv 1) (pe_callB call_len_str (by rfl) T.nlen PySem.boot_len (pa_cons (pv 0) (pa_nil)))) (pa_nil))) (pg_name (i := 2) scLawFilled.nd rfl (.inl rfl)) (pss_one (ps_set (i := 0) scLawFilled.nd rfl (.inl rfl) (pe_op op_add_str (pv 0) (pe_ifExp (PW.pt (pw_or (pt_cmpR (op_eq) (pv 0) (pe_str) (nomark _)) (pw_or1 (pt_cmpR (op_eq) (pe_ix ix_str (pv 0) (pe_un un_neg pe_int) (fun _ _ => rfl)) (pe_str) (nomark _))))) (pe_str) (pe_str))))))
         (pss_one (ps_ret (pv 0))), ?_⟩
    have fit : ∀ z : Nat, z ≤ 10000 → z ≤ sizeLine := fun z hz => Nat.le_trans hz (by decide)
    refine ⟨.int (n : Int), rfl, .str (S u), rfl, S u, rfl, fit _ (show u.length ≤ _ by omega), _, _, rfl, rfl, (n : Int) - (u.length : Int), rfl, by omega, by omega, ?_⟩
    have en : ((n : Int) - (u.length : Int)).toNat = n - u.length := by omega
    rw [en]
    refine for_range (lo := 0) (n := n - u.length) (fun i σ H' => ∃ y2, σ = [some (.str (S (u ++ lst0 (prv 0 u) i))), some (.int (n : Int)), y2] ∧ H' = H) ⟨none, by rw [show lst0 (prv 0 u) 0 = [] from rfl, List.append_nil]; rfl, rfl⟩ (fun i σ H' hi h => ?_) (fun σ H' h => ?_)
    · obtain ⟨y2, rfl, rfl⟩ := h
      have sn := lst0_snoc i (prv 0 u)
      rw [← prv_app] at sn
      have wt : Wd (u ++ lst0 (prv 0 u) i) := wd_append.mpr ⟨hu, lst0_wd _ _⟩
      have lt : (u ++ lst0 (prv 0 u) i).length = u.length + i := by rw [List.length_append, lst0_len]
      rw [sn, ← List.append_assoc]
      generalize u ++ lst0 (prv 0 u) i = t at wt lt ⊢
      have zt : (S t).length ≤ sizeLine := fit _ (show t.length ≤ _ by omega)
      refine ⟨.str (S t), rfl, .str (S t), rfl, rfl, _, rfl, ?_⟩
      by_cases e : t = []
      · subst e
        refine iteDT rfl (iteT ?_)
        exact ⟨S [], S [48], rfl, rfl, by decide, _, rfl, rfl⟩
      · refine iteDF (fun z => e (s_inj (V.str.inj z))) ?_
        obtain ⟨y, c, rfl⟩ : ∃ y c, t = y ++ [c] := ⟨t.dropLast, t.getLast e, (List.dropLast_concat_getLast e).symm⟩
        have sc : Sg c := wt c (by simp)
        rw [prv_snoc]
        have fits : ∀ d : Nat, (S (y ++ [c])).length + (S [d]).length ≤ sizeLine := fun d => fit _ (show (y ++ [c]).length + 1 ≤ _ by omega)
        refine ⟨.str (S (y ++ [c])), rfl, 1, rfl, S (y ++ [c]), -1, c, rfl, rfl, zt, atI_last (α := Nat) y c, rfl, _, rfl, ?_⟩
        by_cases c1 : c = 49
        · subst c1
          refine iteDT rfl ?_
          refine ⟨S (y ++ [49]), S [48], rfl, rfl, fits 48, some (.int (0 + (i : Nat))), ?_, rfl⟩
          rw [s_app]
          rfl
        · refine iteDF (fun z => c1 (List.cons.inj (s_inj (V.str.inj z))).1) ?_
          have c2 : c = 48 ∨ c = 50 := by rcases sc with z | z | z <;> omega
          refine ⟨S (y ++ [c]), S [49], rfl, rfl, fits 49, some (.int (0 + (i : Nat))), ?_, rfl⟩
          rw [s_app, if_pos c2]
          rfl
    · obtain ⟨y2, rfl, rfl⟩ := h
      exact ⟨_, rfl, q _ (Same.id _)⟩
theorem nxt_two {a s : Nat} (ha : OkA a) (hs : s ∈ beh a) : (([49, 50] : List Nat).find? fun o => decide (s < o) && decide (o ∈ beh a)) = nxt1 a s := by
  rcases ha with e | e | e | e <;> subst e <;> simp [beh] at hs <;> (try rcases hs with z | z | z) <;> (try rcases hs with z | z) <;> subst_vars <;> rfl
theorem cut_one {x : List Nat} {o : Nat} (fx : Fw x) (so : Sg o) : cut (x ++ [o]) = x ++ [o] ↔ o ∈ beh (prv 0 x) := by
  have w : Wd (x ++ [o]) := wd_append.mpr ⟨fx.wd, fun z hz => by rw [List.mem_singleton.mp hz]; exact so⟩
  constructor
  · intro h
    have f := fw_cut w
    rw [h] at f
    exact (al_app.mp (fw_al0 f)).2.1
  · intro h
    have al : Al (prv 0 x) [o] := ⟨h, trivial⟩
    exact cut_of_fw (al_fw (al_app.mpr ⟨fw_al0 fx, al⟩)).1
def spLawNext : Sp := fun vs H Q _ => ∃ u : List Nat, vs = [.str (S u)] ∧ Fw u ∧ u.length ≤ 2000 ∧ ∀ (v : List Nat) (H' : Hp), Nxt u v → Same H H' → Q (.str (S v)) H'
theorem ok_lawNext (T : Txt w K mg) : Ok P w K mg base 2 "_law_next" ["word"] spLawNext := by
  refine ok_of T.fLawNext fun f fd F => ?_
  refine F.ok scLawNext (fun vs H Q E h => ?_) (fun cdv A outer s H vs Q E hr h => ?_)
  · obtain ⟨u, rfl, _⟩ := h
    rfl
  · obtain ⟨u, rfl, fu, lu, q⟩ := h
    refine ⟨_, pss_cons (ps_for PassesOwn.never rfl (pi_range1 (by rfl) T.nrange (pa_cons (pe_callB call_len_str (by rfl) T.nlen PySem.boot_len (pa_cons (pv 0) (pa_nil))) (pa_nil))) (pg_name (i := 1) scLawNext.nd rfl (.inl rfl)) (pss_cons (ps_set (i := 2) scLawNext.nd rfl (.inl rfl) (pe_op op_sub (pe_op op_sub (pe_callB call_len_str (by rfl) T.nlen PySem.boot_len (pa_cons (pv 0) (pa_nil))) (pe_int)) (pv 1)))
         (pss_cons (ps_par (i := 4) (j := 5) (by rfl) scLawNext.nd rfl rfl (by decide) rfl rfl (pa_cons (pe_slice sl_str (pv 0) po_none (po_some (pv 2))) (pa_cons (pe_ix ix_str (pv 0) (pv 2) (fun _ _ => rfl)) (pa_nil))) (by rfl))
         (pss_one (ps_for PassesOwn.never rfl (pi_str (pe_str)) (pg_name (i := 3) scLawNext.nd rfl (.inl rfl)) (pss_one (ps_if (PW.pt (pw_and (pt_cmpR (op_gt_str) (pv 3) (pv 5) (nomark _)) (pw_and1 (pt_cmpR (op_eq) (pe_callO (ok_cut T) hr (by decide) (by rfl) (pa_cons (pe_op op_add_str (pv 4) (pv 3)) (pa_nil))) (pe_op op_add_str (pv 4) (pv 3)) (nomark _))))) (pss_one (ps_ret (pe_callO (ok_filled T) hr (by decide) (by rfl) (pa_cons (pe_op op_add_str (pv 4) (pv 3)) (pa_cons (pe_callB call_len_str (by rfl) T.nlen PySem.boot_len (pa_cons (pv 0) (pa_nil))) (pa_nil)))))) (pss_nil))))))))
         (pss_one (ps_ret (pe_callO (ok_filled T) hr (by decide) (by rfl) (pa_cons (pe_str) (pa_cons (pe_op op_add (pe_callB call_len_str (by rfl) T.nlen PySem.boot_len (pa_cons (pv 0) (pa_nil))) (pe_int)) (pa_nil)))))), ?_⟩
    have fit : ∀ z : Nat, z ≤ 10000 → z ≤ sizeLine := fun z hz => Nat.le_trans hz (by decide)
    have zu : (S u).length ≤ sizeLine := fit _ (show u.length ≤ _ by omega)
    refine ⟨.str (S u), rfl, S u, rfl, zu, ((u.length : Nat) : Int), rfl, by omega, by omega, ?_⟩
    rw [Int.toNat_natCast]
    refine for_range (lo := 0) (n := u.length) (fun i σ H' => ∃ (y1 y2 y3 y4 y5 : Option V), σ = [some (.str (S u)), y1, y2, y3, y4, y5] ∧ Same H H' ∧ Fin u i) ⟨none, none, none, none, none, rfl, Same.id _, fin_0 u⟩ (fun i σ H' hi h => ?_) (fun σ H' h => ?_)
    · obtain ⟨y1, y2, y3, y4, y5, rfl, sm, hF⟩ := h
      obtain ⟨p, hp⟩ : ∃ p, p + 1 + i = u.length := ⟨u.length - 1 - i, by omega⟩
      obtain ⟨x, hx, ex⟩ := at_place (show p < u.length by omega)
      obtain ⟨f1, f2, f3⟩ := fin_step fu hp hF ex
      have wt : Wd (u.take p) := fun z hz => fu.wd z (List.mem_of_mem_take hz)
      have okA := prv_ok wt
      have c1 : cutS (S u) none (some (p : Int)) = S (u.take p) := cut_upto (by omega)
      have lt : (u.take p).length = p := by rw [List.length_take]; omega
      have fu2 := fu
      rw [ex] at fu2
      have xin : x ∈ beh (prv 0 (u.take p)) := (al_app.mp (fw_al0 fu2)).2.1
      have ft : Fw (u.take p) := (al_fw (al_app.mp (fw_al0 fu2)).1).1
      have ei : (((u.length : Nat) : Int) - 1) - (0 + (i : Nat)) = ((p : Nat) : Int) := by omega
      refine ⟨.str (S u), rfl, S u, rfl, zu, _, _, rfl, rfl, .int (0 + (i : Nat)), rfl, ((u.length : Nat) : Int) - 1, 0 + (i : Nat), rfl, rfl, ?_⟩
      dsimp only
      rw [ei]
      refine ⟨.str (S u), rfl, .int (p : Int), rfl, (p : Int), rfl, S u, rfl, zu, .str (S u), rfl, .int (p : Int), rfl, S u, (p : Int), x, rfl, rfl, zu, at_str hx, _, _, rfl, ?_⟩
      rw [c1]
      refine ⟨S [49, 50], rfl, ?_⟩
      refine for_str (u := [49, 50]) (fun j σ H2 => ∃ y3, σ = [some (.str (S u)), some (.int (0 + (i : Nat))), some (.int (p : Int)), y3, some (.str (S (u.take p))), some (.str (S [x]))] ∧ H2 = H' ∧ ∀ o ∈ ([49, 50] : List Nat).take j, (decide (x < o) && decide (o ∈ beh (prv 0 (u.take p)))) = false) ⟨y3, rfl, rfl, fun o ho => by cases ho⟩ (fun j o σ H2 ho h => ?_) (fun σ H2 h => ?_)
      · obtain ⟨z3, rfl, rfl, hN⟩ := h
        have so : Sg o := by
          have := List.mem_of_getElem? ho
          simp only [List.mem_cons, List.not_mem_nil, or_false] at this
          rcases this with e | e
          · exact .inr (.inl e)
          · exact .inr (.inr e)
        have fits : (S (u.take p)).length + (S [o]).length ≤ sizeLine := fit _ (show (u.take p).length + 1 ≤ _ by omega)
        have wx : Wd (u.take p ++ [o]) := wd_append.mpr ⟨wt, fun z hz => by rw [List.mem_singleton.mp hz]; exact so⟩
        have lx : (u.take p ++ [o]).length = p + 1 := by rw [List.length_append, lt]; rfl
        have esc : S (u.take p) ++ S [o] = S (u.take p ++ [o]) := s_app _ _
        have skip : (decide (x < o) && decide (o ∈ beh (prv 0 (u.take p)))) = false → ∀ o' ∈ ([49, 50] : List Nat).take (j + 1), (decide (x < o') && decide (o' ∈ beh (prv 0 (u.take p)))) = false := fun hno o' ho' => by
          rw [List.take_succ, ho] at ho'
          rcases List.mem_append.mp ho' with h | h
          · exact hN o' h
          · rw [List.mem_singleton.mp h]
            exact hno
        refine ⟨.str (S [o]), rfl, .str (S [x]), rfl, S [o], S [x], rfl, rfl, _, rfl, ?_⟩
        rw [lt_one]
        by_cases c : x < o
        · refine iteDT c ?_
          refine ⟨.str (S (u.take p)), rfl, .str (S [o]), rfl, _, _, rfl, rfl, fits, u.take p ++ [o], congrArg (fun z => [V.str z]) esc, ⟨wx, by omega⟩, .str (S (u.take p)), rfl, .str (S [o]), rfl, _, _, rfl, rfl, fits, rfl, _, rfl, ?_⟩
          by_cases hc : cut (u.take p ++ [o]) = u.take p ++ [o]
          · refine iteDT (by rw [hc, ← esc]) ?_
            have oin := (cut_one ft so).mp hc
            have hn : nxt1 (prv 0 (u.take p)) x = some o := by
              rw [← nxt_two okA xin]
              exact find_at ho hN (by rw [decide_eq_true c, decide_eq_true oin]; rfl)
            have nx := nxt_found fu2 f1 hn
            rw [← ex, f2] at nx
            refine ⟨.str (S (u.take p)), rfl, .str (S [o]), rfl, _, _, rfl, rfl, fits, .str (S u), rfl, S u, rfl, zu, u.take p ++ [o], u.length, ?_, wx, by omega, by omega, fun H3 s3 => ?_⟩
            · rw [esc]
              rfl
            · rw [prv_snoc, lx, show u.length - (p + 1) = i by omega, List.append_assoc]
              exact q _ _ nx (Same.to sm s3)
          · refine iteDF (fun z => hc ?_) ?_
            · have z2 : S (cut (u.take p ++ [o])) = S (u.take p ++ [o]) := (V.str.inj z).trans esc
              exact s_inj z2
            · exact ⟨some (.str (S [o])), rfl, rfl, skip (by rw [decide_eq_false fun z => hc ((cut_one ft so).mpr z), Bool.and_false])⟩
        · refine iteDF c (iteF ?_)
          exact ⟨some (.str (S [o])), rfl, rfl, skip (by rw [decide_eq_false c]; rfl)⟩
      · obtain ⟨z3, rfl, rfl, hN⟩ := h
        have hn : nxt1 (prv 0 (u.take p)) x = none := by
          rw [← nxt_two okA xin]
          exact find_no hN
        exact ⟨_, _, _, _, _, rfl, sm, f3 hn⟩
    · obtain ⟨y1, y2, y3, y4, y5, rfl, sm, hF⟩ := h
      unfold Fin at hF
      rw [Nat.sub_self] at hF
      have nx := nxt_last fu hF
      refine ⟨.str (S u), rfl, S u, rfl, zu, _, _, rfl, rfl, [], u.length + 1, rfl, (fun c hc => by cases hc), Nat.zero_le _, by omega, fun H3 s3 => ?_⟩
      exact q _ _ nx (Same.to sm s3)
end
end K7

namespace K7
open PySem PySem.Spec PyProof.Rows L2 Nr Nw
/-! ### counts of classes -/
def luc : Nat → Nat × Nat
  | 0 => (2, 1)
  | n + 1 => ((luc n).2, (luc n).1 + (luc n).2)
def rc (n : Nat) : Nat := if n % 2 = 1 then (luc n).1 - 1 else (luc n).1 + 1
def sumTo (f : Nat → Nat) : Nat → Nat
  | 0 => 0
  | n + 1 => sumTo f n + f n
def clsN (n : Nat) : Nat := if n = 0 then 1 else if n < 3 then 3 else sumTo (fun t => rc (Nat.gcd t n)) n / n
def chF (many : Nat) : Nat → Nat
  | 0 => 1
  | n + 1 => chF many n * (many - n) / (n + 1)
def dbl : Nat → Nat
  | 0 => 1
  | n + 1 => dbl n * 2
def ringTerm (len many turn : Nat) : Nat :=
  if len % (many / Nat.gcd many turn) = 0 then
    if 2 * Nat.gcd many turn ≤ len / (many / Nat.gcd many turn) ∧ len / (many / Nat.gcd many turn) ≤ 3 * Nat.gcd many turn then chF (Nat.gcd many turn) (len / (many / Nat.gcd many turn) - 2 * Nat.gcd many turn) * dbl (Nat.gcd many turn - (len / (many / Nat.gcd many turn) - 2 * Nat.gcd many turn)) else 0
  else 0
def lmr (len : Nat) : Nat := sumTo (fun m => sumTo (ringTerm len (m + 1)) (m + 1) / (m + 1)) (len / 2)
def lmc (len : Nat) : Nat := lmr len + (if len = 0 then 1 else if len = 1 then 3 else if len = 2 then 1 else 0)
theorem cls_eq : ∀ n, n < 91 → clsN n = lmc n := by decide +kernel
theorem ch_small : ∀ p, p < 46 → ∀ s, s < 46 → chF p s < 2 ^ 60 := by decide +kernel
theorem luc_pos : ∀ n, 1 ≤ (luc n).1 ∧ 1 ≤ (luc n).2
  | 0 => ⟨by decide, by decide⟩
  | n + 1 => by
    have := luc_pos n
    show 1 ≤ (luc n).2 ∧ 1 ≤ (luc n).1 + (luc n).2
    omega
/-- what the law counts words by -/
def mwp : Nat → Nat × Nat
  | 0 => (3, 5)
  | n + 1 => ((mwp n).2, (mwp n).1 + (mwp n).2)
theorem mw_eq : ∀ n, n < 91 → (if 0 < n then (mwp (n - 1)).1 else 1) = cnt 0 n := by decide +kernel
/-! ### counts in a dict -/
def enc (l : List (Nat × Nat)) : List (Key × V) := l.map fun p => (Sum.inl (p.1 : Int), V.int (p.2 : Int))
def addC : List (Nat × Nat) → Nat → List (Nat × Nat)
  | [], k => [(k, 1)]
  | (j, c) :: r, k => if j = k then (j, c + 1) :: r else (j, c) :: addC r k
def getC : List (Nat × Nat) → Nat → Nat
  | [], _ => 0
  | (j, c) :: r, k => if j = k then c else getC r k
def wsum (f : Nat → Nat) : List (Nat × Nat) → Nat
  | [] => 0
  | (j, c) :: r => c * f j + wsum f r
theorem wsum_add (f : Nat → Nat) (k : Nat) : ∀ l, wsum f (addC l k) = wsum f l + f k
  | [] => by show 1 * f k + 0 = 0 + f k; omega
  | (j, c) :: r => by
    unfold addC
    by_cases e : j = k
    · rw [if_pos e, e]
      show (c + 1) * f k + wsum f r = c * f k + wsum f r + f k
      rw [Nat.succ_mul]
      omega
    · rw [if_neg e]
      show c * f j + wsum f (addC r k) = c * f j + wsum f r + f k
      rw [wsum_add f k r]
      omega
theorem keys_add (k : Nat) : ∀ l : List (Nat × Nat), (∀ p ∈ addC l k, p.1 = k ∨ ∃ q ∈ l, q.1 = p.1) ∧ (addC l k).length ≤ l.length + 1
  | [] => ⟨fun p hp => .inl (by rw [List.mem_singleton.mp hp]), by simp [addC]⟩
  | (j, c) :: r => by
    obtain ⟨h1, h2⟩ := keys_add k r
    unfold addC
    by_cases e : j = k
    · rw [if_pos e]
      refine ⟨fun p hp => ?_, by simp⟩
      rcases List.mem_cons.mp hp with h | h
      · exact .inl (by rw [h]; exact e)
      · exact .inr ⟨p, List.mem_cons_of_mem _ h, rfl⟩
    · rw [if_neg e]
      refine ⟨fun p hp => ?_, by simp only [List.length_cons]; omega⟩
      rcases List.mem_cons.mp hp with h | h
      · exact .inr ⟨(j, c), List.mem_cons_self, by rw [h]⟩
      · rcases h1 p h with z | ⟨q, hq, z⟩
        · exact .inl z
        · exact .inr ⟨q, List.mem_cons_of_mem _ hq, z⟩
def NdK (l : List (Nat × Nat)) : Prop := (l.map (·.1)).Nodup
theorem nd_add (k : Nat) : ∀ l : List (Nat × Nat), NdK l → NdK (addC l k)
  | [], _ => by unfold NdK addC; simp
  | (j, c) :: r, h => by
    have h' : (j :: r.map (·.1)).Nodup := h
    obtain ⟨h1, h2⟩ := List.nodup_cons.mp h'
    unfold addC
    by_cases e : j = k
    · rw [if_pos e]
      exact h
    · rw [if_neg e]
      show (j :: (addC r k).map (·.1)).Nodup
      refine List.nodup_cons.mpr ⟨fun z => ?_, nd_add k r h2⟩
      obtain ⟨p, hp, ep⟩ := List.mem_map.mp z
      rcases (keys_add k r).1 p hp with w | ⟨q, hq, w⟩
      · exact e (ep.symm.trans w)
      · exact h1 (List.mem_map.mpr ⟨q, hq, w.trans ep⟩)
theorem getC_le (k : Nat) : ∀ l : List (Nat × Nat), getC l k ≤ wsum (fun _ => 1) l
  | [] => Nat.le_refl _
  | (j, c) :: r => by
    have := getC_le k r
    unfold getC
    show _ ≤ c * 1 + wsum (fun _ => 1) r
    split <;> omega
theorem val_enc (k : Nat) : ∀ l : List (Nat × Nat), (valV (enc l) (Sum.inl (k : Int))).getD (.int 0) = .int (getC l k : Int)
  | [] => rfl
  | (j, c) :: r => by
    have i := val_enc k r
    unfold getC
    by_cases e : j = k
    · rw [if_pos e]
      have : valV (enc ((j, c) :: r)) (Sum.inl (k : Int)) = some (.int (c : Int)) := valV_pos (p := ((Sum.inl (j : Int) : Key), V.int (c : Int))) (by rw [e])
      rw [this]
      rfl
    · rw [if_neg e]
      have ne : (Sum.inl (j : Int) : Key) ≠ Sum.inl (k : Int) := fun z => e (by have := Sum.inl.inj z; omega)
      have : valV (enc ((j, c) :: r)) (Sum.inl (k : Int)) = valV (enc r) (Sum.inl (k : Int)) := by
        unfold valV
        show (List.find? (fun kv : Key × V => decide (kv.1 = (Sum.inl (k : Int) : Key))) (((Sum.inl (j : Int) : Key), V.int (c : Int)) :: enc r)).map (·.2) = _
        rw [List.find?_cons, decide_eq_false ne]
      rw [this]
      exact i
theorem put_enc (k : Nat) : ∀ l : List (Nat × Nat), NdK l → putK (enc l) (Sum.inl (k : Int)) (.int ((getC l k : Int) + 1)) = enc (addC l k)
  | [], _ => by
    show putK ([] : List (Key × V)) _ _ = _
    rw [putK_new _ rfl]
    rfl
  | (j, c) :: r, h => by
    have h' : (j :: r.map (·.1)).Nodup := h
    obtain ⟨h1, h2⟩ := List.nodup_cons.mp h'
    have i := put_enc k r h2
    unfold putK at i ⊢
    unfold getC addC
    show (if ((((Sum.inl (j : Int) : Key), V.int (c : Int)) :: enc r).any fun kv => decide (kv.1 = (Sum.inl (k : Int) : Key))) = true then _ else _) = _
    rw [List.any_cons]
    by_cases e : j = k
    · subst e
      rw [if_pos rfl, if_pos rfl]
      have a : (decide ((Sum.inl (j : Int) : Key) = Sum.inl (j : Int)) || (enc r).any fun kv => decide (kv.1 = (Sum.inl (j : Int) : Key))) = true := by rw [decide_eq_true rfl]; rfl
      rw [if_pos a]
      have same : (enc r).map (fun kv => if kv.1 = (Sum.inl (j : Int) : Key) then (kv.1, V.int ((c : Int) + 1)) else kv) = enc r := by
        have h3 : (enc r).map (fun kv => if kv.1 = (Sum.inl (j : Int) : Key) then (kv.1, V.int ((c : Int) + 1)) else kv) = (enc r).map id := List.map_congr_left fun kv hkv => by
          obtain ⟨p, hp, ep⟩ := List.mem_map.mp hkv
          refine if_neg fun z => h1 ?_
          rw [← ep] at z
          have z2 : (p.1 : Int) = (j : Int) := Sum.inl.inj z
          exact List.mem_map.mpr ⟨p, hp, by omega⟩
        rw [h3, List.map_id]
      show (if (Sum.inl (j : Int) : Key) = Sum.inl (j : Int) then ((Sum.inl (j : Int) : Key), V.int ((c : Int) + 1)) else ((Sum.inl (j : Int) : Key), V.int (c : Int))) :: (enc r).map (fun kv => if kv.1 = (Sum.inl (j : Int) : Key) then (kv.1, V.int ((c : Int) + 1)) else kv) = _
      rw [same, if_pos rfl]
      rfl
    · rw [if_neg e, if_neg e]
      have ne : (Sum.inl (j : Int) : Key) ≠ Sum.inl (k : Int) := fun z => e (by have := Sum.inl.inj z; omega)
      rw [decide_eq_false ne, Bool.false_or]
      by_cases a : ((enc r).any fun kv => decide (kv.1 = (Sum.inl (k : Int) : Key))) = true
      · rw [if_pos a] at i ⊢
        show (if (Sum.inl (j : Int) : Key) = Sum.inl (k : Int) then ((Sum.inl (j : Int) : Key), V.int ((getC r k : Int) + 1)) else ((Sum.inl (j : Int) : Key), V.int (c : Int))) :: (enc r).map (fun kv => if kv.1 = (Sum.inl (k : Int) : Key) then (kv.1, V.int ((getC r k : Int) + 1)) else kv) = _
        rw [i, if_neg ne]
        rfl
      · rw [if_neg a] at i ⊢
        show ((Sum.inl (j : Int) : Key), V.int (c : Int)) :: (enc r ++ [((Sum.inl (k : Int) : Key), V.int ((getC r k : Int) + 1))]) = _
        rw [i]
        rfl
theorem val_at : ∀ {l : List (Nat × Nat)} {i k c : Nat}, NdK l → l[i]? = some (k, c) → valV (enc l) (Sum.inl (k : Int)) = some (.int (c : Int))
  | [], i, k, c, _, h => by cases h
  | (j, d) :: r, 0, k, c, _, h => by
    cases h
    exact valV_pos (p := ((Sum.inl (j : Int) : Key), V.int (d : Int))) rfl
  | (j, d) :: r, i + 1, k, c, hn, h => by
    have h' : (j :: r.map (·.1)).Nodup := hn
    obtain ⟨h1, h2⟩ := List.nodup_cons.mp h'
    have ne : (Sum.inl (j : Int) : Key) ≠ Sum.inl (k : Int) := fun z => h1 (by
      have : j = k := by have := Sum.inl.inj z; omega
      rw [this]
      exact List.mem_map.mpr ⟨(k, c), List.mem_of_getElem? (show r[i]? = some (k, c) from h), rfl⟩)
    have : valV (enc ((j, d) :: r)) (Sum.inl (k : Int)) = valV (enc r) (Sum.inl (k : Int)) := by
      unfold valV
      show (List.find? (fun kv : Key × V => decide (kv.1 = (Sum.inl (k : Int) : Key))) (((Sum.inl (j : Int) : Key), V.int (d : Int)) :: enc r)).map (·.2) = _
      rw [List.find?_cons, decide_eq_false ne]
    rw [this]
    exact val_at h2 (show r[i]? = some (k, c) from h)
theorem wsum_list (f : Nat → Nat) : ∀ l : List (Nat × Nat), (l.map fun p => ((p.2 * f p.1 : Nat) : Int)).sum = (wsum f l : Int)
  | [] => rfl
  | (j, c) :: r => by
    show ((c * f j : Nat) : Int) + (r.map fun p => ((p.2 * f p.1 : Nat) : Int)).sum = ((c * f j + wsum f r : Nat) : Int)
    rw [wsum_list f r]
    omega
section
variable {P : Program} {w : World} {K : PySem.W.Frag} {mg : Str → Option Value} {base : Heap}
def spRings : Sp := fun vs H Q _ => ∃ n : Nat, vs = [.int (n : Int)] ∧ n ≤ 4000 ∧ ∀ H', Same H H' → Q (.int (rc n : Int)) H'
theorem ok_rings (T : Txt w K mg) : Ok P w K mg base 1 "_rings_closed" ["length"] spRings := by
  refine ok_of T.fRingsClosed fun f fd F => ?_
  refine F.ok scRingsClosed (fun vs H Q E h => ?_) (fun cdv A outer s H vs Q E hr h => ?_)
  · obtain ⟨n, rfl, _⟩ := h
    rfl
  · obtain ⟨n, rfl, hn, q⟩ := h
    refine ⟨_, pss_cons (ps_asg (pe_tup (pa_cons (pe_int) (pa_cons (pe_int) (pa_nil)))) (pg_tup rfl (pgs_cons (pg_name (i := 2) scRingsClosed.nd rfl (.inl rfl)) (pgs_cons (pg_name (i := 3) scRingsClosed.nd rfl (.inl rfl)) (pgs_nil)))))
         (pss_cons (ps_for PassesOwn.never rfl (pi_range1 (by rfl) T.nrange (pa_cons (pv 0) (pa_nil))) (pg_name (i := 1) scRingsClosed.nd rfl (.inl rfl)) (pss_one (ps_par (i := 2) (j := 3) (by rfl) scRingsClosed.nd rfl rfl (by decide) rfl rfl (pa_cons (pv 3) (pa_cons (pe_op op_add (pv 2) (pv 3)) (pa_nil))) (by rfl))))
         (pss_cons (ps_if (pt_cmpR (op_eq) (pe_op op_mod (pv 0) (pe_int)) (pe_int) (nomark _)) (pss_one (ps_ret (pe_op op_sub (pv 2) (pe_int)))) (pss_nil))
         (pss_one (ps_ret (pe_op op_add (pv 2) (pe_int)))))), ?_⟩
    refine ⟨by show 2 ≤ sizeLine; decide, fun p np => ⟨p, _, rfl, .inl (.inl upd_same), rfl, _, _, rfl, _, _, rfl, rfl, ?_⟩⟩
    have s1 := same_new (o := .tup [.int 2, .int 1]) np
    refine ⟨.int (n : Int), rfl, (n : Int), rfl, by omega, by omega, ?_⟩
    rw [Int.toNat_natCast]
    refine for_range (lo := 0) (n := n) (fun i σ H' => ∃ y1, σ = [some (.int (n : Int)), y1, some (.int ((luc i).1 : Int)), some (.int ((luc i).2 : Int))] ∧ Same H H') ⟨none, rfl, s1⟩ (fun i σ H' hi h => ?_) (fun σ H' h => ?_)
    · obtain ⟨y1, rfl, sm⟩ := h
      refine ⟨.int ((luc i).2 : Int), rfl, .int ((luc i).1 : Int), rfl, .int ((luc i).2 : Int), rfl, _, _, rfl, rfl, _, _, rfl, some (.int (0 + (i : Nat))), ?_, sm⟩
      have e : ((luc i).1 : Int) + ((luc i).2 : Int) = (((luc i).1 + (luc i).2 : Nat) : Int) := by omega
      show _ = [some (V.int (n : Int)), some (V.int (0 + (i : Nat))), some (V.int ((luc i).2 : Int)), some (V.int (((luc i).1 + (luc i).2 : Nat) : Int))]
      rw [← e]
      rfl
    · obtain ⟨y1, rfl, sm⟩ := h
      have lp := (luc_pos n).1
      have q' := q H' sm
      unfold rc at q'
      refine ⟨.int (n : Int), rfl, _, _, rfl, rfl, by show (0 : Int) < 2; decide, rfl, _, rfl, ?_⟩
      by_cases c : n % 2 = 1
      · rw [if_pos c] at q'
        refine iteDT (show V.int ((n : Int) % 2) = V.int 1 from congrArg V.int (by omega)) ⟨.int ((luc n).1 : Int), rfl, _, _, rfl, rfl, ?_⟩
        have e : ((luc n).1 : Int) - 1 = (((luc n).1 - 1 : Nat) : Int) := by omega
        show Q (.int (((luc n).1 : Int) - 1)) H'
        rw [e]
        exact q'
      · rw [if_neg c] at q'
        exact iteDF (fun z => c (by have z2 : (n : Int) % 2 = 1 := V.int.inj z; omega)) ⟨.int ((luc n).1 : Int), rfl, _, _, rfl, rfl, q'⟩
def spClasses : Sp := fun vs H Q _ => ∃ n : Nat, vs = [.int (n : Int)] ∧ n ≤ 1000 ∧ ∀ H', Same H H' → Q (.int (clsN n : Int)) H'
theorem ok_classes (T : Txt w K mg) : Ok P w K mg base 4 "classes_of" ["length"] spClasses := by
  refine ok_of T.fClassesOf fun f fd F => ?_
  obtain ⟨tM, gM⟩ := T.most
  refine F.ok scClassesOf (fun vs H Q E h => ?_) (fun cdv A outer s H vs Q E hr h => ?_)
  · obtain ⟨n, rfl, _⟩ := h
    rfl
  · obtain ⟨n, rfl, hn, q⟩ := h
    refine ⟨_, pss_cons (ps_expr (pe_callO (ok_needNumberIn T) hr (by decide) (by rfl) (pa_cons (pv 0) (pa_cons (pe_int) (pa_cons (pe_glob (v := .int 4000) rfl gM ⟨_, rfl⟩) (pa_nil))))))
         (pss_cons (ps_if (pt_cmpR (op_lt) (pv 0) (pe_int) (nomark _)) (pss_one (ps_ret (pe_ix (r := rIxT K) ix_tup (pe_tup (pa_cons (pe_int) (pa_cons (pe_int) (pa_cons (pe_int) (pa_nil))))) (pv 0) (fun _ _ => rfl)))) (pss_nil))
         (pss_cons (ps_set (i := 1) scClassesOf.nd rfl (.inr rfl) (pe_dnewK))
         (pss_cons (ps_for PassesOwn.never rfl (pi_range1 (by rfl) T.nrange (pa_cons (pv 0) (pa_nil))) (pg_name (i := 2) scClassesOf.nd rfl (.inl rfl)) (pss_cons (ps_set (i := 3) scClassesOf.nd rfl (.inl rfl) (pe_callBfun cr_gcd (by rfl) T.gcd (pa_cons (pv 2) (pa_cons (pv 0) (pa_nil)))))
         (pss_one (ps_dput (hu_of hr) (pv 1) (pv 3) (pe_op op_add (pe_dget2 (hu_of hr) (pv 1) (pv 3) (pe_int) ⟨rfl, rfl, rfl, rfl⟩) (pe_int)) rfl))))
         (pss_one (ps_ret (pe_op op_fdiv (pe_lock (pe_callB (cr_sum rfl) (by rfl) T.nsum (by decide +kernel) (pa_cons (pe_lc (own := [("kept", 3)]) (g := gName 3) (tt := tYes) (by rfl) scClassesOf.nd (pi_keys (pv 1)) (blkOk_by (N := ["length", "counts", "turn", "kept"]) (sc := defScope sClassesOf) (by decide +kernel)) (fun _ _ _ _ _ => pg_name (i := 3) scClassesOf.nd rfl (.inl rfl)) (fun _ _ _ _ _ => pts_nil) (fun _ _ _ _ _ => pe_op op_mul (pe_dget (hu_of hr) (pv 1) (pv 3) (fun _ _ => rfl)) (pe_callO (ok_rings T) hr (by decide) (by rfl) (pa_cons (pv 3) (pa_nil))))) (pa_nil)))) (pv 0))))))), ?_⟩
    refine ⟨.int (n : Int), rfl, n, 0, 4000, rfl, by omega, by omega, ?_⟩
    refine ⟨.int (n : Int), rfl, _, _, rfl, rfl, _, rfl, ?_⟩
    by_cases c3 : n < 3
    · refine iteDT (by omega) ⟨by show 3 ≤ sizeLine; decide, fun p np => ?_⟩
      have s1 := same_new (o := .tup [.int 1, .int 3, .int 3]) np
      have q' := q _ s1
      match n, c3 with
      | 0, _ => exact ⟨.int ((0 : Nat) : Int), rfl, p, _, ((0 : Nat) : Int), .int 1, rfl, rfl, .inl (.inl upd_same), atI_nat (j := 0) rfl, q'⟩
      | 1, _ => exact ⟨.int ((1 : Nat) : Int), rfl, p, _, ((1 : Nat) : Int), .int 3, rfl, rfl, .inl (.inl upd_same), atI_nat (j := 1) rfl, q'⟩
      | 2, _ => exact ⟨.int ((2 : Nat) : Int), rfl, p, _, ((2 : Nat) : Int), .int 3, rfl, rfl, .inl (.inl upd_same), atI_nat (j := 2) rfl, q'⟩
    · refine iteDF (by omega) (fun d nd => ?_)
      refine ⟨.int (n : Int), rfl, (n : Int), rfl, by omega, by omega, ?_⟩
      rw [Int.toNat_natCast]
      refine for_range (lo := 0) (n := n) (fun i σ H' => ∃ (l : List (Nat × Nat)) (y2 y3 : Option V), σ = [some (.int (n : Int)), some (.ref d), y2, y3] ∧ Same H H' ∧ H' d = some (.dK (enc l)) ∧ NdK l ∧ l.length ≤ i ∧ wsum (fun _ => 1) l = i ∧ (∀ p ∈ l, p.1 ≤ 4000) ∧ wsum rc l = sumTo (fun t => rc (Nat.gcd t n)) i)
        ⟨[], none, none, rfl, same_new nd, upd_same, List.nodup_nil, Nat.le_refl _, rfl, (fun p hp => by cases hp), rfl⟩ (fun i σ H' hi h => ?_) (fun σ H' h => ?_)
      · obtain ⟨l, y2, y3, rfl, sm, hd, hN, hl, h1, hk, hw⟩ := h
        have e0 : (0 : Int) + (i : Int) = (i : Int) := by omega
        rw [e0]
        refine ⟨.int (i : Int), rfl, .int (n : Int), rfl, (i : Int), (n : Int), rfl, ?_⟩
        rw [Int.natAbs_natCast, Int.natAbs_natCast]
        have g0 : Nat.gcd i n ≤ n := Nat.le_of_dvd (by omega) (Nat.gcd_dvd_right i n)
        refine ⟨.ref d, rfl, d, rfl, .inl ⟨_, .inl hd⟩, .int ((Nat.gcd i n : Nat) : Int), rfl, valV (enc l) (Sum.inl ((Nat.gcd i n : Nat) : Int)), .inl ⟨_, Sum.inl ((Nat.gcd i n : Nat) : Int), .inl hd, rfl, rfl⟩, ?_⟩
        rw [val_enc]
        refine ⟨_, _, rfl, rfl, .ref d, rfl, .int ((Nat.gcd i n : Nat) : Int), rfl, d, upd H' d (.dK (enc (addC l (Nat.gcd i n)))), rfl, .inl ⟨enc l, Sum.inl ((Nat.gcd i n : Nat) : Int), hd, rfl, ?_, ?_⟩, ?_⟩
        · unfold enc
          rw [List.length_map]
          exact Nat.lt_of_le_of_lt (show l.length ≤ 1000 by omega) (by decide)
        · have := put_enc (Nat.gcd i n) l hN
          show _ = upd H' d (.dK (putK (enc l) (Sum.inl ((Nat.gcd i n : Nat) : Int)) (.int ((getC l (Nat.gcd i n) : Int) + 1))))
          rw [this]
        · obtain ⟨ka, kb⟩ := keys_add (Nat.gcd i n) l
          refine ⟨addC l (Nat.gcd i n), some (.int (i : Int)), some (.int ((Nat.gcd i n : Nat) : Int)), rfl, same_mut sm nd, upd_same, nd_add _ l hN, by omega, by rw [wsum_add, h1], fun p hp => ?_, by rw [wsum_add, hw]; rfl⟩
          rcases ka p hp with z | ⟨x, hx, z⟩
          · rw [z]; omega
          · rw [← z]; exact hk x hx
      · obtain ⟨l, y2, y3, rfl, sm, hd, hN, hl, h1, hk, hw⟩ := h
        refine ⟨d, _, hd, trivial, fun od => ?_⟩
        have hdz : (upd H' d (.frz od (.dK (enc l)))) d = some (.frz od (.dK (enc l))) := upd_same
        have back : ∀ H'', Same (upd H' d (.frz od (.dK (enc l)))) H'' → Same H (upd H'' d (.dK (enc l))) := fun H'' s' a o e => by
          by_cases ad : a = d
          · subst ad
            rw [nd] at e
            cases e
          · rw [upd_ne ad]
            refine s' a o ?_
            rw [upd_ne ad]
            exact sm a o e
        generalize upd H' d (.frz od (.dK (enc l))) = HZ at hdz back ⊢
        refine ⟨.ref d, rfl, d, od, rfl, .inl ⟨enc l, hdz, fun D nD => ?_⟩⟩
        refine lc_it walk_keys (fun i H'' => Same HZ H'' ∧ H'' D = some (.lst (((l.take i).map fun p => ((p.2 * rc p.1 : Nat) : Int)).map V.int))) ⟨same_new nD, upd_same⟩ (fun i H'' hi h => h.1 _ _ hdz) (fun i x H1 H'' hi h hy => ?_) (fun H'' h => ?_)
        · obtain ⟨s', hD⟩ := h
          obtain ⟨rfl, k, v, hkv, rfl⟩ := hy
          obtain ⟨p, hp, ep⟩ : ∃ p, l[i]? = some p ∧ ((Sum.inl (p.1 : Int) : Key), V.int (p.2 : Int)) = (k, v) := by
            unfold enc at hkv
            rw [List.getElem?_map] at hkv
            cases e : l[i]? with
            | none => rw [e] at hkv; cases hkv
            | some p => rw [e] at hkv; exact ⟨p, rfl, Option.some.inj hkv⟩
          have ek : k = Sum.inl (p.1 : Int) := (congrArg Prod.fst ep).symm
          subst ek
          have vp := val_at (l := l) (i := i) (k := p.1) (c := p.2) hN hp
          have pc : p.2 ≤ 1000 := by
            have g1 := getC_le p.1 l
            have g2 := val_enc p.1 l
            rw [vp] at g2
            have g3 : (V.int (p.2 : Int)) = .int (getC l p.1 : Int) := g2
            have := V.int.inj g3
            omega
          refine ⟨rfl, yes (iteT ?_)⟩
          refine ⟨.ref d, rfl, .int (p.1 : Int), rfl, d, .int (p.2 : Int), rfl, .inl ⟨enc l, Sum.inl (p.1 : Int), .inr ⟨od, s' _ _ hdz⟩, rfl, vp.symm⟩, ?_⟩
          refine ⟨.int (p.1 : Int), rfl, p.1, rfl, hk p (List.mem_of_getElem? hp), fun H3 s3 => ⟨_, _, rfl, rfl, .inl ⟨by omega, by omega⟩, _, s3 _ _ hD, ?_, same_mut (Same.to s' s3) nD, ?_⟩⟩
          · rw [List.length_map, List.length_map, List.length_take]
            exact Nat.lt_of_le_of_lt (show min i l.length ≤ 1000 by omega) (by decide)
          · rw [upd_same, List.take_succ, hp, List.map_append, List.map_append]
            have e1 : ((p.2 : Nat) : Int) * ((rc p.1 : Nat) : Int) = ((p.2 * rc p.1 : Nat) : Int) := (Int.natCast_mul _ _).symm
            show some (HO.lst (_ ++ [V.int ((p.2 : Int) * (rc p.1 : Int))])) = _
            rw [e1]
            rfl
        · obtain ⟨s', hD⟩ := h
          have el : (enc l).length = l.length := by unfold enc; rw [List.length_map]
          rw [el, List.take_length] at hD
          refine ⟨D, _, rfl, .inl (.inl hD), s' _ _ hdz, ?_⟩
          rw [wsum_list, hw]
          refine ⟨.int (n : Int), rfl, _, _, rfl, rfl, ⟨by omega, by omega⟩, ?_⟩
          have q' := q _ (back H'' s')
          unfold clsN at q'
          rw [if_neg (by omega), if_neg c3] at q'
          have e1 : ((sumTo (fun t => rc (Nat.gcd t n)) n : Nat) : Int) / (n : Int) = ((sumTo (fun t => rc (Nat.gcd t n)) n / n : Nat) : Int) := by omega
          show Q (.int (((sumTo (fun t => rc (Nat.gcd t n)) n : Nat) : Int) / (n : Int))) _
          rw [e1]
          exact q'
end
end K7

namespace K7
open PySem PySem.Spec PyProof.Rows L2 Nr Nw
theorem dbl_pos : ∀ n, 1 ≤ dbl n
  | 0 => Nat.le_refl _
  | n + 1 => by have := dbl_pos n; show 1 ≤ dbl n * 2; omega
theorem ten_succ (n : Nat) : (10 : Nat) ^ (n + 1) = 10 ^ n * 10 := Nat.pow_succ ..
section
variable {P : Program} {w : World} {K : PySem.W.Frag} {mg : Str → Option Value} {base : Heap}
def spTens : Sp := fun vs H Q _ => ∃ n : Nat, vs = [.int (n : Int)] ∧ n ≤ 1000 ∧ Q (.int ((10 ^ n : Nat) : Int)) H
theorem ok_tens (T : Txt w K mg) : Ok P w K mg base 1 "_law_tens" ["times"] spTens := by
  refine ok_of T.fLawTens fun f fd F => ?_
  refine F.ok scLawTens (fun vs H Q E h => ?_) (fun cdv A outer s H vs Q E hr h => ?_)
  · obtain ⟨n, rfl, _⟩ := h
    rfl
  · obtain ⟨n, rfl, hn, q⟩ := h
    refine ⟨_, pss_cons (ps_set (i := 1) scLawTens.nd rfl (.inl rfl) (pe_int))
         (pss_cons (ps_for PassesOwn.never rfl (pi_range1 (by rfl) T.nrange (pa_cons (pv 0) (pa_nil))) (pg_name (i := 2) scLawTens.nd rfl (.inl rfl)) (pss_one (ps_set (i := 1) scLawTens.nd rfl (.inl rfl) (pe_op op_mul (pv 1) (pe_int)))))
         (pss_one (ps_ret (pv 1)))), ?_⟩
    refine ⟨.int (n : Int), rfl, (n : Int), rfl, by omega, by omega, ?_⟩
    rw [Int.toNat_natCast]
    refine for_range (lo := 0) (n := n) (fun i σ H' => ∃ y2, σ = [some (.int (n : Int)), some (.int ((10 ^ i : Nat) : Int)), y2] ∧ H' = H) ⟨none, rfl, rfl⟩ (fun i σ H' hi h => ?_) (fun σ H' h => ?_)
    · obtain ⟨y2, rfl, rfl⟩ := h
      refine ⟨_, rfl, _, _, rfl, rfl, .inr ⟨by decide, by decide⟩, some (.int (0 + (i : Nat))), ?_, rfl⟩
      have e : ((10 ^ i : Nat) : Int) * 10 = ((10 ^ (i + 1) : Nat) : Int) := by rw [ten_succ]; exact (Int.natCast_mul _ _).symm
      rw [← e]
      rfl
    · obtain ⟨y2, rfl, rfl⟩ := h
      exact ⟨_, rfl, q⟩
def spDoubled : Sp := fun vs H Q _ => ∃ n : Nat, vs = [.int (n : Int)] ∧ n ≤ 1000 ∧ Q (.int (dbl n : Int)) H
theorem ok_doubled (T : Txt w K mg) : Ok P w K mg base 1 "_law_doubled" ["times"] spDoubled := by
  refine ok_of T.fLawDoubled fun f fd F => ?_
  refine F.ok scLawDoubled (fun vs H Q E h => ?_) (fun cdv A outer s H vs Q E hr h => ?_)
  · obtain ⟨n, rfl, _⟩ := h
    rfl
  · obtain ⟨n, rfl, hn, q⟩ := h
    refine ⟨_, pss_cons (ps_set (i := 1) scLawDoubled.nd rfl (.inl rfl) (pe_int))
         (pss_cons (ps_for PassesOwn.never rfl (pi_range1 (by rfl) T.nrange (pa_cons (pv 0) (pa_nil))) (pg_name (i := 2) scLawDoubled.nd rfl (.inl rfl)) (pss_one (ps_set (i := 1) scLawDoubled.nd rfl (.inl rfl) (pe_op op_mul (pv 1) (pe_int)))))
         (pss_one (ps_ret (pv 1)))), ?_⟩
    refine ⟨.int (n : Int), rfl, (n : Int), rfl, by omega, by omega, ?_⟩
    rw [Int.toNat_natCast]
    refine for_range (lo := 0) (n := n) (fun i σ H' => ∃ y2, σ = [some (.int (n : Int)), some (.int (dbl i : Int)), y2] ∧ H' = H) ⟨none, rfl, rfl⟩ (fun i σ H' hi h => ?_) (fun σ H' h => ?_)
    · obtain ⟨y2, rfl, rfl⟩ := h
      refine ⟨_, rfl, _, _, rfl, rfl, .inr ⟨by decide, by decide⟩, some (.int (0 + (i : Nat))), ?_, rfl⟩
      have e : (dbl i : Int) * 2 = ((dbl (i + 1) : Nat) : Int) := (Int.natCast_mul (dbl i) 2).symm
      rw [← e]
      rfl
    · obtain ⟨y2, rfl, rfl⟩ := h
      exact ⟨_, rfl, q⟩
def spManyWords : Sp := fun vs H Q _ => ∃ n : Nat, vs = [.int (n : Int)] ∧ n < 91 ∧ ∀ H', Same H H' → Q (.int (cnt 0 n : Int)) H'
theorem ok_manyWords (T : Txt w K mg) : Ok P w K mg base 1 "_law_many_words" ["length"] spManyWords := by
  refine ok_of T.fLawManyWords fun f fd F => ?_
  refine F.ok scLawManyWords (fun vs H Q E h => ?_) (fun cdv A outer s H vs Q E hr h => ?_)
  · obtain ⟨n, rfl, _⟩ := h
    rfl
  · obtain ⟨n, rfl, hn, q⟩ := h
    refine ⟨_, pss_cons (ps_asg (pe_tup (pa_cons (pe_int) (pa_cons (pe_int) (pa_nil)))) (pg_tup rfl (pgs_cons (pg_name (i := 2) scLawManyWords.nd rfl (.inl rfl)) (pgs_cons (pg_name (i := 3) scLawManyWords.nd rfl (.inl rfl)) (pgs_nil)))))
         (pss_cons (ps_for PassesOwn.never rfl (pi_range1 (by rfl) T.nrange (pa_cons (pe_op op_sub (pv 0) (pe_int)) (pa_nil))) (pg_name (i := 1) scLawManyWords.nd rfl (.inl rfl)) (pss_one (ps_par (i := 2) (j := 3) (by rfl) scLawManyWords.nd rfl rfl (by decide) rfl rfl (pa_cons (pv 3) (pa_cons (pe_op op_add (pv 2) (pv 3)) (pa_nil))) (by rfl))))
         (pss_one (ps_ret (pe_ifExp (pt_cmpR (op_gt) (pv 0) (pe_int) (nomark _)) (pv 2) (pe_int))))), ?_⟩
    have hm := mw_eq n hn
    refine ⟨by show 2 ≤ sizeLine; decide, fun p np => ⟨p, _, rfl, .inl (.inl upd_same), rfl, _, _, rfl, _, _, rfl, rfl, ?_⟩⟩
    have s1 := same_new (o := .tup [.int 3, .int 5]) np
    refine ⟨.int (n : Int), rfl, _, _, rfl, rfl, (n : Int) - 1, rfl, by omega, by omega, ?_⟩
    have en : ((n : Int) - 1).toNat = n - 1 := by omega
    rw [en]
    refine for_range (lo := 0) (n := n - 1) (fun i σ H' => ∃ y1, σ = [some (.int (n : Int)), y1, some (.int ((mwp i).1 : Int)), some (.int ((mwp i).2 : Int))] ∧ Same H H') ⟨none, rfl, s1⟩ (fun i σ H' hi h => ?_) (fun σ H' h => ?_)
    · obtain ⟨y1, rfl, sm⟩ := h
      refine ⟨.int ((mwp i).2 : Int), rfl, .int ((mwp i).1 : Int), rfl, .int ((mwp i).2 : Int), rfl, _, _, rfl, rfl, _, _, rfl, some (.int (0 + (i : Nat))), ?_, sm⟩
      have e : ((mwp i).1 : Int) + ((mwp i).2 : Int) = (((mwp i).1 + (mwp i).2 : Nat) : Int) := by omega
      show _ = [some (V.int (n : Int)), some (V.int (0 + (i : Nat))), some (V.int ((mwp i).2 : Int)), some (V.int (((mwp i).1 + (mwp i).2 : Nat) : Int))]
      rw [← e]
      rfl
    · obtain ⟨y1, rfl, sm⟩ := h
      have q' := q H' sm
      refine ⟨.int (n : Int), rfl, _, _, rfl, rfl, _, rfl, ?_⟩
      by_cases c : 0 < n
      · rw [if_pos c] at hm
        rw [← hm] at q'
        exact iteDT (show (0 : Int) < (n : Int) by omega) ⟨_, rfl, q'⟩
      · rw [if_neg c] at hm
        rw [← hm] at q'
        exact iteDF (show ¬ (0 : Int) < (n : Int) by omega) q'
def spChoices : Sp := fun vs H Q _ => ∃ p s : Nat, vs = [.int (p : Int), .int (s : Int)] ∧ s ≤ p ∧ p ≤ 1000 ∧ Q (.int (chF p s : Int)) H
theorem ok_choices (T : Txt w K mg) : Ok P w K mg base 1 "_law_choices" ["many", "some"] spChoices := by
  refine ok_of T.fLawChoices fun f fd F => ?_
  refine F.ok scLawChoices (fun vs H Q E h => ?_) (fun cdv A outer s H vs Q E hr h => ?_)
  · obtain ⟨p, s, rfl, _⟩ := h
    rfl
  · obtain ⟨p, t, rfl, ht, hp, q⟩ := h
    refine ⟨_, pss_cons (ps_set (i := 2) scLawChoices.nd rfl (.inl rfl) (pe_int))
         (pss_cons (ps_for PassesOwn.never rfl (pi_range1 (by rfl) T.nrange (pa_cons (pv 1) (pa_nil))) (pg_name (i := 3) scLawChoices.nd rfl (.inl rfl)) (pss_one (ps_set (i := 2) scLawChoices.nd rfl (.inl rfl) (pe_op op_fdiv (pe_op op_mul (pv 2) (pe_op op_sub (pv 0) (pv 3))) (pe_op op_add (pv 3) (pe_int))))))
         (pss_one (ps_ret (pv 2)))), ?_⟩
    refine ⟨.int (t : Int), rfl, (t : Int), rfl, by omega, by omega, ?_⟩
    rw [Int.toNat_natCast]
    refine for_range (lo := 0) (n := t) (fun i σ H' => ∃ y3, σ = [some (.int (p : Int)), some (.int (t : Int)), some (.int (chF p i : Int)), y3] ∧ H' = H) ⟨none, rfl, rfl⟩ (fun i σ H' hi h => ?_) (fun σ H' h => ?_)
    · obtain ⟨y3, rfl, rfl⟩ := h
      have e0 : (0 : Int) + (i : Int) = (i : Int) := by omega
      rw [e0]
      refine ⟨_, rfl, .int (p : Int), rfl, .int (i : Int), rfl, _, _, rfl, rfl, _, _, rfl, rfl, .inr ⟨by omega, by omega⟩, .int (i : Int), rfl, _, _, rfl, rfl, _, _, rfl, rfl, ⟨by omega, by omega⟩, some (.int (i : Int)), ?_, rfl⟩
      have e1 : (p : Int) - (i : Int) = ((p - i : Nat) : Int) := by omega
      have e2 : (chF p i : Int) * ((p - i : Nat) : Int) = ((chF p i * (p - i) : Nat) : Int) := (Int.natCast_mul _ _).symm
      have e3 : (i : Int) + 1 = ((i + 1 : Nat) : Int) := by omega
      have e4 : ((chF p i * (p - i) : Nat) : Int) / ((i + 1 : Nat) : Int) = ((chF p (i + 1) : Nat) : Int) := (Int.natCast_ediv _ _).symm
      have e : (chF p i : Int) * ((p : Int) - (i : Int)) / ((i : Int) + 1) = ((chF p (i + 1) : Nat) : Int) := by rw [e1, e2, e3, e4]
      rw [← e]
      rfl
    · obtain ⟨y3, rfl, rfl⟩ := h
      exact ⟨_, rfl, q⟩
def spCommon : Sp := fun vs H Q _ => ∃ a b : Nat, vs = [.int (a : Int), .int (b : Int)] ∧ a ≤ 1000 ∧ b ≤ 1000 ∧ Q (.int ((Nat.gcd a b : Nat) : Int)) H
theorem ok_common (T : Txt w K mg) : Ok P w K mg base 1 "_law_common" ["one", "two"] spCommon := by
  refine ok_of T.fLawCommon fun f fd F => ?_
  refine F.ok scLawCommon (fun vs H Q E h => ?_) (fun cdv A outer s H vs Q E hr h => ?_)
  · obtain ⟨a, b, rfl, _⟩ := h
    rfl
  · obtain ⟨a, b, rfl, ha, hb, q⟩ := h
    refine ⟨_, pss_cons (ps_for PassesOwn.never rfl (pi_range1 (by rfl) T.nrange (pa_cons (pe_op op_add (pv 0) (pv 1)) (pa_nil))) (pg_name (i := 2) scLawCommon.nd rfl (.inl rfl)) (pss_cons (ps_if (pt_cmpR (op_eq) (pv 1) (pe_int) (nomark _)) (pss_one (ps_break)) (pss_nil))
         (pss_one (ps_par (i := 0) (j := 1) (by rfl) scLawCommon.nd rfl rfl (by decide) rfl rfl (pa_cons (pv 1) (pa_cons (pe_op op_mod (pv 0) (pv 1)) (pa_nil))) (by rfl)))))
         (pss_one (ps_ret (pv 0))), ?_⟩
    refine ⟨.int (a : Int), rfl, .int (b : Int), rfl, _, _, rfl, rfl, (a : Int) + (b : Int), rfl, by omega, by omega, ?_⟩
    have en : ((a : Int) + (b : Int)).toNat = a + b := by omega
    rw [en]
    have done : ∀ (x : Nat), Nat.gcd x 0 = Nat.gcd a b → Q (.int (x : Int)) H := fun x hx => by
      rw [Nat.gcd_zero_right] at hx
      rw [hx]
      exact q
    refine for_range (lo := 0) (n := a + b) (fun i σ H' => ∃ (x y : Nat) (y2 : Option V), σ = [some (.int (x : Int)), some (.int (y : Int)), y2] ∧ H' = H ∧ Nat.gcd x y = Nat.gcd a b ∧ y + i ≤ a + b) ⟨a, b, none, rfl, rfl, rfl, by omega⟩ (fun i σ H' hi h => ?_) (fun σ H' h => ?_)
    · obtain ⟨x, y, y2, rfl, rfl, hg, hy⟩ := h
      refine ⟨.int (y : Int), rfl, rfl, _, rfl, ?_⟩
      by_cases c : y = 0
      · subst c
        exact iteDT rfl ⟨_, rfl, done x hg⟩
      · refine iteDF (fun z => c (by have := V.int.inj z; omega)) ?_
        have l := Nat.mod_lt x (show y > 0 by omega)
        refine ⟨.int (y : Int), rfl, .int (x : Int), rfl, .int (y : Int), rfl, _, _, rfl, rfl, by omega, _, _, rfl, y, x % y, some (.int (0 + (i : Nat))), ?_, rfl, ?_, by omega⟩
        · have e : (x : Int) % (y : Int) = ((x % y : Nat) : Int) := by omega
          rw [← e]
          rfl
        · rw [← hg, Nat.gcd_comm x y, Nat.gcd_rec y x, Nat.gcd_comm]
    · obtain ⟨x, y, y2, rfl, rfl, hg, hy⟩ := h
      have y0 : y = 0 := by omega
      rw [y0] at hg
      exact ⟨_, rfl, done x hg⟩
def spManyRings : Sp := fun vs H Q _ => ∃ n : Nat, vs = [.int (n : Int)] ∧ n < 91 ∧ Q (.int (lmr n : Int)) H
theorem ok_manyRings (T : Txt w K mg) : Ok P w K mg base 2 "_law_many_rings" ["length"] spManyRings := by
  refine ok_of T.fLawManyRings fun f fd F => ?_
  refine F.ok scLawManyRings (fun vs H Q E h => ?_) (fun cdv A outer s H vs Q E hr h => ?_)
  · obtain ⟨n, rfl, _⟩ := h
    rfl
  · obtain ⟨n, rfl, hn, q⟩ := h
    refine ⟨_, pss_cons (ps_set (i := 1) scLawManyRings.nd rfl (.inl rfl) (pe_int))
         (pss_cons (ps_for PassesOwn.never rfl (pi_range2 (by rfl) T.nrange (pa_cons (pe_int) (pa_cons (pe_op op_add (pe_op op_fdiv (pv 0) (pe_int)) (pe_int)) (pa_nil)))) (pg_name (i := 2) scLawManyRings.nd rfl (.inl rfl)) (pss_cons (ps_set (i := 3) scLawManyRings.nd rfl (.inl rfl) (pe_int))
         (pss_cons (ps_for PassesOwn.never rfl (pi_range1 (by rfl) T.nrange (pa_cons (pv 2) (pa_nil))) (pg_name (i := 4) scLawManyRings.nd rfl (.inl rfl)) (pss_cons (ps_set (i := 5) scLawManyRings.nd rfl (.inl rfl) (pe_callO (ok_common T) hr (by decide) (by rfl) (pa_cons (pv 2) (pa_cons (pv 4) (pa_nil)))))
         (pss_cons (ps_set (i := 6) scLawManyRings.nd rfl (.inl rfl) (pe_op op_fdiv (pv 2) (pv 5)))
         (pss_one (ps_if (pt_cmpR (op_eq) (pe_op op_mod (pv 0) (pv 6)) (pe_int) (nomark _)) (pss_cons (ps_set (i := 7) scLawManyRings.nd rfl (.inl rfl) (pe_op op_sub (pe_op op_fdiv (pv 0) (pv 6)) (pe_op op_mul (pe_int) (pv 5))))
         (pss_one (ps_if (pt_chain op_le op_le pe_int (pv 7) (pv 5)) (pss_one (ps_set (i := 3) scLawManyRings.nd rfl (.inl rfl) (pe_op op_add (pv 3) (pe_op op_mul (pe_callO (ok_choices T) hr (by decide) (by rfl) (pa_cons (pv 5) (pa_cons (pv 7) (pa_nil)))) (pe_callO (ok_doubled T) hr (by decide) (by rfl) (pa_cons (pe_op op_sub (pv 5) (pv 7)) (pa_nil))))))) (pss_nil)))) (pss_nil))))))
         (pss_one (ps_set (i := 1) scLawManyRings.nd rfl (.inl rfl) (pe_op op_add (pv 1) (pe_op op_fdiv (pv 3) (pv 2))))))))
         (pss_one (ps_ret (pv 1)))), ?_⟩
    refine ⟨.int (n : Int), rfl, _, _, rfl, rfl, ⟨by decide, by decide⟩, _, _, rfl, rfl, 1, (n : Int) / 2 + 1, rfl, ⟨by decide, by decide, by omega, by omega⟩, ?_⟩
    have en : ((n : Int) / 2 + 1 - 1).toNat = n / 2 := by omega
    rw [en]
    refine for_range (lo := 1) (n := n / 2) (fun i σ H' => ∃ y2 y3 y4 y5 y6 y7 : Option V, σ = [some (.int (n : Int)), some (.int (sumTo (fun m => sumTo (ringTerm n (m + 1)) (m + 1) / (m + 1)) i : Int)), y2, y3, y4, y5, y6, y7] ∧ H' = H) ⟨none, none, none, none, none, none, rfl, rfl⟩ (fun i σ H' hi h => ?_) (fun σ H' h => ?_)
    · obtain ⟨y2, y3, y4, y5, y6, y7, rfl, rfl⟩ := h
      have ei : (1 : Int) + (i : Int) = ((i + 1 : Nat) : Int) := by omega
      rw [ei]
      have i45 : i + 1 ≤ 45 := by omega
      refine ⟨.int ((i + 1 : Nat) : Int), rfl, ((i + 1 : Nat) : Int), rfl, by omega, by omega, ?_⟩
      rw [Int.toNat_natCast]
      refine for_range (lo := 0) (n := i + 1) (fun j σ H2 => ∃ y4 y5 y6 y7 : Option V, σ = [some (.int (n : Int)), some (.int (sumTo (fun m => sumTo (ringTerm n (m + 1)) (m + 1) / (m + 1)) i : Int)), some (.int ((i + 1 : Nat) : Int)), some (.int (sumTo (ringTerm n (i + 1)) j : Int)), y4, y5, y6, y7] ∧ H2 = H') ⟨y4, y5, y6, y7, rfl, rfl⟩ (fun j σ H2 hj h => ?_) (fun σ H2 h => ?_)
      · obtain ⟨y4, y5, y6, y7, rfl, rfl⟩ := h
        have ej : (0 : Int) + (j : Int) = (j : Int) := by omega
        rw [ej]
        have es : sumTo (ringTerm n (i + 1)) (j + 1) = sumTo (ringTerm n (i + 1)) j + ringTerm n (i + 1) j := rfl
        rw [es]
        refine ⟨.int ((i + 1 : Nat) : Int), rfl, .int (j : Int), rfl, i + 1, j, rfl, by omega, by omega, ?_⟩
        have gpos : 0 < Nat.gcd (i + 1) j := Nat.gcd_pos_of_pos_left _ (by omega)
        have gle : Nat.gcd (i + 1) j ≤ i + 1 := Nat.le_of_dvd (by omega) (Nat.gcd_dvd_left _ _)
        have tpos : 0 < (i + 1) / Nat.gcd (i + 1) j := Nat.div_pos gle gpos
        have et : ringTerm n (i + 1) j = if n % ((i + 1) / Nat.gcd (i + 1) j) = 0 then if 2 * Nat.gcd (i + 1) j ≤ n / ((i + 1) / Nat.gcd (i + 1) j) ∧ n / ((i + 1) / Nat.gcd (i + 1) j) ≤ 3 * Nat.gcd (i + 1) j then chF (Nat.gcd (i + 1) j) (n / ((i + 1) / Nat.gcd (i + 1) j) - 2 * Nat.gcd (i + 1) j) * dbl (Nat.gcd (i + 1) j - (n / ((i + 1) / Nat.gcd (i + 1) j) - 2 * Nat.gcd (i + 1) j)) else 0 else 0 := rfl
        rw [et]
        have tle : (i + 1) / Nat.gcd (i + 1) j ≤ i + 1 := Nat.div_le_self _ _
        have e1 : ((i + 1 : Nat) : Int) / ((Nat.gcd (i + 1) j : Nat) : Int) = (((i + 1) / Nat.gcd (i + 1) j : Nat) : Int) := (Int.natCast_ediv _ _).symm
        generalize Nat.gcd (i + 1) j = g at gpos gle tpos tle e1 ⊢
        refine ⟨.int ((i + 1 : Nat) : Int), rfl, .int (g : Int), rfl, _, _, rfl, rfl, ⟨by omega, by omega⟩, ?_⟩
        dsimp only
        rw [e1]
        generalize (i + 1) / g = tm at tpos tle ⊢
        refine ⟨.int (n : Int), rfl, .int (tm : Int), rfl, (n : Int), (tm : Int), rfl, rfl, by omega, rfl, _, rfl, ?_⟩
        have em : (n : Int) % (tm : Int) = ((n % tm : Nat) : Int) := (Int.natCast_emod _ _).symm
        have lqn : n / tm ≤ n := Nat.div_le_self _ _
        have eq1 : (n : Int) / (tm : Int) = ((n / tm : Nat) : Int) := (Int.natCast_ediv _ _).symm
        by_cases c : n % tm = 0
        · rw [if_pos c]
          refine iteDT (show V.int ((n : Int) % (tm : Int)) = V.int 0 from congrArg V.int (by rw [em, c]; rfl)) ?_
          refine ⟨.int (n : Int), rfl, .int (tm : Int), rfl, (n : Int), (tm : Int), rfl, rfl, ⟨by omega, by omega⟩, .int (g : Int), rfl, _, _, rfl, rfl, .inl ⟨by decide, by decide⟩, _, _, rfl, rfl, ?_⟩
          have ez : (n : Int) / (tm : Int) - 2 * (g : Int) = ((n / tm : Nat) : Int) - 2 * (g : Int) := by rw [eq1]
          dsimp only
          rw [ez]
          generalize n / tm = lq at lqn ⊢
          refine ⟨.int ((lq : Int) - 2 * (g : Int)), rfl, 0, (lq : Int) - 2 * (g : Int), rfl, rfl, _, rfl, ?_⟩
          by_cases c1 : 2 * g ≤ lq
          · refine iteDT (by omega) ⟨.int (g : Int), rfl, (lq : Int) - 2 * (g : Int), (g : Int), rfl, rfl, _, rfl, ?_⟩
            by_cases c2 : lq ≤ 3 * g
            · rw [if_pos ⟨c1, c2⟩]
              have el : (lq : Int) - 2 * (g : Int) = ((lq - 2 * g : Nat) : Int) := by omega
              rw [el]
              have small := ch_small g (by omega) (lq - 2 * g) (by omega)
              have small2 : ((chF g (lq - 2 * g) : Nat) : Int) < 2 ^ 64 := by
                have : (2 : Int) ^ 64 = ((2 ^ 64 : Nat) : Int) := by decide
                rw [this]
                have : (2 : Nat) ^ 60 ≤ 2 ^ 64 := by decide
                omega
              refine iteDT (by omega) ?_
              refine ⟨_, rfl, .int (g : Int), rfl, .int ((lq - 2 * g : Nat) : Int), rfl, g, lq - 2 * g, rfl, by omega, by omega, .int (g : Int), rfl, .int ((lq - 2 * g : Nat) : Int), rfl, (g : Int), ((lq - 2 * g : Nat) : Int), rfl, rfl, g - (lq - 2 * g), ?_, by omega, _, _, rfl, rfl, .inl ⟨?_, small2⟩, _, _, rfl, rfl, some (.int (j : Int)), some (.int (g : Int)), some (.int (tm : Int)), some (.int ((lq - 2 * g : Nat) : Int)), ?_, rfl⟩
              · have e5 : (g : Int) - ((lq - 2 * g : Nat) : Int) = ((g - (lq - 2 * g) : Nat) : Int) := by omega
                show [V.int ((g : Int) - ((lq - 2 * g : Nat) : Int))] = _
                rw [e5]
              · exact Int.lt_of_lt_of_le (by decide) (Int.natCast_nonneg _)
              · have e6 : (sumTo (ringTerm n (i + 1)) j : Int) + (chF g (lq - 2 * g) : Int) * (dbl (g - (lq - 2 * g)) : Int) = ((sumTo (ringTerm n (i + 1)) j + chF g (lq - 2 * g) * dbl (g - (lq - 2 * g)) : Nat) : Int) := by
                  rw [Int.natCast_add, Int.natCast_mul]
                rw [← e6]
                rfl
            · rw [if_neg (fun z => c2 z.2), Nat.add_zero]
              exact iteDF (by omega) ⟨some (.int (j : Int)), some (.int (g : Int)), some (.int (tm : Int)), some (.int ((lq : Int) - 2 * (g : Int))), rfl, rfl⟩
          · have hR0 : (if 2 * g ≤ lq ∧ lq ≤ 3 * g then chF g (lq - 2 * g) * dbl (g - (lq - 2 * g)) else 0) = 0 := if_neg fun z => c1 z.1
            rw [hR0, Nat.add_zero]
            exact iteDF (by omega) ⟨false, rfl, iteF ⟨some (.int (j : Int)), some (.int (g : Int)), some (.int (tm : Int)), some (.int ((lq : Int) - 2 * (g : Int))), rfl, rfl⟩⟩
        · rw [if_neg c, Nat.add_zero]
          refine iteDF (fun z => c (by have z2 : (n : Int) % (tm : Int) = 0 := V.int.inj z; rw [em] at z2; omega)) ⟨some (.int (j : Int)), some (.int (g : Int)), some (.int (tm : Int)), y7, rfl, rfl⟩
      · obtain ⟨y4, y5, y6, y7, rfl, rfl⟩ := h
        refine ⟨_, rfl, _, rfl, .int ((i + 1 : Nat) : Int), rfl, _, _, rfl, rfl, ⟨by omega, by omega⟩, _, _, rfl, rfl, some (.int ((i + 1 : Nat) : Int)), some (.int (sumTo (ringTerm n (i + 1)) (i + 1) : Int)), y4, y5, y6, y7, ?_, rfl⟩
        have e5 : (sumTo (ringTerm n (i + 1)) (i + 1) : Int) / ((i + 1 : Nat) : Int) = ((sumTo (ringTerm n (i + 1)) (i + 1) / (i + 1) : Nat) : Int) := (Int.natCast_ediv _ _).symm
        have e6 : (sumTo (fun m => sumTo (ringTerm n (m + 1)) (m + 1) / (m + 1)) i : Int) + (sumTo (ringTerm n (i + 1)) (i + 1) : Int) / ((i + 1 : Nat) : Int) = ((sumTo (fun m => sumTo (ringTerm n (m + 1)) (m + 1) / (m + 1)) (i + 1) : Nat) : Int) := by
          rw [e5]
          exact (Int.natCast_add _ _).symm
        rw [← e6]
        rfl
    · obtain ⟨y2, y3, y4, y5, y6, y7, rfl, rfl⟩ := h
      exact ⟨_, rfl, q⟩
def spManyClasses : Sp := fun vs H Q _ => ∃ n : Nat, vs = [.int (n : Int)] ∧ n < 91 ∧ ∀ H', Same H H' → Q (.int (lmc n : Int)) H'
theorem ok_manyClasses (T : Txt w K mg) : Ok P w K mg base 3 "_law_many_classes" ["length"] spManyClasses := by
  refine ok_of T.fLawManyClasses fun f fd F => ?_
  refine F.ok scLawManyClasses (fun vs H Q E h => ?_) (fun cdv A outer s H vs Q E hr h => ?_)
  · obtain ⟨n, rfl, _⟩ := h
    rfl
  · obtain ⟨n, rfl, hn, q⟩ := h
    refine ⟨_, pss_cons (ps_set (i := 1) scLawManyClasses.nd rfl (.inl rfl) (pe_disp (pps_cons pe_int pe_int (pps_cons pe_int pe_int (pps_cons pe_int pe_int pps_nil))) (by rfl) (by rfl) (fun z => by cases z) (by decide)))
         (pss_one (ps_ret (pe_op op_add (pe_callO (ok_manyRings T) hr (by decide) (by rfl) (pa_cons (pv 0) (pa_nil))) (pe_ifExp (pt_cmp (pc_din (hu_of hr) (pv 0) (pv 1))) (pe_dget (hu_of hr) (pv 1) (pv 0) (fun _ _ => rfl)) (pe_int))))), ?_⟩
    intro p np
    have s1 : Same H (upd H p (.dK [])) := same_new np
    refine ⟨upd_same, [((Sum.inl 0 : Key), V.int 1), ((Sum.inl 1 : Key), V.int 3), ((Sum.inl 2 : Key), V.int 1)], rfl, by show 3 ≤ 15; decide, ?_⟩
    have mg : mergeK [] [((Sum.inl 0 : Key), V.int 1), ((Sum.inl 1 : Key), V.int 3), ((Sum.inl 2 : Key), V.int 1)] = [((Sum.inl 0 : Key), V.int 1), ((Sum.inl 1 : Key), V.int 3), ((Sum.inl 2 : Key), V.int 1)] := by rfl
    rw [mg]
    have hd : (upd (upd H p (.dK [])) p (.dK [((Sum.inl 0 : Key), V.int 1), ((Sum.inl 1 : Key), V.int 3), ((Sum.inl 2 : Key), V.int 1)])) p = some (.dK [((Sum.inl 0 : Key), V.int 1), ((Sum.inl 1 : Key), V.int 3), ((Sum.inl 2 : Key), V.int 1)]) := upd_same
    have s2 : Same H (upd (upd H p (.dK [])) p (.dK [((Sum.inl 0 : Key), V.int 1), ((Sum.inl 1 : Key), V.int 3), ((Sum.inl 2 : Key), V.int 1)])) := same_mut s1 np
    generalize upd (upd H p (.dK [])) p (.dK [((Sum.inl 0 : Key), V.int 1), ((Sum.inl 1 : Key), V.int 3), ((Sum.inl 2 : Key), V.int 1)]) = H2 at hd s2 ⊢
    have q' := q H2 s2
    unfold lmc at q'
    refine ⟨.int (n : Int), rfl, n, rfl, hn, .int (n : Int), rfl, .ref p, rfl, p, _, rfl, .inl ⟨_, Sum.inl (n : Int), .inl hd, rfl, rfl⟩, _, rfl, ?_⟩
    match n, q' with
    | 0, q' => exact iteT ⟨.ref p, rfl, .int ((0 : Nat) : Int), rfl, p, .int 1, rfl, .inl ⟨_, Sum.inl 0, .inl hd, rfl, rfl⟩, _, _, rfl, rfl, q'⟩
    | 1, q' => exact iteT ⟨.ref p, rfl, .int ((1 : Nat) : Int), rfl, p, .int 3, rfl, .inl ⟨_, Sum.inl 1, .inl hd, rfl, rfl⟩, _, _, rfl, rfl, q'⟩
    | 2, q' => exact iteT ⟨.ref p, rfl, .int ((2 : Nat) : Int), rfl, p, .int 1, rfl, .inl ⟨_, Sum.inl 2, .inl hd, rfl, rfl⟩, _, _, rfl, rfl, q'⟩
    | n + 3, q' =>
      have none : valV [((Sum.inl 0 : Key), V.int 1), ((Sum.inl 1 : Key), V.int 3), ((Sum.inl 2 : Key), V.int 1)] (Sum.inl ((n + 3 : Nat) : Int)) = none := by
        have ne : ∀ z : Int, z = 0 ∨ z = 1 ∨ z = 2 → (Sum.inl z : Key) ≠ Sum.inl ((n + 3 : Nat) : Int) := fun z hz w => by have := Sum.inl.inj w; omega
        unfold valV
        rw [List.find?_cons, decide_eq_false (ne 0 (.inl rfl)), List.find?_cons, decide_eq_false (ne 1 (.inr (.inl rfl))), List.find?_cons, decide_eq_false (ne 2 (.inr (.inr rfl)))]
        rfl
      rw [none]
      refine iteF ⟨_, _, rfl, rfl, ?_⟩
      rw [if_neg (by omega), if_neg (by omega), if_neg (by omega)] at q'
      exact q'
end
end K7

namespace K7
open PySem PySem.Spec PyProof.Rows L2 Nr Nw
theorem s48 : Sg 48 := .inl rfl
theorem s50 : Sg 50 := .inr (.inr rfl)
theorem flat_fw {L : List Nat} (h : Alt L) : Fw (flat L) := by
  have := fw_cut (flat_wd L)
  rw [cut_flat h] at this
  exact this
/-! ### all reduced words of up to so many characters -/
def ext (u : List Nat) (t : Nat) : List (List Nat) := (([48, 49, 50] : List Nat).take t).flatMap fun c => if cut (u ++ [c]) = u ++ [c] then [u ++ [c]] else []
def exts (rs : List (List Nat)) : List (List Nat) := rs.flatMap fun u => ext u 3
def lv : Nat → List (List Nat)
  | 0 => [[]]
  | i + 1 => exts (lv i)
def allW : Nat → List (List Nat)
  | 0 => [[]]
  | i + 1 => allW i ++ lv (i + 1)
theorem ext_len (u : List Nat) : ∀ t, t ≤ 3 → (ext u t).length ≤ t := by
  have one : ∀ c, ((if cut (u ++ [c]) = u ++ [c] then [u ++ [c]] else [] : List (List Nat))).length ≤ 1 := fun c => by split <;> simp
  intro t ht
  have a := one 48
  have b := one 49
  have c := one 50
  match t, ht with
  | 0, _ => exact Nat.le_refl _
  | 1, _ => simp only [ext, List.take_succ_cons, List.take_zero, List.flatMap_cons, List.flatMap_nil, List.append_nil]; omega
  | 2, _ => simp only [ext, List.take_succ_cons, List.take_zero, List.flatMap_cons, List.flatMap_nil, List.append_nil, List.length_append]; omega
  | 3, _ => simp only [ext, List.take_succ_cons, List.take_zero, List.flatMap_cons, List.flatMap_nil, List.append_nil, List.length_append]; omega
theorem exts_len : ∀ rs : List (List Nat), (exts rs).length ≤ 3 * rs.length
  | [] => Nat.le_refl _
  | u :: r => by
    have h := exts_len r
    have h2 := ext_len u 3 (Nat.le_refl _)
    have e : exts (u :: r) = ext u 3 ++ exts r := List.flatMap_cons
    rw [e, List.length_append, List.length_cons]
    omega
theorem exts_snoc (rs : List (List Nat)) (j : Nat) (u : List Nat) (h : rs[j]? = some u) : exts (rs.take (j + 1)) = exts (rs.take j) ++ ext u 3 := by
  obtain ⟨hj, e⟩ := List.getElem?_eq_some_iff.mp h
  rw [List.take_succ, h]
  unfold exts
  rw [List.flatMap_append]
  simp
theorem mem_ext {u w : List Nat} : w ∈ ext u 3 ↔ ∃ c, Sg c ∧ w = u ++ [c] ∧ cut w = w := by
  unfold ext
  rw [List.mem_flatMap]
  constructor
  · rintro ⟨c, hc, hw⟩
    split at hw
    · next e =>
      rw [List.mem_singleton.mp hw]
      refine ⟨c, ?_, rfl, e⟩
      have : c ∈ ([48, 49, 50] : List Nat) := hc
      simp only [List.mem_cons, List.not_mem_nil, or_false] at this
      exact this
    · cases hw
  · rintro ⟨c, hc, e, h⟩
    subst e
    refine ⟨c, ?_, by rw [if_pos h]; exact List.mem_singleton.mpr rfl⟩
    show c ∈ ([48, 49, 50] : List Nat)
    simp only [List.mem_cons, List.not_mem_nil, or_false]
    exact hc
theorem mem_lv : ∀ {i : Nat} {w : List Nat}, w ∈ lv i ↔ Fw w ∧ w.length = i
  | 0, w => by
    constructor
    · intro h
      rw [List.mem_singleton.mp h]
      exact ⟨trivial, rfl⟩
    · rintro ⟨_, h⟩
      rw [List.length_eq_zero_iff.mp h]
      exact List.mem_singleton.mpr rfl
  | i + 1, w => by
    show w ∈ (lv i).flatMap (fun u => ext u 3) ↔ _
    rw [List.mem_flatMap]
    constructor
    · rintro ⟨u, hu, hw⟩
      obtain ⟨fu, lu⟩ := mem_lv.mp hu
      obtain ⟨c, hc, e, hcut⟩ := mem_ext.mp hw
      have wd : Wd w := by
        rw [e]
        exact wd_append.mpr ⟨fu.wd, fun z hz => by rw [List.mem_singleton.mp hz]; exact hc⟩
      refine ⟨by rw [← hcut]; exact fw_cut wd, by rw [e]; simp; exact lu⟩
    · rintro ⟨fw, lw⟩
      have hne : w ≠ [] := fun z => by rw [z] at lw; cases lw
      obtain ⟨u, c, rfl⟩ : ∃ u c, w = u ++ [c] := ⟨w.dropLast, w.getLast hne, (List.dropLast_concat_getLast hne).symm⟩
      obtain ⟨fu, hc, _⟩ := fw_snoc fw
      refine ⟨u, mem_lv.mpr ⟨fu, by simpa using lw⟩, mem_ext.mpr ⟨c, hc, rfl, cut_of_fw fw⟩⟩
theorem mem_allW : ∀ {i : Nat} {w : List Nat}, w ∈ allW i ↔ Fw w ∧ w.length ≤ i
  | 0, w => by
    constructor
    · intro h
      rw [List.mem_singleton.mp h]
      exact ⟨trivial, Nat.le_refl _⟩
    · rintro ⟨_, h⟩
      rw [List.length_eq_zero_iff.mp (Nat.le_zero.mp h)]
      exact List.mem_singleton.mpr rfl
  | i + 1, w => by
    show w ∈ allW i ++ lv (i + 1) ↔ _
    rw [List.mem_append, mem_allW, mem_lv]
    constructor
    · rintro (⟨a, b⟩ | ⟨a, b⟩)
      · exact ⟨a, by omega⟩
      · exact ⟨a, by omega⟩
    · rintro ⟨a, b⟩
      by_cases h : w.length ≤ i
      · exact .inl ⟨a, h⟩
      · exact .inr ⟨a, by omega⟩
theorem lv_few : ∀ i, i < 9 → (lv i).length ≤ 1000 ∧ (allW i).length ≤ 1000 := by decide +kernel

/-! ### least readings, reckoned -/
def rgF : Nat → List Nat → List Nat
  | 0, L => L
  | n + 1, L => match L with
    | [] => []
    | [c] => [c]
    | a :: b :: r => if a = (b :: r).getLast (List.cons_ne_nil _ _) then rgF n (b :: r).dropLast else fnr a (b :: r).dropLast ((b :: r).getLast (List.cons_ne_nil _ _))
theorem rgF_ok : ∀ (n : Nat) {L : List Nat}, L.length ≤ n → Alt L → Rg L (rgF n L)
  | 0, L, h, _ => by
    rw [List.length_eq_zero_iff.mp (Nat.le_zero.mp h)]
    exact .nil
  | n + 1, [], _, _ => .nil
  | n + 1, [c], _, _ => .one c
  | n + 1, a :: b :: r, h, al => by
    have e : b :: r = (b :: r).dropLast ++ [(b :: r).getLast (List.cons_ne_nil _ _)] := (List.dropLast_concat_getLast _).symm
    show Rg (a :: b :: r) (if a = (b :: r).getLast (List.cons_ne_nil _ _) then rgF n (b :: r).dropLast else fnr a (b :: r).dropLast ((b :: r).getLast (List.cons_ne_nil _ _)))
    have ld : (b :: r).dropLast.length ≤ n := by rw [List.length_dropLast]; simp at h ⊢; omega
    generalize (b :: r).getLast (List.cons_ne_nil _ _) = z at e ⊢
    generalize (b :: r).dropLast = M at e ld ⊢
    rw [e] at al ⊢
    split
    · next c =>
      subst c
      have am : Alt M := (alt_app.mp (show Alt ([a] ++ (M ++ [a])) from al)).2.1 |> fun q => (alt_app.mp q).1
      exact .strip a M _ (mid_ne al) (rgF_ok n ld am)
    · next c => exact .fin a M z c
def cands (ρ : List Nat) : List (List Nat) := (List.range ρ.length).flatMap fun i => if ρ[i]?.getD 0 = 1 ∨ ρ[i]?.getD 0 = 3 then [48 :: (flat (ρ.drop (i + 1) ++ ρ.take i) ++ rest (ρ[i]?.getD 0))] else []
theorem mem_cands {ρ s : List Nat} : s ∈ cands ρ ↔ Rdg ρ s := by
  unfold cands Rdg
  rw [List.mem_flatMap]
  constructor
  · rintro ⟨i, hi, h⟩
    have hl := List.mem_range.mp hi
    split at h
    · next c =>
      refine ⟨ρ.take i, ρ[i]?.getD 0, ρ.drop (i + 1), ?_, c, List.mem_singleton.mp h⟩
      have e : ρ[i]?.getD 0 = ρ[i] := by rw [List.getElem?_eq_getElem hl]; rfl
      rw [e, ← List.drop_eq_getElem_cons hl, List.take_append_drop]
    · cases h
  · rintro ⟨A, c, B, e, hc, hs⟩
    subst e
    refine ⟨A.length, List.mem_range.mpr (by simp), ?_⟩
    have e1 : (A ++ c :: B)[A.length]?.getD 0 = c := by rw [List.getElem?_append_right (Nat.le_refl _), Nat.sub_self]; rfl
    have e2 : (A ++ c :: B).take A.length = A := List.take_left ..
    have e3 : (A ++ c :: B).drop (A.length + 1) = B := by
      have : A ++ c :: B = (A ++ [c]) ++ B := by simp
      rw [this]
      have l : A.length + 1 = (A ++ [c]).length := by simp
      rw [l]
      exact List.drop_left ..
    rw [e1, e2, e3, if_pos hc, hs]
    exact List.mem_singleton.mpr rfl
def minL : List Nat → List (List Nat) → List Nat
  | x, [] => x
  | x, y :: r => minL (if y < x then y else x) r
theorem minL_ok : ∀ (l : List (List Nat)) (x : List Nat), minL x l ∈ x :: l ∧ ∀ y ∈ x :: l, minL x l ≤ y
  | [], x => ⟨List.mem_cons_self, fun y hy => by rw [List.mem_singleton.mp hy]; exact List.le_refl _⟩
  | z :: r, x => by
    obtain ⟨h1, h2⟩ := minL_ok r (if z < x then z else x)
    have hz : minL x (z :: r) = minL (if z < x then z else x) r := rfl
    rw [hz]
    have hx := h2 _ List.mem_cons_self
    refine ⟨?_, fun y hy => ?_⟩
    · rcases List.mem_cons.mp h1 with e | e
      · rw [e]
        split
        · exact List.mem_cons_of_mem _ List.mem_cons_self
        · exact List.mem_cons_self
      · exact List.mem_cons_of_mem _ (List.mem_cons_of_mem _ e)
    · rcases List.mem_cons.mp hy with e | e
      · subst e
        refine List.le_trans hx ?_
        split
        · next c => exact List.le_of_lt c
        · exact List.le_refl _
      · rcases List.mem_cons.mp e with e | e
        · subst e
          refine List.le_trans hx ?_
          split
          · exact List.le_refl _
          · next c => exact c
        · exact h2 y (List.mem_cons_of_mem _ e)
def lstF (ρ : List Nat) : List Nat := if ρ.length < 2 then flat ρ else match cands ρ with
  | [] => flat ρ
  | x :: r => minL x r
theorem lstF_ok (ρ : List Nat) : Lst ρ (lstF ρ) := by
  unfold Lst lstF
  by_cases h : ρ.length < 2
  · rw [if_pos h, if_pos h]
  · rw [if_neg h, if_neg h]
    cases e : cands ρ with
    | nil => exact .inr ⟨(fun s hs => by rw [← mem_cands, e] at hs; cases hs), rfl⟩
    | cons x r =>
      obtain ⟨a, b⟩ := minL_ok r x
      exact .inl ⟨mem_cands.mp (by rw [e]; exact a), fun s hs => b s (by rw [← e]; exact mem_cands.mpr hs)⟩
def leastF (u : List Nat) : List Nat := lstF (rgF (codesOf u).length (codesOf u).reverse)
theorem leastF_ok {u : List Nat} (hu : Wd u) : Cw u (leastF u) := ⟨_, rgF_ok _ (by rw [List.length_reverse]; exact Nat.le_refl _) (alt_rev (codes_alt hu)), lstF_ok _⟩
theorem least_counts : ∀ n, n < 8 → (lv n).length = cnt 0 n ∧ ((lv n).filter fun u => decide (leastF u = u)).length = clsN n := by decide +kernel
theorem rows_eq : ∀ n, n < 8 → ((allW n).filter fun u => decide (u.length = n)) = lv n := by decide +kernel
section
variable {P : Program} {w : World} {K : PySem.W.Frag} {mg : Str → Option Value} {base : Heap}
theorem readOf_len (s : List Nat) : (readOf s).length ≤ 2 := by
  unfold readOf
  split
  · exact Nat.le_refl 2
  · exact Nat.le_succ 1
def readN (u : List Nat) (i : Nat) : List (List Nat) := (List.range i).flatMap fun n => readOf (shift u n)
theorem readN_succ (u : List Nat) (i : Nat) : readN u (i + 1) = readN u i ++ readOf (shift u i) := by
  unfold readN
  rw [List.range_succ, List.flatMap_append]
  refine congrArg (_ ++ ·) ?_
  show readOf (shift u i) ++ [] = _
  rw [List.append_nil]
theorem readN_len (u : List Nat) : ∀ i, (readN u i).length ≤ 2 * i
  | 0 => Nat.le_refl _
  | i + 1 => by
    have h1 := readN_len u i
    have h2 := readOf_len (shift u i)
    rw [readN_succ, List.length_append]
    omega
def spReadings : Sp := fun vs H Q _ => ∃ u : List Nat, vs = [.str (S u)] ∧ u.length ≤ 1000 ∧ ∀ (p : Addr) (H' : Hp), Same H H' → H p = none → H' p = some (.lst (Vs (readL u))) → Q (.ref p) H'
theorem ok_readings (T : Txt w K mg) : Ok P w K mg base 1 "_law_readings" ["ring"] spReadings := by
  refine ok_of T.fLawReadings fun f fd F => ?_
  refine F.ok scLawReadings (fun vs H Q E h => ?_) (fun cdv A outer s H vs Q E hr h => ?_)
  · obtain ⟨u, rfl, _⟩ := h
    rfl
  · obtain ⟨u, rfl, hz, q⟩ := h
    refine ⟨_, pss_cons (ps_set (i := 1) scLawReadings.nd rfl (.inl rfl) (pe_lst (pa_nil)))
         (pss_cons (ps_for PassesOwn.never rfl (pi_range1 (by rfl) T.nrange (pa_cons (pe_callB call_len_str (by rfl) T.nlen PySem.boot_len (pa_cons (pv 0) (pa_nil))) (pa_nil))) (pg_name (i := 2) scLawReadings.nd rfl (.inl rfl)) (pss_cons (ps_set (i := 3) scLawReadings.nd rfl (.inl rfl) (pe_op op_add_str (pe_slice sl_str (pv 0) (po_some (pv 2)) po_none) (pe_slice sl_str (pv 0) po_none (po_some (pv 2)))))
         (pss_cons (ps_expr (pe_bm PySem.F.plainAttrs_list PySem.F.slot_list_append PySem.F.type_list_append mt_append (pv 1) (pa_cons (pv 3) (pa_nil))))
         (pss_one (ps_if (pt_cmpR (op_eq) (pe_slice sl_str (pv 3) po_none (po_some (pe_int))) (pe_str) (nomark _)) (pss_one (ps_expr (pe_bm PySem.F.plainAttrs_list PySem.F.slot_list_append PySem.F.type_list_append mt_append (pv 1) (pa_cons (pe_op op_add_str (pe_op op_add_str (pe_str) (pe_slice sl_str (pv 3) (po_some (pe_int)) po_none)) (pe_str)) (pa_nil))))) (pss_nil))))))
         (pss_one (ps_ret (pv 1)))), ?_⟩
    have fit : ∀ z : Nat, z ≤ 100000 → z ≤ sizeLine := fun z hz => Nat.le_trans hz (by decide)
    have zu : (S u).length ≤ sizeLine := fit _ (Nat.le_trans hz (by decide))
    refine ⟨Nat.zero_le _, fun l nl => ?_⟩
    refine ⟨.str (S u), rfl, S u, rfl, zu, ((u.length : Nat) : Int), rfl, by omega, by omega, ?_⟩
    rw [Int.toNat_natCast]
    refine for_range (lo := 0) (n := u.length) (fun i σ H3 => ∃ y2 y3, σ = [some (.str (S u)), some (.ref l), y2, y3] ∧ Same H H3 ∧ H3 l = some (.lst (Vs (readN u i)))) ⟨none, none, rfl, same_new nl, upd_same⟩ (fun i σ H3 hi h => ?_) (fun σ H3 h => ?_)
    · obtain ⟨y2, y3, rfl, sm, el⟩ := h
      have ei : (0 : Int) + (i : Int) = (i : Int) := by omega
      rw [ei]
      have c1 : cutS (S u) (some (i : Int)) none = S (u.drop i) := cut_from (by omega)
      have c2 : cutS (S u) none (some (i : Int)) = S (u.take i) := cut_upto (by omega)
      have ls : (u.drop i ++ u.take i).length = u.length := by simp; omega
      have ln := readN_len u i
      refine ⟨.str (S u), rfl, .int (i : Int), rfl, (i : Int), rfl, S u, rfl, zu, .str (S u), rfl, .int (i : Int), rfl, (i : Int), rfl, S u, rfl, zu, _, _, rfl, rfl, ?_, ?_⟩
      · rw [c1, c2]
        exact fit _ (show (u.drop i).length + (u.take i).length ≤ _ by simp; omega)
      rw [c1, c2, s_app]
      have es : u.drop i ++ u.take i = shift u i := rfl
      rw [es] at ls ⊢
      refine ⟨.ref l, rfl, .inl ⟨rfl, _, .inl (.inl el)⟩, .str (S (shift u i)), rfl, l, _, _, rfl, rfl, el, ?_, ?_⟩
      · rw [vs_len]
        exact Nat.lt_of_le_of_lt (show (readN u i).length ≤ 100000 by omega) (by decide)
      have s1 := same_mut (o := .lst (Vs (readN u i) ++ [.str (S (shift u i))])) sm nl
      have e1 : (upd H3 l (.lst (Vs (readN u i) ++ [.str (S (shift u i))]))) l = some (.lst (Vs (readN u i ++ [shift u i]))) := by
        rw [upd_same]
        unfold Vs
        rw [List.map_append]
        rfl
      generalize upd H3 l (.lst (Vs (readN u i) ++ [.str (S (shift u i))])) = H4 at s1 e1 ⊢
      have zs : (S (shift u i)).length ≤ sizeLine := fit _ (show (shift u i).length ≤ _ by omega)
      have c3 : cutS (S (shift u i)) none (some 2) = S ((shift u i).take 2) := by
        unfold cutS
        have h1 : (S (shift u i)).length = (shift u i).length := rfl
        have h2 : HT.sIx (shift u i).length (shift u i).length (some 2) = min 2 (shift u i).length := HT.sIx_nat _ _ 2
        rw [h1, h2, HT.sIx_none]
        show (⟨((shift u i).take (min 2 (shift u i).length)).toArray⟩ : Str) = S ((shift u i).take 2)
        by_cases h : 2 ≤ (shift u i).length
        · rw [Nat.min_eq_left h]; rfl
        · rw [Nat.min_eq_right (by omega), List.take_of_length_le (Nat.le_refl _), List.take_of_length_le (by omega)]; rfl
      refine ⟨.str (S (shift u i)), rfl, 2, rfl, S (shift u i), rfl, zs, rfl, _, rfl, ?_⟩
      rw [c3]
      by_cases h02 : (shift u i).take 2 = [48, 50]
      · refine iteDT (by rw [h02]; rfl) ?_
        have hl2 : 2 ≤ (shift u i).length := by
          have := congrArg List.length h02
          rw [List.length_take] at this
          have e2 : ([48, 50] : List Nat).length = 2 := rfl
          omega
        have c4 : cutS (S (shift u i)) (some 2) none = S ((shift u i).drop 2) := cut_from (a := 2) hl2
        refine ⟨.ref l, rfl, .inl ⟨rfl, _, .inl (.inl e1)⟩, .str (S (shift u i)), rfl, 2, rfl, S (shift u i), rfl, zs, S [48], _, rfl, rfl, ?_, _, S [50], rfl, rfl, ?_, ?_⟩
        · rw [c4]
          exact fit _ (show 1 + ((shift u i).drop 2).length ≤ _ by rw [List.length_drop]; omega)
        · rw [c4, s_app]
          exact fit _ (show ([48] ++ (shift u i).drop 2).length + 1 ≤ _ by rw [List.length_append, List.length_drop]; show 1 + _ + 1 ≤ _; omega)
        rw [c4, s_app, s_app]
        refine ⟨l, _, _, rfl, rfl, e1, ?_, ?_⟩
        · rw [vs_len, List.length_append]
          exact Nat.lt_of_le_of_lt (show (readN u i).length + 1 ≤ 100000 by omega) (by decide)
        · refine ⟨_, _, rfl, same_mut s1 nl, ?_⟩
          rw [upd_same, readN_succ]
          unfold readOf
          rw [if_pos h02]
          unfold Vs
          rw [List.map_append, List.map_append]
          simp
      · refine iteDF (fun z => h02 (s_inj (V.str.inj z))) ?_
        refine ⟨_, _, rfl, s1, ?_⟩
        rw [e1, readN_succ]
        unfold readOf
        rw [if_neg h02]
    · obtain ⟨y2, y3, rfl, sm, el⟩ := h
      exact ⟨.ref l, rfl, q l H3 sm nl el⟩
def spLeastL : Sp := fun vs H Q _ => ∃ u : List Nat, vs = [.str (S u)] ∧ Fw u ∧ u.length ≤ 100 ∧ ∀ (t : List Nat) (H' : Hp), Cw u t → t.length ≤ 2 * u.length → Wd t → Same H H' → Q (.str (S t)) H'
theorem shift_len (u : List Nat) (n : Nat) : (shift u n).length = u.length := by
  unfold shift
  simp
  omega
theorem readL_len {u s : List Nat} (h : s ∈ readL u) : s.length = u.length := by
  obtain ⟨n, hn, hs⟩ := mem_readL.mp h
  have ls := shift_len u n
  unfold readOf at hs
  split at hs
  · next e =>
    rcases List.mem_cons.mp hs with z | z
    · rw [z, ls]
    · rw [List.mem_singleton.mp z]
      have hl2 : 2 ≤ (shift u n).length := by
        have := congrArg List.length e
        rw [List.length_take] at this
        have e2 : ([48, 50] : List Nat).length = 2 := rfl
        omega
      simp
      omega
  · rw [List.mem_singleton.mp hs, ls]
theorem shift_wd {u : List Nat} (h : Wd u) (n : Nat) : Wd (shift u n) := wd_append.mpr ⟨fun c hc => h c (List.mem_of_mem_drop hc), fun c hc => h c (List.mem_of_mem_take hc)⟩
theorem readL_wd {u s : List Nat} (hu : Wd u) (h : s ∈ readL u) : Wd s := by
  obtain ⟨n, hn, hs⟩ := mem_readL.mp h
  have ws := shift_wd hu n
  unfold readOf at hs
  split at hs
  · rcases List.mem_cons.mp hs with z | z
    · rw [z]; exact ws
    · rw [List.mem_singleton.mp z]
      intro c hc
      rcases List.mem_cons.mp hc with y | y
      · rw [y]; exact s48
      · rcases List.mem_append.mp y with y | y
        · exact ws c (List.mem_of_mem_drop y)
        · rw [List.mem_singleton.mp y]; exact s50
  · rw [List.mem_singleton.mp hs]; exact ws
theorem ok_leastL (T : Txt w K mg) : Ok P w K mg base 3 "_law_least" ["word"] spLeastL := by
  refine ok_of T.fLawLeast fun f fd F => ?_
  refine F.ok scLawLeast (fun vs H Q E h => ?_) (fun cdv A outer s H vs Q E hr h => ?_)
  · obtain ⟨u, rfl, _⟩ := h
    rfl
  · obtain ⟨u, rfl, hf, hz, q⟩ := h
    refine ⟨_, pss_cons (ps_set (i := 1) scLawLeast.nd rfl (.inl rfl) (pe_ix (r := rIxT K) ix_tup (pe_callO (ok_ring T) hr (by decide) (by rfl) (pa_cons (pv 0) (pa_nil))) (pe_int) (fun _ _ => rfl)))
         (pss_cons (ps_if (pt_cmpR (op_lt) (pe_callB call_len_seq (by rfl) T.nlen PySem.boot_len (pa_cons (pv 1) (pa_nil))) (pe_int) (nomark _)) (pss_one (ps_ret (pe_join pe_str (pv 1)))) (pss_nil))
         (pss_one (ps_ret (pe_callB (cr_minS rfl (Nat.lt_of_le_of_lt (Nat.add_le_add_left (by decide : 1 ≤ 64) _) hr.units)) (by rfl) T.nmin (by decide +kernel) (pa_cons (pe_callO (ok_readings T) hr (by decide) (by rfl) (pa_cons (pe_join pe_str (pv 1)) (pa_nil))) (pa_nil)))))), ?_⟩
    have fit : ∀ z : Nat, z ≤ 100000 → z ≤ sizeLine := fun z hz => Nat.le_trans hz (by decide)
    refine ⟨.str (S u), rfl, u, rfl, hf, hz, fun L y p1 q1 H1 s1 np1 nq1 eq1 ep1 hR => ?_⟩
    refine ⟨p1, _, _, .ref q1, rfl, rfl, .inl (.inl ep1), atI_nat (j := 0) rfl, ?_⟩
    have lL := hR.ll
    have lf : (flat L).length ≤ 2 * u.length := Nat.le_trans (flat_len L) (by omega)
    have ef : (L.map pw).flatten = flat L := (List.flatMap_def ..).symm
    have ePV : PV L = ((L.map pw).map S).map V.str := by
      unfold PV Vs
      rw [List.map_map, List.map_map, List.map_map]
      rfl
    have sum : ∀ M : List Nat, Alt M → (((M.map pw).map S).map (·.length)).sum ≤ 2 * M.length := by
      intro M
      induction M with
      | nil => exact fun _ => Nat.le_refl _
      | cons a r ih =>
        intro al
        have h1 := (pw_len al.head).1
        have h2 := ih al.tail
        simp only [List.map_cons, List.sum_cons, List.length_cons]
        have e1 : (S (pw a)).length = (pw a).length := rfl
        omega
    have sumL := sum L hR.alt
    have glue : Txt.join (S []) ((L.map pw).map S) = S (flat L) := by rw [join_flat, ef]
    refine ⟨.ref q1, rfl, q1, PV L, rfl, .inl (.inl (.inl eq1)), ((PV L).length : Int), 2, rfl, rfl, _, rfl, ?_⟩
    rw [pv_len]
    have clsL : ∀ t, Cls L t → Cw u t := fun t h => cw_moved (flat_wd L) hR.wd hf.wd hR.eq (cw_self hR.alt h)
    by_cases h2 : L.length < 2
    · refine iteDT (by omega) ?_
      refine ⟨⟨_, rfl⟩, .ref q1, rfl, S [], q1, (L.map pw).map S, rfl, rfl, .inl (.inl (.inl (by rw [eq1, ePV]))), ?_, ?_⟩
      · have e0 : (S ([] : List Nat)).length = 0 := rfl
        show _ + _ * (S ([] : List Nat)).length ≤ _
        rw [e0]
        omega
      · rw [glue]
        have rg : Rg L L := by
          match L, h2 with
          | [], _ => exact .nil
          | [c], _ => exact .one c
          | a :: b :: r, h => exact absurd h (by simp)
        exact q (flat L) H1 (clsL _ ⟨L, rg, by unfold Lst; rw [if_pos h2]⟩) lf (flat_wd L) s1
    · refine iteDF (by omega) ?_
      have lr : Lr L := hR.sh.resolve_left h2
      obtain ⟨a, M, eL, a4, ca⟩ := lr.split
      obtain ⟨t, ρ, r1, l1⟩ := cw_ex (flat_wd L)
      rw [codes_flat hR.alt, List.reverse_reverse] at r1
      have rf : Rg L (M ++ [4, a]) := by
        have := Rg.fin a M 4 a4
        rw [fnr_4 a4] at this
        rw [eL]
        exact this
      have e1 := rg_fun r1 rf
      subst e1
      obtain ⟨tin, tle⟩ := lst_readings lr eL a4 l1
      refine ⟨⟨_, rfl⟩, .ref q1, rfl, S [], q1, (L.map pw).map S, rfl, rfl, .inl (.inl (.inl (by rw [eq1, ePV]))), ?_, ?_⟩
      · have e0 : (S ([] : List Nat)).length = 0 := rfl
        show _ + _ * (S ([] : List Nat)).length ≤ _
        rw [e0]
        omega
      rw [glue]
      refine ⟨flat L, rfl, by omega, fun p2 H2 s2 np2 ep2 => ?_⟩
      obtain ⟨x, xs, ex⟩ : ∃ x xs, readL (flat L) = x :: xs := by
        cases e : readL (flat L) with
        | nil => rw [e] at tin; cases tin
        | cons x xs => exact ⟨x, xs, rfl⟩
      refine ⟨p2, S x, xs.map S, rfl, .inl (.inl ?_), fun m hm hle => ?_⟩
      · rw [ep2, ex]
        unfold Vs
        rw [List.map_cons, List.map_cons, List.map_map]
        rfl
      · have mem : ∀ s, s ∈ readL (flat L) ↔ S s ∈ S x :: xs.map S := fun s => by
          rw [ex, ← List.map_cons]
          constructor
          · exact fun h => List.mem_map.mpr ⟨s, h, rfl⟩
          · intro h
            obtain ⟨z, hz, e⟩ := List.mem_map.mp h
            rw [← s_inj e]
            exact hz
        have hm' := hm
        rw [← List.map_cons] at hm'
        obtain ⟨m', _, rfl⟩ := List.mem_map.mp hm'
        have min := (mem m').mpr hm
        have h1 := tle m' min
        have h2 : m' ≤ t := hle (S t) ((mem t).mp tin)
        have e := List.le_antisymm h1 h2
        subst e
        exact q t H2 (clsL t ⟨_, rf, l1⟩) (by rw [readL_len tin]; exact lf) (readL_wd (flat_wd L) tin) (Same.to s1 s2)
def spIsWord : Sp := fun vs H Q _ => ∃ u : List Nat, vs = [.str (S u)] ∧ Fw u ∧ u.length ≤ 20000 ∧ ∀ H', Same H H' → Q (.bl true) H'
theorem ok_isWordL (T : Txt w K mg) : Ok P w K mg base 2 "_law_is_word" ["value"] spIsWord := by
  refine ok_of T.fLawIsWord fun f fd F => ?_
  refine F.ok scLawIsWord (fun vs H Q E h => ?_) (fun cdv A outer s H vs Q E hr h => ?_)
  · obtain ⟨u, rfl, _⟩ := h
    rfl
  · obtain ⟨u, rfl, hf, hz, q⟩ := h
    refine ⟨_, pss_cons (ps_if (PW.pt (pw_or (pt_not (pt_val (pe_callB call_isi (by rfl) T.nisinstance (by decide +kernel) (pa_cons (pv 0) (pa_cons (pe_bltn (v := .ty "str") (by rfl) T.nstr (by decide +kernel) rfl) pa_nil))))) (pw_or1 (pt_cmpR (op_neD hr.units) (pe_lc (own := [("sign", 1)]) (g := gName 1) (tt := _) (by rfl) scLawIsWord.nd (pi_str (pv 0)) (blkOk_by (N := ["value", "sign"]) (sc := defScope sLawIsWord) (by decide +kernel)) (fun _ _ _ _ _ => pg_name (i := 1) scLawIsWord.nd rfl (.inl rfl)) (fun _ _ _ _ _ => pts_one (pt_cmpR op_notIn_sign (pv 1) pe_str (by rfl))) (fun _ _ _ _ _ => pe_int)) (pe_lst (pa_nil)) (nomark _))))) (pss_one (ps_ret (pe_bl))) (pss_nil))
         (pss_one (ps_ret (pe_cmpR (op_eq) (pe_callO (ok_cut T) hr (by decide) (by rfl) (pa_cons (pv 0) (pa_nil))) (pv 0) (nomark _)))), ?_⟩
    refine ⟨.str (S u), rfl, .str (S u), .ty "str", .type "str", .type "str", true, rfl, .ty "str", .base (.str _), kit_ty (by decide +kernel), true, rfl, iteF ?_⟩
    refine ⟨.str (S u), rfl, S u, rfl, fun D nD => ⟨fun i m H' => i + m = u.length ∧ H' = upd H D (.lst []), ⟨u.length, by omega, rfl⟩, ?_⟩⟩
    rintro i m H' ⟨em, rfl⟩
    by_cases hi : i < u.length
    · refine .inr ⟨hi, fun H' => H' = upd H D (.lst []), fun H' e => ⟨m - 1, by omega, by omega, e⟩, ?_⟩
      rintro x H' ⟨rfl, c, hc, rfl⟩
      have e : u[i]? = some c := by
        have e0 : (S u).cps[i]? = u[i]? := List.getElem?_toArray
        rw [← e0]
        exact hc
      have hsg : Sg c := hf.wd c (List.mem_of_getElem? e)
      refine ⟨rfl, .str ⟨#[c]⟩, rfl, c, "012", rfl, rfl, _, rfl, ?_⟩
      have : (!decide (c ∈ ("012" : Str).cps.toList)) = false := by rcases hsg with z | z | z <;> subst z <;> decide
      rw [this]
      exact iteF rfl
    · refine .inl ⟨by show u.length ≤ i; omega, Nat.zero_le _, fun p np => ?_⟩
      have s1 := same_new (o := .lst []) nD
      have s2 := Same.to s1 (same_new (o := .lst []) np)
      refine ⟨.list [], .list [], .lst (.inl (.inl (same_new np _ _ upd_same))) .nil, .lst (.inl (.inl upd_same)) .nil, rfl, rfl, _, rfl, ?_⟩
      have : (!PyData.eqv (.list []) (.list [])) = false := by
        unfold PyData.eqv
        unfold PyData.eqvAll
        rfl
      rw [this]
      refine iteF ⟨.str (S u), rfl, u, rfl, ⟨hf.wd, hz⟩, .str (S u), rfl, rfl, ?_⟩
      rw [cut_of_fw hf, decide_eq_true rfl]
      exact q _ s2
def spAllX : Sp := fun vs H Q _ => ∃ N : Nat, vs = [.int (N : Int)] ∧ N ≤ 7 ∧ ∀ (p : Addr) (H' : Hp), Same H H' → H p = none → H' p = some (.lst (Vs (allW N))) → Q (.ref p) H'
theorem ok_allX (T : Txt w K mg) : Ok P w K mg base 2 "_law_all_words" ["most"] spAllX := by
  refine ok_of T.fLawAllWords fun f fd F => ?_
  refine F.ok scLawAllWords (fun vs H Q E h => ?_) (fun cdv A outer s H vs Q E hr h => ?_)
  · obtain ⟨N, rfl, _⟩ := h
    rfl
  · obtain ⟨N, rfl, hN, q⟩ := h
    refine ⟨_, pss_cons (ps_par (i := 2) (j := 3) (by rfl) scLawAllWords.nd rfl rfl (by decide) rfl rfl (pa_cons (pe_lst (pa_cons pe_str pa_nil)) (pa_cons (pe_lst (pa_cons pe_str pa_nil)) pa_nil)) (by rfl))
      (pss_cons (ps_for PassesOwn.never rfl (pi_range1 (by rfl) T.nrange (pa_cons (pv 0) pa_nil)) (pg_name (i := 1) scLawAllWords.nd rfl (.inl rfl))
        (pss_cons (ps_set (i := 4) scLawAllWords.nd rfl (.inl rfl) (pe_lst pa_nil))
        (pss_cons (ps_for PassesOwn.never rfl (pi_list (pv 3)) (pg_name (i := 5) scLawAllWords.nd rfl (.inl rfl))
          (pss_one (ps_for PassesOwn.never rfl (pi_str pe_str) (pg_name (i := 6) scLawAllWords.nd rfl (.inl rfl))
            (pss_one (ps_if (pt_cmpR op_eq (pe_callO (ok_cut T) hr (by decide) (by rfl) (pa_cons (pe_op op_add_str (pv 5) (pv 6)) pa_nil)) (pe_op op_add_str (pv 5) (pv 6)) (nomark _))
              (pss_one (ps_expr (pe_bm PySem.F.plainAttrs_list PySem.F.slot_list_append PySem.F.type_list_append mt_append (pv 4) (pa_cons (pe_op op_add_str (pv 5) (pv 6)) pa_nil)))) pss_nil)))))
        (pss_cons (ps_set (i := 2) scLawAllWords.nd rfl (.inl rfl) (pe_op op_cat (pv 2) (pv 4)))
        (pss_one (ps_set (i := 3) scLawAllWords.nd rfl (.inl rfl) (pv 4)))))))
      (pss_one (ps_ret (pv 2)))), ?_⟩
    have one1 : (1 : Nat) ≤ sizeLine := by decide
    refine ⟨one1, fun fl nf => ?_⟩
    refine ⟨one1, fun rl nr => ?_⟩
    refine ⟨_, _, rfl, ?_⟩
    have nf0 : H fl = none := nf
    have nr0 : H rl = none := none_of (same_new nf) nr
    have nfr : fl ≠ rl := fun e => by
      rw [← e, upd_same] at nr
      cases nr
    have s1 : Same H (upd (upd H fl (.lst (Vs [[]]))) rl (.lst (Vs [[]]))) := same_mut (same_new nf) nr0
    have g0 : Good 0 [] := ⟨(fun c hc => by cases hc), rfl, Nat.le_refl _⟩
    refine ⟨.int (N : Int), rfl, (N : Int), rfl, by omega, by omega, ?_⟩
    rw [Int.toNat_natCast]
    refine ⟨fun i m σ H3 => ∃ (y1 y4 y5 y6 : Option V) (fl rl : Addr), σ = [some (.int (N : Int)), y1, some (.ref fl), some (.ref rl), y4, y5, y6] ∧ i + m = N ∧ Same H H3 ∧ H fl = none ∧ H3 fl = some (.lst (Vs (allW i))) ∧ H3 rl = some (.lst (Vs (lv i))),
      ⟨N, none, none, none, none, fl, rl, rfl, Nat.zero_add _, s1, nf0, by rw [upd_ne nfr]; exact upd_same, upd_same⟩, ?_⟩
    clear s1 nfr nf0 nr0 nr nf
    clear fl rl
    rintro i m σ H3 ⟨y1, y4, y5, y6, fl, rl, rfl, em, sm, nf, ef, er⟩
    by_cases hi : i < N
    · obtain ⟨lr, lw⟩ := lv_few i (by omega)
      refine .inr ⟨hi, fun σ' H' => ∃ (y1 y4 y5 y6 : Option V) (fl rl : Addr), σ' = [some (.int (N : Int)), y1, some (.ref fl), some (.ref rl), y4, y5, y6] ∧ Same H H' ∧ H fl = none ∧ H' fl = some (.lst (Vs (allW (i + 1)))) ∧ H' rl = some (.lst (Vs (lv (i + 1)))), ?_, ?_⟩
      · rintro σ' H' ⟨z1, z4, z5, z6, fl', rl', e, r⟩
        exact ⟨m - 1, by omega, z1, z4, z5, z6, fl', rl', e, by omega, r⟩
      · rintro v H' ⟨rfl, rfl⟩
        refine ⟨Nat.zero_le _, fun lo nlo => ?_⟩
        have nlo0 : H lo = none := none_of sm nlo
        have rne : rl ≠ lo := ne_of_none er nlo
        have fne : fl ≠ lo := ne_of_none ef nlo
        -- over the row
        refine ⟨.ref rl, rfl, rl, rfl, ⟨Vs (lv i), .inl (.inl (by rw [upd_ne rne]; exact er))⟩, ?_⟩
        refine ⟨fun j mm σ H4 => ∃ (y5 y6 : Option V), σ = [some (.int (N : Int)), some (.int (0 + (i : Nat))), some (.ref fl), some (.ref rl), some (.ref lo), y5, y6] ∧ j + mm = (lv i).length ∧ Same H H4 ∧ H4 fl = some (.lst (Vs (allW i))) ∧ H4 rl = some (.lst (Vs (lv i))) ∧ H4 lo = some (.lst (Vs (exts ((lv i).take j)))),
          ⟨(lv i).length, y5, y6, rfl, by omega, same_mut sm nlo0, by rw [upd_ne fne]; exact ef, by rw [upd_ne rne]; exact er, upd_same⟩, ?_⟩
        rintro j mm σ H4 ⟨x5, x6, rfl, em4, sm4, ef4, er4, el4⟩
        by_cases hj : j < (lv i).length
        · have gj : (lv i)[j]? = some (lv i)[j] := List.getElem?_eq_getElem hj
          have gu := mem_lv.mp (List.getElem_mem hj)
          generalize (lv i)[j] = u at gj gu
          have esn := exts_snoc (lv i) j u gj
          refine .inr ⟨⟨_, _, .inl (.inl er4), vs_get gj⟩, fun σ' H' => ∃ (y5 y6 : Option V), σ' = [some (.int (N : Int)), some (.int (0 + (i : Nat))), some (.ref fl), some (.ref rl), some (.ref lo), y5, y6] ∧ Same H H' ∧ H' fl = some (.lst (Vs (allW i))) ∧ H' rl = some (.lst (Vs (lv i))) ∧ H' lo = some (.lst (Vs (exts ((lv i).take (j + 1))))), ?_, ?_⟩
          · rintro σ' H' ⟨z5, z6, e, r⟩
            exact ⟨mm - 1, by omega, z5, z6, e, by omega, r⟩
          · rintro v H' ⟨rfl, fv⟩
            have ev := Option.some.inj ((fv _ (.inl (.inl er4))).symm.trans (vs_get gj))
            subst ev
            have xl := exts_len ((lv i).take j)
            have tl : ((lv i).take j).length ≤ j := List.length_take_le ..
            generalize exts ((lv i).take j) = xs at el4 xl esn
            rw [esn]
            -- over the signs
            refine ⟨S [48, 49, 50], rfl, ?_⟩
            refine ⟨fun t mt σ H5 => ∃ (y6 : Option V), σ = [some (.int (N : Int)), some (.int (0 + (i : Nat))), some (.ref fl), some (.ref rl), some (.ref lo), some (.str (S u)), y6] ∧ t + mt = 3 ∧ Same H H5 ∧ H5 fl = some (.lst (Vs (allW i))) ∧ H5 rl = some (.lst (Vs (lv i))) ∧ H5 lo = some (.lst (Vs (xs ++ ext u t))),
              ⟨3, x6, rfl, rfl, sm4, ef4, er4, by rw [show ext u 0 = [] from rfl, List.append_nil]; exact el4⟩, ?_⟩
            rintro t mt σ H5 ⟨w6, rfl, em5, sm5, ef5, er5, el5⟩
            by_cases ht : t < 3
            · refine .inr ⟨ht, fun σ' H' => ∃ (y6 : Option V), σ' = [some (.int (N : Int)), some (.int (0 + (i : Nat))), some (.ref fl), some (.ref rl), some (.ref lo), some (.str (S u)), y6] ∧ Same H H' ∧ H' fl = some (.lst (Vs (allW i))) ∧ H' rl = some (.lst (Vs (lv i))) ∧ H' lo = some (.lst (Vs (xs ++ ext u (t + 1)))), ?_, ?_⟩
              · rintro σ' H' ⟨z6, e, r⟩
                exact ⟨mt - 1, by omega, z6, e, by omega, r⟩
              · rintro v H' ⟨rfl, c, hc, rfl⟩
                have e0 : ([48, 49, 50] : List Nat)[t]? = some c := (List.getElem?_toArray).symm.trans hc
                have sgc : Sg c := by
                  have : c ∈ ([48, 49, 50] : List Nat) := List.mem_of_getElem? e0
                  simp only [List.mem_cons, List.not_mem_nil, or_false] at this
                  exact this
                have esx : ext u (t + 1) = ext u t ++ (if cut (u ++ [c]) = u ++ [c] then [u ++ [c]] else []) := by
                  unfold ext
                  rw [List.take_succ, e0, List.flatMap_append]
                  simp
                have lk := ext_len u t (by omega)
                generalize ext u t = es at el5 esx lk
                rw [esx]
                have wd : Wd (u ++ [c]) := wd_append.mpr ⟨gu.1.wd, fun z hz => by rw [List.mem_singleton.mp hz]; exact sgc⟩
                have fits : (S u).length + (S [c]).length ≤ sizeLine := by
                  show u.length + 1 ≤ _
                  exact Nat.le_trans (show u.length + 1 ≤ 10 by omega) (by decide)
                have esc : S u ++ S [c] = S (u ++ [c]) := s_app u [c]
                refine ⟨.str (S u), rfl, .str (S [c]), rfl, _, _, rfl, rfl, fits, u ++ [c], congrArg (fun z => [V.str z]) esc, ⟨wd, by rw [List.length_append]; show u.length + 1 ≤ _; omega⟩, .str (S u), rfl, .str (S [c]), rfl, _, _, rfl, rfl, fits, rfl, _, rfl, ?_⟩
                by_cases hcut : cut (u ++ [c]) = u ++ [c]
                · refine iteDT (by rw [hcut, ← esc]) ?_
                  refine ⟨.ref lo, rfl, .inl ⟨rfl, _, .inl (.inl el5)⟩, .str (S u), rfl, .str (S [c]), rfl, _, _, rfl, rfl, fits, lo, _, _, rfl, rfl, el5, ?_, ?_⟩
                  · rw [vs_len, List.length_append]
                    exact Nat.lt_of_le_of_lt (show xs.length + es.length ≤ 10000 by omega) (by decide)
                  · refine ⟨_, rfl, same_mut sm5 nlo0, by rw [upd_ne fne]; exact ef5, by rw [upd_ne rne]; exact er5, ?_⟩
                    rw [if_pos hcut, upd_same, esc, vs_snoc, List.append_assoc]
                · refine iteDF (fun z => hcut ?_) ?_
                  · have := V.str.inj z
                    have z2 : S (cut (u ++ [c])) = S (u ++ [c]) := this.trans esc
                    exact s_inj z2
                  · rw [if_neg hcut, List.append_nil]
                    exact ⟨_, rfl, sm5, ef5, er5, el5⟩
            · refine .inl ⟨by show 3 ≤ t; omega, ?_⟩
              have t3 : t = 3 := by omega
              subst t3
              exact ⟨_, _, rfl, sm5, ef5, er5, el5⟩
        · refine .inl ⟨⟨_, .inl (.inl er4), by rw [vs_len]; omega⟩, ?_⟩
          have et : (lv i).take j = lv i := List.take_of_length_le (by omega)
          rw [et] at el4
          have el5 : H4 lo = some (.lst (Vs (lv (i + 1)))) := el4
          have l1 := (lv_few (i + 1) (by omega)).1
          refine ⟨.ref fl, rfl, .ref lo, rfl, fl, lo, Vs (allW i), Vs (lv (i + 1)), rfl, rfl, ef4, el5, ?_, fun p np => ?_⟩
          · rw [vs_len, vs_len]
            exact Nat.le_trans (show (allW i).length + (lv (i + 1)).length ≤ 10000 by omega) (by decide)
          · have sp : Same H4 (upd H4 p (.lst (Vs (allW i) ++ Vs (lv (i + 1))))) := same_new np
            refine ⟨.ref lo, rfl, some (.int (0 + (i : Nat))), some (.ref lo), x5, x6, p, lo, rfl, Same.to sm4 sp, none_of sm4 np, ?_, sp _ _ el5⟩
            rw [upd_same]
            rw [show allW (i + 1) = allW i ++ lv (i + 1) from rfl]
            unfold Vs
            rw [List.map_append]
    · refine .inl ⟨by show N ≤ i; omega, ?_⟩
      have i6 : i = N := by omega
      subst i6
      exact ⟨.ref fl, rfl, q fl H3 sm nf ef⟩
end
end K7

namespace K7
open PySem PySem.Spec PyProof.Rows L2 Nr Nw
theorem lay_strs : ∀ ps : List (List Nat), (∀ p ∈ ps, Wd p) → PyData.canLayAll0 (ps.map fun p => PyData.str (S p)) = true ∧ PyData.depthAll (ps.map fun p => PyData.str (S p)) = 0
  | [], _ => ⟨by rfl, by rfl⟩
  | p :: r, h => by
    have ih := lay_strs r fun q hq => h q (List.mem_cons_of_mem _ hq)
    have hp := h p List.mem_cons_self
    refine ⟨?_, ?_⟩
    · rw [List.map_cons]
      unfold PyData.canLayAll0
      rw [ih.1, Bool.and_true]
      unfold PyData.canLay0 PyData.strOk
      show p.toArray.all (· < 0x110000) = true
      rw [List.all_toArray, List.all_eq_true]
      intro c hc
      rcases hp c hc with z | z | z <;> subst z <;> rfl
    · rw [List.map_cons]
      unfold PyData.depthAll
      rw [ih.2]
      rfl
theorem shaped_strs {ps : List (List Nat)} (h : ∀ p ∈ ps, Wd p) : SeqAt.shaped (.list (ps.map fun p => PyData.str (S p))) = true := by
  unfold SeqAt.shaped PyData.canLay0 PyData.depth
  rw [(lay_strs ps h).1, (lay_strs ps h).2]
  decide

/-- what is compared by its text -/
structure Fine (D W : Nat) (d : PyData) : Prop where
  sh : d.showable = true
  nd : d.hasDict = false
  dp : d.depth ≤ D
  ls : d.leavesShort 70 = true
  wt : d.weight ≤ W
theorem fine_all {D W : Nat} : ∀ {ds : List PyData}, (∀ d ∈ ds, Fine D W d) → PyData.showableAll ds = true ∧ PyData.hasDictAll ds = false ∧ PyData.depthAll ds ≤ D ∧ PyData.leavesShortAll 70 ds = true ∧ PyData.weightAll ds ≤ (W + 1) * ds.length
  | [], _ => ⟨by unfold PyData.showableAll; rfl, by unfold PyData.hasDictAll; rfl, by unfold PyData.depthAll; exact Nat.zero_le _, by unfold PyData.leavesShortAll; rfl, by unfold PyData.weightAll; exact Nat.zero_le _⟩
  | d :: r, h => by
    obtain ⟨a1, a2, a3, a4, a5⟩ := fine_all fun x hx => h x (List.mem_cons_of_mem _ hx)
    obtain ⟨b1, b2, b3, b4, b5⟩ := h d List.mem_cons_self
    refine ⟨?_, ?_, ?_, ?_, ?_⟩
    · unfold PyData.showableAll; rw [a1, b1]; rfl
    · unfold PyData.hasDictAll; rw [a2, b2]; rfl
    · unfold PyData.depthAll; exact Nat.max_le.mpr ⟨b3, a3⟩
    · unfold PyData.leavesShortAll; rw [a4, b4]; rfl
    · unfold PyData.weightAll
      rw [List.length_cons, Nat.mul_add]
      omega
theorem fine_int {k : Nat} (h : k < 10 ^ 63) : Fine 0 500 (.int (k : Int)) := by
  have h1 : k < 2 ^ 210 := Nat.lt_of_lt_of_le h (by decide +kernel)
  have hl : k.log2 < 210 ∨ k = 0 := by
    by_cases e : k = 0
    · exact .inr e
    · exact .inl ((Nat.log2_lt e).mpr h1)
  refine ⟨?_, by unfold PyData.hasDict; rfl, by unfold PyData.depth; exact Nat.le_refl _, ?_, ?_⟩
  · unfold PyData.showable
    rw [Int.natAbs_natCast]
    refine decide_eq_true ?_
    rcases hl with z | z
    · omega
    · rw [z]; decide
  · unfold PyData.leavesShort
    refine decide_eq_true ?_
    have e := int_text_length_le10 (a := (k : Int)) (k := 63) (by decide) (by rw [Int.natAbs_natCast]; exact h)
    have : (PyData.shown (.int (k : Int))).length ≤ 64 := by
      show (Str.ofString (toString (k : Int))).length ≤ 64
      rw [PySem.ofString_length]
      exact e
    omega
  · unfold PyData.weight
    rw [Int.natAbs_natCast]
    split
    · exact Nat.zero_le _
    · rcases hl with z | z
      · omega
      · rw [z]; decide
theorem fine_str {u : List Nat} (hu : Wd u) (hl : u.length ≤ 500) : Fine 0 500 (.str (S u)) := by
  refine ⟨by unfold PyData.showable; rfl, by unfold PyData.hasDict; rfl, by unfold PyData.depth; exact Nat.le_refl _, ?_, ?_⟩
  · unfold PyData.leavesShort
    rw [List.all_eq_true]
    intro c hc
    rcases hu c hc with z | z | z <;> subst z <;> decide
  · unfold PyData.weight
    exact hl
theorem Fine.le {D W D' W' : Nat} {d : PyData} (h : Fine D W d) (a : D ≤ D') (b : W ≤ W') : Fine D' W' d := ⟨h.sh, h.nd, Nat.le_trans h.dp a, h.ls, Nat.le_trans h.wt b⟩
theorem fine_tup {ds : List PyData} (h : ∀ d ∈ ds, Fine 0 500 d) (hl : ds.length ≤ 10) : Fine 1 6000 (.tuple ds) := by
  obtain ⟨a1, a2, a3, a4, a5⟩ := fine_all h
  refine ⟨by unfold PyData.showable; exact a1, by unfold PyData.hasDict; exact a2, by unfold PyData.depth; omega, by unfold PyData.leavesShort; exact a4, ?_⟩
  unfold PyData.weight
  have : (500 + 1) * ds.length ≤ (500 + 1) * 10 := Nat.mul_le_mul_left _ hl
  omega
theorem shows_fine {ds : List PyData} (h : ∀ d ∈ ds, Fine 1 6000 d) (hl : ds.length ≤ 20) : Shows (.list ds) := by
  obtain ⟨a1, a2, a3, a4, a5⟩ := fine_all h
  have hls : (PyData.list ds).leavesShort 70 = true := by unfold PyData.leavesShort; exact a4
  have hw : (PyData.list ds).weight ≤ 120020 := by
    unfold PyData.weight
    have : (6000 + 1) * ds.length ≤ (6000 + 1) * 20 := Nat.mul_le_mul_left _ hl
    omega
  refine ⟨by unfold PyData.showable; exact a1, by unfold PyData.hasDict; exact a2, by unfold PyData.depth; omega, ?_⟩
  have := PyData.shown_le 70 (by decide) (.list ds) hls
  have h2 : (70 + 2) * (PyData.list ds).weight + 70 ≤ (70 + 2) * 120020 + 70 := Nat.add_le_add_right (Nat.mul_le_mul_left _ hw) _
  exact Nat.le_trans (Nat.le_trans this h2) (by decide +kernel)
theorem shows_two {a b : PyData} (ha : Fine 0 500 a) (hb : Fine 0 500 b) : Shows (.list [a, b]) := shows_fine (fun d hd => by
  rcases List.mem_cons.mp hd with e | e
  · rw [e]; exact ha.le (by decide) (by decide)
  · rw [List.mem_singleton.mp e]; exact hb.le (by decide) (by decide)) (by show 2 ≤ 20; decide)
theorem all_num : ∀ i, i < (allW 5).length → num ((allW 5)[i]?.getD []) = i := by decide +kernel
theorem small_counts : ∀ n, n < 91 → cnt 0 n < 10 ^ 62 ∧ clsN n < 10 ^ 62 := by decide +kernel
theorem base_200 : base 200 < 10 ^ 62 := by decide +kernel
theorem num_small {u : List Nat} (h : Fw u) (l : u.length < 200) : num u < 10 ^ 62 := by
  have a := rk_lt (fw_al0 h)
  have m : base (u.length + 1) ≤ base 200 := base_mono l
  have e : base (u.length + 1) = base u.length + cnt 0 u.length := rfl
  have b := base_200
  unfold num
  omega
theorem home_nil {u : List Nat} (h : Wd u) : cut (u.reverse ++ u) = [] := cut_of (E2.home' h)
theorem eqv_vs (ws : List (List Nat)) : PyData.eqv (.list (ws.map fun p => PyData.str (S p))) (.list []) = ws.isEmpty := eqv_nilS ws
end K7

namespace K7
open PySem PySem.Spec PyProof.Rows L2 Nr Nw
theorem pe_mid {X : Cx} {e : Expr} {t : TE} (h : PE X e t) : PE X e (fun σ H Q => ∃ J : V → Hp → Prop, t σ H J ∧ ∀ v H', J v H' → Q v H') := ⟨fun pins s σ H Q I ⟨J, h1, h2⟩ => thn (h.run pins s σ H J I h1) fun v s1 ⟨x, H1, I1, r, q⟩ => ⟨x, H1, I1, r, h2 _ _ q⟩⟩
section
variable {P : Program} {w : World} {K : PySem.W.Frag} {mg : Str → Option Value} {base : Heap}
def spLaw (K : PySem.W.Frag) : Sp := fun vs H Q _ => ∃ (a : Addr) (ns : List Int), vs = [.ref a] ∧ SqL K H a (ns.map V.int) ∧ ns.length ≤ 63 ∧ ∀ H', Q (.bl true) H'
theorem law_fn (T : Txt w K mg) {f : Addr} {fd : FuncData} (F : Fun K "law" "law" sLaw f fd) : FnG P w K mg base CX0 7 f fd ["script"] (spLaw K) := by
  refine Nr.Fun.okG F scLaw (fun vs H Q E h => ?_) (fun cdv A outer s H vs Q E hg hr h => ?_)
  · obtain ⟨a, ns, rfl, _⟩ := h
    rfl
  · obtain ⟨a, ns, rfl, hS, hz, q⟩ := h
    refine ⟨_, pss_cons (ps_set (i := 1) scLaw.nd rfl (.inl rfl) (pe_callO (ok_begun T) hr (by decide) (by rfl) (pa_cons (pv 0) (pa_nil))))
         (pss_cons (ps_set (i := 2) scLaw.nd rfl (.inl rfl) (pe_callO (ok_drawW T) hr (by decide) (by rfl) (pa_cons (pv 1) (pa_cons (pe_callO (ok_tens T) hr (by decide) (by rfl) (pa_cons (pe_op op_add (pe_int) (pe_callO (ok_draw T) hr (by decide) (by rfl) (pa_cons (pv 1) (pa_cons (pe_int) (pa_nil))))) (pa_nil))) (pa_nil)))))
         (pss_cons (ps_set (i := 3) scLaw.nd rfl (.inl rfl) (pe_callO (ok_wordNumbered T) hr (by decide) (by rfl) (pa_cons (pv 2) (pa_nil))))
         (pss_cons (ps_if (pt_not (pt_val (pe_callO (ok_isWordL T) hr (by decide) (by rfl) (pa_cons (pv 3) (pa_nil))))) (pss_one (ps_ret (pe_bl))) (pss_nil))
         (pss_cons (ps_if (pt_not (pt_val (pe_callOG (ok_lk T) hg hr (by decide) (by rfl) (pa_cons (pe_lst (pa_cons (pe_callO (ok_numberOf T) hr (by decide) (by rfl) (pa_cons (pv 3) (pa_nil))) (pa_cons (pe_callO (ok_wordNumbered T) hr (by decide) (by rfl) (pa_cons (pe_op op_add (pv 2) (pe_int)) (pa_nil))) (pa_nil)))) (pa_cons (pe_lst (pa_cons (pv 2) (pa_cons (pe_callO (ok_lawNext T) hr (by decide) (by rfl) (pa_cons (pv 3) (pa_nil))) (pa_nil)))) (pa_nil)))))) (pss_one (ps_ret (pe_bl))) (pss_nil))
         (pss_cons (ps_set (i := 4) scLaw.nd rfl (.inl rfl) (pe_callO (ok_word T) hr (by decide) (by rfl) (pa_cons (pv 1) (pa_cons (pe_int) (pa_nil)))))
         (pss_cons (ps_par (i := 3) (j := 13) (by rfl) scLaw.nd rfl rfl (by decide) rfl rfl (pa_cons (pe_callO (ok_cut T) hr (by decide) (by rfl) (pa_cons (pv 4) (pa_nil))) (pa_cons (pe_callO (ok_draw T) hr (by decide) (by rfl) (pa_cons (pv 1) (pa_cons (pe_int) (pa_nil)))) (pa_nil))) (by rfl))
         (pss_cons (ps_set (i := 5) scLaw.nd rfl (.inl rfl) (pe_lst (pa_nil)))
         (pss_cons (ps_for PassesOwn.never rfl (pi_range1 (by rfl) T.nrange (pa_cons (pv 13) (pa_nil))) (pg_name (i := 6) scLaw.nd rfl (.inl rfl)) (pss_one (ps_expr (pe_bm PySem.F.plainAttrs_list PySem.F.slot_list_append PySem.F.type_list_append mt_append (pv 5) (pa_cons (pe_callO (ok_lawNext T) hr (by decide) (by rfl) (pa_cons (pe_mid (pe_ifExp (pt_cmpR (op_neD hr.units) (pv 5) (pe_lst (pa_nil)) (nomark _)) (pe_ix (r := rIxL K) ix_list (pv 5) (pe_un un_neg pe_int) (fun _ _ => rfl)) (pv 3))) (pa_nil))) (pa_nil))))))
         (pss_cons (ps_set (i := 7) scLaw.nd rfl (.inr rfl) (pe_callO (ok_numberOf T) hr (by decide) (by rfl) (pa_cons (pv 3) (pa_nil))))
         (pss_cons (ps_if (pt_not (pt_val (pe_callOG (ok_lk T) hg hr (by decide) (by rfl) (pa_cons (pe_lst (pa_cons (pe_callO (ok_nextWords T) hr (by decide) (by rfl) (pa_cons (pv 4) (pa_cons (pv 13) (pa_nil)))) (pa_cons (pe_callO (ok_nextWords T) hr (by decide) (by rfl) (pa_cons (pv 3) (pa_cons (pv 13) (pa_nil)))) (pa_cons (pe_callO (ok_numberOf T) hr (by decide) (by rfl) (pa_cons (pv 4) (pa_nil))) (pa_nil))))) (pa_cons (pe_lst (pa_cons (pe_callTy call_tuple_of (by rfl) T.ntuple (by decide +kernel) (pa_cons (pv 5) (pa_nil))) (pa_cons (pe_callTy call_tuple_of (by rfl) T.ntuple (by decide +kernel) (pa_cons (pv 5) (pa_nil))) (pa_cons (pv 7) (pa_nil))))) (pa_nil)))))) (pss_one (ps_ret (pe_bl))) (pss_nil))
         (pss_cons (ps_if (pt_not (pt_val (pe_callOG (ok_lk T) hg hr (by decide) (by rfl) (pa_cons (pe_lc (own := [("one", 14)]) (g := gName 14) (tt := tYes) (by rfl) scLaw.nd (pi_list (pv 5)) (blkOk_by (N := ["script", "m", "number", "word", "drawn", "due", "n", "start", "length", "ahead", "first", "rows", "firsts", "many", "one"]) (sc := defScope sLaw) (by decide +kernel)) (fun _ _ _ _ _ => pg_name (i := 14) scLaw.nd rfl (.inl rfl)) (fun _ _ _ _ _ => pts_nil) (fun _ _ _ _ _ => pe_callO (ok_numberOf T) hr (by decide) (by rfl) (pa_cons (pv 14) (pa_nil)))) (pa_cons (pe_lc (own := [("n", 6)]) (g := gName 6) (tt := tYes) (by rfl) scLaw.nd (pi_range1 (by rfl) T.nrange (pa_cons (pv 13) (pa_nil))) (blkOk_by (N := ["script", "m", "number", "word", "drawn", "due", "n", "start", "length", "ahead", "first", "rows", "firsts", "many", "one"]) (sc := defScope sLaw) (by decide +kernel)) (fun _ _ _ _ _ => pg_name (i := 6) scLaw.nd rfl (.inl rfl)) (fun _ _ _ _ _ => pts_nil) (fun _ _ _ _ _ => pe_op op_add (pe_op op_add (pv 7) (pe_int)) (pv 6))) (pa_nil)))))) (pss_one (ps_ret (pe_bl))) (pss_nil))
         (pss_cons (ps_if (pt_not (pt_val (pe_callOG (ok_lk T) hg hr (by decide) (by rfl) (pa_cons (pe_lst (pa_cons (pe_callO (ok_wordNumbered T) hr (by decide) (by rfl) (pa_cons (pv 7) (pa_nil))) (pa_cons (pe_callO (ok_numberOf T) hr (by decide) (by rfl) (pa_cons (pe_op op_add_str (pe_revS (pv 3)) (pv 3)) (pa_nil))) (pa_nil)))) (pa_cons (pe_lst (pa_cons (pv 3) (pa_cons (pe_int) (pa_nil)))) (pa_nil)))))) (pss_one (ps_ret (pe_bl))) (pss_nil))
         (pss_cons (ps_for PassesOwn.never rfl (pi_enum (by rfl) T.nenumerate (pa_cons (pe_callO (ok_allX T) hr (by decide) (by rfl) (pa_cons (pe_int) (pa_nil))) (pa_nil))) (pg_tup rfl (pgs_cons (pg_name (i := 6) scLaw.nd rfl (.inl rfl)) (pgs_cons (pg_name (i := 14) scLaw.nd rfl (.inl rfl)) (pgs_nil)))) (pss_one (ps_if (pt_not (pt_val (pe_callOG (ok_lk T) hg hr (by decide) (by rfl) (pa_cons (pe_lst (pa_cons (pe_callO (ok_numberOf T) hr (by decide) (by rfl) (pa_cons (pv 14) (pa_nil))) (pa_cons (pe_callO (ok_wordNumbered T) hr (by decide) (by rfl) (pa_cons (pv 6) (pa_nil))) (pa_nil)))) (pa_cons (pe_lst (pa_cons (pv 6) (pa_cons (pv 14) (pa_nil)))) (pa_nil)))))) (pss_one (ps_ret (pe_bl))) (pss_nil))))
         (pss_cons (ps_set (i := 8) scLaw.nd rfl (.inr rfl) (pe_callO (ok_draw T) hr (by decide) (by rfl) (pa_cons (pv 1) (pa_cons (pe_int) (pa_nil)))))
         (pss_cons (ps_set (i := 9) scLaw.nd rfl (.inl rfl) (pe_callB (cr_sum rfl) (by rfl) T.nsum (by decide +kernel) (pa_cons (pe_lc (own := [("n", 6)]) (g := gName 6) (tt := tYes) (by rfl) scLaw.nd (pi_range1 (by rfl) T.nrange (pa_cons (pv 8) (pa_nil))) (blkOk_by (N := ["script", "m", "number", "word", "drawn", "due", "n", "start", "length", "ahead", "first", "rows", "firsts", "many", "one"]) (sc := defScope sLaw) (by decide +kernel)) (fun _ _ _ _ _ => pg_name (i := 6) scLaw.nd rfl (.inl rfl)) (fun _ _ _ _ _ => pts_nil) (fun _ _ _ _ _ => pe_callO (ok_manyWords T) hr (by decide) (by rfl) (pa_cons (pv 6) (pa_nil)))) (pa_nil))))
         (pss_cons (ps_set (i := 10) scLaw.nd rfl (.inl rfl) (pe_callO (ok_filled T) hr (by decide) (by rfl) (pa_cons (pe_str) (pa_cons (pv 8) (pa_nil)))))
         (pss_cons (ps_if (pt_not (pt_val (pe_callOG (ok_lk T) hg hr (by decide) (by rfl) (pa_cons (pe_lst (pa_cons (pe_callO (ok_numberOf T) hr (by decide) (by rfl) (pa_cons (pv 10) (pa_nil))) (pa_cons (pe_callO (ok_wordNumbered T) hr (by decide) (by rfl) (pa_cons (pv 9) (pa_nil))) (pa_nil)))) (pa_cons (pe_lst (pa_cons (pv 9) (pa_cons (pv 10) (pa_nil)))) (pa_nil)))))) (pss_one (ps_ret (pe_bl))) (pss_nil))
         (pss_cons (ps_for PassesOwn.never rfl (pi_list (pe_lst (pa_cons (pe_callO (ok_draw T) hr (by decide) (by rfl) (pa_cons (pv 1) (pa_cons (pe_int) (pa_nil)))) (pa_cons (pe_callO (ok_draw T) hr (by decide) (by rfl) (pa_cons (pv 1) (pa_cons (pe_int) (pa_nil)))) (pa_cons (pe_mid (pe_ifExp (pt_cmpR (op_eq) (pe_callO (ok_draw T) hr (by decide) (by rfl) (pa_cons (pv 1) (pa_cons (pe_int) (pa_nil)))) (pe_int) (nomark _)) (pe_callO (ok_draw T) hr (by decide) (by rfl) (pa_cons (pv 1) (pa_cons (pe_int) (pa_nil)))) (pe_int))) (pa_nil)))))) (pg_name (i := 8) scLaw.nd rfl (.inr rfl)) (pss_one (ps_if (pt_not (pt_val (pe_callOG (ok_lk T) hg hr (by decide) (by rfl) (pa_cons (pe_lst (pa_cons (pe_callO (ok_wordsOf T) hr (by decide) (by rfl) (pa_cons (pv 8) (pa_nil))) (pa_cons (pe_callO (ok_classes T) hr (by decide) (by rfl) (pa_cons (pv 8) (pa_nil))) (pa_nil)))) (pa_cons (pe_lst (pa_cons (pe_callO (ok_manyWords T) hr (by decide) (by rfl) (pa_cons (pv 8) (pa_nil))) (pa_cons (pe_callO (ok_manyClasses T) hr (by decide) (by rfl) (pa_cons (pv 8) (pa_nil))) (pa_nil)))) (pa_nil)))))) (pss_one (ps_ret (pe_bl))) (pss_nil))))
         (pss_cons (ps_set (i := 8) scLaw.nd rfl (.inr rfl) (pe_callO (ok_draw T) hr (by decide) (by rfl) (pa_cons (pv 1) (pa_cons (pe_int) (pa_nil)))))
         (pss_cons (ps_setLc (i := 11) (own := [("one", 14)]) (g := gName 14) (tt := _) (te := _) (by rfl) scLaw.nd rfl rfl (sw_true rfl rfl (by rfl) (by rfl)) (pi_list (pe_callO (ok_allX T) hr (by decide) (by rfl) (pa_cons (pv 8) (pa_nil)))) (blkOk_by (N := ["script", "m", "number", "word", "drawn", "due", "n", "start", "length", "ahead", "first", "rows", "firsts", "many", "one"]) (sc := defScope sLaw) (by decide +kernel)) (fun _ _ _ _ _ => pg_name (i := 14) scLaw.nd rfl (.inl rfl)) (fun _ _ _ _ _ => pts_one (pt_cmpR (op_eq) (pe_callB call_len_str (by rfl) T.nlen PySem.boot_len (pa_cons (pv 14) (pa_nil))) (pv 8) (nomark _))) (fun _ _ _ _ _ => pv 14))
         (pss_cons (ps_setLc (i := 12) (own := [("one", 14)]) (g := gName 14) (tt := _) (te := _) (by rfl) scLaw.nd rfl rfl (sw_true rfl rfl (by rfl) (by rfl)) (pi_list (pv 11)) (blkOk_by (N := ["script", "m", "number", "word", "drawn", "due", "n", "start", "length", "ahead", "first", "rows", "firsts", "many", "one"]) (sc := defScope sLaw) (by decide +kernel)) (fun _ _ _ _ _ => pg_name (i := 14) scLaw.nd rfl (.inl rfl)) (fun _ _ _ _ _ => pts_one (pt_cmpR (op_eq) (pe_callO (ok_leastL T) hr (by decide) (by rfl) (pa_cons (pv 14) (pa_nil))) (pv 14) (nomark _))) (fun _ _ _ _ _ => pv 14))
         (pss_one (ps_ret (pe_callOG (ok_lk T) hg hr (by decide) (by rfl) (pa_cons (pe_lst (pa_cons (pe_callO (ok_wordsOf T) hr (by decide) (by rfl) (pa_cons (pv 8) (pa_nil))) (pa_cons (pe_callO (ok_classes T) hr (by decide) (by rfl) (pa_cons (pv 8) (pa_nil))) (pa_nil)))) (pa_cons (pe_lst (pa_cons (pe_callB call_len_seq (by rfl) T.nlen PySem.boot_len (pa_cons (pv 11) (pa_nil))) (pa_cons (pe_callB call_len_seq (by rfl) T.nlen PySem.boot_len (pa_cons (pv 12) (pa_nil))) (pa_nil)))) (pa_nil))))))))))))))))))))))))))), ?_⟩
    have fit : ∀ z : Nat, z ≤ 10000 → z ≤ sizeLine := fun z hz => Nat.le_trans hz (by decide)
    refine ⟨.ref a, rfl, a, ns, rfl, hS, hz, fun m lc lg H1 s1 nm nlc nlg M1 => ?_⟩
    -- number
    refine ⟨.ref m, rfl, .ref m, rfl, m, lc, lg, _, 60, rfl, ⟨by decide, by decide⟩, M1, by decide, fun d1 H2 hd1 M2 _ => ?_⟩
    refine ⟨_, _, rfl, rfl, 1 + d1, congrArg (fun z => [V.int z]) (by omega), by omega, ?_⟩
    have p60 : 10 ^ (1 + d1) ≤ 10 ^ 60 := Nat.pow_le_pow_right (by decide) (by omega)
    have p70 : (10 : Nat) ^ 60 < 10 ^ 70 := by decide +kernel
    have ppos : 0 < 10 ^ (1 + d1) := Nat.pow_pos (by decide)
    refine ⟨m, lc, lg, _, ((10 ^ (1 + d1) : Nat) : Int), rfl, ⟨by omega, ?_⟩, M2, by omega, fun d2 H3 hd2 M3 _ => ?_⟩
    · have e : ((10 : Int) ^ 70) = ((10 ^ 70 : Nat) : Int) := by decide +kernel
      omega
    have e60 : d2 < 10 ^ 60 := by omega
    have b62 : (10 : Nat) ^ 60 + 1 < 10 ^ 62 := by decide +kernel
    have b63 : (10 : Nat) ^ 62 < 10 ^ 63 := by decide +kernel
    refine ⟨.int (d2 : Int), rfl, d2, rfl, by omega, fun u H4 fu nu lu s4 => ?_⟩
    have M4 := M3.same s4
    refine ⟨.str (S u), rfl, u, rfl, fu, by omega, fun H5 s5 => ⟨true, rfl, iteF ?_⟩⟩
    have M5 := M4.same s5
    -- there and back, and the next one
    refine ⟨.str (S u), rfl, u, rfl, fu.wd, by omega, fun H6 s6 => ?_⟩
    rw [cut_of_fw fu, nu]
    refine ⟨.int (d2 : Int), rfl, _, _, rfl, rfl, d2 + 1, rfl, by omega, fun v H7 fv nv lvv s7 => ⟨by show 2 ≤ sizeLine; decide, fun p7 np7 => ?_⟩⟩
    have g7 := same_new (o := .lst [.int (d2 : Int), .str (S v)]) np7
    have f7 : (upd H7 p7 (.lst [.int (d2 : Int), .str (S v)])) p7 = some (.lst [.int (d2 : Int), .str (S v)]) := upd_same
    generalize upd H7 p7 (.lst [.int (d2 : Int), .str (S v)]) = H8 at g7 f7 ⊢
    refine ⟨.int (d2 : Int), rfl, .str (S u), rfl, u, rfl, fu, by omega, fun v' H9 nx s9 => ?_⟩
    have ev : v' = v := nxt_fun nx ⟨fv, by omega⟩
    subst ev
    refine ⟨by show 2 ≤ sizeLine; decide, fun p10 np10 => ?_⟩
    have g10 := same_new (o := .lst [.int (d2 : Int), .str (S v')]) np10
    have f10 : (upd H9 p10 (.lst [.int (d2 : Int), .str (S v')])) p10 = some (.lst [.int (d2 : Int), .str (S v')]) := upd_same
    generalize upd H9 p10 (.lst [.int (d2 : Int), .str (S v')]) = H10 at g10 f10 ⊢
    refine .inl ⟨p7, p10, .list [.int (d2 : Int), .str (S v')], rfl, .lst (.inl (.inl (g10 _ _ (s9 _ _ f7)))) (.cons (.int _) (.cons (.str _) .nil)), .lst (.inl (.inl f10)) (.cons (.int _) (.cons (.str _) .nil)), shows_two (fine_int (by omega)) (fine_str fv.wd (by omega)), true, rfl, iteF ?_⟩
    have M10 := (((((M5.same s6).same s7).same g7).same s9).same g10)
    clear f7 f10 g7 g10 s6 s7 s9 np7 np10 M1 M2 M3 M4 M5
    -- words drawn
    refine ⟨.ref m, rfl, m, lc, lg, _, 60, rfl, M10, by decide, by omega, fun dr H11 wdr ldr M11 _ => ?_⟩
    refine ⟨.str (S dr), rfl, dr, rfl, ⟨wdr, by omega⟩, .ref m, rfl, m, lc, lg, _, 6, rfl, ⟨by decide, by decide⟩, M11, by omega, fun mn H12 hmn M12 _ => ⟨_, _, rfl, ?_⟩⟩
    have ft := fw_cut wdr
    have lt := cut_len _ dr rfl wdr
    obtain ⟨t, ht⟩ : ∃ t, t = cut dr := ⟨_, rfl⟩
    rw [← ht] at ft lt ⊢
    have st : num t < 10 ^ 62 := num_small ft (by omega)
    refine ⟨Nat.zero_le _, fun D nD => ?_⟩
    refine ⟨.int (mn : Int), rfl, (mn : Int), rfl, by omega, by omega, ?_⟩
    rw [Int.toNat_natCast]
    refine for_range (lo := 0) (n := mn) (fun i σ H' => ∃ (ws : List (List Nat)) (y6 : Option V), σ = [some (.ref a), some (.ref m), some (.int (d2 : Int)), some (.str (S t)), some (.str (S dr)), some (.ref D), y6, none, none, none, none, none, none, some (.int (mn : Int)), none] ∧ Same H12 H' ∧ H' D = some (.lst (Vs ws)) ∧ Run t ws ∧ ws.length = i)
      ⟨[], none, rfl, same_new nD, upd_same, run_nil t, rfl⟩ (fun i σ H' hi h => ?_) (fun σ H13 h => ?_)
    · obtain ⟨ws, y6, rfl, sm, hD, hR, lws⟩ := h
      obtain ⟨e1, e2, e3⟩ := run_end ft hR
      refine ⟨.ref D, rfl, .inl ⟨rfl, _, .inl (.inl hD)⟩, fun v H'' => v = .str (S (endR t ws)) ∧ Same H' H'', ?_, ?_⟩
      · refine ⟨.ref D, rfl, Nat.zero_le _, fun b nb => ?_⟩
        have g := same_new (o := .lst []) nb
        have wd : ∀ p ∈ ws, Wd p := fun p hp => by
          obtain ⟨j, hj, ej⟩ := List.getElem_of_mem hp
          have : ws[j]? = some p := by rw [List.getElem?_eq_getElem hj, ej]
          exact (hR j p this).1.wd
        refine ⟨_, .list [], .lst (.inl (.inl (g _ _ hD))) (dpAll_strs ws), .lst (.inl (.inl upd_same)) .nil, shaped_strs wd, shaped_ints [], _, rfl, ?_⟩
        rw [eqv_vs]
        by_cases c : ws = []
        · subst c
          exact iteF ⟨.str (S t), rfl, rfl, g⟩
        · obtain ⟨ys, y, rfl⟩ : ∃ ys y, ws = ys ++ [y] := ⟨ws.dropLast, ws.getLast c, (List.dropLast_concat_getLast c).symm⟩
          have ne : (!(ys ++ [y]).isEmpty) = true := by cases ys <;> rfl
          rw [ne]
          have al : atI (Vs (ys ++ [y])) (-1) = some (.str (S y)) := by rw [← vs_snoc]; exact atI_last _ _
          refine iteT ⟨.ref D, rfl, 1, rfl, D, _, _, .str (S y), rfl, rfl, .inl (.inl (g _ _ hD)), al, ?_, g⟩
          rw [endR_snoc]
      · rintro x H'' ⟨rfl, s''⟩
        refine ⟨endR t ws, rfl, e1, by omega, fun v H3 nx s3 => ⟨D, _, _, rfl, rfl, s3 _ _ (s'' _ _ hD), ?_, ws ++ [v], some (.int (0 + (i : Nat))), rfl, same_mut (Same.to sm (Same.to s'' s3)) nD, ?_, run_snoc ft hR nx, ?_⟩⟩
        · rw [vs_len]
          exact Nat.lt_of_le_of_lt (show ws.length ≤ 100 by omega) (by decide)
        · rw [upd_same, vs_snoc]
        · rw [List.length_append, lws]
          rfl
    obtain ⟨ws, y6, rfl, sm, hD, hR, lws⟩ := h
    have M13 := M12.same sm
    have ww : ∀ {j : Nat} {o : List Nat}, ws[j]? = some o → Fw o ∧ num o = num t + 1 + j ∧ o.length ≤ 70 := fun {j o} h => by
      obtain ⟨b1, b2, b3⟩ := hR j o h
      have := (List.getElem?_eq_some_iff.mp h).1
      exact ⟨b1, b2, by omega⟩
    have wd : ∀ p ∈ ws, Fw p ∧ p.length ≤ 70 := fun p hp => by
      obtain ⟨j, hj, ej⟩ := List.getElem_of_mem hp
      have : ws[j]? = some p := by rw [List.getElem?_eq_getElem hj, ej]
      exact ⟨(ww this).1, (ww this).2.2⟩
    refine ⟨.str (S t), rfl, t, rfl, ft.wd, by omega, fun H14 s14 => ?_⟩
    rw [cut_of_fw ft]
    have hD14 := s14 _ _ hD
    have M14 := M13.same s14
    refine ⟨.str (S dr), rfl, .int (mn : Int), rfl, dr, mn, rfl, wdr, by omega, by omega, fun w1 q1 H15 r1 l1 s15 nq1 eq1 => ?_⟩
    rw [← ht] at r1
    have ew1 : w1 = ws := run_fun r1 hR (by omega)
    subst ew1
    refine ⟨.str (S t), rfl, .int (mn : Int), rfl, t, mn, rfl, ft.wd, by omega, by omega, fun w2 q2 H16 r2 l2 s16 nq2 eq2 => ?_⟩
    rw [cut_of_fw ft] at r2
    have ew2 : w2 = w1 := run_fun r2 r1 (by omega)
    subst ew2
    refine ⟨.str (S dr), rfl, dr, rfl, wdr, by omega, fun H17 s17 => ?_⟩
    rw [← ht]
    refine ⟨by show 3 ≤ sizeLine; decide, fun p18 np18 => ?_⟩
    have g18 := same_new (o := .lst [.ref q1, .ref q2, .int (num t : Int)]) np18
    have f18 : (upd H17 p18 (.lst [.ref q1, .ref q2, .int (num t : Int)])) p18 = some (.lst [.ref q1, .ref q2, .int (num t : Int)]) := upd_same
    have a1 := g18 _ _ (s17 _ _ (s16 _ _ eq1))
    have a2 := g18 _ _ (s17 _ _ eq2)
    have hD18 := g18 _ _ (s17 _ _ (s16 _ _ (s15 _ _ hD14)))
    have M18 := ((((M14.same s15).same s16).same s17).same g18)
    generalize upd H17 p18 (.lst [.ref q1, .ref q2, .int (num t : Int)]) = H18 at f18 a1 a2 hD18 M18 ⊢
    refine ⟨.ref D, rfl, D, _, rfl, .inl ⟨.inl (.inl hD18), fun q3 nq3 => ?_⟩⟩
    have g19 := same_new (o := .tup (Vs w2)) nq3
    have f19 : (upd H18 q3 (.tup (Vs w2))) q3 = some (.tup (Vs w2)) := upd_same
    generalize upd H18 q3 (.tup (Vs w2)) = H19 at g19 f19 ⊢
    refine ⟨.ref D, rfl, D, _, rfl, .inl ⟨.inl (.inl (g19 _ _ hD18)), fun q4 nq4 => ?_⟩⟩
    have g20 := same_new (o := .tup (Vs w2)) nq4
    have f20 : (upd H19 q4 (.tup (Vs w2))) q4 = some (.tup (Vs w2)) := upd_same
    generalize upd H19 q4 (.tup (Vs w2)) = H20 at g20 f20 ⊢
    refine ⟨.int (num t : Int), rfl, by show 3 ≤ sizeLine; decide, fun p21 np21 => ?_⟩
    have g21 := same_new (o := .lst [.ref q3, .ref q4, .int (num t : Int)]) np21
    have f21 : (upd H20 p21 (.lst [.ref q3, .ref q4, .int (num t : Int)])) p21 = some (.lst [.ref q3, .ref q4, .int (num t : Int)]) := upd_same
    have gg := Same.to g19 (Same.to g20 g21)
    have b1 := g21 _ _ (g20 _ _ f19)
    have b2 := g21 _ _ f20
    generalize upd H20 p21 (.lst [.ref q3, .ref q4, .int (num t : Int)]) = H21 at f21 gg b1 b2 ⊢
    have ftup : Fine 1 6000 (.tuple (w2.map fun p => PyData.str (S p))) := fine_tup (fun d hd => by
      obtain ⟨p, hp, ep⟩ := List.mem_map.mp hd
      rw [← ep]
      exact fine_str (wd p hp).1.wd (by have := (wd p hp).2; omega)) (by rw [List.length_map]; omega)
    refine .inl ⟨p18, p21, .list [.tuple (w2.map fun p => PyData.str (S p)), .tuple (w2.map fun p => PyData.str (S p)), .int (num t : Int)], rfl, .lst (.inl (.inl (gg _ _ f18))) (.cons (.tup (.inl (.inl (gg _ _ a1))) (dpAll_strs w2)) (.cons (.tup (.inl (.inl (gg _ _ a2))) (dpAll_strs w2)) (.cons (.int _) .nil))), .lst (.inl (.inl f21)) (.cons (.tup (.inl (.inl b1)) (dpAll_strs w2)) (.cons (.tup (.inl (.inl b2)) (dpAll_strs w2)) (.cons (.int _) .nil))), shows_fine (fun d hd => ?_) (by show 3 ≤ 20; decide), true, rfl, iteF ?_⟩
    · simp only [List.mem_cons, List.not_mem_nil, or_false] at hd
      rcases hd with e | e | e
      · rw [e]; exact ftup
      · rw [e]; exact ftup
      · rw [e]; exact (fine_int (by omega)).le (by decide) (by decide)
    have hD21 := gg _ _ hD18
    have M21 := M18.same gg
    clear f18 a1 a2 hD18 M18 g19 f19 g20 f20 g21 f21 gg b1 b2 g18 np18 np21 nq3 nq4 eq1 eq2 M14 M13 M12 M11 M10 hD14
    -- their numbers
    refine ⟨.ref D, rfl, D, rfl, ⟨_, .inl (.inl hD21)⟩, fun D1 nD1 => ?_⟩
    refine lc_list (K := K) (xs := Vs w2) (fun j H' => Same H21 H' ∧ H' D1 = some (.lst (((List.range j).map fun n => ((num t + 1 + n : Nat) : Int)).map V.int))) ⟨same_new nD1, upd_same⟩ (fun j H' hj h => .inl (.inl (h.1 _ _ hD21))) (fun j x H' hx h => ?_) (fun H22 h => ?_)
    · obtain ⟨sm', hD1⟩ := h
      obtain ⟨o, ho, rfl⟩ : ∃ o, w2[j]? = some o ∧ x = .str (S o) := by
        unfold Vs at hx
        rw [List.getElem?_map] at hx
        cases e : w2[j]? with
        | none => rw [e] at hx; cases hx
        | some v => rw [e] at hx; exact ⟨v, rfl, (Option.some.inj hx).symm⟩
      obtain ⟨fo, no, lo⟩ := ww ho
      refine ⟨rfl, yes (iteT ⟨.str (S o), rfl, o, rfl, fo.wd, by omega, fun H'' s'' => ?_⟩)⟩
      rw [cut_of_fw fo, no]
      refine ⟨_, s'' _ _ hD1, ?_, same_mut (Same.to sm' s'') nD1, ?_⟩
      · have := (List.getElem?_eq_some_iff.mp ho).1
        rw [List.length_map, List.length_map, List.length_range]
        exact Nat.lt_of_le_of_lt (show j ≤ 100 by omega) (by decide)
      · rw [upd_same, List.range_succ, List.map_append, List.map_append]
        rfl
    obtain ⟨s22, h22⟩ := h
    have M22 := M21.same s22
    refine ⟨.int (mn : Int), rfl, (mn : Int), rfl, by omega, by omega, fun D2 nD2 => ?_⟩
    rw [Int.toNat_natCast]
    refine lc_range (lo := 0) (n := mn) (fun j H' => Same H22 H' ∧ H' D2 = some (.lst (((List.range j).map fun n => ((num t + 1 + n : Nat) : Int)).map V.int))) ⟨same_new nD2, upd_same⟩ (fun j H' hj h => ?_) (fun H23 h => ?_)
    · obtain ⟨sm', hD2⟩ := h
      have e0 : (0 : Int) + (j : Int) = (j : Int) := by omega
      rw [e0]
      refine ⟨rfl, yes (iteT ⟨.int (num t : Int), rfl, _, _, rfl, rfl, .int (j : Int), rfl, _, _, rfl, rfl, _, hD2, ?_, same_mut sm' nD2, ?_⟩)⟩
      · rw [List.length_map, List.length_map, List.length_range]
        exact Nat.lt_of_le_of_lt (show j ≤ 100 by omega) (by decide)
      · rw [upd_same, List.range_succ, List.map_append, List.map_append]
        rfl
    obtain ⟨s23, h23⟩ := h
    have l2' : (Vs w2).length = mn := by rw [vs_len]; omega
    rw [l2'] at h22
    refine .inl ⟨D1, D2, .list (((List.range mn).map fun n => ((num t + 1 + n : Nat) : Int)).map PyData.int), rfl, .lst (.inl (.inl (s23 _ _ h22))) (dpAll_ints _), .lst (.inl (.inl h23)) (dpAll_ints _), shows_fine (fun d hd => ?_) (by rw [List.length_map, List.length_map, List.length_range]; omega), true, rfl, iteF ?_⟩
    · obtain ⟨z, hz', ez⟩ := List.mem_map.mp hd
      obtain ⟨n, hn, en⟩ := List.mem_map.mp hz'
      have := List.mem_range.mp hn
      rw [← ez, ← en]
      have b64 : (10 : Nat) ^ 62 + 10 < 10 ^ 63 := by decide +kernel
      exact (fine_int (by omega)).le (by decide) (by decide)
    have M23 := M22.same s23
    clear s22 s23 h22 h23 nD1 nD2 M21 M22 hD21 hD s14 s15 s16 s17
    -- back
    refine ⟨.int (num t : Int), rfl, num t, rfl, st, fun u4 H24 fu4 nu4 _ s24 => ?_⟩
    have eu4 : u4 = t := num_inj fu4 ft nu4
    subst eu4
    refine ⟨.str (S u4), rfl, S u4, rfl, fit _ (show u4.length ≤ _ by omega), .str (S u4), rfl, S u4.reverse, S u4, rfl, rfl, fit _ (show u4.reverse.length + u4.length ≤ _ by rw [List.length_reverse]; omega), u4.reverse ++ u4, congrArg (fun z => [V.str z]) (s_app _ _), wd_append.mpr ⟨wd_rev.mpr ft.wd, ft.wd⟩, by rw [List.length_append, List.length_reverse]; omega, fun H25 s25 => ?_⟩
    rw [home_nil ft.wd]
    refine ⟨by show 2 ≤ sizeLine; decide, fun p26 np26 => ?_⟩
    have g26 := same_new (o := .lst [.str (S u4), .int (num [] : Int)]) np26
    have f26 : (upd H25 p26 (.lst [.str (S u4), .int (num [] : Int)])) p26 = some (.lst [.str (S u4), .int 0]) := upd_same
    generalize upd H25 p26 (.lst [.str (S u4), .int (num [] : Int)]) = H26 at g26 f26 ⊢
    refine ⟨.str (S u4), rfl, by show 2 ≤ sizeLine; decide, fun p27 np27 => ?_⟩
    have g27 := same_new (o := .lst [.str (S u4), .int 0]) np27
    have f27 : (upd H26 p27 (.lst [.str (S u4), .int 0])) p27 = some (.lst [.str (S u4), .int 0]) := upd_same
    generalize upd H26 p27 (.lst [.str (S u4), .int 0]) = H27 at g27 f27 ⊢
    refine .inl ⟨p26, p27, .list [.str (S u4), .int ((0 : Nat) : Int)], rfl, .lst (.inl (.inl (g27 _ _ f26))) (.cons (.str _) (.cons (.int _) .nil)), .lst (.inl (.inl f27)) (.cons (.str _) (.cons (.int _) .nil)), shows_two (fine_str ft.wd (by omega)) (fine_int (by decide)), true, rfl, iteF ?_⟩
    have M27 := (((M23.same s24).same s25).same g26).same g27
    clear f26 f27 g26 g27 np26 np27 M23
    -- all short words
    refine ⟨5, rfl, by decide, fun pA HA sA npA epA => ⟨pA, Vs (allW 5), rfl, .inl (.inl epA), ?_⟩⟩
    have MA := M27.same sA
    have few5 := (lv_few 5 (by decide)).2
    refine ⟨fun i mm σ H3 => ∃ y6 y14 : Option V, σ = [some (.ref a), some (.ref m), some (.int (d2 : Int)), some (.str (S u4)), some (.str (S dr)), some (.ref D), y6, some (.int (num u4 : Int)), none, none, none, none, none, some (.int (mn : Int)), y14] ∧ i + mm = (allW 5).length ∧ Same HA H3, ⟨(allW 5).length, _, _, rfl, by omega, Same.id _⟩, ?_⟩
    rintro i mm σ H3 ⟨z6, z14, rfl, em, sm3⟩
    have hA : SqL K H3 pA (Vs (allW 5)) := .inl (.inl (sm3 _ _ epA))
    by_cases hi : i < (allW 5).length
    · have e0 : (allW 5)[i]? = some (allW 5)[i] := List.getElem?_eq_getElem hi
      have no := all_num i hi
      rw [e0] at no
      have mo := mem_allW.mp (List.getElem_mem hi)
      have g := vs_get e0
      generalize (allW 5)[i] = o at e0 no mo g
      have no' : num o = i := no
      refine .inr ⟨⟨_, _, hA, g⟩, fun σ' H' => ∃ y6 y14 : Option V, σ' = [some (.ref a), some (.ref m), some (.int (d2 : Int)), some (.str (S u4)), some (.str (S dr)), some (.ref D), y6, some (.int (num u4 : Int)), none, none, none, none, none, some (.int (mn : Int)), y14] ∧ Same HA H', ?_, ?_⟩
      · rintro σ' H' ⟨z6', z14', e', sm'⟩
        exact ⟨mm - 1, by omega, z6', z14', e', by omega, sm'⟩
      · rintro v H' ⟨Tp, x, rfl, nT, rfl, fx⟩
        have ex : x = .str (S o) := Option.some.inj ((fx _ hA).symm.trans g)
        subst ex
        refine ⟨Tp, [.int (i : Nat), .str (S o)], rfl, .inl (.inl upd_same), rfl, _, [.str (S o)], rfl, _, [], rfl, rfl, ?_⟩
        have gT := same_new (o := .tup [.int (i : Nat), .str (S o)]) nT
        generalize upd H3 Tp (.tup [.int (i : Nat), .str (S o)]) = H4' at gT ⊢
        refine ⟨.str (S o), rfl, o, rfl, mo.1.wd, by omega, fun Ha sa => ?_⟩
        rw [cut_of_fw mo.1, no']
        have i62 : i < 10 ^ 62 := Nat.lt_of_lt_of_le hi (Nat.le_trans few5 (by decide +kernel))
        refine ⟨.int (i : Nat), rfl, i, rfl, i62, fun o2 Hb fo2 no2 _ sb => ⟨by show 2 ≤ sizeLine; decide, fun pb npb => ?_⟩⟩
        have eo : o2 = o := num_inj fo2 mo.1 (no2.trans no'.symm)
        subst eo
        have gb := same_new (o := .lst [.int (i : Int), .str (S o2)]) npb
        have fb : (upd Hb pb (.lst [.int (i : Int), .str (S o2)])) pb = some (.lst [.int (i : Int), .str (S o2)]) := upd_same
        generalize upd Hb pb (.lst [.int (i : Int), .str (S o2)]) = Hc at gb fb ⊢
        refine ⟨.int (i : Nat), rfl, .str (S o2), rfl, by show 2 ≤ sizeLine; decide, fun pc npc => ?_⟩
        have gc := same_new (o := .lst [.int (i : Int), .str (S o2)]) npc
        refine .inl ⟨pb, pc, .list [.int (i : Int), .str (S o2)], rfl, .lst (.inl (.inl (gc _ _ fb))) (.cons (.int _) (.cons (.str _) .nil)), .lst (.inl (.inl upd_same)) (.cons (.int _) (.cons (.str _) .nil)), shows_two (fine_int (by omega)) (fine_str mo.1.wd (by omega)), true, rfl, iteF ?_⟩
        exact ⟨_, _, rfl, Same.to sm3 (Same.to gT (Same.to sa (Same.to sb (Same.to gb gc))))⟩
    refine .inl ⟨⟨_, hA, by rw [vs_len]; omega⟩, ?_⟩
    have MB := MA.same sm3
    clear hA em few5
    -- the first of its length
    refine ⟨.ref m, rfl, m, lc, lg, _, 61, rfl, ⟨by decide, by decide⟩, MB, by omega, fun ln H31 hln M31 _ => ?_⟩
    have ln61 : ln < 61 := by omega
    refine ⟨.int (ln : Int), rfl, (ln : Int), rfl, by omega, by omega, fun D5 nD5 => ?_⟩
    rw [Int.toNat_natCast]
    refine lc_range (lo := 0) (n := ln) (fun i H' => Same H31 H' ∧ H' D5 = some (.lst (((List.range i).map fun l => ((cnt 0 l : Nat) : Int)).map V.int))) ⟨same_new nD5, upd_same⟩ (fun i H' hi h => ?_) (fun H32 h => ?_)
    · obtain ⟨sm', hD5⟩ := h
      have e0 : (0 : Int) + (i : Int) = (i : Int) := by omega
      rw [e0]
      refine ⟨rfl, yes (iteT ⟨.int (i : Int), rfl, i, rfl, by omega, fun H'' s'' => ⟨_, s'' _ _ hD5, ?_, same_mut (Same.to sm' s'') nD5, ?_⟩⟩)⟩
      · rw [List.length_map, List.length_map, List.length_range]
        exact Nat.lt_of_le_of_lt (show i ≤ 100 by omega) (by decide)
      · rw [upd_same, List.range_succ, List.map_append, List.map_append]
        rfl
    obtain ⟨s32, h32⟩ := h
    refine ⟨D5, _, rfl, .inl (.inl h32), ?_⟩
    rw [base_sum]
    have M32 := M31.same s32
    refine ⟨.int (ln : Int), rfl, [], ln, rfl, (fun c hc => by cases hc), Nat.zero_le _, by omega, fun H33 s33 => ?_⟩
    have ef : ([] : List Nat) ++ lst0 (prv 0 []) (ln - ([] : List Nat).length) = lst0 0 ln := rfl
    rw [ef]
    obtain ⟨fb, nb⟩ := base_num ln
    have lb := lst0_len 0 ln
    have bs : K7.base ln < 10 ^ 62 := by
      have := num_small fb (by omega)
      rw [nb] at this
      exact this
    refine ⟨.str (S (lst0 0 ln)), rfl, lst0 0 ln, rfl, fb.wd, by omega, fun H34 s34 => ?_⟩
    rw [cut_of_fw fb, nb]
    refine ⟨.int (K7.base ln : Int), rfl, K7.base ln, rfl, bs, fun u5 H35 fu5 nu5 _ s35 => ⟨by show 2 ≤ sizeLine; decide, fun p36 np36 => ?_⟩⟩
    have eu5 : u5 = lst0 0 ln := num_inj fu5 fb (nu5.trans nb.symm)
    subst eu5
    have g36 := same_new (o := .lst [.int (K7.base ln : Int), .str (S (lst0 0 ln))]) np36
    have f36 : (upd H35 p36 (.lst [.int (K7.base ln : Int), .str (S (lst0 0 ln))])) p36 = some (.lst [.int (K7.base ln : Int), .str (S (lst0 0 ln))]) := upd_same
    generalize upd H35 p36 (.lst [.int (K7.base ln : Int), .str (S (lst0 0 ln))]) = H36 at g36 f36 ⊢
    refine ⟨.int (K7.base ln : Int), rfl, .str (S (lst0 0 ln)), rfl, by show 2 ≤ sizeLine; decide, fun p37 np37 => ?_⟩
    have g37 := same_new (o := .lst [.int (K7.base ln : Int), .str (S (lst0 0 ln))]) np37
    have f37 : (upd H36 p37 (.lst [.int (K7.base ln : Int), .str (S (lst0 0 ln))])) p37 = some (.lst [.int (K7.base ln : Int), .str (S (lst0 0 ln))]) := upd_same
    generalize upd H36 p37 (.lst [.int (K7.base ln : Int), .str (S (lst0 0 ln))]) = H37 at g37 f37 ⊢
    refine .inl ⟨p36, p37, .list [.int (K7.base ln : Int), .str (S (lst0 0 ln))], rfl, .lst (.inl (.inl (g37 _ _ f36))) (.cons (.int _) (.cons (.str _) .nil)), .lst (.inl (.inl f37)) (.cons (.int _) (.cons (.str _) .nil)), shows_two (fine_int (by omega)) (fine_str fb.wd (by omega)), true, rfl, iteF ?_⟩
    have M37 := ((((M32.same s33).same s34).same s35).same g36).same g37
    clear f36 f37 g36 g37 np36 np37 M32 M31 MB MA M27
    -- counts
    refine ⟨.ref m, rfl, m, lc, lg, _, 61, rfl, ⟨by decide, by decide⟩, M37, by omega, fun l1 H38 hl1 M38 _ => ⟨.ref m, rfl, m, lc, lg, _, 61, rfl, ⟨by decide, by decide⟩, M38, by omega, fun l2 H39 hl2 M39 _ => ?_⟩⟩
    refine ⟨fun v H' => ∃ l3 : Nat, v = .int (l3 : Int) ∧ l3 < 91 ∧ MS H' m lc lg 1000, ?_, ?_⟩
    · refine ⟨.ref m, rfl, m, lc, lg, _, 4, rfl, ⟨by decide, by decide⟩, M39, by omega, fun z H40 hz4 M40 _ => ⟨rfl, _, rfl, ?_⟩⟩
      by_cases c : z = 0
      · subst c
        exact iteDT rfl ⟨.ref m, rfl, m, lc, lg, _, 91, rfl, ⟨by decide, by decide⟩, M40, by omega, fun l3 H41 hl3 M41 _ => ⟨l3, rfl, by omega, M41.le (by omega)⟩⟩
      · exact iteDF (fun y => c (by have := V.int.inj y; omega)) ⟨9, rfl, by decide, M40.le (by omega)⟩
    rintro v3 H42 ⟨l3, rfl, hl3, M42⟩
    refine ⟨by show 3 ≤ sizeLine; decide, fun p43 np43 => ?_⟩
    have M43 := M42.same (same_new (o := .lst [.int (l1 : Int), .int (l2 : Int), .int (l3 : Int)]) np43)
    have f43 : (upd H42 p43 (.lst [.int (l1 : Int), .int (l2 : Int), .int (l3 : Int)])) p43 = some (.lst [.int (l1 : Int), .int (l2 : Int), .int (l3 : Int)]) := upd_same
    generalize upd H42 p43 (.lst [.int (l1 : Int), .int (l2 : Int), .int (l3 : Int)]) = H43 at M43 f43 ⊢
    refine ⟨p43, rfl, ⟨_, .inl (.inl f43)⟩, ?_⟩
    refine for_list (K := K) (xs := [.int (l1 : Int), .int (l2 : Int), .int (l3 : Int)]) (fun i σ H' => ∃ y8 : Option V, σ = [some (.ref a), some (.ref m), some (.int (d2 : Int)), some (.str (S u4)), some (.str (S dr)), some (.ref D), z6, some (.int (num u4 : Int)), y8, some (.int (K7.base ln : Int)), some (.str (S (lst0 0 ln))), none, none, some (.int (mn : Int)), z14] ∧ Same H43 H')
      ⟨_, rfl, Same.id _⟩ (fun i σ H' hi h => ?_) (fun i x σ H' hx h => ?_) (fun σ H44 h => ?_)
    · obtain ⟨_, _, sm'⟩ := h
      exact .inl (.inl (sm' _ _ f43))
    · obtain ⟨y8, rfl, sm'⟩ := h
      obtain ⟨lk, rfl, hlk⟩ : ∃ lk : Nat, x = .int (lk : Int) ∧ lk < 91 := by
        match i, hx with
        | 0, hx => cases hx; exact ⟨l1, rfl, by omega⟩
        | 1, hx => cases hx; exact ⟨l2, rfl, by omega⟩
        | 2, hx => cases hx; exact ⟨l3, rfl, hl3⟩
        | i + 3, hx => cases hx
      obtain ⟨sc1, sc2⟩ := small_counts lk hlk
      refine ⟨.int (lk : Int), rfl, lk, rfl, by omega, fun Ha sa => ⟨.int (lk : Int), rfl, lk, rfl, by omega, fun Hb sb => ⟨by show 2 ≤ sizeLine; decide, fun pb npb => ?_⟩⟩⟩
      have gb := same_new (o := .lst [.int (cnt 0 lk : Int), .int (clsN lk : Int)]) npb
      have fbb : (upd Hb pb (.lst [.int (cnt 0 lk : Int), .int (clsN lk : Int)])) pb = some (.lst [.int (cnt 0 lk : Int), .int (clsN lk : Int)]) := upd_same
      generalize upd Hb pb (.lst [.int (cnt 0 lk : Int), .int (clsN lk : Int)]) = Hc at gb fbb ⊢
      refine ⟨.int (lk : Int), rfl, lk, rfl, hlk, fun Hd sd => ⟨.int (lk : Int), rfl, lk, rfl, hlk, fun He se => ?_⟩⟩
      rw [← cls_eq lk hlk]
      refine ⟨by show 2 ≤ sizeLine; decide, fun pf npf => ?_⟩
      have gf := same_new (o := .lst [.int (cnt 0 lk : Int), .int (clsN lk : Int)]) npf
      refine .inl ⟨pb, pf, .list [.int (cnt 0 lk : Int), .int (clsN lk : Int)], rfl, .lst (.inl (.inl (gf _ _ (se _ _ (sd _ _ fbb))))) (.cons (.int _) (.cons (.int _) .nil)), .lst (.inl (.inl upd_same)) (.cons (.int _) (.cons (.int _) .nil)), shows_two (fine_int (by omega)) (fine_int (by omega)), true, rfl, iteF ?_⟩
      exact ⟨_, rfl, Same.to sm' (Same.to sa (Same.to sb (Same.to gb (Same.to sd (Same.to se gf)))))⟩
    obtain ⟨y8, rfl, s44⟩ := h
    have M44 := M43.same s44
    -- the list of words
    refine ⟨.ref m, rfl, m, lc, lg, _, 8, rfl, ⟨by decide, by decide⟩, M44, by omega, fun N H45 hN M45 _ => ?_⟩
    have N8 : N < 8 := by omega
    have fewN := (lv_few N (by omega)).2
    have fewL := (lv_few N (by omega)).1
    refine ⟨.int (N : Int), rfl, N, rfl, by omega, fun pB HB sB npB epB => ⟨pB, rfl, ⟨Vs (allW N), .inl (.inl epB)⟩, fun D6 nD6 => ?_⟩⟩
    refine lc_list (K := K) (xs := Vs (allW N)) (fun j H' => Same HB H' ∧ H' D6 = some (.lst (Vs (((allW N).take j).filter fun u => decide (u.length = N))))) ⟨same_new nD6, upd_same⟩ (fun j H' hj h => .inl (.inl (h.1 _ _ epB))) (fun j x H' hx h => ?_) (fun H46 h => ?_)
    · obtain ⟨sm', hD6⟩ := h
      obtain ⟨o, ho, rfl⟩ : ∃ o, (allW N)[j]? = some o ∧ x = .str (S o) := by
        unfold Vs at hx
        rw [List.getElem?_map] at hx
        cases e : (allW N)[j]? with
        | none => rw [e] at hx; cases hx
        | some v => rw [e] at hx; exact ⟨v, rfl, (Option.some.inj hx).symm⟩
      have lo := (mem_allW.mp (List.mem_of_getElem? ho)).2
      have lf : (((allW N).take j).filter fun u => decide (u.length = N)).length ≤ 1000 := Nat.le_trans (List.length_filter_le _ _) (by rw [List.length_take]; omega)
      have step : (((allW N).take (j + 1)).filter fun u => decide (u.length = N)) = (((allW N).take j).filter fun u => decide (u.length = N)) ++ (if o.length = N then [o] else []) := by
        rw [List.take_succ, ho, List.filter_append]
        congr 1
        by_cases c : o.length = N
        · simp [List.filter_cons, c]
        · simp [List.filter_cons, c]
      rw [step]
      generalize ((allW N).take j).filter (fun u => decide (u.length = N)) = ws at hD6 lf ⊢
      refine ⟨rfl, .str (S o), rfl, S o, rfl, fit _ (show o.length ≤ _ by omega), .int (N : Int), rfl, rfl, _, rfl, ?_⟩
      by_cases c : o.length = N
      · refine iteDT (show V.int ((S o).length : Int) = V.int (N : Int) from by show V.int ((o.length : Nat) : Int) = _; rw [c]) ⟨.str (S o), rfl, _, hD6, ?_, same_mut sm' nD6, ?_⟩
        · rw [vs_len]
          exact Nat.lt_of_le_of_lt lf (by decide)
        · rw [upd_same, if_pos c, vs_snoc]
      · refine iteDF (fun z => c (by have z2 : ((o.length : Nat) : Int) = (N : Int) := V.int.inj z; omega)) ⟨sm', ?_⟩
        rw [if_neg c, List.append_nil]
        exact hD6
    obtain ⟨s46, h46⟩ := h
    rw [vs_len, List.take_length, rows_eq N N8] at h46
    have g46 : ∀ o ∈ lv N, Fw o ∧ o.length = N := fun o ho => mem_lv.mp ho
    refine ⟨.ref D6, rfl, D6, rfl, ⟨_, .inl (.inl h46)⟩, fun D7 nD7 => ?_⟩
    refine lc_list (K := K) (xs := Vs (lv N)) (fun j H' => Same H46 H' ∧ H' D7 = some (.lst (Vs (((lv N).take j).filter fun u => decide (leastF u = u))))) ⟨same_new nD7, upd_same⟩ (fun j H' hj h => .inl (.inl (h.1 _ _ h46))) (fun j x H' hx h => ?_) (fun H47 h => ?_)
    · obtain ⟨sm', hD7⟩ := h
      obtain ⟨o, ho, rfl⟩ : ∃ o, (lv N)[j]? = some o ∧ x = .str (S o) := by
        unfold Vs at hx
        rw [List.getElem?_map] at hx
        cases e : (lv N)[j]? with
        | none => rw [e] at hx; cases hx
        | some v => rw [e] at hx; exact ⟨v, rfl, (Option.some.inj hx).symm⟩
      obtain ⟨fo, lo⟩ := g46 o (List.mem_of_getElem? ho)
      have lf : (((lv N).take j).filter fun u => decide (leastF u = u)).length ≤ 1000 := Nat.le_trans (List.length_filter_le _ _) (by rw [List.length_take]; omega)
      have step : (((lv N).take (j + 1)).filter fun u => decide (leastF u = u)) = (((lv N).take j).filter fun u => decide (leastF u = u)) ++ (if leastF o = o then [o] else []) := by
        rw [List.take_succ, ho, List.filter_append]
        congr 1
        by_cases c : leastF o = o
        · simp [List.filter_cons, c]
        · simp [List.filter_cons, c]
      rw [step]
      generalize ((lv N).take j).filter (fun u => decide (leastF u = u)) = ws at hD7 lf ⊢
      refine ⟨rfl, .str (S o), rfl, o, rfl, fo, by omega, fun t' H'' ct _ _ s'' => ⟨.str (S o), rfl, rfl, _, rfl, ?_⟩⟩
      have et : t' = leastF o := cw_fun ct (leastF_ok fo.wd)
      subst et
      have hD7' := s'' _ _ hD7
      have sm'' := Same.to sm' s''
      by_cases c : leastF o = o
      · refine iteDT (by rw [c]) ⟨.str (S o), rfl, _, hD7', ?_, same_mut sm'' nD7, ?_⟩
        · rw [vs_len]
          exact Nat.lt_of_le_of_lt lf (by decide)
        · rw [upd_same, if_pos c, vs_snoc]
      · refine iteDF (fun z => c (s_inj (V.str.inj z))) ⟨sm'', ?_⟩
        rw [if_neg c, List.append_nil]
        exact hD7'
    obtain ⟨s47, h47⟩ := h
    rw [vs_len, List.take_length] at h47
    obtain ⟨c1, c2⟩ := least_counts N N8
    obtain ⟨sc1, sc2⟩ := small_counts N (by omega)
    have h46' := s47 _ _ h46
    refine ⟨.int (N : Int), rfl, N, rfl, by omega, fun Ha sa => ⟨.int (N : Int), rfl, N, rfl, by omega, fun Hb sb => ⟨by show 2 ≤ sizeLine; decide, fun pb npb => ?_⟩⟩⟩
    have gb := same_new (o := .lst [.int (cnt 0 N : Int), .int (clsN N : Int)]) npb
    have fbb : (upd Hb pb (.lst [.int (cnt 0 N : Int), .int (clsN N : Int)])) pb = some (.lst [.int (cnt 0 N : Int), .int (clsN N : Int)]) := upd_same
    generalize upd Hb pb (.lst [.int (cnt 0 N : Int), .int (clsN N : Int)]) = Hc at gb fbb ⊢
    refine ⟨.ref D6, rfl, D6, _, rfl, .inl (.inl (.inl (gb _ _ (sb _ _ (sa _ _ h46'))))), .ref D7, rfl, D7, _, rfl, .inl (.inl (.inl (gb _ _ (sb _ _ (sa _ _ h47))))), ?_⟩
    rw [vs_len, vs_len, c1, c2]
    refine ⟨by show 2 ≤ sizeLine; decide, fun pf npf => ?_⟩
    have gf := same_new (o := .lst [.int (cnt 0 N : Int), .int (clsN N : Int)]) npf
    exact .inl ⟨pb, pf, .list [.int (cnt 0 N : Int), .int (clsN N : Int)], rfl, .lst (.inl (.inl (gf _ _ fbb))) (.cons (.int _) (.cons (.int _) .nil)), .lst (.inl (.inl upd_same)) (.cons (.int _) (.cons (.int _) .nil)), shows_two (fine_int (by omega)) (fine_int (by omega)), q _⟩
end
end K7

namespace K7
open PySem PySem.Spec PyProof.Rows L2 Nr Nw
/-- a def's facts, read off the head -/
structure Def (K : PySem.W.Frag) (x : String) (st : Stmt) (f : Addr) : Prop where
  at_ : PySem.W.nsIn K mainGlobals x = some (some (.ref f))
  ob : ∃ (oc : Value) (od : Option Addr) (kV doc pm : Value) (an : Option Addr) (cdv ct : Value) (osl : Array (Option Value)), K.lookup f = some ⟨oc, od, .func (PySem.W.fnOf x x (defArgs st) (defBody st) (defScope st) .none kV doc pm an cdv ct), osl⟩ ∧ PySem.W.codeIn K cdv x = true
  kp : PySem.W.keepIn K (.ref f) = true
theorem Def.has {K : PySem.W.Frag} {h : Heap} {mg : Str → Option Value} (X : K.In h) (G : h.Ns mainGlobals mg) {x : String} {st : Stmt} {f : Addr} {ps : List Str} (D : Def K x st f)
    (b : ∀ (kV doc pm : Value) (an : Option Addr) (cdv ct : Value) (us : List Value), us.length = ps.length → bindArgs (PySem.W.fnOf x x (defArgs st) (defBody st) (defScope st) .none kV doc pm an cdv ct) ⟨us, []⟩ = pure (ps.zip us)) : Has K mg x st ps := by
  obtain ⟨a, ⟨oc, od, kV, doc, pm, an, cdv, ct, osl, l, c⟩, k⟩ := D
  have F : Fun K x x st f (PySem.W.fnOf x x (defArgs st) (defBody st) (defScope st) .none kV doc pm an cdv ct) := ⟨⟨oc, od, kV, doc, pm, an, cdv, ct, osl, rfl, l, c⟩, k⟩
  exact ⟨f, _, PySem.W.mg_of X G a, F, F.binds b⟩
theorem def_mk {K : PySem.W.Frag} {x : String} {st : Stmt} {f : Addr} {oc : Value} {od : Option Addr} {kV doc pm : Value} {an : Option Addr} {cdv ct : Value} {osl : Array (Option Value)} (a : PySem.W.nsIn K mainGlobals x = some (some (.ref f)))
    (l : K.lookup f = some ⟨oc, od, .func (PySem.W.fnOf x x (defArgs st) (defBody st) (defScope st) .none kV doc pm an cdv ct), osl⟩) (c : PySem.W.codeIn K cdv x = true) (k : PySem.W.keepIn K (.ref f) = true) : Def K x st f :=
  ⟨a, ⟨oc, od, kV, doc, pm, an, cdv, ct, osl, l, c⟩, k⟩

theorem txt_mk {w : World} {K : PySem.W.Frag} {h : Heap} {mg : Str → Option Value} (X : K.In h) (G : h.Ns mainGlobals mg)
    {f0 : Addr} (d0 : Def K "put_code" sPutCode f0)
    {f1 : Addr} (d1 : Def K "coded" sCoded f1)
    {f2 : Addr} (d2 : Def K "spelled_out" sSpelledOut f2)
    {f3 : Addr} (d3 : Def K "is_reduced_text" sIsReducedText f3)
    {f4 : Addr} (d4 : Def K "reduced_text" sReducedText f4)
    {f5 : Addr} (d5 : Def K "is_number" sIsNumber f5)
    {f6 : Addr} (d6 : Def K "is_number_in" sIsNumberIn f6)
    {f7 : Addr} (d7 : Def K "need_number_in" sNeedNumberIn f7)
    {f8 : Addr} (d8 : Def K "strange_place" sStrangePlace f8)
    {f9 : Addr} (d9 : Def K "need_word" sNeedWord f9)
    {f10 : Addr} (d10 : Def K "_tails" sTails f10)
    {f11 : Addr} (d11 : Def K "_ways_on" sWaysOn f11)
    {f12 : Addr} (d12 : Def K "_words_with" sWordsWith f12)
    {f13 : Addr} (d13 : Def K "number_of" sNumberOf f13)
    {f14 : Addr} (d14 : Def K "_sign_at" sSignAt f14)
    {f15 : Addr} (d15 : Def K "word_numbered" sWordNumbered f15)
    {f16 : Addr} (d16 : Def K "words_of" sWordsOf f16)
    {f17 : Addr} (d17 : Def K "_rings_closed" sRingsClosed f17)
    {f18 : Addr} (d18 : Def K "classes_of" sClassesOf f18)
    {f19 : Addr} (d19 : Def K "_least_tail" sLeastTail f19)
    {f20 : Addr} (d20 : Def K "_next_word" sNextWord f20)
    {f21 : Addr} (d21 : Def K "next_words" sNextWords f21)
    {f22 : Addr} (d22 : Def K "_law_mixed" sLawMixed f22)
    {f23 : Addr} (d23 : Def K "_law_folded" sLawFolded f23)
    {f24 : Addr} (d24 : Def K "_law_draw" sLawDraw f24)
    {f25 : Addr} (d25 : Def K "_law_begun" sLawBegun f25)
    {f26 : Addr} (d26 : Def K "_law_like" sLawLike f26)
    {f27 : Addr} (d27 : Def K "_law_cut" sLawCut f27)
    {f28 : Addr} (d28 : Def K "_law_word" sLawWord f28)
    {f29 : Addr} (d29 : Def K "_law_all_words" sLawAllWords f29)
    {f30 : Addr} (d30 : Def K "_law_pieces" sLawPieces f30)
    {f31 : Addr} (d31 : Def K "_law_ring" sLawRing f31)
    {f32 : Addr} (d32 : Def K "_law_readings" sLawReadings f32)
    {f33 : Addr} (d33 : Def K "_law_least" sLawLeast f33)
    {f34 : Addr} (d34 : Def K "_law_tens" sLawTens f34)
    {f35 : Addr} (d35 : Def K "_law_is_word" sLawIsWord f35)
    {f36 : Addr} (d36 : Def K "_law_filled" sLawFilled f36)
    {f37 : Addr} (d37 : Def K "_law_next" sLawNext f37)
    {f38 : Addr} (d38 : Def K "_law_many_words" sLawManyWords f38)
    {f39 : Addr} (d39 : Def K "_law_choices" sLawChoices f39)
    {f40 : Addr} (d40 : Def K "_law_common" sLawCommon f40)
    {f41 : Addr} (d41 : Def K "_law_many_rings" sLawManyRings f41)
    {f42 : Addr} (d42 : Def K "_law_doubled" sLawDoubled f42)
    {f43 : Addr} (d43 : Def K "_law_many_classes" sLawManyClasses f43)
    {f44 : Addr} (d44 : Def K "law" sLaw f44)
    {tO : Tok} (cO : PySem.W.nsIn K mainGlobals "ONE" = some (some (.int 4 tO))) {tM : Tok} (cM : PySem.W.nsIn K mainGlobals "MOST_SIGNS" = some (some (.int 4000 tM)))
    {aS : Addr} (cS : PySem.W.nsIn K mainGlobals "SIGNS" = some (some (.ref aS))) {os : Obj} {its : Array Value} {ns : Nat} (lS : K.lookup aS = some os) (lS2 : os.cls = .type "tuple") (lS3 : os.data = .seq its ns) (lS4 : its.size ≤ sizeLine) (lS5 : Vals [.str (S []), .str (S [48]), .str (S [50]), .str (S [48, 50]), .str (S [49])] its.toList)
    {aC : Addr} (cC : PySem.W.nsIn K mainGlobals "CODES" = some (some (.ref aC))) {es : Array DictEntry} {nd : Nat} (lC : K.lookup aC = some ⟨.type "dict", none, .dict es nd, #[]⟩) (kC : PySem.W.KeysLit w.params es.toList)
    {u0 : Tok} (e0 : PySem.W.nsIn K aC "0" = some (some (.int 1 u0)))
    {u1 : Tok} (e1 : PySem.W.nsIn K aC "1" = some (some (.int 4 u1)))
    {u2 : Tok} (e2 : PySem.W.nsIn K aC "2" = some (some (.int 2 u2)))
    {u3 : Tok} (e3 : PySem.W.nsIn K aC "02" = some (some (.int 3 u3)))
    {u4 : Tok} (e4 : PySem.W.nsIn K aC "" = some (some (.int 0 u4)))
    {tT : Tok} (cT : PySem.W.nsIn K mainGlobals "MOST_TOLD" = some (some (.int 20000 tT))) (cG : PySem.W.nsIn K mainGlobals "gcd" = some (some (.builtin "math.gcd")))
    {aB : Addr} (cB : PySem.W.nsIn K mainGlobals "BEHIND" = some (some (.ref aB))) {eb : Array DictEntry} {nb : Nat} (lB : K.lookup aB = some ⟨.type "dict", none, .dict eb nb, #[]⟩) (kB : PySem.W.KeysLit w.params eb.toList)
    {v0 : Tok} (b0 : PySem.W.nsIn K aB "0" = some (some (.str "12" v0)))
    {v1 : Tok} (b1 : PySem.W.nsIn K aB "1" = some (some (.str "02" v1)))
    {v2 : Tok} (b2 : PySem.W.nsIn K aB "2" = some (some (.str "1" v2)))
    {v3 : Tok} (b3 : PySem.W.nsIn K aB "" = some (some (.str "012" v3)))
    (zlen : PySem.W.nsIn K mainGlobals "len" = some none) (zisinstance : PySem.W.nsIn K mainGlobals "isinstance" = some none) (zstr : PySem.W.nsIn K mainGlobals "str" = some none) (zenumerate : PySem.W.nsIn K mainGlobals "enumerate" = some none) (zrange : PySem.W.nsIn K mainGlobals "range" = some none) (zint : PySem.W.nsIn K mainGlobals "int" = some none) (zrepr : PySem.W.nsIn K mainGlobals "repr" = some none) (ztuple : PySem.W.nsIn K mainGlobals "tuple" = some none) (zlist : PySem.W.nsIn K mainGlobals "list" = some none) (zbool : PySem.W.nsIn K mainGlobals "bool" = some none) (zsum : PySem.W.nsIn K mainGlobals "sum" = some none) (zmin : PySem.W.nsIn K mainGlobals "min" = some none) : Txt w K mg where
  one := ⟨_, PySem.W.mg_of X G cO⟩
  signs := ⟨aS, PySem.W.mg_of X G cS, fun H => .inr ⟨_, its, _, lS, lS2, lS3, lS4, lS5⟩⟩
  codes := ⟨aC, PySem.W.mg_of X G cC, ⟨es, nd, _, lC, kC, e0, ⟨_, rfl⟩⟩, ⟨es, nd, _, lC, kC, e1, ⟨_, rfl⟩⟩, ⟨es, nd, _, lC, kC, e2, ⟨_, rfl⟩⟩, ⟨es, nd, _, lC, kC, e3, ⟨_, rfl⟩⟩, ⟨es, nd, _, lC, kC, e4, ⟨_, rfl⟩⟩⟩
  most := ⟨_, PySem.W.mg_of X G cM⟩
  mtold := ⟨_, PySem.W.mg_of X G cT⟩
  gcd := PySem.W.mg_of X G cG
  behind := ⟨aB, PySem.W.mg_of X G cB, ⟨eb, nb, _, lB, kB, b0, ⟨_, rfl⟩⟩, ⟨eb, nb, _, lB, kB, b1, ⟨_, rfl⟩⟩, ⟨eb, nb, _, lB, kB, b2, ⟨_, rfl⟩⟩, ⟨eb, nb, _, lB, kB, b3, ⟨_, rfl⟩⟩⟩
  nlen := PySem.W.mg_none_of X G zlen
  nisinstance := PySem.W.mg_none_of X G zisinstance
  nstr := PySem.W.mg_none_of X G zstr
  nenumerate := PySem.W.mg_none_of X G zenumerate
  nrange := PySem.W.mg_none_of X G zrange
  nint := PySem.W.mg_none_of X G zint
  nrepr := PySem.W.mg_none_of X G zrepr
  ntuple := PySem.W.mg_none_of X G ztuple
  nlist := PySem.W.mg_none_of X G zlist
  nbool := PySem.W.mg_none_of X G zbool
  nsum := PySem.W.mg_none_of X G zsum
  nmin := PySem.W.mg_none_of X G zmin
  fPutCode := d0.has X G fun _ _ _ _ _ _ us hl => match us, hl with | [_, _], _ => rfl
  fCoded := d1.has X G fun _ _ _ _ _ _ us hl => match us, hl with | [_], _ => rfl
  fSpelledOut := d2.has X G fun _ _ _ _ _ _ us hl => match us, hl with | [_], _ => rfl
  fIsReducedText := d3.has X G fun _ _ _ _ _ _ us hl => match us, hl with | [_], _ => rfl
  fReducedText := d4.has X G fun _ _ _ _ _ _ us hl => match us, hl with | [_], _ => rfl
  fIsNumber := d5.has X G fun _ _ _ _ _ _ us hl => match us, hl with | [_], _ => rfl
  fIsNumberIn := d6.has X G fun _ _ _ _ _ _ us hl => match us, hl with | [_, _, _], _ => rfl
  fNeedNumberIn := d7.has X G fun _ _ _ _ _ _ us hl => match us, hl with | [_, _, _], _ => rfl
  fStrangePlace := d8.has X G fun _ _ _ _ _ _ us hl => match us, hl with | [_], _ => rfl
  fNeedWord := d9.has X G fun _ _ _ _ _ _ us hl => match us, hl with | [_], _ => rfl
  fTails := d10.has X G fun _ _ _ _ _ _ us hl => match us, hl with | [_], _ => rfl
  fWaysOn := d11.has X G fun _ _ _ _ _ _ us hl => match us, hl with | [_, _, _], _ => rfl
  fWordsWith := d12.has X G fun _ _ _ _ _ _ us hl => match us, hl with | [_, _], _ => rfl
  fNumberOf := d13.has X G fun _ _ _ _ _ _ us hl => match us, hl with | [_], _ => rfl
  fSignAt := d14.has X G fun _ _ _ _ _ _ us hl => match us, hl with | [_, _, _, _], _ => rfl
  fWordNumbered := d15.has X G fun _ _ _ _ _ _ us hl => match us, hl with | [_], _ => rfl
  fWordsOf := d16.has X G fun _ _ _ _ _ _ us hl => match us, hl with | [_], _ => rfl
  fRingsClosed := d17.has X G fun _ _ _ _ _ _ us hl => match us, hl with | [_], _ => rfl
  fClassesOf := d18.has X G fun _ _ _ _ _ _ us hl => match us, hl with | [_], _ => rfl
  fLeastTail := d19.has X G fun _ _ _ _ _ _ us hl => match us, hl with | [_, _], _ => rfl
  fNextWord := d20.has X G fun _ _ _ _ _ _ us hl => match us, hl with | [_], _ => rfl
  fNextWords := d21.has X G fun _ _ _ _ _ _ us hl => match us, hl with | [_, _], _ => rfl
  fLawMixed := d22.has X G fun _ _ _ _ _ _ us hl => match us, hl with | [_, _], _ => rfl
  fLawFolded := d23.has X G fun _ _ _ _ _ _ us hl => match us, hl with | [_], _ => rfl
  fLawDraw := d24.has X G fun _ _ _ _ _ _ us hl => match us, hl with | [_, _], _ => rfl
  fLawBegun := d25.has X G fun _ _ _ _ _ _ us hl => match us, hl with | [_], _ => rfl
  fLawLike := d26.has X G fun _ _ _ _ _ _ us hl => match us, hl with | [_, _], _ => rfl
  fLawCut := d27.has X G fun _ _ _ _ _ _ us hl => match us, hl with | [_], _ => rfl
  fLawWord := d28.has X G fun _ _ _ _ _ _ us hl => match us, hl with | [_, _], _ => rfl
  fLawAllWords := d29.has X G fun _ _ _ _ _ _ us hl => match us, hl with | [_], _ => rfl
  fLawPieces := d30.has X G fun _ _ _ _ _ _ us hl => match us, hl with | [_], _ => rfl
  fLawRing := d31.has X G fun _ _ _ _ _ _ us hl => match us, hl with | [_], _ => rfl
  fLawReadings := d32.has X G fun _ _ _ _ _ _ us hl => match us, hl with | [_], _ => rfl
  fLawLeast := d33.has X G fun _ _ _ _ _ _ us hl => match us, hl with | [_], _ => rfl
  fLawTens := d34.has X G fun _ _ _ _ _ _ us hl => match us, hl with | [_], _ => rfl
  fLawIsWord := d35.has X G fun _ _ _ _ _ _ us hl => match us, hl with | [_], _ => rfl
  fLawFilled := d36.has X G fun _ _ _ _ _ _ us hl => match us, hl with | [_, _], _ => rfl
  fLawNext := d37.has X G fun _ _ _ _ _ _ us hl => match us, hl with | [_], _ => rfl
  fLawManyWords := d38.has X G fun _ _ _ _ _ _ us hl => match us, hl with | [_], _ => rfl
  fLawChoices := d39.has X G fun _ _ _ _ _ _ us hl => match us, hl with | [_, _], _ => rfl
  fLawCommon := d40.has X G fun _ _ _ _ _ _ us hl => match us, hl with | [_, _], _ => rfl
  fLawManyRings := d41.has X G fun _ _ _ _ _ _ us hl => match us, hl with | [_], _ => rfl
  fLawDoubled := d42.has X G fun _ _ _ _ _ _ us hl => match us, hl with | [_], _ => rfl
  fLawManyClasses := d43.has X G fun _ _ _ _ _ _ us hl => match us, hl with | [_], _ => rfl
  fLaw := d44.has X G fun _ _ _ _ _ _ us hl => match us, hl with | [_], _ => rfl
end K7

namespace K7
open PySem PySem.Spec PyProof.Rows L2 Nr Nw
theorem end_mk {l : PySem.W.OpenLaw} {w : World} {K : PySem.W.Frag} {h : Heap} {mg : Str → Option Value} {fa : Addr} (X : K.In h) (G : h.Ns mainGlobals mg) (hfa : mg "law" = some (.ref fa)) (T : Txt w K mg) :
    ∃ fd : FuncData, (∀ (s : Shared) (v : Value), BindsTo s fd ⟨[v], []⟩ [("script", v)]) ∧ ∀ base : Heap, K.In base → base.Ns mainGlobals mg → FnG l.prog w K mg base CX0 7 fa fd ["script"] (spLaw K) := by
  obtain ⟨f, fd, h1, F, h3⟩ := T.fLaw
  have e := h1.symm.trans hfa
  cases e
  obtain ⟨oc, od, kV, doc, pm, an, cdv, ct, osl, efd, lk, hcd⟩ := F.ex
  refine ⟨fd, fun s v => .of_eq ?_, fun base _ _ => law_fn T F⟩
  rw [efd]
  rfl
end K7
open PySem PySem.W PyProof.Rows
set_option maxHeartbeats 0 in
theorem PySem.Challenge.cw_netsredrawn_k07_whole_words_and_classes_holds : PySem.Challenge.rw_netsredrawn_k07_whole_words_and_classes.Holds := by
  w_on; o_law; k_head; (case hw => w_witness2)
  k_fill
  refine Nr.walk_ofG (l := PySem.Challenge.rw_netsredrawn_k07_whole_words_and_classes) (n := 63) (k := 7) (x := "script") (CX := fun _ => L2.CX0) (sp := fun w => K7.spLaw _) rfl (by decide) rfl ⟨rfl, by decide, by decide⟩ (fun w h Y => PySem.W.kIn_of Y) ?F (fun _ _ a ns hl _ _ hS => ⟨a, ns, rfl, hS, hl, fun _ => rfl⟩) (fun _ _ _ _ _ h => h)
  case F =>
    intro w mg fa h KX G hmg
    refine K7.end_mk KX G hmg ?T
    refine' K7.txt_mk KX G ?d0 ?d1 ?d2 ?d3 ?d4 ?d5 ?d6 ?d7 ?d8 ?d9 ?d10 ?d11 ?d12 ?d13 ?d14 ?d15 ?d16 ?d17 ?d18 ?d19 ?d20 ?d21 ?d22 ?d23 ?d24 ?d25 ?d26 ?d27 ?d28 ?d29 ?d30 ?d31 ?d32 ?d33 ?d34 ?d35 ?d36 ?d37 ?d38 ?d39 ?d40 ?d41 ?d42 ?d43 ?d44 ?cO ?cM ?cS ?lS ?lS2 ?lS3 ?lS4 ?lS5 ?cC ?lC ?kC ?e0 ?e1 ?e2 ?e3 ?e4 ?cT ?cG ?cB ?lB ?kB ?b0 ?b1 ?b2 ?b3 ?zlen ?zisinstance ?zstr ?zenumerate ?zrange ?zint ?zrepr ?ztuple ?zlist ?zbool ?zsum ?zmin
    case d0 => (refine' K7.def_mk ?a ?l ?c ?k; (case a => k_is); (case l => k_is); (case c => k_is); (case k => k_is))
    case d1 => (refine' K7.def_mk ?a ?l ?c ?k; (case a => k_is); (case l => k_is); (case c => k_is); (case k => k_is))
    case d2 => (refine' K7.def_mk ?a ?l ?c ?k; (case a => k_is); (case l => k_is); (case c => k_is); (case k => k_is))
    case d3 => (refine' K7.def_mk ?a ?l ?c ?k; (case a => k_is); (case l => k_is); (case c => k_is); (case k => k_is))
    case d4 => (refine' K7.def_mk ?a ?l ?c ?k; (case a => k_is); (case l => k_is); (case c => k_is); (case k => k_is))
    case d5 => (refine' K7.def_mk ?a ?l ?c ?k; (case a => k_is); (case l => k_is); (case c => k_is); (case k => k_is))
    case d6 => (refine' K7.def_mk ?a ?l ?c ?k; (case a => k_is); (case l => k_is); (case c => k_is); (case k => k_is))
    case d7 => (refine' K7.def_mk ?a ?l ?c ?k; (case a => k_is); (case l => k_is); (case c => k_is); (case k => k_is))
    case d8 => (refine' K7.def_mk ?a ?l ?c ?k; (case a => k_is); (case l => k_is); (case c => k_is); (case k => k_is))
    case d9 => (refine' K7.def_mk ?a ?l ?c ?k; (case a => k_is); (case l => k_is); (case c => k_is); (case k => k_is))
    case d10 => (refine' K7.def_mk ?a ?l ?c ?k; (case a => k_is); (case l => k_is); (case c => k_is); (case k => k_is))
    case d11 => (refine' K7.def_mk ?a ?l ?c ?k; (case a => k_is); (case l => k_is); (case c => k_is); (case k => k_is))
    case d12 => (refine' K7.def_mk ?a ?l ?c ?k; (case a => k_is); (case l => k_is); (case c => k_is); (case k => k_is))
    case d13 => (refine' K7.def_mk ?a ?l ?c ?k; (case a => k_is); (case l => k_is); (case c => k_is); (case k => k_is))
    case d14 => (refine' K7.def_mk ?a ?l ?c ?k; (case a => k_is); (case l => k_is); (case c => k_is); (case k => k_is))
    case d15 => (refine' K7.def_mk ?a ?l ?c ?k; (case a => k_is); (case l => k_is); (case c => k_is); (case k => k_is))
    case d16 => (refine' K7.def_mk ?a ?l ?c ?k; (case a => k_is); (case l => k_is); (case c => k_is); (case k => k_is))
    case d17 => (refine' K7.def_mk ?a ?l ?c ?k; (case a => k_is); (case l => k_is); (case c => k_is); (case k => k_is))
    case d18 => (refine' K7.def_mk ?a ?l ?c ?k; (case a => k_is); (case l => k_is); (case c => k_is); (case k => k_is))
    case d19 => (refine' K7.def_mk ?a ?l ?c ?k; (case a => k_is); (case l => k_is); (case c => k_is); (case k => k_is))
    case d20 => (refine' K7.def_mk ?a ?l ?c ?k; (case a => k_is); (case l => k_is); (case c => k_is); (case k => k_is))
    case d21 => (refine' K7.def_mk ?a ?l ?c ?k; (case a => k_is); (case l => k_is); (case c => k_is); (case k => k_is))
    case d22 => (refine' K7.def_mk ?a ?l ?c ?k; (case a => k_is); (case l => k_is); (case c => k_is); (case k => k_is))
    case d23 => (refine' K7.def_mk ?a ?l ?c ?k; (case a => k_is); (case l => k_is); (case c => k_is); (case k => k_is))
    case d24 => (refine' K7.def_mk ?a ?l ?c ?k; (case a => k_is); (case l => k_is); (case c => k_is); (case k => k_is))
    case d25 => (refine' K7.def_mk ?a ?l ?c ?k; (case a => k_is); (case l => k_is); (case c => k_is); (case k => k_is))
    case d26 => (refine' K7.def_mk ?a ?l ?c ?k; (case a => k_is); (case l => k_is); (case c => k_is); (case k => k_is))
    case d27 => (refine' K7.def_mk ?a ?l ?c ?k; (case a => k_is); (case l => k_is); (case c => k_is); (case k => k_is))
    case d28 => (refine' K7.def_mk ?a ?l ?c ?k; (case a => k_is); (case l => k_is); (case c => k_is); (case k => k_is))
    case d29 => (refine' K7.def_mk ?a ?l ?c ?k; (case a => k_is); (case l => k_is); (case c => k_is); (case k => k_is))
    case d30 => (refine' K7.def_mk ?a ?l ?c ?k; (case a => k_is); (case l => k_is); (case c => k_is); (case k => k_is))
    case d31 => (refine' K7.def_mk ?a ?l ?c ?k; (case a => k_is); (case l => k_is); (case c => k_is); (case k => k_is))
    case d32 => (refine' K7.def_mk ?a ?l ?c ?k; (case a => k_is); (case l => k_is); (case c => k_is); (case k => k_is))
    case d33 => (refine' K7.def_mk ?a ?l ?c ?k; (case a => k_is); (case l => k_is); (case c => k_is); (case k => k_is))
    case d34 => (refine' K7.def_mk ?a ?l ?c ?k; (case a => k_is); (case l => k_is); (case c => k_is); (case k => k_is))
    case d35 => (refine' K7.def_mk ?a ?l ?c ?k; (case a => k_is); (case l => k_is); (case c => k_is); (case k => k_is))
    case d36 => (refine' K7.def_mk ?a ?l ?c ?k; (case a => k_is); (case l => k_is); (case c => k_is); (case k => k_is))
    case d37 => (refine' K7.def_mk ?a ?l ?c ?k; (case a => k_is); (case l => k_is); (case c => k_is); (case k => k_is))
    case d38 => (refine' K7.def_mk ?a ?l ?c ?k; (case a => k_is); (case l => k_is); (case c => k_is); (case k => k_is))
    case d39 => (refine' K7.def_mk ?a ?l ?c ?k; (case a => k_is); (case l => k_is); (case c => k_is); (case k => k_is))
    case d40 => (refine' K7.def_mk ?a ?l ?c ?k; (case a => k_is); (case l => k_is); (case c => k_is); (case k => k_is))
    case d41 => (refine' K7.def_mk ?a ?l ?c ?k; (case a => k_is); (case l => k_is); (case c => k_is); (case k => k_is))
    case d42 => (refine' K7.def_mk ?a ?l ?c ?k; (case a => k_is); (case l => k_is); (case c => k_is); (case k => k_is))
    case d43 => (refine' K7.def_mk ?a ?l ?c ?k; (case a => k_is); (case l => k_is); (case c => k_is); (case k => k_is))
    case d44 => (refine' K7.def_mk ?a ?l ?c ?k; (case a => k_is); (case l => k_is); (case c => k_is); (case k => k_is))
    case cO => k_is
    case cM => k_is
    case cS => k_is
    case lS => k_is
    case lS2 => rfl
    case lS3 => rfl
    case lS4 => decide
    case lS5 => exact .cons ⟨_, rfl⟩ (.cons ⟨_, rfl⟩ (.cons ⟨_, rfl⟩ (.cons ⟨_, rfl⟩ (.cons ⟨_, rfl⟩ .nil))))
    case cC => k_is
    case lC => k_is
    case kC => exact ⟨⟨_, _, rfl, rfl⟩, ⟨_, _, rfl, rfl⟩, ⟨_, _, rfl, rfl⟩, ⟨_, _, rfl, rfl⟩, ⟨_, _, rfl, rfl⟩, trivial⟩
    case e0 => k_is
    case e1 => k_is
    case e2 => k_is
    case e3 => k_is
    case e4 => k_is
    case cT => k_is
    case cG => k_is
    case cB => k_is
    case lB => k_is
    case kB => exact ⟨⟨_, _, rfl, rfl⟩, ⟨_, _, rfl, rfl⟩, ⟨_, _, rfl, rfl⟩, ⟨_, _, rfl, rfl⟩, trivial⟩
    case b0 => k_is
    case b1 => k_is
    case b2 => k_is
    case b3 => k_is
    case zlen => k_is
    case zisinstance => k_is
    case zstr => k_is
    case zenumerate => k_is
    case zrange => k_is
    case zint => k_is
    case zrepr => k_is
    case ztuple => k_is
    case zlist => k_is
    case zbool => k_is
    case zsum => k_is
    case zmin => k_is
