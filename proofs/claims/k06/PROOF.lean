import PyProof.Rows.All
import Wide.All
import OpenK.AllK
import Wide.FinOn
import PySem.Challenge.RW_netsredrawn_k06_whole_roots_and_what_com
import HandS.ForMost
import HandS.Wide
import HandS.EndBits
import PyProof.Draws
import HandS.Style
import HandS.ReplaceLit
import HandS.ReplaceList
import HandS.Text
import KE.DataMinMax
import PyProof.StrBlock2
import PyProof.Rows.TmSorted
import PyProof.Rows.StrMeet
import HandS.IsInst
import HandS.More
import KE.LtSeq
import HandS.DictTup
import HandS.Conv
import HandS.Evl
import HandS.Small
import PyProof.StrLawsRepr
import PyProof.CallFns
import HandS.RaiseMore
set_option Elab.async false
set_option linter.all false
set_option maxRecDepth 100000
set_option maxHeartbeats 4000001
/-! Additions to the hand layer: enumerate over a text; repr of data; defs that are called where no repr is under way. -/
namespace Nr
open PySem PySem.Spec PyProof.Rows L2

/-! ### enumerate(text) -/
def ItEs (x : Str) : It where
  go := fun i _ => i < x.cps.size
  yld := fun i H v H' => ∃ (T : Addr) (c : Nat), v = .ref T ∧ H T = none ∧ x.cps[i]? = some c ∧ H' = upd H T (.tup [.int (i : Nat), .str ⟨#[c]⟩])
  stop := fun i _ => x.cps.size ≤ i

/-- the iterator of a text gives its signs to whoever asks -/
theorem str_draws {prog : Program} {w : World} {A : Around} (hh : A.handled = none) (it : Addr) (x : Str) (t : Tok) {ty : String} (hty : ty = "str_ascii_iterator" ∨ ty = "str_iterator") :
    Draws prog w A it [it] x.cps.size (fun i v => ∃ c u, x.cps[i]? = some c ∧ v = .str ⟨#[c]⟩ u) (fun i h => h.IsStrIter it ty x t i) := by
  rcases hty with rfl | rfl
  · exact Draws.strAscii hh it x t
  · exact Draws.strWide hh it x t

def EsAt (e it : Addr) (ty : String) (x : Str) (t : Tok) (i : Nat) (h : Heap) : Prop :=
  (∃ old, IsEnum h e it ((i : Nat) : Int) old) ∧ (h.IsStrIter it ty x t i ∧ e ≠ it ∧ i ≤ x.cps.size)

theorem two_of {b e it : Addr} (h : b ∈ [e, it]) : b = e ∨ b = it := by
  rcases List.mem_cons.mp h with q | q
  · exact Or.inl q
  · exact Or.inr (List.mem_singleton.mp q)

theorem turn_es {P : Program} {w : World} {K : PySem.W.Frag} {elts : List Expr} {kk : Nat} {tpos : Pos} (e it : Addr) (x : Str) (t : Tok) (ty : String) (hty : ty = "str_ascii_iterator" ∨ ty = "str_iterator") :
    Turn P w K (.Tuple elts kk tpos) (ItEs x) [e, it] e (EsAt e it ty x t) where
  mem := List.mem_cons_self
  obj := by
    intro i h hs b hb
    obtain ⟨⟨old, he⟩, ⟨o, ho, _, hd⟩, _⟩ := hs
    rcases two_of hb with rfl | rfl
    · exact ⟨_, he, fun v q => nomatch q⟩
    · exact ⟨o, ho, fun v q => by
        rw [hd] at q
        cases q⟩
  keep := by
    intro i h h' hs k
    obtain ⟨⟨old, he⟩, ⟨o, ho, r⟩, ne, le⟩ := hs
    exact ⟨⟨old, k e List.mem_cons_self _ he⟩, ⟨o, k it (List.mem_cons_of_mem _ List.mem_cons_self) _ ho, r⟩, ne, le⟩
  item := by
    intro X hP hw hK hc i pins s σ H E I hf hs hi
    subst hP hw hK
    obtain ⟨⟨old, he⟩, hit, ne, le⟩ := hs
    have elt : e < s.heap.objs.size := Heap.lt_size he
    have ilt : it < s.heap.objs.size := by
      obtain ⟨_, q, _⟩ := hit
      exact Heap.lt_size q
    have D := str_draws (prog := X.prog) (w := X.w) (A := X.A.in1) (I.ok.hd hc) it x t hty
    have nin : e ∉ [it] := fun z => ne (List.mem_singleton.mp z)
    refine wpAny_pyNext_enum_itemD D he hit hi ne nin ?_
    intro u h' tk hu hout hit' hT hsz hk
    obtain ⟨c, tu, hc2, rfl⟩ := hu
    refine ⟨_, rfl, wpAny_letOwnedTupleGo_enum (s := { s with heap := h', toks := tk + 1 }) hout ?_⟩
    intro h2 he2 sb
    have hT2 := (sb.2 _ (Nat.ne_of_gt elt)).trans hT
    have new : ObjOk X.prog X.w (upd H s.heap.objs.size (.tup [.int (i : Nat), .str ⟨#[c]⟩])) h2 s.heap.objs.size (.tup [.int (i : Nat), .str ⟨#[c]⟩]) := by
      refine ⟨by show 2 ≤ sizeLine; decide, [.int i tk, .str ⟨#[c]⟩ tu], .cons ⟨_, rfl⟩ (.cons ⟨_, rfl⟩ .nil), ?_⟩
      exact ⟨_, hT2, rfl, _, rfl⟩
    have keep2 : ∀ b ob, b ∉ [e, it] → s.heap.get? b = some ob → h2.get? b = some ob := fun b ob hb q => by
      have n1 : b ≠ e := fun z => hb (by rw [z]; exact List.mem_cons_self)
      have n2 : b ≠ it := fun z => hb (by rw [z]; exact List.mem_cons_of_mem _ List.mem_cons_self)
      exact (sb.2 b n1).trans (hk b ob n1 n2 q)
    have I1 := I.turnedNew (ch := [e, it]) (t' := tk + 1) keep2 hf (Nat.le_refl _) new
    refine ⟨.ref s.heap.objs.size, _, I1, rfl, ⟨_, c, rfl, I.hok.fresh (Nat.le_refl _), hc2, rfl⟩, ⟨⟨.str ⟨#[c]⟩ tu, ?_⟩, ?_, ne, hi⟩, ?_⟩
    · have e1 : ((i + 1 : Nat) : Int) = (i : Int) + 1 := by omega
      rw [e1]
      exact he2
    · obtain ⟨o, ho, r⟩ := hit'
      exact ⟨o, (sb.2 it (Ne.symm ne)).trans ho, r⟩
    · intro b hb
      have lt : b < s.heap.objs.size := by
        rcases two_of hb with rfl | rfl
        · exact elt
        · exact ilt
      rw [upd_ne (Nat.ne_of_lt lt)]
      exact (hf b hb).1
  done := by
    intro X hP hw hK hc i pins s σ H E I hf hs hi
    subst hP hw hK
    obtain ⟨⟨old, he⟩, hit, ne, le⟩ := hs
    obtain ⟨f0, f1, f2, f3, f4, f5⟩ := hf it (List.mem_cons_of_mem _ List.mem_cons_self)
    have D := str_draws (prog := X.prog) (w := X.w) (A := X.A.in1) (I.ok.hd hc) it x t hty
    have ei : i = x.cps.size := Nat.le_antisymm le hi
    subst ei
    exact wpAny_pyNext_enum_endD D he hit fun h' eb => ⟨rfl, I.turned (t' := s.toks) (fun b o hb q => eb b o hb q) f0 f1 f3 f4 f5⟩
  self := by
    intro A i s Q E hs q
    obtain ⟨⟨old, he⟩, _⟩ := hs
    exact wpAny_pyIter_enum he q

def iEs (ta : TA) : TI := fun σ H R => ta σ H fun vs H1 => ∃ x, vs = [.str x] ∧ R (ItEs x) H1
theorem ity_of (x : Str) : strIterType x = "str_ascii_iterator" ∨ strIterType x = "str_iterator" := by
  unfold strIterType
  split
  · exact Or.inl rfl
  · exact Or.inr rfl
theorem pi_es {X : Cx} {e : Expr} {ta : TA} {p pos tpos : Pos} {elts : List Expr} {kk : Nat} (hg : Gl X "enumerate") (hm : X.mg "enumerate" = none) (ha : PA X [e] ta) (hs : starEach [e] X.env = [(false, eval e X.env)] := by rfl) :
    PI X (.Tuple elts kk tpos) (.Call (.Name "enumerate" p) [e] [] pos) (iEs ta) := by
  constructor
  intro pins s σ H R I h
  refine Call_ (ld_blt I hg hm boot_enumerate (PyProof.Rows.callWith_type1 (thn (ha.run pos pins s σ H _ I h) ?_) hs rfl))
  rintro us s1 ⟨vs, H1, I1, r1, x, rfl, q⟩
  cases r1 with
  | cons r rr =>
    cases rr
    obtain ⟨t, rfl⟩ := r
    refine call_enumerate_str fun h' he hit hsz hk => wpAny_pyIter_enum he ?_
    have I2 : L2.Inv X pins σ H1 { s1 with heap := h' } := I1.kept (t' := s1.toks) hk
    refine ⟨s1.heap.objs.size + 1, [s1.heap.objs.size + 1, s1.heap.objs.size], _, _, H1, rfl, I2, turn_es _ _ x t _ (ity_of x), ⟨⟨.none, he⟩, hit, Nat.succ_ne_self _, Nat.zero_le _⟩, ?_, q⟩
    intro b hb
    have hle : s1.heap.objs.size ≤ b := by
      rcases two_of hb with rfl | rfl
      · exact Nat.le_add_right _ _
      · exact Nat.le_refl _
    exact I1.fpOk hle (I1.hok.fresh hle)
end Nr

/-! repr of data; defs that are called where no repr is under way. -/
namespace Nr
open PySem PySem.Spec PyProof.Rows L2

/-! ### repr of lists and tuples of plain things -/
def rReprD (K : PySem.W.Frag) : List V → Hp → VK → Prop := fun xs H Q => ∃ (a : Addr) (d : PyData), xs = [.ref a] ∧ Dp K H (.ref a) d ∧
  (d.showable = true ∧ d.hasDict = false ∧ d.depth ≤ 60 ∧ d.shown.length ≤ sizeLine) ∧ Q (.str d.shown) H
theorem call_reprD {X : Cx} (hg : X.A.guards = some []) (hu : X.A.units + 64 < cLine) : CallR X (.builtin "repr") (rReprD X.K) := by
  intro pins s σ H xs us Q I r h
  obtain ⟨a, d, rfl, hd, ⟨h1, h2, h3, h4⟩, q⟩ := h
  obtain ⟨u, rfl, ru⟩ := vals1 r
  obtain ⟨as, rd⟩ := Dp.reads I d _ _ hd ru
  cases ru
  exact repr_of_reads' rd h1 (PyData.noDict_hsm h2) hg (by omega) (fun _ _ z => z) (fun h' v tk hk => ⟨.str d.shown, H, I.kept hk, ⟨v, rfl⟩, q⟩) h4

/-! ### a def that is called where no repr is under way -/
structure FnG (P : Program) (w : World) (K : PySem.W.Frag) (mg : Str → Option Value) (base : Heap) (CX : CXT) (k : Nat) (f : Addr) (fd : FuncData) (ps : List Str) (sp : Sp) : Prop where
  many : ∀ vs H Q E, sp vs H Q E → vs.length = ps.length
  goes : ∀ (A : Around), A.guards = some [] → Room k A → ∀ (outer : List Env) (s : Shared) (H : Hp), Env0 P w K mg base A outer s H →
    ∀ (args : Args) (us : List Value) (vs : List V), BindsTo s fd args (ps.zip us) → Vals vs us → ∀ (Q : VK) (E : XK), sp vs H Q E →
      codeAny (model P w) A (.call (.ref f) args) (CR CX outer P w H s Q E) s

section
variable {P : Program} {w : World} {K : PySem.W.Frag} {mg : Str → Option Value} {base : Heap} {CX : CXT} {k : Nat} {f : Addr} {fd : FuncData} {ps N : List Str} {sp : Sp}
theorem FnG.of (F : FnOk P w K mg base CX k f fd ps sp) : FnG P w K mg base CX k f fd ps sp :=
  ⟨F.len, fun A _ hr outer s H e0 args us vs hb hv Q E hs => F.run A outer s H args us vs Q E hr e0 hb hv hs⟩
theorem FnG.le {j : Nat} (F : FnG P w K mg base CX j f fd ps sp) (h : j ≤ k) : FnG P w K mg base CX k f fd ps sp :=
  ⟨F.many, fun A hg hr => F.goes A hg (hr.mono h)⟩

/-- the rule for such a def's body -/
theorem Fun.okG {x qual : Str} {st : Stmt} (F : Fun K x qual st f fd) (S : FnScope N ps (defScope st)) (len : ∀ vs H Q E, sp vs H Q E → vs.length = ps.length)
    (body : ∀ (cdv : Value) (A : Around) (outer : List Env) (s : Shared) (H : Hp) (vs : List V) (Q : VK) (E : XK), A.guards = some [] → Room k (A.deeper (envOfC qual (defScope st) s.heap.objs.size f cdv)) → sp vs H Q E →
      ∃ t, PSs (cxOf CX0 P w K mg base N qual (defScope st) f cdv A outer s H E).nox (defBody st) t ∧ t { nx := fun _ H' => Q .non H', rt := Q } (start N vs) H) :
    FnG P w K mg base CX0 (k + 1) f fd ps sp := by
  obtain ⟨oc, od, kV, doc, pm, an, cdv, ct, osl, rfl, lk, hcd⟩ := F.ex
  refine ⟨len, ?_⟩
  intro A hg hr outer s H e0 args us vs hb r Q E hsp
  have old : ∀ b o, base.get? b = some o → s.heap.get? b = some o := fun b o z => (e0.bs b o z).1
  have KX := e0.mod.kin.keeps old
  have slots : ∀ y ∈ ps.zip us, (defScope st).names.lookup y.1 = some .local ∨ ((defScope st).names.lookup y.1 = some .cell ∧ ((cellsFrom (s.heap.objs.size + 1) (defScope st).names []).lookup y.1).isSome = true) := by
    rintro ⟨n, v⟩ hy
    rcases S.par n (List.of_mem_zip hy).1 with q | q
    · exact Or.inl q
    · exact Or.inr ⟨q, PySem.W.cellsFrom_some _ _ _ (Or.inl q)⟩
  apply codeAny_call_function hr.depth (KX _ _ lk) rfl S.co S.gen rfl (PySem.W.codeRec_of KX hcd) (hb _ _ _ _ ?_)
  apply wpAny_newFunctionEnv_cells S.kind slots
  rintro env rfl s1 x
  refine ⟨(e0.mod.nolimit.keeps old).keeps x.toInCall.keep, codeAny_func ?_⟩
  obtain ⟨t, ht, hq⟩ := body cdv A outer s H vs Q E hg (hr.deeper _) hsp
  have I := inv_start (CX := CX0) (E := E) S hr.hd e0 (len _ _ _ _ hsp) r x
  refine wpAny_mono (ht.nox.run [] s1 (start N vs) H _ I hq) ?_ fun e s' z => z
  intro fl s' hs
  cases fl with
  | brk => exact hs.elim fun _ z => z.elim fun _ y => y.2.elim
  | cont => exact hs.elim fun _ z => z.elim fun _ y => y.2.elim
  | next =>
    obtain ⟨_, H', J, q⟩ := hs
    exact ⟨.non, H', J.os, J.bare, J.base, J.hok, rfl, q⟩
  | ret u =>
    obtain ⟨v, _, H', J, rv, q⟩ := hs
    exact ⟨v, H', J.os, J.bare, J.base, J.hok, rv, q⟩
end

section
variable {X : Cx} {CX : CXT} {k : Nat} {f : Addr} {fd : FuncData} {ps : List Str} {sp : Sp} {E : XK} {x : Str} {p pos : Pos} {e : Expr} {es : List Expr} {t : TA}
/-- f(e, ..) where no repr is under way -/
theorem pe_callG (F : FnG X.prog X.w X.K X.mg X.base CX k f fd ps sp) (hA : X.A.guards = some []) (hr : Room k X.A) (hg : Gl X x) (hm : X.mg x = some (.ref f)) (hk : PySem.W.keepIn X.K (.ref f) = true) (hb : Binds X.K fd ps [])
    (hx : Passes CX X E) (ha : PA X (e :: es) t) (hdb : (x == ("__debug__" : Str)) = false := by decide) (he : starEach (e :: es) X.env = (false, eval e X.env) :: starEach es X.env := by rfl)
    (hpl : (backTo pos (starEach es X.env)).any (·.1) = false := by rfl) : PE X (.Call (.Name x p) (e :: es) [] pos) (fun σ H Q => t σ H fun vs H1 => sp vs H1 Q E) := by
  constructor
  intro pins s σ H Q I h
  refine wpAny_Call_Name_kw (ld_glob I hg hm ?_ hdb)
  refine PySem.W.callWith_K (h₀ := X.base) I.ok.mod.kin hk (thn (ha.run pos pins s σ H _ I h) ?_) he hpl
  rintro us s1 ⟨vs, H1, I1, r, q⟩
  refine ⟨I1.kIn, ?_⟩
  have hl : (us ++ ([] : List Value)).length = ps.length := by
    rw [List.append_nil, ← r.length]
    exact F.many _ _ _ _ q
  have bd := hb s1 us I1.kIn hl
  rw [List.append_nil] at bd
  refine wpAny_call (codeAny_mono (F.goes X.A hA hr X.stack s1 H1 I1.env0 _ us vs bd r Q E q) ?_)
  intro rs s' z
  match rs, z with
  | .error e, z => exact hx pins σ H1 s1 e s' I1 z
  | .ok (.ret u), z => exact I1.after z
end
end Nr

/-! The end of a law's row for a def that is called where no repr is under way (callerA has none). -/
namespace Nr
open PySem PySem.Spec PyProof.Rows L2

section
variable {P : Program} {w : World} {K : PySem.W.Frag} {mg mb : Str → Option Value} {CX : CXT} {k : Nat} {fa a : Addr} {fd : FuncData} {x : Str} {sp : Sp} {s1 : Shared} {vs : List Value} {ns : List Int} {H : Hp}
/-- what the law's call wants at its end -/
def Ended (s1 : Shared) (r : Result) (s' : Shared) : Prop := r = .ok (.ret (.bool true)) ∧ OldK s1.heap s'.heap ∧ s'.os = s1.os ∧ AllBare s'.gens

/-- from a heap in which nothing is tracked but the script, if that -/
theorem begun (KX : K.In s1.heap) (hns : s1.heap.Ns mainGlobals mg) (hb : s1.heap.Ns builtinsNs mb) (hbb : ∀ x : Str, x ≠ "__name__" → mb x = bootBuiltins x) (hlim : s1.heap.NoLimit) (hg : s1.gens = #[])
    (ha : s1.heap.get? a = some { cls := .type "list", data := .seq vs.toArray }) (hr : Room k callerA)
    (F : ∀ base : Heap, K.In base → base.Ns mainGlobals mg → FnG P w K mg base CX k fa fd [x] sp) (bd : ∀ (s : Shared) (u : Value), BindsTo s fd ⟨[u], []⟩ [(x, u)])
    (hCX : ∀ H e s', CX [] H s1 (fun _ _ _ => False) e s' → False)
    (hO : Only H) (hok : HOk P w H s1.heap) (alone : ∀ b o, H b = some o → b = a ∧ K.lookup a = none)
    (q : sp [.ref a] H (fun v _ => v = .bl true) fun _ _ _ => False) :
    codeAny (model P w) callerA (.call (.ref fa) ⟨[.ref a], []⟩) (Ended s1) s1 := by
  have free : ∀ {b : Addr} {o : Obj}, s1.heap.get? b = some o → (∀ es ep, o.data ≠ .dict es ep) ∨ H b = none := by
    intro b o e
    cases z : H b with
    | none => exact Or.inr rfl
    | some u =>
      obtain ⟨rfl, _⟩ := alone b u z
      rw [ha] at e
      cases e
      exact Or.inl fun _ _ y => by cases y
  have nsB : ∀ {b : Addr} {m : Str → Option Value}, s1.heap.Ns b m → (hidT s1.heap H).Ns b m := by
    rintro b m ⟨o, es, ep, e, d, r⟩
    rcases free e with z | z
    · exact absurd d (z es ep)
    · exact ⟨o, es, ep, hidT_get e z, d, r⟩
  have inB : K.In (hidT s1.heap H) := by
    intro b o e
    refine hidT_get (KX b o e) ?_
    cases z : H b with
    | none => rfl
    | some u =>
      obtain ⟨rfl, y⟩ := alone b u z
      rw [y] at e
      cases e
  have md : Mod K mg (hidT s1.heap H) := by
    refine ⟨inB, nsB hns, ⟨mb, nsB hb, hbb⟩, ?_⟩
    obtain ⟨mc, l1, l2⟩ := hlim
    exact ⟨mc, nsB l1, l2⟩
  have e0 : Env0 P w K mg (hidT s1.heap H) callerA [] s1 H := by
    refine ⟨rfl, md, fun b o e => of_hidT e, Nat.le_of_eq (hidT_size _ _), trivial, ?_, hok, .of_eq hg⟩
    intro b hb
    exact (List.not_mem_nil hb).elim
  have run := (F _ inB (nsB hns)).goes callerA rfl hr [] s1 H e0 ⟨[.ref a], []⟩ [.ref a] [.ref a] (bd s1 (.ref a)) (.cons rfl .nil) _ _ q
  refine codeAny_mono run ?_
  intro r s' h
  match r, h with
  | .error e, h => exact (hCX H e s' h).elim
  | .ok (.ret u), h =>
    obtain ⟨v, H', os, bare, un, hok', rv, hv⟩ := h
    cases hv
    cases rv
    refine ⟨rfl, OldK.of_keep ?_, os, bare⟩
    intro b o e
    cases z : H b with
    | none => exact un.keep b o e z (fun y => List.not_mem_nil y) (fun y => List.not_mem_nil y)
    | some u =>
      rcases hO b with y | ⟨ob, xs, y⟩
      · rw [z] at y
        cases y
      · have g1 := (hok b _ y).1
        have g2 := (hok' b _ (un.frzs b ob _ y)).1
        rw [g1] at e
        cases e
        exact g2

theorem law_goes (KX : K.In s1.heap) (hns : s1.heap.Ns mainGlobals mg) (hb : s1.heap.Ns builtinsNs mb) (hbb : ∀ x : Str, x ≠ "__name__" → mb x = bootBuiltins x) (hlim : s1.heap.NoLimit) (hg : s1.gens = #[])
    (ha : s1.heap.get? a = some { cls := .type "list", data := .seq vs.toArray }) (hi : IntsAre vs ns) (hl : ns.length ≤ sizeLine) (hr : Room k callerA)
    (F : ∀ base : Heap, K.In base → base.Ns mainGlobals mg → FnG P w K mg base CX k fa fd [x] sp) (bd : ∀ (s : Shared) (u : Value), BindsTo s fd ⟨[u], []⟩ [(x, u)])
    (hCX : ∀ H e s', CX [] H s1 (fun _ _ _ => False) e s' → False)
    (hsp : ∀ H : Hp, Only H → SqL K H a (ns.map V.int) → sp [.ref a] H (fun v _ => v = .bl true) fun _ _ _ => False) :
    codeAny (model P w) callerA (.call (.ref fa) ⟨[.ref a], []⟩) (Ended s1) s1 := by
  have rv := vals_ints hi
  have nl := hi.length
  cases z : K.lookup a with
  | some o =>
    have e := (KX a o z).symm.trans ha
    cases e
    have oN : Only (fun _ => none) := fun _ => Or.inl rfl
    have sq : SqL K (fun _ => none) a (ns.map V.int) := by
      refine Or.inr ⟨_, vs.toArray, _, z, rfl, rfl, rfl, ?_, ?_⟩
      · rw [List.size_toArray, nl]
        exact hl
      · exact rv
    exact begun KX hns hb hbb hlim hg ha hr F bd hCX oN (fun _ _ y => nomatch y) (fun _ _ y => nomatch y) (hsp _ oN sq)
  | none =>
    let ob : Obj := { cls := .type "list", data := .seq vs.toArray }
    let H : Hp := upd (fun _ => none) a (.frz ob (.lst (ns.map V.int)))
    have at_a : H a = some (.frz ob (.lst (ns.map V.int))) := upd_same
    have other : ∀ b, b ≠ a → H b = none := fun b nb => upd_ne nb
    have oN : Only H := by
      intro b
      by_cases y : b = a
      · exact Or.inr ⟨ob, _, by rw [y]; exact at_a⟩
      · exact Or.inl (other b y)
    have al : ∀ b o, H b = some o → b = a ∧ K.lookup a = none := by
      intro b o y
      by_cases q : b = a
      · exact ⟨q, z⟩
      · rw [other b q] at y
        cases y
    refine begun (H := H) KX hns hb hbb hlim hg ha hr F bd hCX oN ?_ al (hsp H oN (Or.inl (Or.inr ⟨ob, at_a⟩)))
    intro b u y
    obtain ⟨rfl, _⟩ := al b u y
    rw [at_a] at y
    cases y
    exact ⟨ha, by rw [List.length_map]; exact hl, vs, _, rv, ha⟩
end

/-- a law's end from the promise of its def; the script's ints are below 2 ^ 1048576 -/
theorem walk_ofG {l : PySem.W.OpenLaw} {n k : Nat} {q : Program} {loose : List Str} {XP : (Str → Option Value) → Heap → Prop} {YP : World → Heap → Prop} {d : DefRec} {K : Params → PySem.W.Frag} {CX : World → CXT} {sp : World → Sp} {x : Str}
    (hn : l.most = some n) (hn2 : n ≤ sizeLine) (hdf : d.params.defaults = []) (hr : Room k callerA) (hY : ∀ (w : World) (h : Heap), YP w h → (K w.params).In h)
    (F : ∀ (w : World) (mg : Str → Option Value) (fa : Addr) (h : Heap), (K w.params).In h → h.Ns mainGlobals mg → mg d.name = some (.ref fa) →
      ∃ fd : FuncData, (∀ (s : Shared) (u : Value), BindsTo s fd ⟨[u], []⟩ [(x, u)]) ∧ ∀ base : Heap, (K w.params).In base → base.Ns mainGlobals mg → FnG l.prog w (K w.params) mg base (CX w) k fa fd [x] (sp w))
    (hsp : ∀ (w : World) (H : Hp) (a : Addr) (ns : List Int), ns.length ≤ n → (∀ z ∈ ns, Builtin.Int.intBits z ≤ 1048576) → Only H → SqL (K w.params) H a (ns.map V.int) → sp w [.ref a] H (fun v _ => v = .bl true) fun _ _ _ => False)
    (hCX : ∀ (w : World) (H : Hp) (s : Shared) (e : Value) (s' : Shared), CX w [] H s (fun _ _ _ => False) e s' → False) :
    PySem.W.WalkO q loose XP YP l.row.toRowW d [] (fun f vs => PySem.call f vs) := by
  apply Att.attach_callB hn hdf
  intro w s0 s1 mg mb fa o pm cd doc a vs ns G Y ho hd hcd hmg hobj hints hlen hbits hg
  have KX := hY w _ Y
  obtain ⟨fd, hb, hF⟩ := F w mg fa _ KX G.T.g hmg
  exact law_goes KX G.T.g G.T.b G.T.builtins G.T.nolimit hg hobj hints (Nat.le_trans hlen hn2) hr hF hb (fun H e s' => hCX w H s1 e s') fun H hO hS => hsp w H a ns hlen hbits hO hS
end Nr

/-! Words over 48, 49, 50 ("0", "1", "2"): the step by which a reduced word is led on, on stacks (the last sign first). -/
namespace Nw

/-- the signs of words -/
def Sg (c : Nat) : Prop := c = 48 ∨ c = 49 ∨ c = 50
def Wd (w : List Nat) : Prop := ∀ c ∈ w, Sg c

/-- lead a stack on by one sign -/
def step : List Nat → Nat → List Nat
  | [], c => [c]
  | a :: r, c =>
    if a = c then r
    else if c = 48 ∧ a = 50 then
      (match r with
      | 48 :: q => 50 :: q
      | r => 50 :: 48 :: r)
    else c :: a :: r

/-- two neighbors, the later one first, may stand in a reduced word -/
def Nb (a b : Nat) : Prop := a ≠ b ∧ ¬ (b = 50 ∧ a = 48)
/-- a stack of a reduced word -/
def Rd : List Nat → Prop
  | [] => True
  | [c] => Sg c
  | a :: b :: r => Sg a ∧ Nb a b ∧ Rd (b :: r)

theorem Rd.tail {a : Nat} {r : List Nat} (h : Rd (a :: r)) : Rd r := by
  cases r with
  | nil => trivial
  | cons b q => exact h.2.2
theorem Rd.head {a : Nat} {r : List Nat} (h : Rd (a :: r)) : Sg a := by
  cases r with
  | nil => exact h
  | cons b q => exact h.1
theorem Rd.wd : ∀ {r : List Nat}, Rd r → Wd r
  | [], _ => fun c h => by cases h
  | a :: r, h => fun c hc => by
    rcases List.mem_cons.mp hc with e | e
    · rw [e]; exact h.head
    · exact Rd.wd h.tail c e

theorem step_nil (c : Nat) : step [] c = [c] := rfl
def two (r : List Nat) : List Nat := match r with
  | 48 :: q => 50 :: q
  | r => 50 :: 48 :: r
theorem step_cons (a : Nat) (r : List Nat) (c : Nat) : step (a :: r) c = if a = c then r else if c = 48 ∧ a = 50 then two r else c :: a :: r := rfl
theorem rd_nil : Rd [] := trivial
theorem step_same (a : Nat) (r : List Nat) : step (a :: r) a = r := by
  rw [step_cons, if_pos rfl]
theorem step_push {a c : Nat} {r : List Nat} (h : Nb c a) : step (a :: r) c = c :: a :: r := by
  rw [step_cons, if_neg (fun e => h.1 e.symm), if_neg (fun e => h.2 ⟨e.2, e.1⟩)]
theorem step_02 (q : List Nat) : step (50 :: 48 :: q) 48 = 50 :: q := by
  rw [step_cons, if_neg (by decide), if_pos (by decide)]
  rfl
theorem step_2 {r : List Nat} (h : ∀ q, r ≠ 48 :: q) : step (50 :: r) 48 = 50 :: 48 :: r := by
  rw [step_cons, if_neg (by decide), if_pos (by decide)]
  unfold two
  cases r with
  | nil => rfl
  | cons b q =>
    split
    · next q' e => exact absurd e (h q')
    · rfl

/-- how a step goes: it takes off, it changes "02", it changes "2", it puts on -/
theorem step_ways {s : List Nat} (hs : Rd s) {c : Nat} (hc : Sg c) :
    (∃ r, s = c :: r ∧ step s c = r) ∨ (∃ q, c = 48 ∧ s = 50 :: 48 :: q ∧ step s c = 50 :: q) ∨
    (∃ r, c = 48 ∧ s = 50 :: r ∧ (∀ q, r ≠ 48 :: q) ∧ step s c = 50 :: 48 :: r) ∨ (step s c = c :: s ∧ ∀ a r, s = a :: r → Nb c a) := by
  cases s with
  | nil => exact .inr (.inr (.inr ⟨rfl, fun a r e => by cases e⟩))
  | cons a r =>
    by_cases e : a = c
    · subst e
      exact .inl ⟨r, rfl, step_same a r⟩
    · by_cases e2 : c = 48 ∧ a = 50
      · obtain ⟨rfl, rfl⟩ := e2
        by_cases e3 : ∃ q, r = 48 :: q
        · obtain ⟨q, rfl⟩ := e3
          exact .inr (.inl ⟨q, rfl, rfl, step_02 q⟩)
        · have h3 : ∀ q, r ≠ 48 :: q := fun q z => e3 ⟨q, z⟩
          exact .inr (.inr (.inl ⟨r, rfl, rfl, h3, step_2 h3⟩))
      · have nb : Nb c a := ⟨fun z => e z.symm, fun z => e2 ⟨z.2, z.1⟩⟩
        exact .inr (.inr (.inr ⟨step_push nb, fun a' r' z => by cases z; exact nb⟩))

theorem rd_cons {c : Nat} {s : List Nat} (hc : Sg c) (hs : Rd s) (h : ∀ a r, s = a :: r → Nb c a) : Rd (c :: s) := by
  cases s with
  | nil => exact hc
  | cons a r => exact ⟨hc, h a r rfl, hs⟩

theorem nb_of {a b : Nat} {r : List Nat} (h : Rd (a :: b :: r)) : Nb a b := h.2.1

theorem not48 {r : List Nat} (h : Rd (48 :: r)) : ∀ b q, r = b :: q → b = 49 := by
  intro b q e
  subst e
  have h1 := nb_of h
  have h2 := h.tail.head
  rcases h2 with z | z | z
  · exact absurd z.symm h1.1
  · exact z
  · exact absurd ⟨z, rfl⟩ h1.2

theorem step_rd {s : List Nat} (hs : Rd s) {c : Nat} (hc : Sg c) : Rd (step s c) := by
  rcases step_ways hs hc with ⟨r, rfl, e⟩ | ⟨q, rfl, rfl, e⟩ | ⟨r, rfl, rfl, h, e⟩ | ⟨e, h⟩
  · rw [e]; exact hs.tail
  · rw [e]
    refine rd_cons (.inr (.inr rfl)) hs.tail.tail fun a r z => ?_
    have := not48 hs.tail a r z
    subst this
    exact ⟨by decide, fun y => by cases y.1⟩
  · rw [e]
    refine rd_cons (.inr (.inr rfl)) (rd_cons (.inl rfl) hs.tail fun a q z => ?_) fun a q z => ?_
    · subst z
      have h1 := nb_of hs
      refine ⟨fun z => h q (by rw [← z]), fun y => h1.1 y.1.symm⟩
    · cases z
      exact ⟨by decide, fun y => by cases y.1⟩
  · rw [e]; exact rd_cons hc hs h

/-- a step is its own way back -/
theorem step_step {s : List Nat} (hs : Rd s) {c : Nat} (hc : Sg c) : step (step s c) c = s := by
  rcases step_ways hs hc with ⟨r, rfl, e⟩ | ⟨q, rfl, rfl, e⟩ | ⟨r, rfl, rfl, h, e⟩ | ⟨e, h⟩
  · rw [e]
    cases r with
    | nil => rfl
    | cons b q => exact step_push (nb_of hs)
  · rw [e]
    refine step_2 fun q' z => ?_
    have := not48 hs.tail 48 q' z
    cases this
  · rw [e]; exact step_02 r
  · rw [e]; exact step_same c s

theorem top_of {s : List Nat} (hs : Rd s) : s = [] ∨ (∃ r, s = 48 :: r) ∨ (∃ r, s = 49 :: r) ∨ (∃ r, s = 50 :: 48 :: r) ∨ (∃ r, s = 50 :: r ∧ ∀ q, r ≠ 48 :: q) := by
  cases s with
  | nil => exact .inl rfl
  | cons a r =>
    rcases hs.head with rfl | rfl | rfl
    · exact .inr (.inl ⟨r, rfl⟩)
    · exact .inr (.inr (.inl ⟨r, rfl⟩))
    · by_cases e : ∃ q, r = 48 :: q
      · obtain ⟨q, rfl⟩ := e
        exact .inr (.inr (.inr (.inl ⟨q, rfl⟩)))
      · exact .inr (.inr (.inr (.inr ⟨r, rfl, fun q z => e ⟨q, z⟩⟩)))

/-- 0 then 2 is 2 then 0 -/
theorem step_comm {s : List Nat} (hs : Rd s) : step (step s 48) 50 = step (step s 50) 48 := by
  rcases top_of hs with rfl | ⟨r, rfl⟩ | ⟨r, rfl⟩ | ⟨r, rfl⟩ | ⟨r, rfl, h⟩
  · rfl
  · rw [step_same]
    have e : step (48 :: r) 50 = 50 :: 48 :: r := step_push ⟨by decide, fun y => by cases y.2⟩
    rw [e, step_02]
    cases r with
    | nil => rfl
    | cons b q =>
      have := not48 hs b q rfl
      subst this
      exact step_push ⟨by decide, fun y => by cases y.2⟩
  · have e1 : step (49 :: r) 48 = 48 :: 49 :: r := step_push ⟨by decide, fun y => by cases y.1⟩
    have e2 : step (49 :: r) 50 = 50 :: 49 :: r := step_push ⟨by decide, fun y => by cases y.1⟩
    rw [e1, e2]
    rw [step_2 fun q z => by cases z]
    exact step_push ⟨by decide, fun y => by cases y.2⟩
  · rw [step_02, step_same, step_same, step_same]
  · rw [step_2 h, step_same, step_same]
    cases r with
    | nil => rfl
    | cons b q =>
      symm
      refine step_push ⟨fun z => h q (by rw [← z]), fun y => (nb_of hs).1 y.1.symm⟩

/-- lead a stack on by a word -/
def go (s w : List Nat) : List Nat := w.foldl step s
theorem go_nil (s : List Nat) : go s [] = s := rfl
theorem go_cons (s : List Nat) (c : Nat) (w : List Nat) : go s (c :: w) = go (step s c) w := rfl
theorem go_append (s u v : List Nat) : go s (u ++ v) = go (go s u) v := List.foldl_append ..
theorem go_snoc (s w : List Nat) (c : Nat) : go s (w ++ [c]) = step (go s w) c := by
  rw [go_append]; rfl
theorem go_rd {s : List Nat} (hs : Rd s) : ∀ {w : List Nat}, Wd w → Rd (go s w)
  | [], _ => hs
  | c :: w, h => by
    rw [go_cons]
    exact go_rd (step_rd hs (h c List.mem_cons_self)) fun d hd => h d (List.mem_cons_of_mem _ hd)

/-- the reduced word -/
def cut (w : List Nat) : List Nat := (go [] w).reverse
theorem wd_append {u v : List Nat} : Wd (u ++ v) ↔ Wd u ∧ Wd v :=
  ⟨fun h => ⟨fun c hc => h c (List.mem_append_left _ hc), fun c hc => h c (List.mem_append_right _ hc)⟩,
   fun h c hc => (List.mem_append.mp hc).elim (h.1 c) (h.2 c)⟩
theorem wd_rev {w : List Nat} : Wd w.reverse ↔ Wd w := ⟨fun h c hc => h c (List.mem_reverse.mpr hc), fun h c hc => h c (List.mem_reverse.mp hc)⟩
theorem cut_wd {w : List Nat} (h : Wd w) : Wd (cut w) := wd_rev.mpr (go_rd rd_nil h).wd

/-- a reduced stack is led to by its own word -/
theorem go_self : ∀ {s : List Nat}, Rd s → go [] s.reverse = s
  | [], _ => rfl
  | c :: r, h => by
    rw [List.reverse_cons, go_snoc, go_self h.tail]
    cases r with
    | nil => rfl
    | cons b q => exact step_push (nb_of h)
theorem cut_of_rd {w : List Nat} (h : Rd w.reverse) : cut w = w := by
  have := go_self h
  rw [List.reverse_reverse] at this
  unfold cut
  rw [this, List.reverse_reverse]
theorem rd_cut {w : List Nat} (h : Wd w) : Rd (cut w).reverse := by
  unfold cut
  rw [List.reverse_reverse]
  exact go_rd rd_nil h
theorem cut_cut {w : List Nat} (h : Wd w) : cut (cut w) = cut w := cut_of_rd (rd_cut h)

/-! ### whatever the signs do, if they are their own ways back and 0 and 2 go together -/
section
variable {α : Type} (f : α → Nat → α) (P : α → Prop)
structure Acts : Prop where
  stays : ∀ x c, P x → Sg c → P (f x c)
  back : ∀ x c, P x → Sg c → f (f x c) c = x
  comm : ∀ x, P x → f (f x 48) 50 = f (f x 50) 48
variable {f P}
theorem Acts.all (A : Acts f P) {x : α} (hx : P x) : ∀ {w : List Nat}, Wd w → P (w.foldl f x)
  | [], _ => hx
  | c :: w, h => A.all (A.stays x c hx (h c List.mem_cons_self)) fun d hd => h d (List.mem_cons_of_mem _ hd)
theorem fold_snoc (x : α) (w : List Nat) (c : Nat) : (w ++ [c]).foldl f x = f (w.foldl f x) c := by
  rw [List.foldl_append]; rfl
/-- one step of the stack -/
theorem Acts.one (A : Acts f P) {x : α} (hx : P x) {s : List Nat} (hs : Rd s) {c : Nat} (hc : Sg c) : (step s c).reverse.foldl f x = f (s.reverse.foldl f x) c := by
  have hw : ∀ {t : List Nat}, Rd t → P (t.reverse.foldl f x) := fun ht => A.all hx (wd_rev.mpr ht.wd)
  rcases step_ways hs hc with ⟨r, rfl, e⟩ | ⟨q, rfl, rfl, e⟩ | ⟨r, rfl, rfl, h, e⟩ | ⟨e, h⟩
  · rw [e, List.reverse_cons, fold_snoc, A.back _ _ (hw hs.tail) hc]
  · rw [e, List.reverse_cons, List.reverse_cons, List.reverse_cons, fold_snoc, fold_snoc, fold_snoc, A.comm _ (hw hs.tail.tail)]
    have h50 : Sg 50 := .inr (.inr rfl)
    rw [A.back _ 48 (A.stays _ _ (hw hs.tail.tail) h50) (.inl rfl)]
  · rw [e, List.reverse_cons, List.reverse_cons, List.reverse_cons, fold_snoc, fold_snoc, fold_snoc, A.comm _ (hw hs.tail)]
  · rw [e, List.reverse_cons, fold_snoc]
theorem Acts.snoc (A : Acts f P) {x : α} (hx : P x) : ∀ (n : Nat) (w : List Nat), w.length = n → Wd w → (cut w).foldl f x = w.foldl f x
  | 0, w, hn, _ => by
    have : w = [] := List.length_eq_zero_iff.mp hn
    subst this
    rfl
  | n + 1, w, hn, h => by
    have hne : w ≠ [] := fun z => by rw [z] at hn; cases hn
    have ew : w = w.dropLast ++ [w.getLast hne] := (List.dropLast_concat_getLast hne).symm
    have hl : w.dropLast.length = n := by rw [List.length_dropLast]; omega
    rw [ew] at h ⊢
    generalize w.dropLast = v at h hl ⊢
    generalize w.getLast hne = c at h ⊢
    obtain ⟨hv, hc1⟩ := wd_append.mp h
    have hc : Sg c := hc1 c List.mem_cons_self
    have ih := A.snoc hx n v hl hv
    unfold cut at ih ⊢
    rw [go_snoc, A.one hx (go_rd rd_nil hv) hc, ih, fold_snoc]
/-- the reduced word does what the word does -/
theorem Acts.cut (A : Acts f P) {x : α} (hx : P x) {w : List Nat} (h : Wd w) : (Nw.cut w).foldl f x = w.foldl f x := A.snoc hx _ w rfl h
/-- a word, and then backwards -/
theorem Acts.home (A : Acts f P) : ∀ {w : List Nat} {x : α}, P x → Wd w → w.reverse.foldl f (w.foldl f x) = x
  | [], _, _, _ => rfl
  | c :: w, x, hx, h => by
    have hc : Sg c := h c List.mem_cons_self
    rw [List.reverse_cons, fold_snoc]
    have ih := A.home (w := w) (A.stays x c hx hc) fun d hd => h d (List.mem_cons_of_mem _ hd)
    show f (w.reverse.foldl f (w.foldl f (f x c))) c = x
    rw [ih, A.back x c hx hc]
end
theorem acts_step : Acts step Rd := ⟨fun _ _ h hc => step_rd h hc, fun _ _ h hc => step_step h hc, fun _ h => step_comm h⟩
theorem go_cut {s w : List Nat} (hs : Rd s) (h : Wd w) : go s (cut w) = go s w := acts_step.cut hs h
theorem go_home {s w : List Nat} (hs : Rd s) (h : Wd w) : go (go s w) w.reverse = s := acts_step.home hs h

theorem cut_app_r {u v : List Nat} (hu : Wd u) (hv : Wd v) : cut (u ++ cut v) = cut (u ++ v) := by
  unfold cut
  rw [go_append, go_append]
  exact congrArg List.reverse (go_cut (go_rd rd_nil hu) hv)
theorem cut_app_l {u v : List Nat} (hu : Wd u) : cut (cut u ++ v) = cut (u ++ v) := by
  unfold cut
  rw [go_append, go_append]
  have : go [] (go [] u).reverse = go [] u := go_self (go_rd rd_nil hu)
  rw [this]
theorem cut_app {u v : List Nat} (hu : Wd u) (hv : Wd v) : cut (cut u ++ cut v) = cut (u ++ v) := by
  rw [cut_app_l hu, cut_app_r hu hv]
/-- backwards of the reduced word, or of the word -/
theorem cut_rev {w : List Nat} (h : Wd w) : cut (cut w).reverse = cut w.reverse := by
  -- both lead from the stack of w to nothing; so they lead alike from every stack
  have hr : Wd w.reverse := wd_rev.mpr h
  have hcw := cut_wd h
  have hcr : Wd (cut w).reverse := wd_rev.mpr hcw
  have e1 : go (go [] w) (cut w).reverse = [] := by
    have := go_home (s := []) rd_nil hcw
    rw [go_cut rd_nil h] at this
    exact this
  have e2 : go (go [] w) w.reverse = [] := go_home rd_nil h
  -- go back by w from []: (go [] w.reverse) led on by w is []
  have key : ∀ {v : List Nat}, Wd v → go (go [] w) v = [] → go [] v = go [] w.reverse := by
    intro v hv e
    have f1 : go (go (go [] w) v) v.reverse = go [] w := go_home (go_rd rd_nil h) hv
    rw [e] at f1
    -- v.reverse leads [] to the stack of w
    have f2 : go (go [] v.reverse) v = [] := by
      have := go_home (s := []) rd_nil (wd_rev.mpr hv)
      rw [List.reverse_reverse] at this
      exact this
    -- go [] v: act by stack of v; show that go [] w.reverse = go [] v by uniqueness: cut (w ++ v) = []
    have g1 : cut (w ++ v) = [] := by
      unfold cut
      rw [go_append, e]
      rfl
    have g2 : go (go [] w.reverse) (cut (w ++ v)) = go (go [] w.reverse) (w ++ v) := go_cut (go_rd rd_nil hr) (wd_append.mpr ⟨h, hv⟩)
    rw [g1, go_append] at g2
    have g3 : go (go [] w.reverse) w = [] := by
      have := go_home (s := []) rd_nil hr
      rw [List.reverse_reverse] at this
      exact this
    rw [g3] at g2
    exact g2.symm
  unfold cut
  have := key hcr e1
  unfold cut at this
  rw [this]
/-- the words whose difference vanishes have one reduced word -/
theorem cut_eq_of {u v : List Nat} (hu : Wd u) (hv : Wd v) (h : cut (u.reverse ++ v) = []) : cut u = cut v := by
  have hr : Wd u.reverse := wd_rev.mpr hu
  have e : cut (u ++ cut (u.reverse ++ v)) = cut (u ++ (u.reverse ++ v)) := cut_app_r hu (wd_append.mpr ⟨hr, hv⟩)
  rw [h, List.append_nil, ← List.append_assoc] at e
  rw [e]
  unfold cut
  rw [go_append, go_append, go_home rd_nil hu]
end Nw

/-! Reduced words read forwards, their syllables, and one reduced word behind another one. -/
namespace Nw

def Fw : List Nat → Prop
  | [] => True
  | [c] => Sg c
  | a :: b :: r => Sg a ∧ Nb b a ∧ Fw (b :: r)
theorem Fw.tail {a : Nat} {r : List Nat} (h : Fw (a :: r)) : Fw r := by
  cases r with
  | nil => trivial
  | cons b q => exact h.2.2
theorem Fw.head {a : Nat} {r : List Nat} (h : Fw (a :: r)) : Sg a := by
  cases r with
  | nil => exact h
  | cons b q => exact h.1
theorem Fw.nb {a b : Nat} {r : List Nat} (h : Fw (a :: b :: r)) : Nb b a := h.2.1
theorem Fw.wd : ∀ {r : List Nat}, Fw r → Wd r
  | [], _ => fun c h => by cases h
  | a :: r, h => fun c hc => by
    rcases List.mem_cons.mp hc with e | e
    · rw [e]; exact h.head
    · exact Fw.wd h.tail c e
theorem rd_snoc : ∀ {t : List Nat} {b a : Nat}, Rd (t ++ [b]) → Nb b a → Sg a → Rd (t ++ [b] ++ [a])
  | [], b, a, h, n, s => ⟨h, n, s⟩
  | [c], b, a, h, n, s => ⟨h.1, h.2.1, rd_snoc (t := []) h.2.2 n s⟩
  | c :: d :: t, b, a, h, n, s => ⟨h.1, h.2.1, rd_snoc (t := d :: t) h.2.2 n s⟩
theorem snoc_rd : ∀ {t : List Nat} {b a : Nat}, Rd (t ++ [b] ++ [a]) → Rd (t ++ [b]) ∧ Nb b a ∧ Sg a
  | [], b, a, h => ⟨h.1, h.2.1, h.2.2⟩
  | [c], b, a, h => by
    obtain ⟨h1, h2, h3⟩ := h
    obtain ⟨k1, k2, k3⟩ := snoc_rd (t := []) h3
    exact ⟨⟨h1, h2, k1⟩, k2, k3⟩
  | c :: d :: t, b, a, h => by
    obtain ⟨h1, h2, h3⟩ := h
    obtain ⟨k1, k2, k3⟩ := snoc_rd (t := d :: t) h3
    exact ⟨⟨h1, h2, k1⟩, k2, k3⟩
theorem fw_rd : ∀ {u : List Nat}, Fw u → Rd u.reverse
  | [], _ => trivial
  | [c], h => h
  | a :: b :: r, h => by
    have ih := fw_rd h.tail
    rw [List.reverse_cons, List.reverse_cons]
    rw [List.reverse_cons] at ih
    exact rd_snoc ih h.nb h.head
theorem rd_fw : ∀ {u : List Nat}, Rd u.reverse → Fw u
  | [], _ => trivial
  | [c], h => h
  | a :: b :: r, h => by
    rw [List.reverse_cons, List.reverse_cons] at h
    obtain ⟨h1, h2, h3⟩ := snoc_rd h
    rw [← List.reverse_cons] at h1
    exact ⟨h3, h2, rd_fw h1⟩
theorem fw_cut {u : List Nat} (h : Wd u) : Fw (cut u) := rd_fw (rd_cut h)
theorem cut_of_fw {u : List Nat} (h : Fw u) : cut u = u := cut_of_rd (fw_rd h)
theorem Fw.drop : ∀ {u : List Nat} (n : Nat), Fw u → Fw (u.drop n)
  | u, 0, h => h
  | [], n + 1, h => h
  | a :: r, n + 1, h => Fw.drop (u := r) n h.tail
theorem Rd.drop : ∀ {u : List Nat} (n : Nat), Rd u → Rd (u.drop n)
  | u, 0, h => h
  | [], n + 1, h => h
  | a :: r, n + 1, h => Rd.drop (u := r) n h.tail

/-- what does not meet is put on as it is -/
theorem go_on : ∀ {s p : List Nat}, Rd p → Fw s → (∀ a r c q, p = a :: r → s = c :: q → Nb c a) → go p s = s.reverse ++ p
  | [], p, _, _, _ => rfl
  | c :: q, p, hp, hs, h => by
    have h1 : step p c = c :: p := by
      cases p with
      | nil => rfl
      | cons a r => exact step_push (h a r c q rfl rfl)
    have h2 : Rd (c :: p) := rd_cons hs.head hp fun a r e => h a r c q e rfl
    rw [go_cons, h1, go_on h2 hs.tail (fun a r d t e1 e2 => by cases e1; subst e2; exact hs.nb), List.reverse_cons, List.append_assoc]
    rfl

/-- the last syllable of a stack, and what is below it -/
def lastS : List Nat → List Nat × List Nat
  | 50 :: 48 :: r => ([48, 50], r)
  | c :: r => ([c], r)
  | [] => ([], [])
def firstS : List Nat → List Nat × List Nat
  | 48 :: 50 :: r => ([48, 50], r)
  | c :: r => ([c], r)
  | [] => ([], [])

theorem lastS_of {p : List Nat} (hp : Rd p) (hne : p ≠ []) :
    (∃ r, p = 50 :: 48 :: r ∧ lastS p = ([48, 50], r) ∧ (r = [] ∨ ∃ q, r = 49 :: q)) ∨
    (∃ c r, p = c :: r ∧ lastS p = ([c], r) ∧ (c = 49 ∨ ((c = 48 ∨ c = 50) ∧ (r = [] ∨ ∃ q, r = 49 :: q)))) := by
  cases p with
  | nil => exact absurd rfl hne
  | cons c r =>
    have b49 : ∀ {q : List Nat}, Rd (48 :: q) → q = [] ∨ ∃ t, q = 49 :: t := by
      intro q hq
      cases q with
      | nil => exact .inl rfl
      | cons b t => exact .inr ⟨t, by rw [not48 hq b t rfl]⟩
    rcases hp.head with e | e | e
    · subst e
      refine .inr ⟨48, r, rfl, ?_, .inr ⟨.inl rfl, b49 hp⟩⟩
      cases r <;> rfl
    · subst e
      refine .inr ⟨49, r, rfl, ?_, .inl rfl⟩
      cases r <;> rfl
    · subst e
      cases r with
      | nil => exact .inr ⟨50, [], rfl, rfl, .inr ⟨.inr rfl, .inl rfl⟩⟩
      | cons b q =>
        by_cases e : b = 48
        · subst e
          exact .inl ⟨q, rfl, rfl, b49 hp.tail⟩
        · have hb : b = 49 := by
            rcases hp.tail.head with z | z | z
            · exact absurd z e
            · exact z
            · exact absurd z.symm (nb_of hp).1
          subst hb
          exact .inr ⟨50, 49 :: q, rfl, rfl, .inr ⟨.inr rfl, .inr ⟨q, rfl⟩⟩⟩
theorem firstS_of {s : List Nat} (hs : Fw s) (hne : s ≠ []) :
    (∃ r, s = 48 :: 50 :: r ∧ firstS s = ([48, 50], r) ∧ (r = [] ∨ ∃ q, r = 49 :: q)) ∨
    (∃ c r, s = c :: r ∧ firstS s = ([c], r) ∧ (c = 49 ∨ ((c = 48 ∨ c = 50) ∧ (r = [] ∨ ∃ q, r = 49 :: q)))) := by
  cases s with
  | nil => exact absurd rfl hne
  | cons c r =>
    have b49 : ∀ {q : List Nat}, Fw (50 :: q) → q = [] ∨ ∃ t, q = 49 :: t := by
      intro q hq
      cases q with
      | nil => exact .inl rfl
      | cons b t =>
        refine .inr ⟨t, ?_⟩
        rcases hq.tail.head with z | z | z
        · exact absurd ⟨rfl, z⟩ hq.nb.2
        · rw [z]
        · exact absurd z hq.nb.1
    rcases hs.head with e | e | e
    · subst e
      cases r with
      | nil => exact .inr ⟨48, [], rfl, rfl, .inr ⟨.inl rfl, .inl rfl⟩⟩
      | cons b q =>
        rcases hs.tail.head with z | z | z
        · exact absurd z hs.nb.1
        · subst z
          exact .inr ⟨48, 49 :: q, rfl, rfl, .inr ⟨.inl rfl, .inr ⟨q, rfl⟩⟩⟩
        · subst z
          exact .inl ⟨q, rfl, rfl, b49 hs.tail⟩
    · subst e
      refine .inr ⟨49, r, rfl, ?_, .inl rfl⟩
      cases r <;> rfl
    · subst e
      refine .inr ⟨50, r, rfl, ?_, .inr ⟨.inr rfl, b49 hs⟩⟩
      cases r <;> rfl

/-- the same syllable: both vanish -/
theorem meet_same {p s : List Nat} (hp : Rd p) (hs : Fw s) (np : p ≠ []) (ns : s ≠ []) (h : (lastS p).1 = (firstS s).1) : go p s = go (lastS p).2 (firstS s).2 := by
  rcases lastS_of hp np with ⟨r, rfl, e, _⟩ | ⟨c, r, rfl, e, _⟩ <;> rcases firstS_of hs ns with ⟨q, rfl, f, _⟩ | ⟨d, q, rfl, f, _⟩ <;> rw [e, f] at h <;> rw [e, f]
  · show go (step (step (50 :: 48 :: r) 48) 50) q = go r q
    rw [step_02, step_same]
  · cases h
  · cases h
  · cases h
    show go (step (c :: r) c) q = go r q
    rw [step_same]
/-- unlike ones, one of them "1": nothing meets -/
theorem meet_one {p s : List Nat} (hp : Rd p) (hs : Fw s) (np : p ≠ []) (ns : s ≠ []) (h : (lastS p).1 ≠ (firstS s).1) (h1 : (lastS p).1 = [49] ∨ (firstS s).1 = [49]) : go p s = s.reverse ++ p := by
  refine go_on hp hs fun a r c q e1 e2 => ?_
  subst e1 e2
  have ha := hp.head
  have hc := hs.head
  have key : a ≠ c ∧ (a = 49 ∨ c = 49) := by
    rcases lastS_of hp np with ⟨r', e0, e, _⟩ | ⟨a', r', e0, e, _⟩ <;> rcases firstS_of hs ns with ⟨q', f0, f, _⟩ | ⟨c', q', f0, f, _⟩ <;> rw [e, f] at h h1 <;> cases e0 <;> cases f0
    · exact absurd rfl h
    · rcases h1 with z | z
      · cases z
      · cases z; exact ⟨by decide, .inr rfl⟩
    · rcases h1 with z | z
      · cases z; exact ⟨by decide, .inl rfl⟩
      · cases z
    · refine ⟨fun z => h (by rw [z]), ?_⟩
      rcases h1 with z | z
      · cases z; exact .inl rfl
      · cases z; exact .inr rfl
  refine ⟨fun z => key.1 z.symm, fun z => ?_⟩
  rcases key.2 with y | y
  · rw [y] at z; cases z.1
  · rw [y] at z; cases z.2
/-- the codes of the syllables but "1" -/
def cdS (t : List Nat) : Nat := if t = [48] then 1 else if t = [50] then 2 else if t = [48, 50] then 3 else 4
def sgS (c : Nat) : List Nat := if c = 1 then [48] else if c = 2 then [50] else [48, 50]
theorem fin {a b m X q r : List Nat} (h : (sgS (cdS a ^^^ cdS b)).reverse = m) (e : X = q.reverse ++ (m ++ r)) : X = q.reverse ++ ((sgS (cdS a ^^^ cdS b)).reverse ++ r) := by
  rw [h]; exact e
/-- unlike ones, none of them "1": they are put together -/
theorem meet_two {p s : List Nat} (hp : Rd p) (hs : Fw s) (np : p ≠ []) (ns : s ≠ []) (h : (lastS p).1 ≠ (firstS s).1) (h1 : (lastS p).1 ≠ [49]) (h2 : (firstS s).1 ≠ [49]) :
    go p s = (firstS s).2.reverse ++ ((sgS (cdS (lastS p).1 ^^^ cdS (firstS s).1)).reverse ++ (lastS p).2) ∧ (cdS (lastS p).1 = 1 ∨ cdS (lastS p).1 = 2 ∨ cdS (lastS p).1 = 3) ∧ (cdS (firstS s).1 = 1 ∨ cdS (firstS s).1 = 2 ∨ cdS (firstS s).1 = 3) := by
  -- below and behind stands a "1" or nothing
  have rest : ∀ {m r q : List Nat}, (r = [] ∨ ∃ t, r = 49 :: t) → (q = [] ∨ ∃ t, q = 49 :: t) → Rd r → Fw q → (m = [48] ∨ m = [50] ∨ m = [50, 48]) → go (m ++ r) q = q.reverse ++ (m ++ r) := by
    intro m r q hr hq rr fq hm
    have nb : ∀ {x : Nat}, x = 48 ∨ x = 50 → ∀ a t, r = a :: t → Nb x a := by
      intro x hx a t e
      rcases hr with z | ⟨t', z⟩
      · rw [z] at e; cases e
      · rw [z] at e; cases e
        rcases hx with y | y <;> subst y
        · exact ⟨by decide, fun y => by cases y.1⟩
        · exact ⟨by decide, fun y => by cases y.1⟩
    have hrd : Rd (m ++ r) := by
      rcases hm with e | e | e <;> subst e
      · exact rd_cons (.inl rfl) rr (nb (.inl rfl))
      · exact rd_cons (.inr (.inr rfl)) rr (nb (.inr rfl))
      · exact rd_cons (.inr (.inr rfl)) (rd_cons (.inl rfl) rr (nb (.inl rfl))) fun a t e => by cases e; exact ⟨by decide, fun y => by cases y.2⟩
    refine go_on hrd fq fun a t c u e1 e2 => ?_
    rcases hq with z | ⟨t', z⟩
    · rw [z] at e2; cases e2
    · rw [z] at e2; cases e2
      rcases hm with e | e | e <;> subst e <;> cases e1 <;> exact ⟨by decide, fun y => by cases y.2⟩
  have st : ∀ {x : Nat} {r : List Nat}, (x = 48 ∨ x = 50) → (r = [] ∨ ∃ t, r = 49 :: t) → step r x = x :: r := by
    intro x r hx hr
    rcases hr with z | ⟨t, z⟩ <;> subst z
    · rfl
    · rcases hx with y | y <;> subst y
      · exact step_push ⟨by decide, fun y => by cases y.1⟩
      · exact step_push ⟨by decide, fun y => by cases y.1⟩
  have s2 : ∀ {r : List Nat}, (r = [] ∨ ∃ t, r = 49 :: t) → step (50 :: r) 48 = 50 :: 48 :: r := by
    intro r hr
    refine step_2 fun q e => ?_
    rcases hr with z | ⟨t, z⟩ <;> rw [z] at e <;> cases e
  have s0 : ∀ {r : List Nat}, step (48 :: r) 50 = 50 :: 48 :: r := step_push ⟨by decide, fun y => by cases y.2⟩
  rcases lastS_of hp np with ⟨r, rfl, e, hr⟩ | ⟨a, r, rfl, e, hr⟩
  · rcases firstS_of hs ns with ⟨q, rfl, f, hq⟩ | ⟨c, q, rfl, f, hq⟩
    · rw [e, f] at h; exact absurd rfl h
    · rw [e] at h h1 ⊢; rw [f] at h h2 ⊢
      rcases hq with z | ⟨z, hq⟩
      · subst z; exact absurd rfl h2
      · have fq := hs.tail
        rcases z with z | z <;> subst z
        · refine ⟨?_, .inr (.inr rfl), .inl rfl⟩
          show go (step (50 :: 48 :: r) 48) q = _
          rw [step_02]
          exact fin (by dsimp only; decide) (rest (m := [50]) hr hq hp.tail.tail fq (.inr (.inl rfl)))
        · refine ⟨?_, .inr (.inr rfl), .inr (.inl rfl)⟩
          show go (step (50 :: 48 :: r) 50) q = _
          rw [step_same]
          exact fin (by dsimp only; decide) (rest (m := [48]) hr hq hp.tail.tail fq (.inl rfl))
  · rcases hr with z | ⟨z, hr⟩
    · rw [e] at h1; subst z; exact absurd rfl h1
    · rcases firstS_of hs ns with ⟨q, rfl, f, hq⟩ | ⟨c, q, rfl, f, hq⟩
      · rw [e] at h h1 ⊢; rw [f] at h h2 ⊢
        have fq := hs.tail.tail
        rcases z with z | z <;> subst z
        · refine ⟨?_, .inl rfl, .inr (.inr rfl)⟩
          show go (step (step (48 :: r) 48) 50) q = _
          rw [step_same, st (.inr rfl) hr]
          exact fin (by dsimp only; decide) (rest (m := [50]) hr hq hp.tail fq (.inr (.inl rfl)))
        · refine ⟨?_, .inr (.inl rfl), .inr (.inr rfl)⟩
          show go (step (step (50 :: r) 48) 50) q = _
          rw [s2 hr, step_same]
          exact fin (by dsimp only; decide) (rest (m := [48]) hr hq hp.tail fq (.inl rfl))
      · rw [e] at h h1 ⊢; rw [f] at h h2 ⊢
        rcases hq with y | ⟨y, hq⟩
        · subst y; exact absurd rfl h2
        · have fq := hs.tail
          rcases z with z | z <;> subst z <;> rcases y with y | y <;> subst y
          · exact absurd rfl h
          · refine ⟨?_, .inl rfl, .inr (.inl rfl)⟩
            show go (step (48 :: r) 50) q = _
            rw [s0]
            exact fin (by dsimp only; decide) (rest (m := [50, 48]) hr hq hp.tail fq (.inr (.inr rfl)))
          · refine ⟨?_, .inr (.inl rfl), .inl rfl⟩
            show go (step (50 :: r) 48) q = _
            rw [s2 hr]
            exact fin (by dsimp only; decide) (rest (m := [50, 48]) hr hq hp.tail fq (.inr (.inr rfl)))
          · exact absurd rfl h
end Nw

/-! Texts backwards, and then replaced. -/
namespace Nr
open PySem PySem.Spec PyProof.Rows L2

def revS (z : Str) : Str := ⟨z.cps.toList.reverse.toArray⟩
theorem revS_len (z : Str) : (revS z).length = z.length := by
  show z.cps.toList.reverse.toArray.size = z.cps.size
  rw [List.size_toArray, List.length_reverse, Array.length_toList]
theorem back_indices (n : Nat) : Builtin.Str.strSliceIndices none none (-1) n = (List.range n).reverse := by
  have h : Builtin.Str.strSliceIndices none none (-1) n = sliceRange ((n : Int) - 1) (-1) (-1) := rfl
  rw [h, PySem.W.krv_sliceRange, PySem.W.krv_range]
theorem back_text (z : Str) : (⟨((Builtin.Str.strSliceIndices none none (-1) z.length).filterMap (z.cps[·]?)).toArray⟩ : Str) = revS z := by
  rw [back_indices, List.filterMap_reverse]
  unfold revS
  rw [show z.length = z.cps.size from rfl, PySem.W.krv_all]

section
variable {X : Cx} {e : Expr} {te : TE} {k : Nat} {p1 p2 p3 pos : Pos}
def tRevS (te : TE) : TE := fun σ H Q => te σ H fun x H1 => ∃ z, x = .str z ∧ z.length ≤ sizeLine ∧ Q (.str (revS z)) H1
/-- e[::-1] of a text; a token is out behind it -/
theorem rev_run (he : PE X e te) {pins : List (Addr × Obj)} {σ : L2.St} {H : Hp} {Q : VK} {s : Shared} (I : L2.Inv X pins σ H s) (h : tRevS te σ H Q) :
    wpAny (model X.prog X.w) X.A (eval (.Subscript e (.Slice none none (some (.UnaryOp .USub (.Constant (.int 1) k p1) p2)) p3) pos) X.env) (fun v s' => 1 ≤ s'.toks ∧ EP X pins σ Q v s') X.xe s := by
  refine Subscript_ (thn (he.run pins s σ H _ I h) fun v s1 ⟨x, H1, I1, r1, z, ex, hz, q⟩ => ?_)
  subst ex
  obtain ⟨tz, rfl⟩ := r1
  apply wpAny_Slice
  refine thn (po_none.run pins s1 σ H1 (fun o G => o = none ∧ G = H1) I1 ⟨rfl, rfl⟩) ?_
  rintro vl s2 ⟨l, _, I2, pl, rfl, rfl⟩
  refine thn (po_none.run pins s2 σ _ (fun o G => o = none ∧ G = _) I2 ⟨rfl, rfl⟩) ?_
  rintro vu s3 ⟨u, _, I3, pu, rfl, rfl⟩
  refine thn ((po_some (pe_un un_neg pe_int)).run pins s3 σ _ (fun o G => o = some (-1) ∧ G = _) I3 ⟨1, rfl, -1, rfl, rfl, rfl⟩) ?_
  rintro vs s4 ⟨o, H4, I4, ps, rfl, rfl⟩
  have I5 := I4.kept (t' := s4.toks) (h' := s4.heap.push { cls := .type "slice", data := .fields #[vl, vu, vs] }) fun b ob y => Heap.get?_push_of_some _ y
  obtain ⟨l, rfl, hl⟩ := L2.IsPart.raw pl
  obtain ⟨u, rfl, hu⟩ := L2.IsPart.raw pu
  obtain ⟨t, rfl, ht⟩ := L2.IsPart.raw ps
  cases l with
  | some l => cases hl
  | none =>
  cases u with
  | some u => cases hu
  | none =>
  cases t with
  | none => cases ht
  | some t =>
  obtain ⟨i, ti⟩ := t
  cases ht
  refine tail_any (ops := [.str z tz, .ref s4.heap.objs.size]) (typeIs_str _ z tz) PySem.F.slot_str_getitem.lookup ?_ (by with_unfolding_all rfl)
  refine wpAny_getItem_str_slice (l := none) (u := none) (st := some (-1, ti)) ⟨_, Heap.get?_push_size _ rfl, rfl, rfl⟩ rfl ?_
  have e := back_text z
  show Made.post (if ((-1 : Int) == 1 && (Builtin.Str.strSliceIndices none none (-1) z.length).length == z.length) = true then Made.val (.str z tz) else Made.str ⟨((Builtin.Str.strSliceIndices none none (-1) z.length).filterMap (z.cps[·]?)).toArray⟩) _ _
  rw [if_neg (by intro y; cases y), e]
  refine ⟨?_, Nat.succ_le_succ (Nat.zero_le _), .str (revS z), H4, I5.tok _, ⟨_, rfl⟩, q⟩
  rw [revS_len]
  exact hz
theorem pe_revS (he : PE X e te) : PE X (.Subscript e (.Slice none none (some (.UnaryOp .USub (.Constant (.int 1) k p1) p2)) p3) pos) (tRevS te) :=
  ⟨fun pins s σ H Q I h => thn (rev_run he I h) fun v s' y => y.2⟩

/-- e[::-1].replace(a, b) of written texts -/
def tRevRepl (te : TE) (a b : Str) : TE := fun σ H Q => tRevS te σ H fun v H1 => ∃ z, v = .str z ∧ z.length + (z.length + 1) * b.length ≤ 16777216 ∧ Q (.str (Txt.replace z a b)) H1
theorem pe_revRepl {a b : Str} {j m : Nat} {c0 c1 apos pos2 : Pos} (he : PE X e te) (hab : (a == b) = false := by decide)
    (hst : starEach [.Constant (.str a) j c0, .Constant (.str b) m c1] X.env = [(false, eval (.Constant (.str a) j c0) X.env), (false, eval (.Constant (.str b) m c1) X.env)] := by rfl)
    (hbase : attributeBase (.Subscript e (.Slice none none (some (.UnaryOp .USub (.Constant (.int 1) k p1) p2)) p3) pos) "replace" X.env (eval (.Subscript e (.Slice none none (some (.UnaryOp .USub (.Constant (.int 1) k p1) p2)) p3) pos) X.env) =
      eval (.Subscript e (.Slice none none (some (.UnaryOp .USub (.Constant (.int 1) k p1) p2)) p3) pos) X.env := by rfl) (hline : (apos.endLine == pos2.line) = true := by rfl) :
    PE X (.Call (.Attribute (.Subscript e (.Slice none none (some (.UnaryOp .USub (.Constant (.int 1) k p1) p2)) p3) pos) "replace" apos) [.Constant (.str a) j c0, .Constant (.str b) m c1] [] pos2) (tRevRepl te a b) := by
  constructor
  intro pins s σ H Q I h
  refine PySem.Call_method2 hbase hst hline (thn (rev_run he I h) ?_)
  rintro v s1 ⟨hk, v', H1, I1, r1, z, rfl, hb, q⟩
  obtain ⟨tx, rfl⟩ := r1
  have n1 : s1.toks ≠ 0 := Nat.ne_of_gt hk
  have rest := PySem.SC.replace (prog := X.prog) (w := X.w) (A := X.A) (E := X.xe) (s := { s1 with toks := s1.toks + 1 + 1 }) (x := z) (y := a) (z := b) (t := tx) (u := s1.toks) (v := s1.toks + 1) (Q := EP X pins σ Q)
    n1 (Nat.succ_ne_zero _) (Nat.ne_of_lt (Nat.lt_succ_self _)) hab hb (fun t' k' => ⟨.str (Txt.replace z a b), H1, I1.tok k', ⟨t', rfl⟩, q⟩)
  refine ⟨"str", _, PySem.F.plainAttrs_str, PySem.F.slot_str_replace,
    PySem.F.type_str_replace, typeIs_str _ _ _, (fun _ y => nomatch y), ?_⟩
  apply Calls.callWith_builtin rfl
  apply Calls.evalArgs_plain
  refine Calls.spliced_cons (Calls.Constant_str
    (Calls.spliced_cons (Calls.Constant_str
      (Calls.spliced_nil ?_))))
  exact rest
end
end Nr

/-! min(xs) of a list of texts, as the layer's words. -/
namespace Nr
open PySem PySem.Spec PyProof.Rows L2
def rMinS (K : PySem.W.Frag) : List V → Hp → VK → Prop := fun vs H Q => ∃ (a : Addr) (x : Str) (xs : List Str), vs = [V.ref a] ∧ SqL K H a ((x :: xs).map V.str) ∧ ∀ m, m ∈ x :: xs → (∀ y ∈ x :: xs, ¬ (y.cps.toList < m.cps.toList)) → Q (.str m) H
theorem strs_depth : ∀ xs : List Str, PyData.depthAll (xs.map PyData.str) = 0
  | [] => rfl
  | x :: r => by
    show max (PyData.depth (.str x)) (PyData.depthAll (r.map PyData.str)) = 0
    rw [strs_depth r]
    rfl
theorem dp_strs {K : PySem.W.Frag} {H : Hp} : ∀ xs : List Str, DpAll K H (xs.map V.str) (xs.map PyData.str)
  | [] => .nil
  | x :: r => .cons (.str x) (dp_strs r)
theorem minD_strs (xs : List Str) : ∀ x : Str, ∃ m, PySem.W.minD (.str x) (xs.map PyData.str) = .str m ∧ m ∈ x :: xs ∧ ∀ y ∈ x :: xs, ¬ (y.cps.toList < m.cps.toList) := by
  induction xs with
  | nil => exact fun x => ⟨x, rfl, List.mem_cons_self, fun y hy => by rw [List.mem_singleton.mp hy]; exact List.lt_irrefl _⟩
  | cons k r ih =>
    intro x
    have e : PySem.W.minD (.str x) ((k :: r).map PyData.str) = PySem.W.minD (.str (if k.cps.toList < x.cps.toList then k else x)) (r.map PyData.str) := by
      unfold PySem.W.minD
      rw [List.map_cons, List.foldl_cons, PySem.W.dataLt_str]
      by_cases h : k.cps.toList < x.cps.toList
      · rw [if_pos (decide_eq_true h), if_pos h]
      · rw [if_neg (by rw [decide_eq_false h]; decide), if_neg h]
    obtain ⟨m, h1, h2, h3⟩ := ih (if k.cps.toList < x.cps.toList then k else x)
    refine ⟨m, e.trans h1, ?_, ?_⟩
    · rcases List.mem_cons.mp h2 with z | z
      · rw [z]
        split
        · exact List.mem_cons_of_mem _ List.mem_cons_self
        · exact List.mem_cons_self
      · exact List.mem_cons_of_mem _ (List.mem_cons_of_mem _ z)
    · have hm := h3 _ List.mem_cons_self
      intro y hy
      rcases List.mem_cons.mp hy with z | z
      · subst z
        by_cases h : k.cps.toList < y.cps.toList
        · rw [if_pos h] at hm
          exact fun z => hm (List.lt_trans h z)
        · rw [if_neg h] at hm
          exact hm
      · rcases List.mem_cons.mp z with z | z
        · subst z
          by_cases h : y.cps.toList < x.cps.toList
          · rw [if_pos h] at hm
            exact hm
          · rw [if_neg h] at hm
            intro w
            rcases List.le_total x.cps.toList y.cps.toList with q | q
            · exact hm (List.lt_of_le_of_lt q w)
            · have e : x.cps.toList = y.cps.toList := List.le_antisymm (show x.cps.toList ≤ y.cps.toList from h) q
              exact hm (e ▸ w)
        · exact h3 y (List.mem_cons_of_mem _ z)
theorem cr_minS {X : Cx} (hc : X.calm = true) (hu : X.A.units + 1 < cLine) : CallR X (.builtin "min") (rMinS X.K) := by
  intro pins s σ H vs us Q I r h
  obtain ⟨a, x, xs, rfl, hs, q⟩ := h
  obtain ⟨its, rv, hl, _⟩ := I.list hs
  rw [Vals.ref1 r]
  obtain ⟨as, hr⟩ := Dp.readsAll I ((x :: xs).map PyData.str) _ its (dp_strs _) rv
  obtain ⟨m, e, hm, hle⟩ := minD_strs xs x
  refine PySem.W.min_list_data (x := .str x) (xs := xs.map PyData.str) (I.ok.hd hc) hl.isList hr ⟨?_, ?_⟩ ?_ ?_
  · intro d hd d' hd'
    obtain ⟨z, _, rfl⟩ := List.mem_map.mp (show d ∈ (x :: xs).map PyData.str from hd)
    obtain ⟨z', _, rfl⟩ := List.mem_map.mp (show d' ∈ (x :: xs).map PyData.str from hd')
    rfl
  · intro d hd
    obtain ⟨z, _, rfl⟩ := List.mem_map.mp (show d ∈ (x :: xs).map PyData.str from hd)
    intro z
    cases z
  · have := strs_depth (x :: xs)
    rw [List.map_cons] at this
    rw [this]
    exact hu
  · intro i v h' tk bs _ rd hk
    rw [e] at rd
    obtain ⟨t, rfl, _⟩ := reads_str_inv rd
    exact ⟨.str m, H, I.kept hk, ⟨t, rfl⟩, q m hm hle⟩
end Nr

/-! A text done so many times; sorted lists of texts are told by what is in them. -/
namespace Nr
open PySem PySem.Spec PyProof.Rows L2 Builtin Builtin.Str
theorem mul_ok {x : Str} {k : Nat} (h : x.length * k ≤ 100000) (hk : k ≤ 100000) : MulOk x (k : Int) := by
  have p63 : (2 : Int) ^ 63 = 9223372036854775808 := by decide
  refine ⟨?_, fun h1 hb => ?_, fun _ _ => ?_⟩
  · rw [p63, decide_eq_false (by omega), decide_eq_false (by omega)]
    rfl
  ·
    have k0 : 0 < (k : Int) := by
      by_cases e : k = 0
      · subst e
        simp at *
      · omega
    have hx : (x.length : Int) ≤ 100000 := by
      have : x.length * 1 ≤ x.length * k := Nat.mul_le_mul_left _ (by omega)
      omega
    have : (x.length : Int) * k ≤ 2 ^ 63 - 1 := by
      have e1 : (x.length : Int) * k = ((x.length * k : Nat) : Int) := (Int.natCast_mul _ _).symm
      rw [p63, e1]
      omega
    have := (Int.le_ediv_iff_mul_le k0).mpr this
    omega
  · unfold tooLong
    have e : ((k : Int)).toNat = k := Int.toNat_natCast k
    rw [e]
    exact decide_eq_false (by rw [sizeLine_eq]; omega)
theorem op_mulS {X : Cx} : OpR X (binaryOp .Mult) (fun x y H Q => ∃ (a : Str) (k : Nat), x = .str a ∧ y = .int (k : Int) ∧ a.length * k ≤ 100000 ∧ k ≤ 100000 ∧ Q (.str (Txt.mul a (k : Int))) H) := by
  intro pins s σ H x y v u Q I rx ry h
  obtain ⟨a, k, rfl, rfl, h1, h2, q⟩ := h
  obtain ⟨t, rfl⟩ := rx
  obtain ⟨t', rfl⟩ := ry
  exact PySem.SB.mul (mul_ok h1 h2) fun t'' kk => ⟨.str (Txt.mul a (k : Int)), H, I.tok kk, ⟨t'', rfl⟩, q⟩
theorem fold_app (l : List (Array Nat)) : ∀ a : Array Nat, (l.foldl (· ++ ·) a).toList = a.toList ++ (l.map (·.toList)).flatten := by
  induction l with
  | nil => intro a; simp
  | cons x r ih => intro a; rw [List.foldl_cons, ih]; simp
theorem mul_list (u : List Nat) (k : Nat) : Txt.mul (⟨u.toArray⟩ : Str) (k : Int) = ⟨(List.replicate k u).flatten.toArray⟩ := by
  unfold Txt.mul
  cases k with
  | zero => rw [if_pos (by decide)]; rfl
  | succ k =>
    rw [if_neg (by omega)]
    split
    · next h =>
      rcases Bool.or_eq_true_iff.mp h with e | e
      · have : ((k + 1 : Nat) : Int) = 1 := by simpa using e
        have k0 : k = 0 := by omega
        subst k0
        simp
      · have : u = [] := by
          have h0 : (⟨u.toArray⟩ : Str).length = 0 := by simpa using e
          have h1 : u.length = 0 := h0
          exact List.length_eq_zero_iff.mp h1
        subst this
        simp
    · refine congrArg Str.mk (Array.toList_inj.mp ?_)
      rw [fold_app, Int.toNat_natCast]
      simp
theorem rise_all : ∀ (r : List Str) (x : Str), risingS x r = true → ∀ y ∈ r, x.cps.toList ≤ y.cps.toList
  | [], _, _, y, hy => by cases hy
  | z :: r, x, h, y, hy => by
    have h' : (!ltCps z.cps.toList x.cps.toList && risingS z r) = true := h
    obtain ⟨h1, h2⟩ := Bool.and_eq_true_iff.mp h'
    have xz : x.cps.toList ≤ z.cps.toList := by
      rw [ltCps_eq] at h1
      simpa using h1
    rcases List.mem_cons.mp hy with e | e
    · rw [e]; exact xz
    · exact List.le_trans xz (rise_all r z h2 y e)
theorem rise_tail {x : Str} : ∀ {r : List Str}, risingS x r = true → sortedS r = true
  | [], _ => rfl
  | z :: r, h => (Bool.and_eq_true_iff.mp (show (!ltCps z.cps.toList x.cps.toList && risingS z r) = true from h)).2
theorem str_le_anti {x y : Str} (h : x.cps.toList ≤ y.cps.toList) (k : y.cps.toList ≤ x.cps.toList) : x = y := by
  have e := List.le_antisymm h k
  cases x
  cases y
  exact congrArg Str.mk (Array.toList_inj.mp e)
theorem sorted_uniq : ∀ {ys zs : List Str}, ys.Perm zs → sortedS ys = true → sortedS zs = true → ys = zs
  | [], zs, p, _, _ => (List.nil_perm.mp p).symm
  | x :: r, [], p, _, _ => absurd (List.perm_nil.mp p) (by simp)
  | x :: r, z :: t, p, h1, h2 => by
    have hx : ∀ y ∈ x :: r, x.cps.toList ≤ y.cps.toList := fun y hy => by
      rcases List.mem_cons.mp hy with e | e
      · rw [e]; exact List.le_refl _
      · exact rise_all r x h1 y e
    have hz : ∀ y ∈ z :: t, z.cps.toList ≤ y.cps.toList := fun y hy => by
      rcases List.mem_cons.mp hy with e | e
      · rw [e]; exact List.le_refl _
      · exact rise_all t z h2 y e
    have e : x = z := str_le_anti (hx z (p.mem_iff.mpr List.mem_cons_self)) (hz x (p.mem_iff.mp List.mem_cons_self))
    subst e
    rw [sorted_uniq (List.Perm.cons_inv p) (rise_tail h1) (rise_tail h2)]
end Nr

namespace K6
open PySem PySem.Spec PyProof.Rows L2 Nr Nw

def topS (i : Nat) : Stmt := PySem.Challenge.pw_netsredrawn_k06_whole_roots_and_what_com.main.body.getD i (.Pass ⟨0, 0, 0, 0⟩)
abbrev sPutCode : Stmt := topS 8
theorem scPutCode : FnScope ["codes", "code", "last"] ["codes", "code"] (defScope sPutCode) := ⟨rfl, rfl, rfl, by decide +kernel, rfl, by decide +kernel, by decide +kernel⟩
abbrev sCoded : Stmt := topS 9
theorem scCoded : FnScope ["word", "codes", "sign"] ["word"] (defScope sCoded) := ⟨rfl, rfl, rfl, by decide +kernel, rfl, by decide +kernel, by decide +kernel⟩
abbrev sSpelledOut : Stmt := topS 10
theorem scSpelledOut : FnScope ["codes", "code"] ["codes"] (defScope sSpelledOut) := ⟨rfl, rfl, rfl, by decide +kernel, rfl, by decide +kernel, by decide +kernel⟩
abbrev sBackText : Stmt := topS 11
theorem scBackText : FnScope ["word"] ["word"] (defScope sBackText) := ⟨rfl, rfl, rfl, by decide +kernel, rfl, by decide +kernel, by decide +kernel⟩
abbrev sLastSyllable : Stmt := topS 12
theorem scLastSyllable : FnScope ["word", "end"] ["word", "end"] (defScope sLastSyllable) := ⟨rfl, rfl, rfl, by decide +kernel, rfl, by decide +kernel, by decide +kernel⟩
abbrev sFirstSyllable : Stmt := topS 13
theorem scFirstSyllable : FnScope ["word", "start"] ["word", "start"] (defScope sFirstSyllable) := ⟨rfl, rfl, rfl, by decide +kernel, rfl, by decide +kernel, by decide +kernel⟩
abbrev sJoinedText : Stmt := topS 14
theorem scJoinedText : FnScope ["word", "other", "end", "start", "tail", "head", "merged"] ["word", "other"] (defScope sJoinedText) := ⟨rfl, rfl, rfl, by decide +kernel, rfl, by decide +kernel, by decide +kernel⟩
abbrev sUnwound : Stmt := topS 15
theorem scUnwound : FnScope ["codes", "low", "high", "mover", "ring", "first", "last"] ["codes"] (defScope sUnwound) := ⟨rfl, rfl, rfl, by decide +kernel, rfl, by decide +kernel, by decide +kernel⟩
abbrev sStrangePlace : Stmt := topS 17
theorem scStrangePlace : FnScope ["text", "place", "sign"] ["text"] (defScope sStrangePlace) := ⟨rfl, rfl, rfl, by decide +kernel, rfl, by decide +kernel, by decide +kernel⟩
abbrev sNeedWord : Stmt := topS 18
theorem scNeedWord : FnScope ["word", "place"] ["word"] (defScope sNeedWord) := ⟨rfl, rfl, rfl, by decide +kernel, rfl, by decide +kernel, by decide +kernel⟩
abbrev sNeedCodes : Stmt := topS 21
theorem scNeedCodes : FnScope ["word", "codes"] ["word"] (defScope sNeedCodes) := ⟨rfl, rfl, rfl, by decide +kernel, rfl, by decide +kernel, by decide +kernel⟩
abbrev sLeastPeriod : Stmt := topS 22
theorem scLeastPeriod : FnScope ["row", "length"] ["row"] (defScope sLeastPeriod) := ⟨rfl, rfl, rfl, by decide +kernel, rfl, by decide +kernel, by decide +kernel⟩
abbrev sRoot : Stmt := topS 23
theorem scRoot : FnScope ["word", "codes", "length", "tail", "told", "mover", "ring"] ["word"] (defScope sRoot) := ⟨rfl, rfl, rfl, by decide +kernel, rfl, by decide +kernel, by decide +kernel⟩
abbrev sCommuting : Stmt := topS 24
theorem scCommuting : FnScope ["word", "codes", "told", "tail", "mover", "ring", "sign"] ["word"] (defScope sCommuting) := ⟨rfl, rfl, rfl, by decide +kernel, rfl, by decide +kernel, by decide +kernel⟩
abbrev sLawMixed : Stmt := topS 26
theorem scLawMixed : FnScope ["cell", "n", "blend"] ["cell", "n"] (defScope sLawMixed) := ⟨rfl, rfl, rfl, by decide +kernel, rfl, by decide +kernel, by decide +kernel⟩
abbrev sLawFolded : Stmt := topS 27
theorem scLawFolded : FnScope ["script", "found", "n", "cell"] ["script"] (defScope sLawFolded) := ⟨rfl, rfl, rfl, by decide +kernel, rfl, by decide +kernel, by decide +kernel⟩
abbrev sLawDraw : Stmt := topS 28
theorem scLawDraw : FnScope ["m", "limit", "n", "lot", "here", "cell"] ["m", "limit"] (defScope sLawDraw) := ⟨rfl, rfl, rfl, by decide +kernel, rfl, by decide +kernel, by decide +kernel⟩
abbrev sLawBegun : Stmt := topS 29
theorem scLawBegun : FnScope ["script", "m", "cell"] ["script"] (defScope sLawBegun) := ⟨rfl, rfl, rfl, by decide +kernel, rfl, by decide +kernel, by decide +kernel⟩
abbrev sLawLike : Stmt := topS 30
theorem scLawLike : FnScope ["got", "due"] ["got", "due"] (defScope sLawLike) := ⟨rfl, rfl, rfl, by decide +kernel, rfl, by decide +kernel, by decide +kernel⟩
abbrev sLawCut : Stmt := topS 31
theorem scLawCut : FnScope ["word", "kept", "sign"] ["word"] (defScope sLawCut) := ⟨rfl, rfl, rfl, by decide +kernel, rfl, by decide +kernel, by decide +kernel⟩
abbrev sLawWord : Stmt := topS 32
theorem scLawWord : FnScope ["m", "most", "turn"] ["m", "most"] (defScope sLawWord) := ⟨rfl, rfl, rfl, by decide +kernel, rfl, by decide +kernel, by decide +kernel⟩
abbrev sLawIsMirror : Stmt := topS 33
theorem scLawIsMirror : FnScope ["word"] ["word"] (defScope sLawIsMirror) := ⟨rfl, rfl, rfl, by decide +kernel, rfl, by decide +kernel, by decide +kernel⟩
abbrev sLawAllWords : Stmt := topS 34
theorem scLawAllWords : FnScope ["most", "turn", "found", "row", "longer", "word", "sign"] ["most"] (defScope sLawAllWords) := ⟨rfl, rfl, rfl, by decide +kernel, rfl, by decide +kernel, by decide +kernel⟩
abbrev sLawPieces : Stmt := topS 35
theorem scLawPieces : FnScope ["word", "found", "sign"] ["word"] (defScope sLawPieces) := ⟨rfl, rfl, rfl, by decide +kernel, rfl, by decide +kernel, by decide +kernel⟩
abbrev sLawRing : Stmt := topS 36
theorem scLawRing : FnScope ["word", "turn", "pieces", "way", "last", "first"] ["word"] (defScope sLawRing) := ⟨rfl, rfl, rfl, by decide +kernel, rfl, by decide +kernel, by decide +kernel⟩
abbrev sLawPowered : Stmt := topS 37
theorem scLawPowered : FnScope ["word", "times"] ["word", "times"] (defScope sLawPowered) := ⟨rfl, rfl, rfl, by decide +kernel, rfl, by decide +kernel, by decide +kernel⟩
abbrev sLawIsWord : Stmt := topS 38
theorem scLawIsWord : FnScope ["value", "sign"] ["value"] (defScope sLawIsWord) := ⟨rfl, rfl, rfl, by decide +kernel, rfl, by decide +kernel, by decide +kernel⟩
abbrev sLawRootTimes : Stmt := topS 39
theorem scLawRootTimes : FnScope ["short", "ring", "best", "many"] ["short"] (defScope sLawRootTimes) := ⟨rfl, rfl, rfl, by decide +kernel, rfl, by decide +kernel, by decide +kernel⟩
abbrev sLawPowers : Stmt := topS 40
theorem scLawPowers : FnScope ["word", "found", "times", "one"] ["word"] (defScope sLawPowers) := ⟨rfl, rfl, rfl, by decide +kernel, rfl, by decide +kernel, by decide +kernel⟩
abbrev sLaw : Stmt := topS 41
theorem scLaw : FnScope ["script", "m", "turn", "word", "short", "is_some", "told", "own", "answer", "plain", "mover", "other", "many", "rows", "one", "n"] ["script"] (defScope sLaw) := ⟨rfl, rfl, rfl, by decide +kernel, rfl, by decide +kernel, by decide +kernel⟩

/-- a def of the text, behind the top -/
def Has (K : PySem.W.Frag) (mg : Str → Option Value) (x : String) (st : Stmt) (ps : List Str) : Prop :=
  ∃ (f : Addr) (fd : FuncData), mg x = some (.ref f) ∧ Fun K x x st f fd ∧ Binds K fd ps []
/-- a def's promise, wherever the def stands -/
def Ok (P : Program) (w : World) (K : PySem.W.Frag) (mg : Str → Option Value) (base : Heap) (k : Nat) (x : String) (ps : List Str) (sp : Sp) : Prop :=
  ∃ (f : Addr) (fd : FuncData), mg x = some (.ref f) ∧ PySem.W.keepIn K (.ref f) = true ∧ Binds K fd ps [] ∧ FnOk P w K mg base CX0 k f fd ps sp
section
variable {P : Program} {w : World} {K : PySem.W.Frag} {mg : Str → Option Value} {base : Heap}
theorem ok_of {x : String} {st : Stmt} {ps : List Str} {k : Nat} {sp : Sp} (h : Has K mg x st ps) (f : ∀ (f : Addr) (fd : FuncData), Fun K x x st f fd → FnOk P w K mg base CX0 k f fd ps sp) : Ok P w K mg base k x ps sp := by
  obtain ⟨g, fd, h1, h2, h3⟩ := h
  exact ⟨g, fd, h1, h2.kp, h3, f g fd h2⟩
end
/-- a call of such a def -/
theorem pe_callO {X : Cx} {k j : Nat} {x : String} {ps : List Str} {sp : Sp} {p pos : Pos} {e : Expr} {es : List Expr} {t : TA} (O : Ok X.prog X.w X.K X.mg X.base k x ps sp) (hr : Room j X.A) (hkj : k ≤ j) (hg : Gl X x) (ha : PA X (e :: es) t)
    (hdb : ((x : Str) == ("__debug__" : Str)) = false := by decide) (he : starEach (e :: es) X.env = (false, eval e X.env) :: starEach es X.env := by rfl) (hpl : (backTo pos (starEach es X.env)).any (·.1) = false := by rfl) :
    PE X (.Call (.Name x p) (e :: es) [] pos) (tCall sp [] E0 t) := by
  obtain ⟨f, fd, h1, h2, h3, h4⟩ := O
  exact pe_call h4 (hr.mono hkj) hg h1 h2 h3 .nil pass0 ha hdb he hpl

/-- the text of a list of code points -/
def S (w : List Nat) : Str := ⟨w.toArray⟩
def Vi (cs : List Nat) : List V := cs.map fun (n : Nat) => V.int (n : Int)
def At (H : Hp) (l : Addr) (xs : List V) : Prop := H l = some (.lst xs)

structure Txt (w : World) (K : PySem.W.Frag) (mg : Str → Option Value) : Prop where
  one : ∃ t, mg "ONE" = some (.int 4 t)
  signs : ∃ a, mg "SIGNS" = some (.ref a) ∧ ∀ H, SqT K H a [.str (S []), .str (S [48]), .str (S [50]), .str (S [48, 50]), .str (S [49])]
  codes : ∃ a, mg "CODES" = some (.ref a) ∧ KDct K w a "0" (.int 1) ∧ KDct K w a "1" (.int 4) ∧ KDct K w a "2" (.int 2) ∧ KDct K w a "02" (.int 3) ∧ KDct K w a "" (.int 0)
  most : ∃ t, mg "MOST_SIGNS" = some (.int 9000 t)
  nlen : mg "len" = none
  nisinstance : mg "isinstance" = none
  nstr : mg "str" = none
  nenumerate : mg "enumerate" = none
  nrange : mg "range" = none
  nint : mg "int" = none
  nrepr : mg "repr" = none
  ntuple : mg "tuple" = none
  nlist : mg "list" = none
  nbool : mg "bool" = none
  nmax : mg "max" = none
  nsorted : mg "sorted" = none
  fPutCode : Has K mg "put_code" sPutCode ["codes", "code"]
  fCoded : Has K mg "coded" sCoded ["word"]
  fSpelledOut : Has K mg "spelled_out" sSpelledOut ["codes"]
  fBackText : Has K mg "back_text" sBackText ["word"]
  fLastSyllable : Has K mg "last_syllable" sLastSyllable ["word", "end"]
  fFirstSyllable : Has K mg "first_syllable" sFirstSyllable ["word", "start"]
  fJoinedText : Has K mg "joined_text" sJoinedText ["word", "other"]
  fUnwound : Has K mg "unwound" sUnwound ["codes"]
  fStrangePlace : Has K mg "strange_place" sStrangePlace ["text"]
  fNeedWord : Has K mg "need_word" sNeedWord ["word"]
  fNeedCodes : Has K mg "need_codes" sNeedCodes ["word"]
  fLeastPeriod : Has K mg "least_period" sLeastPeriod ["row"]
  fRoot : Has K mg "root" sRoot ["word"]
  fCommuting : Has K mg "commuting" sCommuting ["word"]
  fLawMixed : Has K mg "_law_mixed" sLawMixed ["cell", "n"]
  fLawFolded : Has K mg "_law_folded" sLawFolded ["script"]
  fLawDraw : Has K mg "_law_draw" sLawDraw ["m", "limit"]
  fLawBegun : Has K mg "_law_begun" sLawBegun ["script"]
  fLawLike : Has K mg "_law_like" sLawLike ["got", "due"]
  fLawCut : Has K mg "_law_cut" sLawCut ["word"]
  fLawWord : Has K mg "_law_word" sLawWord ["m", "most"]
  fLawIsMirror : Has K mg "_law_is_mirror" sLawIsMirror ["word"]
  fLawAllWords : Has K mg "_law_all_words" sLawAllWords ["most"]
  fLawPieces : Has K mg "_law_pieces" sLawPieces ["word"]
  fLawRing : Has K mg "_law_ring" sLawRing ["word"]
  fLawPowered : Has K mg "_law_powered" sLawPowered ["word", "times"]
  fLawIsWord : Has K mg "_law_is_word" sLawIsWord ["value"]
  fLawRootTimes : Has K mg "_law_root_times" sLawRootTimes ["short"]
  fLawPowers : Has K mg "_law_powers" sLawPowers ["word"]
  fLaw : Has K mg "law" sLaw ["script"]

/-! ### codes on stacks -/
def Cd (c : Nat) : Prop := c = 1 ∨ c = 2 ∨ c = 3 ∨ c = 4
instance (c : Nat) : Decidable (Cd c) := inferInstanceAs (Decidable (c = 1 ∨ c = 2 ∨ c = 3 ∨ c = 4))
def Alt : List Nat → Prop
  | [] => True
  | [c] => Cd c
  | a :: b :: r => Cd a ∧ ((a = 4 ∧ b ≠ 4) ∨ (a ≠ 4 ∧ b = 4)) ∧ Alt (b :: r)
theorem Alt.tail {a : Nat} {r : List Nat} (h : Alt (a :: r)) : Alt r := by
  cases r with
  | nil => trivial
  | cons b q => exact h.2.2
theorem Alt.head {a : Nat} {r : List Nat} (h : Alt (a :: r)) : Cd a := by
  cases r with
  | nil => exact h
  | cons b q => exact h.1
/-- led on by a code -/
def put : List Nat → Nat → List Nat
  | [], c => [c]
  | a :: r, c => if decide (a = 4) ≠ decide (c = 4) then c :: a :: r else if a = c then r else (a ^^^ c) :: r
theorem put_cons (a : Nat) (r : List Nat) (c : Nat) : put (a :: r) c = if decide (a = 4) ≠ decide (c = 4) then c :: a :: r else if a = c then r else (a ^^^ c) :: r := rfl
/-- the signs of a code, the last one first -/
def sg (c : Nat) : List Nat := if c = 1 then [48] else if c = 2 then [50] else if c = 3 then [50, 48] else [49]
def spell (s : List Nat) : List Nat := s.flatMap sg
def cd (c : Nat) : Nat := if c = 48 then 1 else if c = 50 then 2 else 4
theorem spell_cons (a : Nat) (r : List Nat) : spell (a :: r) = sg a ++ spell r := rfl
theorem below4 {a : Nat} {r : List Nat} (h : Alt (a :: r)) (ha : a ≠ 4) : r = [] ∨ ∃ q, r = 4 :: q := by
  cases r with
  | nil => exact .inl rfl
  | cons b q =>
    rcases h.2.1 with ⟨e, _⟩ | ⟨_, e⟩
    · exact absurd e ha
    · exact .inr ⟨q, by rw [e]⟩
theorem belowN {r : List Nat} (h : Alt (4 :: r)) : r = [] ∨ ∃ b q, r = b :: q ∧ (b = 1 ∨ b = 2 ∨ b = 3) := by
  cases r with
  | nil => exact .inl rfl
  | cons b q =>
    rcases h.2.1 with ⟨_, e⟩ | ⟨e, _⟩
    · rcases h.tail.head with z | z | z | z
      · exact .inr ⟨b, q, rfl, .inl z⟩
      · exact .inr ⟨b, q, rfl, .inr (.inl z)⟩
      · exact .inr ⟨b, q, rfl, .inr (.inr z)⟩
      · exact absurd z e
    · exact absurd rfl e
theorem put_alt {s : List Nat} (h : Alt s) {c : Nat} (hc : c = 1 ∨ c = 2 ∨ c = 4) : Alt (put s c) := by
  have hcd : Cd c := by rcases hc with e | e | e <;> subst e <;> decide
  cases s with
  | nil => exact hcd
  | cons a r =>
    have ha := h.head
    rw [put_cons]
    split
    · next e =>
      refine ⟨hcd, ?_, h⟩
      by_cases h1 : a = 4 <;> by_cases h2 : c = 4
      · exact absurd (by rw [h1, h2]) e
      · exact .inr ⟨h2, h1⟩
      · exact .inl ⟨h2, h1⟩
      · exact absurd (by rw [decide_eq_false h1, decide_eq_false h2]) e
    · split
      · exact h.tail
      · next e e2 =>
        -- both are below 4 and unlike
        have hx : a ≠ 4 ∧ c ≠ 4 := by
          by_cases h1 : a = 4 <;> by_cases h2 : c = 4
          · exact absurd (h1.trans h2.symm) e2
          · exact absurd (by rw [decide_eq_true h1, decide_eq_false h2]; decide) e
          · exact absurd (by rw [decide_eq_false h1, decide_eq_true h2]; decide) e
          · exact ⟨h1, h2⟩
        have hn : Cd (a ^^^ c) ∧ a ^^^ c ≠ 4 := by
          rcases ha with z | z | z | z <;> rcases hc with y | y | y <;> subst z <;> subst y <;> first | exact absurd rfl e2 | exact absurd rfl hx.1 | exact absurd rfl hx.2 | decide
        rcases below4 h hx.1 with z | ⟨q, z⟩
        · subst z; exact hn.1
        · subst z; exact ⟨hn.1, .inr ⟨hn.2, rfl⟩, h.tail⟩
/-- what a code does to the signs -/
theorem spell_put {s : List Nat} (h : Alt s) {c : Nat} (hc : Sg c) : spell (put s (cd c)) = step (spell s) c := by
  cases s with
  | nil => rcases hc with e | e | e <;> subst e <;> rfl
  | cons a r =>
    rcases h.head with z | z | z | z
    · subst z
      rcases below4 h (by decide) with y | ⟨q, y⟩ <;> subst y <;> rcases hc with e | e | e <;> subst e <;> rfl
    · subst z
      rcases below4 h (by decide) with y | ⟨q, y⟩ <;> subst y <;> rcases hc with e | e | e <;> subst e <;> rfl
    · subst z
      rcases below4 h (by decide) with y | ⟨q, y⟩ <;> subst y <;> rcases hc with e | e | e <;> subst e <;> rfl
    · subst z
      rcases belowN h with y | ⟨b, q, y, x⟩
      · subst y; rcases hc with e | e | e <;> subst e <;> rfl
      · subst y
        rcases x with x | x | x <;> subst x <;> rcases hc with e | e | e <;> subst e <;> rfl
def codesOf (w : List Nat) : List Nat := w.foldl (fun s c => put s (cd c)) []
theorem cd_of {c : Nat} (h : Sg c) : cd c = 1 ∨ cd c = 2 ∨ cd c = 4 := by
  rcases h with e | e | e <;> subst e <;> decide
theorem codes_go : ∀ {w : List Nat} {s : List Nat}, Alt s → Wd w → Alt (w.foldl (fun s c => put s (cd c)) s) ∧ spell (w.foldl (fun s c => put s (cd c)) s) = go (spell s) w
  | [], s, h, _ => ⟨h, rfl⟩
  | c :: w, s, h, hw => by
    have hc := hw c List.mem_cons_self
    have := codes_go (w := w) (s := put s (cd c)) (put_alt h (cd_of hc)) fun d hd => hw d (List.mem_cons_of_mem _ hd)
    rw [spell_put h hc] at this
    exact this
theorem put_length (s : List Nat) (c : Nat) : (put s c).length ≤ s.length + 1 := by
  cases s with
  | nil => exact Nat.le_refl _
  | cons a r =>
    rw [put_cons]
    split
    · exact Nat.le_refl _
    · split
      · exact Nat.le_succ_of_le (Nat.le_succ _)
      · exact Nat.le_succ _
end K6

namespace K6
open PySem PySem.Spec PyProof.Rows L2 Nr Nw
section
variable {P : Program} {w : World} {K : PySem.W.Frag} {mg : Str → Option Value} {base : Heap}

/-! ### put_code -/
def spPut : Sp := fun vs H Q _ => ∃ (l : Addr) (s : List Nat) (c : Nat), vs = [.ref l, .int (c : Int)] ∧ H l = some (.lst (Vi s.reverse)) ∧ Alt s ∧ (c = 1 ∨ c = 2 ∨ c = 4) ∧ s.length ≤ 100000 ∧ Q .non (upd H l (.lst (Vi (put s c).reverse)))
theorem vi_rev (a : Nat) (r : List Nat) : Vi (a :: r).reverse = Vi r.reverse ++ [.int (a : Int)] := by
  unfold Vi
  rw [List.reverse_cons, List.map_append]
  rfl
theorem vi_len (s : List Nat) : (Vi s).length = s.length := List.length_map ..
theorem xor_small {a c : Nat} (ha : a = 1 ∨ a = 2 ∨ a = 3) (hc : c = 1 ∨ c = 2 ∨ c = 3) : Builtin.bitXor (a : Int) (c : Int) = ((a ^^^ c : Nat) : Int) := by
  rcases ha with e | e | e <;> rcases hc with z | z | z <;> subst e <;> subst z <;> decide +kernel
theorem ok_put (T : Txt w K mg) : Ok P w K mg base 1 "put_code" ["codes", "code"] spPut := by
  refine ok_of T.fPutCode fun f fd F => ?_
  obtain ⟨tO, gO⟩ := T.one
  refine F.ok scPutCode (fun vs H Q E h => ?_) (fun cdv A outer s H vs Q E hr h => ?_)
  · obtain ⟨l, s, c, rfl, _⟩ := h
    rfl
  · obtain ⟨l, st, c, rfl, hl, ha, hc, hz, q⟩ := h
    refine ⟨_, pss_cons (ps_if (PW.pt (pw_or (pt_not (pt_truth (pv 0) (by intro _; rfl)))
        (pw_or1 (pt_cmpR op_ne (pe_cmpR op_eq (pe_ix ix_list (pv 0) (pe_un un_neg pe_int) (fun _ _ => rfl)) (pe_glob (v := .int 4) rfl gO ⟨_, rfl⟩) (nomark _)) (pe_cmpR op_eq (pv 1) (pe_glob (v := .int 4) rfl gO ⟨_, rfl⟩) (nomark _)) (nomark _)))))
        (pss_cons (ps_expr (pe_bm PySem.F.plainAttrs_list PySem.F.slot_list_append PySem.F.type_list_append mt_append (pv 0) (pa_cons (pv 1) pa_nil))) (pss_one ps_retN)) pss_nil)
      (pss_cons (ps_set (i := 2) scPutCode.nd rfl (.inl rfl) (pe_bm0 PySem.F.plainAttrs_list PySem.F.slot_list_pop PySem.F.type_list_pop mt_pop (pv 0)))
      (pss_one (ps_if (pt_cmpR op_ne (pv 2) (pv 1) (nomark _))
        (pss_one (ps_expr (pe_bm PySem.F.plainAttrs_list PySem.F.slot_list_append PySem.F.type_list_append mt_append (pv 0) (pa_cons (pe_op op_xor (pv 2) (pv 1)) pa_nil)))) pss_nil))), ?_⟩
    have size : (Vi st.reverse).length < sizeLine := by
      rw [vi_len, List.length_reverse]
      exact Nat.lt_of_le_of_lt hz (by decide)
    cases st with
    | nil =>
      refine ⟨.ref l, rfl, false, .inl ⟨[], .inl (.inl hl), rfl⟩, iteT (iteT ?_)⟩
      refine ⟨.ref l, rfl, .inl ⟨rfl, _, .inl (.inl hl)⟩, .int (c : Int), rfl, l, _, _, rfl, rfl, hl, size, ?_⟩
      exact q
    | cons a r =>
      have hv : H l = some (.lst (Vi r.reverse ++ [.int (a : Int)])) := by rw [← vi_rev]; exact hl
      refine ⟨.ref l, rfl, true, .inl ⟨_, .inl (.inl hl), ?_⟩, iteF ?_⟩
      · rw [vi_rev]
        cases Vi r.reverse <;> rfl
      refine ⟨.ref l, rfl, 1, rfl, l, _, _, _, rfl, rfl, .inl (.inl hv), atI_last _ _, rfl, .int (c : Int), rfl, rfl, rfl, _, rfl, ?_⟩
      have h4 : ∀ n : Nat, decide (V.int (n : Int) = V.int 4) = decide (n = 4) := by
        intro n
        by_cases e : n = 4
        · subst e; rfl
        · rw [decide_eq_false e, decide_eq_false]
          intro z
          exact e (by have := V.int.inj z; omega)
      have h5 : (!decide (V.bl (decide (V.int (a : Int) = V.int 4)) = V.bl (decide (V.int (c : Int) = V.int 4)))) = decide (decide (a = 4) ≠ decide (c = 4)) := by
        rw [h4, h4]
        cases decide (a = 4) <;> cases decide (c = 4) <;> rfl
      rw [h5]
      by_cases e : decide (a = 4) ≠ decide (c = 4)
      · rw [decide_eq_true e]
        refine iteT ?_
        refine ⟨.ref l, rfl, .inl ⟨rfl, _, .inl (.inl hl)⟩, .int (c : Int), rfl, l, _, _, rfl, rfl, hl, size, ?_⟩
        have e2 : put (a :: r) c = c :: a :: r := by rw [put_cons, if_pos e]
        rw [e2, vi_rev] at q
        exact q
      · rw [decide_eq_false e]
        refine iteF ?_
        refine ⟨.ref l, rfl, .inl ⟨rfl, _, .inl (.inl hl)⟩, l, _, .int (a : Int), rfl, rfl, hv, ?_, ?_⟩
        · rw [List.length_append]
          exact List.getElem?_concat_length
        rw [List.dropLast_concat]
        refine ⟨.int (a : Int), rfl, .int (c : Int), rfl, rfl, _, rfl, ?_⟩
        by_cases e2 : a = c
        · subst e2
          have e3 : put (a :: r) a = r := by rw [put_cons, if_neg e, if_pos rfl]
          rw [e3] at q
          rw [decide_eq_true rfl]
          exact iteF q
        · have e3 : put (a :: r) c = (a ^^^ c) :: r := by rw [put_cons, if_neg e, if_neg e2]
          have e4 : ¬ (V.int (a : Int) = V.int (c : Int)) := fun z => e2 (by have := V.int.inj z; omega)
          rw [decide_eq_false e4]
          refine iteT ?_
          have ha4 : a ≠ 4 ∧ c ≠ 4 := by
            by_cases h1 : a = 4 <;> by_cases h2 : c = 4
            · exact absurd (h1.trans h2.symm) e2
            · exact absurd (by rw [decide_eq_true h1, decide_eq_false h2]; decide) e
            · exact absurd (by rw [decide_eq_false h1, decide_eq_true h2]; decide) e
            · exact ⟨h1, h2⟩
          have hx : Builtin.bitXor (a : Int) (c : Int) = ((a ^^^ c : Nat) : Int) := by
            refine xor_small ?_ ?_
            · rcases ha.head with z | z | z | z
              · exact .inl z
              · exact .inr (.inl z)
              · exact .inr (.inr z)
              · exact absurd z ha4.1
            · rcases hc with z | z | z
              · exact .inl z
              · exact .inr (.inl z)
              · exact absurd z ha4.2
          refine ⟨.ref l, rfl, .inl ⟨rfl, _, .inl (.inl upd_same)⟩, .int (a : Int), rfl, .int (c : Int), rfl, (a : Int), (c : Int), rfl, rfl, l, _, _, rfl, rfl, upd_same, ?_, ?_⟩
          · rw [vi_len, List.length_reverse]
            have : r.length + 1 ≤ 100000 := hz
            exact Nat.lt_of_lt_of_le (Nat.lt_of_lt_of_le (Nat.lt_succ_self _) this) (by decide)
          · rw [e3, vi_rev] at q
            show Q .non (upd (upd H l (.lst (Vi r.reverse))) l (.lst (Vi r.reverse ++ [.int (Builtin.bitXor (a : Int) (c : Int))])))
            rw [hx, upd_upd]
            exact q

/-! ### coded -/
/-- a word as a text -/
def Wt (w : List Nat) : Prop := Wd w ∧ w.length ≤ 20000
def spCoded : Sp := fun vs H Q _ => ∃ u : List Nat, vs = [.str (S u)] ∧ Wt u ∧ ∀ (H' : Hp) (p : Addr), Same H H' → H p = none → H' p = some (.lst (Vi (codesOf u).reverse)) → Q (.ref p) H'
theorem take_next {α : Type} {u : List α} {i : Nat} (hi : i < u.length) : u.take (i + 1) = u.take i ++ [u[i]] := by
  rw [List.take_add_one, List.getElem?_eq_getElem hi]
  rfl
theorem codes_snoc (u : List Nat) (c : Nat) : codesOf (u ++ [c]) = put (codesOf u) (cd c) := by
  unfold codesOf
  rw [List.foldl_append]
  rfl
theorem codes_len : ∀ (n : Nat) (u : List Nat), u.length = n → (codesOf u).length ≤ n
  | 0, u, h => by
    rw [List.length_eq_zero_iff.mp h]
    exact Nat.le_refl _
  | n + 1, u, h => by
    have hne : u ≠ [] := fun z => by rw [z] at h; cases h
    rw [(List.dropLast_concat_getLast hne).symm, codes_snoc]
    have h1 := put_length (codesOf u.dropLast) (cd (u.getLast hne))
    have h2 := codes_len n u.dropLast (by rw [List.length_dropLast]; omega)
    omega
theorem codes_alt {u : List Nat} (h : Wd u) : Alt (codesOf u) := (codes_go (s := []) trivial h).1
theorem kd_sign {a : Addr} (h0 : KDct K w a "0" (.int 1)) (h1 : KDct K w a "1" (.int 4)) (h2 : KDct K w a "2" (.int 2)) {c : Nat} (hc : Sg c) : KDct K w a (S [c]) (.int (cd c : Int)) := by
  rcases hc with e | e | e <;> subst e
  · exact h0
  · exact h1
  · exact h2
theorem ok_coded (T : Txt w K mg) : Ok P w K mg base 2 "coded" ["word"] spCoded := by
  refine ok_of T.fCoded fun f fd F => ?_
  obtain ⟨aC, gC, k0, k1, k2, _⟩ := T.codes
  refine F.ok scCoded (fun vs H Q E h => ?_) (fun cdv A outer s H vs Q E hr h => ?_)
  · obtain ⟨u, rfl, _⟩ := h
    rfl
  · obtain ⟨u, rfl, ⟨hw, hz⟩, q⟩ := h
    refine ⟨_, pss_cons (ps_set (i := 1) scCoded.nd rfl (.inl rfl) (pe_lst pa_nil))
      (pss_cons (ps_for PassesOwn.never rfl (pi_str (pv 0)) (pg_name (i := 2) scCoded.nd rfl (.inl rfl))
        (pss_one (ps_expr (pe_callO (ok_put T) hr (by decide) (by rfl) (pa_cons (pv 1) (pa_cons (pe_ix ix_kdict (pe_glob (v := .ref aC) rfl gC rfl) (pv 2) (fun _ _ => rfl)) pa_nil))))))
      (pss_one (ps_ret (pv 1)))), ?_⟩
    refine ⟨Nat.zero_le _, fun l nl => ?_⟩
    have s1 : Same H (upd H l (.lst [])) := fun b x e => by
      rw [upd_ne (ne_of_none e nl)]
      exact e
    refine ⟨.str (S u), rfl, S u, rfl, fun i m σ H3 => ∃ y2, σ = [some (.str (S u)), some (.ref l), y2] ∧ i + m = u.length ∧ Same H H3 ∧ H3 l = some (.lst (Vi (codesOf (u.take i)).reverse)),
      ⟨u.length, none, rfl, by omega, s1, upd_same⟩, fun i m σ H3 hW => ?_⟩
    obtain ⟨y2, rfl, em, sm, el⟩ := hW
    by_cases hi : i < u.length
    · have hc : Sg u[i] := hw _ (List.getElem_mem hi)
      have ht : u.take (i + 1) = u.take i ++ [u[i]] := take_next hi
      have hwt : Wd (u.take i) := fun c hc => hw c (List.mem_of_mem_take hc)
      refine .inr ⟨?_, fun σ' H' => ∃ y2, σ' = [some (.str (S u)), some (.ref l), y2] ∧ Same H H' ∧ H' l = some (.lst (Vi (codesOf (u.take (i + 1))).reverse)), fun σ' H' hN => ?_, fun v H' hy => ?_⟩
      · show i < (S u).cps.size
        exact hi
      · obtain ⟨z2, e, sm', el'⟩ := hN
        exact ⟨m - 1, by omega, z2, e, by omega, sm', el'⟩
      · obtain ⟨rfl, c, ec, rfl⟩ := hy
        have e1 : c = u[i] := by
          have : (S u).cps[i]? = some u[i] := by
            show u.toArray[i]? = some u[i]
            rw [List.getElem?_toArray, List.getElem?_eq_getElem hi]
          rw [this] at ec
          exact (Option.some.inj ec).symm
        subst e1
        refine ⟨.ref l, rfl, .str (S [u[i]]), rfl, aC, S [u[i]], .int (cd u[i] : Int), rfl, rfl, kd_sign k0 k1 k2 hc, ?_⟩
        refine ⟨l, codesOf (u.take i), cd u[i], rfl, el, codes_alt hwt, cd_of hc, ?_, ?_⟩
        · have := codes_len _ (u.take i) rfl
          rw [List.length_take] at this
          omega
        · refine ⟨some (.str (S [u[i]])), rfl, fun b x e => ?_, ?_⟩
          · rw [upd_ne (ne_of_none e nl)]
            exact sm b x e
          · rw [upd_same, ht, codes_snoc]
    · refine .inl ⟨?_, .ref l, rfl, ?_⟩
      · show (S u).cps.size ≤ i
        show u.length ≤ i
        omega
      · rw [List.take_of_length_le (by omega)] at el
        exact q H3 l sm nl el

/-! ### spelled_out -/
def spSpelled (K : PySem.W.Frag) : Sp := fun vs H Q _ => ∃ (l : Addr) (s : List Nat), vs = [.ref l] ∧ SqL K H l (Vi s.reverse) ∧ Alt s ∧ s.length ≤ 20000 ∧ ∀ H', Same H H' → Q (.str (S (spell s).reverse)) H'
theorem yes {f : Bool → Hp → Prop} {σ : L2.St} {H : Hp} (h : f true H) : tYes σ H f := h
theorem sg_rev {c : Nat} (h : Cd c) : ∃ z, ([[], [48], [50], [48, 50], [49]] : List (List Nat))[c]? = some z ∧ z = (sg c).reverse ∧ z.length ≤ 2 := by
  rcases h with e | e | e | e <;> subst e
  · exact ⟨_, rfl, rfl, by decide⟩
  · exact ⟨_, rfl, rfl, by decide⟩
  · exact ⟨_, rfl, rfl, by decide⟩
  · exact ⟨_, rfl, rfl, by decide⟩
theorem Alt.all : ∀ {s : List Nat}, Alt s → ∀ c ∈ s, Cd c
  | [], _, c, hc => by cases hc
  | a :: r, h, c, hc => by
    rcases List.mem_cons.mp hc with e | e
    · rw [e]; exact h.head
    · exact Alt.all h.tail c e
/-- the texts of codes, the first code first -/
def texts (cs : List Nat) : List Str := cs.map fun c => S (sg c).reverse
theorem texts_sum : ∀ (cs : List Nat), ((texts cs).map (·.length)).sum ≤ 2 * cs.length
  | [] => Nat.le_refl _
  | c :: r => by
    have ih := texts_sum r
    have h : (S (sg c).reverse).length ≤ 2 := by
      show (sg c).reverse.length ≤ 2
      unfold sg
      split
      · decide
      · split
        · decide
        · split <;> decide
    show (S (sg c).reverse).length + ((texts r).map (·.length)).sum ≤ 2 * (r.length + 1)
    omega
theorem glue_list : ∀ (r : List Str) (a : Array Nat), (r.foldl (fun acc (p : Str) => acc ++ (S []).cps ++ p.cps) a).toList = a.toList ++ r.flatMap (·.cps.toList)
  | [], a => (List.append_nil _).symm
  | p :: r, a => by
    rw [List.foldl_cons, glue_list r, List.flatMap_cons]
    show ((a ++ #[]) ++ p.cps).toList ++ _ = _
    rw [Array.toList_append, Array.toList_append]
    show ((a.toList ++ []) ++ p.cps.toList) ++ _ = _
    rw [List.append_nil, List.append_assoc]
/-- texts joined by nothing -/
theorem join_flat (l : List (List Nat)) : Txt.join (S []) (l.map S) = S l.flatten := by
  cases l with
  | nil => rfl
  | cons a r =>
    have h := glue_list (r.map S) (S a).cps
    have e : Txt.join (S []) ((a :: r).map S) = ⟨(r.map S).foldl (fun acc (p : Str) => acc ++ (S []).cps ++ p.cps) (S a).cps⟩ := rfl
    rw [e]
    refine congrArg Str.mk (Array.toList_inj.mp ?_)
    rw [h, List.flatMap_map]
    show a ++ _ = (a ++ r.flatten)
    refine congrArg (a ++ ·) ?_
    rw [List.flatMap_def]
    refine congrArg List.flatten ?_
    exact List.map_id'' (fun _ => rfl) r
theorem join_texts (cs : List Nat) : Txt.join (S []) (texts cs) = S (spell cs.reverse).reverse := by
  have e : texts cs = (cs.map fun c => (sg c).reverse).map S := by
    unfold texts
    rw [List.map_map]
    rfl
  rw [e, join_flat]
  refine congrArg S ?_
  unfold spell
  rw [List.reverse_flatMap, List.reverse_reverse, List.flatMap_def]
  rfl
theorem ok_spelled (T : Txt w K mg) : Ok P w K mg base 1 "spelled_out" ["codes"] (spSpelled K) := by
  refine ok_of T.fSpelledOut fun f fd F => ?_
  obtain ⟨aS, gS, hS⟩ := T.signs
  refine F.ok scSpelledOut (fun vs H Q E h => ?_) (fun cdv A outer s H vs Q E hr h => ?_)
  · obtain ⟨l, st, rfl, _⟩ := h
    rfl
  · obtain ⟨l, st, rfl, hl, ha, hz, q⟩ := h
    refine ⟨_, pss_one (ps_ret (pe_join pe_str (pe_lc (own := [("code", 1)]) (g := gName 1) (tt := tYes) (by rfl) scSpelledOut.nd (pi_list (pv 0)) (blkOk_by (N := ["codes", "code"]) (sc := defScope sSpelledOut) (by decide +kernel))
      (fun _ _ _ _ _ => pg_name (i := 1) scSpelledOut.nd rfl (.inl rfl)) (fun _ _ _ _ _ => pts_nil) (fun _ _ _ _ _ => pe_ix (r := rIxT K) ix_tup (pe_glob (v := .ref aS) rfl gS rfl) (pv 1) (fun _ _ => rfl))))), ?_⟩
    have hlen : (Vi st.reverse).length = st.length := by rw [vi_len, List.length_reverse]
    refine ⟨⟨_, rfl⟩, .ref l, rfl, l, rfl, ⟨_, hl⟩, fun D nD => ?_⟩
    have s1 : Same H (upd H D (.lst [])) := fun b x e => by
      rw [upd_ne (ne_of_none e nD)]
      exact e
    refine lc_list (K := K) (a := l) (xs := Vi st.reverse) (fun i H' => Same H H' ∧ H' D = some (.lst ((texts (st.reverse.take i)).map V.str))) ⟨s1, upd_same⟩ (fun i H' hi h => h.1.seq hl) (fun i x H' hx h => ?_) (fun H' h => ?_)
    · obtain ⟨sm, eD⟩ := h
      have hx' : ∃ c, st.reverse[i]? = some c ∧ x = .int (c : Int) := by
        unfold Vi at hx
        rw [List.getElem?_map] at hx
        cases e : st.reverse[i]? with
        | none => rw [e] at hx; cases hx
        | some c => rw [e] at hx; exact ⟨c, rfl, (Option.some.inj hx).symm⟩
      obtain ⟨c, hc, rfl⟩ := hx'
      have hcd : Cd c := ha.all c (List.mem_reverse.mp (List.mem_of_getElem? hc))
      obtain ⟨z, hz1, hz2, hz3⟩ := sg_rev hcd
      refine ⟨rfl, yes (iteT ?_)⟩
      refine ⟨.int (c : Int), rfl, aS, _, _, .str (S z), rfl, rfl, hS _, atI_nat ?_, ?_⟩
      · rcases hcd with e | e | e | e <;> subst e <;> cases hz1 <;> rfl
      refine ⟨_, eD, ?_, fun b x e => ?_, ?_⟩
      · rw [List.length_map]
        unfold texts
        rw [List.length_map, List.length_take, List.length_reverse]
        exact Nat.lt_of_le_of_lt (Nat.le_trans (Nat.min_le_right _ _) hz) (by decide)
      · rw [upd_ne (ne_of_none e nD)]
        exact sm b x e
      · rw [upd_same]
        have e2 : st.reverse.take (i + 1) = st.reverse.take i ++ [c] := by
          rw [List.take_add_one, hc]
          rfl
        rw [e2]
        unfold texts
        rw [List.map_append, List.map_append, hz2]
        rfl
    · obtain ⟨sm, eD⟩ := h
      rw [hlen, List.take_of_length_le (by rw [List.length_reverse]; exact Nat.le_refl _)] at eD
      refine ⟨_, D, texts st.reverse, rfl, rfl, .inl (.inl (.inl eD)), ?_, ?_⟩
      · have := texts_sum st.reverse
        rw [List.length_reverse] at this
        have e0 : (S ([] : List Nat)).length = 0 := rfl
        show _ + _ * (S ([] : List Nat)).length ≤ _
        rw [e0]
        omega
      · have := join_texts st.reverse
        rw [List.reverse_reverse] at this
        have q' := q H' sm
        rw [← this] at q'
        exact q'
end
end K6

namespace K6
open PySem PySem.Spec PyProof.Rows L2 Nr Nw

/-! ### what the tests of "00", "11", "22", "20" tell -/
theorem fw_iff : ∀ {u : List Nat}, Wd u → (Fw u ↔ ∀ i a b, u[i]? = some a → u[i + 1]? = some b → Nb b a)
  | [], _ => ⟨fun _ i a b h => (by cases h), fun _ => trivial⟩
  | [c], h => ⟨fun _ i a b _ h2 => (by cases i <;> cases h2), fun _ => h c List.mem_cons_self⟩
  | x :: y :: r, h => by
    have ih := fw_iff (u := y :: r) fun d hd => h d (List.mem_cons_of_mem _ hd)
    constructor
    · intro f i a b h1 h2
      cases i with
      | zero =>
        cases h1
        cases h2
        exact f.nb
      | succ i => exact ih.mp f.tail i a b h1 h2
    · intro f
      exact ⟨h x List.mem_cons_self, f 0 x y rfl rfl, ih.mpr fun i a b h1 h2 => f (i + 1) a b h1 h2⟩
def oc (y u : List Nat) : Bool := !(Builtin.Str.occurrences (S u) (S y) 0 (S u).length 1).isEmpty
theorem sub_two (u : List Nat) (a b i : Nat) : (i + (S [a, b]).length ≤ (S u).length ∧ Builtin.Str.subAt (S u) (S [a, b]) i = true) ↔ (u[i]? = some a ∧ u[i + 1]? = some b) := by
  rw [PySem.StrLaws.subAt_eq]
  show (i + 2 ≤ u.length ∧ ((u.drop i).take 2 == [a, b]) = true) ↔ _
  rw [beq_iff_eq]
  constructor
  · rintro ⟨h1, h2⟩
    have e : ∀ j, j < 2 → u[i + j]? = ([a, b] : List Nat)[j]? := by
      intro j hj
      rw [← h2, List.getElem?_take, if_pos hj, List.getElem?_drop]
    exact ⟨e 0 (by decide), e 1 (by decide)⟩
  · rintro ⟨h1, h2⟩
    have l1 : i + 1 < u.length := (List.getElem?_eq_some_iff.mp h2).1
    refine ⟨l1, List.ext_getElem? fun j => ?_⟩
    rw [List.getElem?_take]
    split
    · next hj =>
      rw [List.getElem?_drop]
      match j, hj with
      | 0, _ => exact h1
      | 1, _ => exact h2
    · next hj =>
      match j, hj with
      | 0, hj => exact absurd (by decide) hj
      | 1, hj => exact absurd (by decide) hj
      | j + 2, _ => rfl
theorem oc_iff (a b : Nat) (u : List Nat) : oc [a, b] u = true ↔ ∃ i, u[i]? = some a ∧ u[i + 1]? = some b := by
  unfold oc
  rw [PySem.StrLaws.found_iff]
  exact ⟨fun ⟨i, h⟩ => ⟨i, (sub_two u a b i).mp h⟩, fun ⟨i, h⟩ => ⟨i, (sub_two u a b i).mpr h⟩⟩
def isRed (u : List Nat) : Bool := !(if oc [48, 48] u then true else if oc [49, 49] u then true else if oc [50, 50] u then true else oc [50, 48] u)
theorem isRed_iff {u : List Nat} (h : Wd u) : isRed u = true ↔ cut u = u := by
  have key : isRed u = true ↔ (oc [48, 48] u = false ∧ oc [49, 49] u = false ∧ oc [50, 50] u = false ∧ oc [50, 48] u = false) := by
    unfold isRed
    cases oc [48, 48] u <;> cases oc [49, 49] u <;> cases oc [50, 50] u <;> cases oc [50, 48] u <;> decide
  rw [key]
  have f2 : Fw u ↔ cut u = u := ⟨cut_of_fw, fun e => e ▸ fw_cut h⟩
  rw [← f2, fw_iff h]
  have no : ∀ {a b : Nat}, oc [a, b] u = false → ∀ i, u[i]? = some a → u[i + 1]? = some b → False := by
    intro a b e i h1 h2
    rw [(oc_iff a b u).mpr ⟨i, h1, h2⟩] at e
    cases e
  constructor
  · rintro ⟨h0, h1, h2, h3⟩ i a b e1 e2
    refine ⟨fun e => ?_, fun e => ?_⟩
    · subst e
      rcases h b (List.mem_of_getElem? e1) with z | z | z <;> subst z
      · exact no h0 i e1 e2
      · exact no h1 i e1 e2
      · exact no h2 i e1 e2
    · obtain ⟨rfl, rfl⟩ := e
      exact no h3 i e1 e2
  · intro f
    have yes : ∀ {a b : Nat}, ¬ Nb b a → oc [a, b] u = false := by
      intro a b n
      cases e : oc [a, b] u with
      | false => rfl
      | true =>
        obtain ⟨i, h1, h2⟩ := (oc_iff a b u).mp e
        exact absurd (f i a b h1 h2) n
    exact ⟨yes fun n => n.1 rfl, yes fun n => n.1 rfl, yes fun n => n.1 rfl, yes fun n => n.2 ⟨rfl, rfl⟩⟩

/-! ### backwards, and "20" written "02" -/
theorem repl_go : ∀ (n : Nat) (v p : List Nat), v.length ≤ n → Rd v → Rd p → (∀ a r c q, p = a :: r → v = c :: q → (a = 49 ∧ c ≠ 49) ∨ (a ≠ 49 ∧ c = 49)) → go p v = (PySem.StrLaws.replL [50, 48] [48, 50] v).reverse ++ p
  | n, [], p, _, _, _, _ => by rw [PySem.StrLaws.replL_nil]; rfl
  | 0, c :: q, p, hn, _, _, _ => by cases hn
  | n + 1, c :: q, p, hn, hv, hp, hc => by
    have nb : ∀ a r, p = a :: r → Nb c a := by
      intro a r e
      rcases hc a r c q e rfl with ⟨z, y⟩ | ⟨z, y⟩
      · subst z
        exact ⟨y, fun x => by cases x.1⟩
      · subst y
        exact ⟨fun x => z x.symm, fun x => by cases x.2⟩
    have s1 : step p c = c :: p := by
      cases p with
      | nil => rfl
      | cons a r => exact step_push (nb a r rfl)
    by_cases hit : ∃ t, q = 48 :: t ∧ c = 50
    · obtain ⟨t, rfl, rfl⟩ := hit
      have h1 : PySem.StrLaws.replL [50, 48] [48, 50] (50 :: 48 :: t) = [48, 50] ++ PySem.StrLaws.replL [50, 48] [48, 50] t := PySem.StrLaws.replL_hit (by decide) rfl
      have p49 : ∀ q', p ≠ 48 :: q' := by
        intro q' e
        rcases hc 48 q' 50 (48 :: t) e rfl with ⟨z, _⟩ | ⟨_, z⟩ <;> cases z
      have s2 : step (50 :: p) 48 = 50 :: 48 :: p := step_2 p49
      have hp2 : Rd (50 :: 48 :: p) := by
        rw [← s2, ← s1]
        exact step_rd (step_rd hp (.inr (.inr rfl))) (.inl rfl)
      rw [go_cons, go_cons, s1, s2, h1]
      have ih := repl_go n t (50 :: 48 :: p) (by simp only [List.length_cons] at hn; omega) hv.tail.tail hp2 fun a r d u e1 e2 => by
        cases e1
        subst e2
        exact .inr ⟨by decide, not48 hv.tail d u rfl⟩
      rw [ih, List.reverse_append, List.append_assoc]
      rfl
    · have h1 : PySem.StrLaws.replL [50, 48] [48, 50] (c :: q) = c :: PySem.StrLaws.replL [50, 48] [48, 50] q := by
        refine PySem.StrLaws.replL_miss fun e => hit ?_
        cases q with
        | nil => cases e
        | cons d t =>
          have e' : [c, d] = [50, 48] := e
          cases e'
          exact ⟨t, rfl, rfl⟩
      rw [go_cons, s1, h1]
      have ih := repl_go n q (c :: p) (by simp only [List.length_cons] at hn; omega) hv.tail (rd_cons hv.head hp nb) fun a r d u e1 e2 => by
        cases e1
        subst e2
        have n2 := nb_of hv
        have hd := hv.tail.head
        rcases hv.head with z | z | z
        · subst z
          exact .inr ⟨by decide, not48 hv d u rfl⟩
        · subst z
          exact .inl ⟨rfl, fun y => n2.1 y.symm⟩
        · subst z
          refine .inr ⟨by decide, ?_⟩
          rcases hd with y | y | y
          · exact absurd ⟨u, by rw [y], rfl⟩ hit
          · exact y
          · exact absurd y.symm n2.1
      rw [ih, List.reverse_cons, List.append_assoc]
      rfl
theorem repl_back {u : List Nat} (h : Fw u) : Txt.replace (revS (S u)) (S [50, 48]) (S [48, 50]) = S (cut u.reverse) := by
  have e := PySem.StrLaws.replace_list (x := revS (S u)) (y := S [50, 48]) (z := S [48, 50]) (by decide)
  have g := repl_go u.reverse.length u.reverse [] (Nat.le_refl _) (fw_rd h) rd_nil fun a r c q z _ => by cases z
  refine str_eq_of_lists ?_
  rw [e]
  show PySem.StrLaws.replL [50, 48] [48, 50] u.reverse = cut u.reverse
  unfold cut
  rw [g, List.append_nil, List.reverse_reverse]
theorem cut_len : ∀ (n : Nat) (u : List Nat), u.length = n → Wd u → (cut u).length ≤ n
  | 0, u, h, _ => by
    rw [List.length_eq_zero_iff.mp h]
    exact Nat.le_refl _
  | n + 1, u, h, hw => by
    have hne : u ≠ [] := fun z => by rw [z] at h; cases h
    have eu := (List.dropLast_concat_getLast hne).symm
    have hl : u.dropLast.length = n := by rw [List.length_dropLast]; omega
    rw [eu] at hw ⊢
    generalize u.dropLast = v at hw hl ⊢
    generalize u.getLast hne = c at hw ⊢
    obtain ⟨hv, hc⟩ := wd_append.mp hw
    have ih := cut_len n v hl hv
    have hs := go_rd rd_nil hv
    unfold cut at ih ⊢
    rw [go_snoc]
    rw [List.length_reverse] at ih ⊢
    rcases step_ways hs (hc c List.mem_cons_self) with ⟨r, e0, e⟩ | ⟨q, _, e0, e⟩ | ⟨r, _, e0, _, e⟩ | ⟨e, _⟩
    · rw [e0] at ih; rw [e]; simp only [List.length_cons] at ih; omega
    · rw [e0] at ih; rw [e]; simp only [List.length_cons] at ih ⊢; omega
    · rw [e0] at ih; rw [e]; simp only [List.length_cons] at ih ⊢; omega
    · rw [e]; simp only [List.length_cons]; omega
end K6

namespace K6
open PySem PySem.Spec PyProof.Rows L2 Nr Nw
section
variable {P : Program} {w : World} {K : PySem.W.Frag} {mg : Str → Option Value} {base : Heap}

/-! ### is_reduced_text, reduced_text, back_text -/
def spIsRed : Sp := fun vs H Q _ => ∃ u : List Nat, vs = [.str (S u)] ∧ Q (.bl (isRed u)) H
theorem or_yes {c : Bool} {A : Prop} {Q : Bool → Prop} (h1 : c = true → Q true) (h2 : c = false → A) : if c = true then Q true else A := by
  cases c with
  | true => exact iteT (h1 rfl)
  | false => exact iteF (h2 rfl)
def spRedText : Sp := fun vs H Q _ => ∃ u : List Nat, vs = [.str (S u)] ∧ Wt u ∧ ∀ H', Same H H' → Q (.str (S (cut u))) H'
def spBackText : Sp := fun vs H Q _ => ∃ u : List Nat, vs = [.str (S u)] ∧ Fw u ∧ u.length ≤ 20000 ∧ Q (.str (S (cut u.reverse))) H
theorem ok_backText (T : Txt w K mg) : Ok P w K mg base 1 "back_text" ["word"] spBackText := by
  refine ok_of T.fBackText fun f fd F => ?_
  refine F.ok scBackText (fun vs H Q E h => ?_) (fun cdv A outer s H vs Q E hr h => ?_)
  · obtain ⟨u, rfl, _⟩ := h
    rfl
  · obtain ⟨u, rfl, hf, hz, q⟩ := h
    refine ⟨_, pss_one (ps_ret (pe_revRepl (pv 0))), ?_⟩
    refine ⟨.str (S u), rfl, S u, rfl, Nat.le_trans hz (by decide), revS (S u), rfl, ?_, ?_⟩
    · rw [revS_len]
      show u.length + (u.length + 1) * 2 ≤ 16777216
      omega
    · have := repl_back hf
      show Q (.str (Txt.replace (revS (S u)) (S [50, 48]) (S [48, 50]))) H
      rw [this]
      exact q

theorem iteDT {p A B : Prop} [Decidable p] (h : p) (a : A) : if decide p = true then A else B := by
  rw [decide_eq_true h]
  exact iteT a
theorem iteDF {p A B : Prop} [Decidable p] (h : ¬ p) (b : B) : if decide p = true then A else B := by
  rw [decide_eq_false h]
  exact iteF b
theorem str_one {c d : Nat} (h : c ≠ d) : ¬ V.str ⟨#[c]⟩ = V.str (S [d]) := fun z => h (List.cons.inj (congrArg (fun x : Str => x.cps.toList) (V.str.inj z))).1
theorem str_is {c d : Nat} (h : c = d) : V.str ⟨#[c]⟩ = V.str (S [d]) := by
  rw [h]
  rfl
/-! ### syllables -/
def spLast : Sp := fun vs H Q _ => ∃ (u : List Nat) (e : Nat), vs = [.str (S u), .int (e : Int)] ∧ 0 < e ∧ e ≤ u.length ∧ u.length ≤ 20000 ∧ Q (.str (S (lastS (u.take e).reverse).1)) H
theorem at_str {u : List Nat} {i : Nat} {c : Nat} (h : u[i]? = some c) : atI (S u).cps.toList (i : Int) = some c := atI_nat (xs := u) h
theorem take_rev {u : List Nat} {e c : Nat} (h : u[e]? = some c) : (u.take (e + 1)).reverse = c :: (u.take e).reverse := by
  rw [List.take_add_one, h]
  show (u.take e ++ [c]).reverse = _
  rw [List.reverse_append]
  rfl
theorem lastS_one {c : Nat} {r : List Nat} (h : ¬ (c = 50 ∧ ∃ q, r = 48 :: q)) : (lastS (c :: r)).1 = [c] := by
  by_cases e : c = 50
  · subst e
    cases r with
    | nil => rfl
    | cons b q =>
      by_cases e2 : b = 48
      · subst e2
        exact absurd ⟨rfl, q, rfl⟩ h
      · unfold lastS
        split
        · next e3 => exact absurd (List.cons.inj (List.cons.inj e3).2).1 e2
        · next e3 => rw [(List.cons.inj e3).1]
        · next e3 => cases e3
  · unfold lastS
    split
    · next e3 => exact absurd (List.cons.inj e3).1 e
    · next e3 => rw [(List.cons.inj e3).1]
    · next e3 => cases e3
theorem firstS_one {c : Nat} {r : List Nat} (h : ¬ (c = 48 ∧ ∃ q, r = 50 :: q)) : (firstS (c :: r)).1 = [c] := by
  unfold firstS
  split
  · next e3 => exact absurd ⟨(List.cons.inj e3).1, _, (List.cons.inj e3).2⟩ h
  · next e3 => rw [(List.cons.inj e3).1]
  · next e3 => cases e3
theorem ok_last (T : Txt w K mg) : Ok P w K mg base 1 "last_syllable" ["word", "end"] spLast := by
  refine ok_of T.fLastSyllable fun f fd F => ?_
  refine F.ok scLastSyllable (fun vs H Q E h => ?_) (fun cdv A outer s H vs Q E hr h => ?_)
  · obtain ⟨u, e, rfl, _⟩ := h
    rfl
  · obtain ⟨u, e, rfl, h0, hl, hz, q⟩ := h
    refine ⟨_, pss_cons (ps_if (PW.pt (pw_and (pt_cmpR op_eq (pe_ix ix_str (pv 0) (pe_op op_sub (pv 1) pe_int) (fun _ _ => rfl)) pe_str (nomark _)) (pw_and (pt_cmpR op_gt (pv 1) pe_int (nomark _))
        (pw_and1 (pt_cmpR op_eq (pe_ix ix_str (pv 0) (pe_op op_sub (pv 1) pe_int) (fun _ _ => rfl)) pe_str (nomark _)))))) (pss_one (ps_ret pe_str)) pss_nil)
      (pss_one (ps_ret (pe_ix ix_str (pv 0) (pe_op op_sub (pv 1) pe_int) (fun _ _ => rfl)))), ?_⟩
    obtain ⟨d, rfl⟩ : ∃ d, e = d + 1 := ⟨e - 1, by omega⟩
    have hd : u[d]? = some u[d] := List.getElem?_eq_getElem (by omega)
    have ez : ((d + 1 : Nat) : Int) - 1 = (d : Int) := by omega
    have zl : (S u).length ≤ sizeLine := Nat.le_trans hz (by decide)
    have at_d : atI (S u).cps.toList (((d + 1 : Nat) : Int) - 1) = some u[d] := by rw [ez]; exact at_str hd
    have plain : (lastS (u.take (d + 1)).reverse).1 = [u[d]] → Q (.str ⟨#[u[d]]⟩) H := by
      intro e
      rw [e] at q
      exact q
    refine ⟨.str (S u), rfl, .int ((d + 1 : Nat) : Int), rfl, _, _, rfl, rfl, _, _, u[d], rfl, rfl, zl, at_d, rfl, _, rfl, ?_⟩
    rw [take_rev hd] at q plain
    by_cases h50 : u[d] = 50
    · refine iteDT (str_is h50) ⟨.int ((d + 1 : Nat) : Int), rfl, _, _, rfl, rfl, _, rfl, ?_⟩
      cases d with
      | zero =>
        refine iteF (iteF ?_)
        exact ⟨.str (S u), rfl, .int ((0 + 1 : Nat) : Int), rfl, _, _, rfl, rfl, _, _, _, rfl, rfl, zl, at_d, plain (lastS_one (by rintro ⟨_, q, e⟩; cases e))⟩
      | succ d =>
        have hd2 : u[d]? = some u[d] := List.getElem?_eq_getElem (by omega)
        have ez2 : ((d + 1 + 1 : Nat) : Int) - 2 = (d : Int) := by omega
        have at_d2 : atI (S u).cps.toList (((d + 1 + 1 : Nat) : Int) - 2) = some u[d] := by rw [ez2]; exact at_str hd2
        rw [take_rev hd2] at q plain
        refine iteDT (by omega) ⟨.str (S u), rfl, .int ((d + 1 + 1 : Nat) : Int), rfl, _, _, rfl, rfl, _, _, u[d], rfl, rfl, zl, at_d2, rfl, _, rfl, ?_⟩
        by_cases h48 : u[d] = 48
        · refine iteDT (str_is h48) ?_
          rw [h50, h48] at q
          exact q
        · refine iteDF (str_one h48) ?_
          exact ⟨.str (S u), rfl, .int ((d + 1 + 1 : Nat) : Int), rfl, _, _, rfl, rfl, _, _, _, rfl, rfl, zl, at_d, plain (lastS_one (by rintro ⟨_, q, e⟩; exact h48 (List.cons.inj e).1))⟩
    · refine iteDF (str_one h50) (iteF ?_)
      exact ⟨.str (S u), rfl, .int ((d + 1 : Nat) : Int), rfl, _, _, rfl, rfl, _, _, _, rfl, rfl, zl, at_d, plain (lastS_one fun e => h50 e.1)⟩

def spFirst : Sp := fun vs H Q _ => ∃ (u : List Nat) (e : Nat), vs = [.str (S u), .int (e : Int)] ∧ e < u.length ∧ u.length ≤ 20000 ∧ Q (.str (S (firstS (u.drop e)).1)) H
theorem cut_slice {u : List Nat} {a b : Nat} (ha : a ≤ u.length) (hab : a ≤ b) : cutS (S u) (some (a : Int)) (some (b : Int)) = S ((u.drop a).take (b - a)) := by
  unfold cutS
  have h1 : (S u).length = u.length := rfl
  rw [HT.sIx_nat, HT.sIx_nat, h1, Nat.min_eq_left ha]
  show (⟨((u.drop a).take (min b u.length - a)).toArray⟩ : Str) = S ((u.drop a).take (b - a))
  by_cases hb : b ≤ u.length
  · rw [Nat.min_eq_left hb]
    rfl
  · rw [Nat.min_eq_right (by omega)]
    rw [List.take_of_length_le (by rw [List.length_drop]; exact Nat.le_refl _), List.take_of_length_le (by rw [List.length_drop]; omega)]
    rfl
theorem cut_upto {u : List Nat} {b : Nat} (hb : b ≤ u.length) : cutS (S u) none (some (b : Int)) = S (u.take b) := by
  unfold cutS
  have h1 : (S u).length = u.length := rfl
  rw [HT.sIx_nat, HT.sIx_none, h1, Nat.min_eq_left hb]
  rfl
theorem cut_from {u : List Nat} {a : Nat} (ha : a ≤ u.length) : cutS (S u) (some (a : Int)) none = S (u.drop a) := by
  unfold cutS
  have h1 : (S u).length = u.length := rfl
  rw [HT.sIx_nat, HT.sIx_none, h1, Nat.min_eq_left ha]
  show (⟨((u.drop a).take (u.length - a)).toArray⟩ : Str) = S (u.drop a)
  rw [List.take_of_length_le (by rw [List.length_drop]; exact Nat.le_refl _)]
  rfl
theorem s_inj {a b : List Nat} (h : S a = S b) : a = b := congrArg (fun x : Str => x.cps.toList) h
theorem ok_first (T : Txt w K mg) : Ok P w K mg base 1 "first_syllable" ["word", "start"] spFirst := by
  refine ok_of T.fFirstSyllable fun f fd F => ?_
  refine F.ok scFirstSyllable (fun vs H Q E h => ?_) (fun cdv A outer s H vs Q E hr h => ?_)
  · obtain ⟨u, e, rfl, _⟩ := h
    rfl
  · obtain ⟨u, e, rfl, hl, hz, q⟩ := h
    refine ⟨_, pss_cons (ps_if (pt_cmpR op_eq (pe_slice sl_str (pv 0) (po_some (pv 1)) (po_some (pe_op op_add (pv 1) pe_int))) pe_str (nomark _)) (pss_one (ps_ret pe_str)) pss_nil)
      (pss_one (ps_ret (pe_ix ix_str (pv 0) (pv 1) (fun _ _ => rfl)))), ?_⟩
    have zl : (S u).length ≤ sizeLine := Nat.le_trans hz (by decide)
    have at_e : atI (S u).cps.toList (e : Int) = some u[e] := at_str (List.getElem?_eq_getElem hl)
    have ed : u.drop e = u[e] :: u.drop (e + 1) := List.drop_eq_getElem_cons hl
    refine ⟨.str (S u), rfl, .int (e : Int), rfl, (e : Int), rfl, .int (e : Int), rfl, _, _, rfl, rfl, ((e + 2 : Nat) : Int), rfl, S u, rfl, zl, rfl, _, rfl, ?_⟩
    have es : cutS (S u) (some (e : Int)) (some ((e + 2 : Nat) : Int)) = S ((u.drop e).take 2) := by
      rw [cut_slice (by omega) (by omega), show e + 2 - e = 2 by omega]
    by_cases h : (u.drop e).take 2 = [48, 50]
    · refine iteDT (by rw [es, h]; rfl) ?_
      have : ∃ q, u.drop e = 48 :: 50 :: q := by
        match u.drop e, h with
        | a :: b :: q, h => 
          have h' : [a, b] = [48, 50] := h
          cases h'
          exact ⟨q, rfl⟩
      obtain ⟨t, ht⟩ := this
      rw [ht] at q
      exact q
    · refine iteDF (fun z => h ?_) ?_
      · rw [es] at z
        exact s_inj (V.str.inj z)
      · have : (firstS (u.drop e)).1 = [u[e]] := by
          rw [ed]
          refine firstS_one ?_
          rintro ⟨e1, t, e2⟩
          rw [ed, e1, e2] at h
          exact h rfl
        rw [this] at q
        exact ⟨.str (S u), rfl, .int (e : Int), rfl, _, _, _, rfl, rfl, zl, at_e, q⟩
end
end K6

namespace K6
open PySem PySem.Spec PyProof.Rows L2 Nr Nw
theorem lastS_len : ∀ (p : List Nat), (lastS p).2 = p.drop (lastS p).1.length ∧ (lastS p).1.length ≤ p.length ∧ (p ≠ [] → 1 ≤ (lastS p).1.length) := by
  intro p
  unfold lastS
  split
  · exact ⟨rfl, Nat.succ_le_succ (Nat.succ_le_succ (Nat.zero_le _)), fun _ => Nat.succ_le_succ (Nat.zero_le _)⟩
  · exact ⟨rfl, Nat.succ_le_succ (Nat.zero_le _), fun _ => Nat.le_refl _⟩
  · exact ⟨rfl, Nat.le_refl _, fun h => absurd rfl h⟩
theorem firstS_len : ∀ (p : List Nat), (firstS p).2 = p.drop (firstS p).1.length ∧ (firstS p).1.length ≤ p.length ∧ (p ≠ [] → 1 ≤ (firstS p).1.length) := by
  intro p
  unfold firstS
  split
  · exact ⟨rfl, Nat.succ_le_succ (Nat.succ_le_succ (Nat.zero_le _)), fun _ => Nat.succ_le_succ (Nat.zero_le _)⟩
  · exact ⟨rfl, Nat.succ_le_succ (Nat.zero_le _), fun _ => Nat.le_refl _⟩
  · exact ⟨rfl, Nat.le_refl _, fun h => absurd rfl h⟩
/-- a syllable is "0", "2", "02" or "1" -/
theorem lastS_four {p : List Nat} (hp : Rd p) (np : p ≠ []) : (lastS p).1 = [48] ∨ (lastS p).1 = [50] ∨ (lastS p).1 = [48, 50] ∨ (lastS p).1 = [49] := by
  rcases lastS_of hp np with ⟨r, _, e, _⟩ | ⟨c, r, e0, e, _⟩
  · rw [e]; exact .inr (.inr (.inl rfl))
  · rw [e]
    subst e0
    rcases hp.head with z | z | z <;> subst z
    · exact .inl rfl
    · exact .inr (.inr (.inr rfl))
    · exact .inr (.inl rfl)
theorem firstS_four {p : List Nat} (hp : Fw p) (np : p ≠ []) : (firstS p).1 = [48] ∨ (firstS p).1 = [50] ∨ (firstS p).1 = [48, 50] ∨ (firstS p).1 = [49] := by
  rcases firstS_of hp np with ⟨r, _, e, _⟩ | ⟨c, r, e0, e, _⟩
  · rw [e]; exact .inr (.inr (.inl rfl))
  · rw [e]
    subst e0
    rcases hp.head with z | z | z <;> subst z
    · exact .inl rfl
    · exact .inr (.inr (.inr rfl))
    · exact .inr (.inl rfl)
theorem kd_four {K : PySem.W.Frag} {w : World} {a : Addr} (h0 : KDct K w a "0" (.int 1)) (h1 : KDct K w a "1" (.int 4)) (h2 : KDct K w a "2" (.int 2)) (h3 : KDct K w a "02" (.int 3)) {t : List Nat} (h : t = [48] ∨ t = [50] ∨ t = [48, 50] ∨ t = [49]) :
    KDct K w a (S t) (.int (cdS t : Int)) := by
  rcases h with e | e | e | e <;> subst e
  · exact h0
  · exact h2
  · exact h3
  · exact h1
theorem sg_four {a b : Nat} (ha : a = 1 ∨ a = 2 ∨ a = 3) (hb : b = 1 ∨ b = 2 ∨ b = 3) (ne : a ≠ b) : ([S [], S [48], S [50], S [48, 50], S [49]] : List Str)[a ^^^ b]? = some (S (sgS (a ^^^ b))) ∧ (sgS (a ^^^ b)).length ≤ 2 := by
  rcases ha with e | e | e <;> rcases hb with f | f | f <;> subst e <;> subst f <;> first | exact absurd rfl ne | exact ⟨rfl, by decide⟩
theorem cdS_inj {a b : List Nat} (ha : a = [48] ∨ a = [50] ∨ a = [48, 50] ∨ a = [49]) (hb : b = [48] ∨ b = [50] ∨ b = [48, 50] ∨ b = [49]) (h : cdS a = cdS b) : a = b := by
  rcases ha with e | e | e | e <;> rcases hb with f | f | f | f <;> subst e <;> subst f <;> first | rfl | (exfalso; revert h; decide)
section
variable {P : Program} {w : World} {K : PySem.W.Frag} {mg : Str → Option Value} {base : Heap}

def spJoined : Sp := fun vs H Q _ => ∃ u v : List Nat, vs = [.str (S u), .str (S v)] ∧ (Fw u ∧ u.length ≤ 20000) ∧ (Fw v ∧ v.length ≤ 20000) ∧ Q (.str (S (cut (u ++ v)))) H
theorem cut_two {u v : List Nat} (hu : Fw u) : cut (u ++ v) = (go u.reverse v).reverse := by
  unfold cut
  rw [go_append]
  have := go_self (fw_rd hu)
  rw [List.reverse_reverse] at this
  rw [this]
theorem s_app (a b : List Nat) : S a ++ S b = S (a ++ b) := by
  show (⟨a.toArray ++ b.toArray⟩ : Str) = ⟨(a ++ b).toArray⟩
  rw [List.append_toArray]
theorem ok_joined (T : Txt w K mg) : Ok P w K mg base 2 "joined_text" ["word", "other"] spJoined := by
  refine ok_of T.fJoinedText fun f fd F => ?_
  obtain ⟨aS, gS, hS⟩ := T.signs
  obtain ⟨aC, gC, k0, k1, k2, k3, _⟩ := T.codes
  refine F.ok scJoinedText (fun vs H Q E h => ?_) (fun cdv A outer s H vs Q E hr h => ?_)
  · obtain ⟨u, v, rfl, _⟩ := h
    rfl
  · obtain ⟨u, v, rfl, ⟨hu, zu⟩, ⟨hv, zv⟩, q⟩ := h
    refine ⟨_, pss_cons (ps_par (i := 2) (j := 3) (by rfl) scJoinedText.nd rfl rfl (by decide) rfl rfl (pa_cons (pe_callB call_len_str (by rfl) T.nlen PySem.boot_len (pa_cons (pv 0) pa_nil)) (pa_cons pe_int pa_nil)) (by rfl))
      (pss_cons (ps_while PassesOwn.never (PW.pt (pw_and (pt_cmpR op_gt (pv 2) pe_int (nomark _)) (pw_and1 (pt_cmpR op_lt (pv 3) (pe_callB call_len_str (by rfl) T.nlen PySem.boot_len (pa_cons (pv 1) pa_nil)) (nomark _)))))
        (pss_cons (ps_set (i := 4) scJoinedText.nd rfl (.inl rfl) (pe_callO (ok_last T) hr (by decide) (by rfl) (pa_cons (pv 0) (pa_cons (pv 2) pa_nil))))
        (pss_cons (ps_set (i := 5) scJoinedText.nd rfl (.inl rfl) (pe_callO (ok_first T) hr (by decide) (by rfl) (pa_cons (pv 1) (pa_cons (pv 3) pa_nil))))
        (pss_cons (ps_if (pt_cmpR op_ne (pv 4) (pv 5) (nomark _))
          (pss_cons (ps_if (PW.pt (pw_or (pt_cmpR op_eq (pv 4) pe_str (nomark _)) (pw_or1 (pt_cmpR op_eq (pv 5) pe_str (nomark _))))) (pss_one ps_break) pss_nil)
          (pss_cons (ps_set (i := 6) scJoinedText.nd rfl (.inl rfl) (pe_ix (r := rIxT K) ix_tup (pe_glob (v := .ref aS) rfl gS rfl) (pe_op op_xor (pe_ix ix_kdict (pe_glob (v := .ref aC) rfl gC rfl) (pv 4) (fun _ _ => rfl)) (pe_ix ix_kdict (pe_glob (v := .ref aC) rfl gC rfl) (pv 5) (fun _ _ => rfl))) (fun _ _ => rfl)))
          (pss_one (ps_ret (pe_op op_add_str (pe_op op_add_str (pe_slice sl_str (pv 0) po_none (po_some (pe_op op_sub (pv 2) (pe_callB call_len_str (by rfl) T.nlen PySem.boot_len (pa_cons (pv 4) pa_nil))))) (pv 6))
            (pe_slice sl_str (pv 1) (po_some (pe_op op_add (pv 3) (pe_callB call_len_str (by rfl) T.nlen PySem.boot_len (pa_cons (pv 5) pa_nil)))) po_none)))))) pss_nil)
        (pss_cons (ps_aug (i := 2) scJoinedText.nd rfl (.inl rfl) (pe_callB call_len_str (by rfl) T.nlen PySem.boot_len (pa_cons (pv 4) pa_nil)) ip_sub)
        (pss_one (ps_aug (i := 3) scJoinedText.nd rfl (.inl rfl) (pe_callB call_len_str (by rfl) T.nlen PySem.boot_len (pa_cons (pv 5) pa_nil)) ip_add)))))))
      (pss_one (ps_ret (pe_op op_add_str (pe_slice sl_str (pv 0) po_none (po_some (pv 2))) (pe_slice sl_str (pv 1) (po_some (pv 3)) po_none))))), ?_⟩
    have lu : (S u).length ≤ sizeLine := Nat.le_trans zu (by decide)
    have lv : (S v).length ≤ sizeLine := Nat.le_trans zv (by decide)
    rw [cut_two hu] at q
    -- what stands where nothing meets
    have fin : ∀ {e st : Nat}, go (u.take e).reverse (v.drop st) = go u.reverse v → go (u.take e).reverse (v.drop st) = (v.drop st).reverse ++ (u.take e).reverse → Q (.str (S (u.take e) ++ S (v.drop st))) H := by
      intro e st h1 h2
      rw [s_app]
      rw [← h1, h2, List.reverse_append, List.reverse_reverse, List.reverse_reverse] at q
      exact q
    have fits : ∀ e st : Nat, (S (u.take e)).length + (S (v.drop st)).length ≤ sizeLine := by
      intro e st
      have a1 : (S (u.take e)).length ≤ u.length := List.length_take_le' _ _
      have a2 : (S (v.drop st)).length ≤ v.length := by
        show (v.drop st).length ≤ _
        rw [List.length_drop]
        omega
      exact Nat.le_trans (Nat.add_le_add a1 a2) (Nat.le_trans (Nat.add_le_add zu zv) (by decide))
    refine ⟨.str (S u), rfl, S u, rfl, lu, .int (u.length : Int), .int 0, rfl, ?_⟩
    refine ⟨fun m σ H3 => ∃ (e st : Nat) (y4 y5 y6 : Option V), σ = [some (.str (S u)), some (.str (S v)), some (.int (e : Int)), some (.int (st : Int)), y4, y5, y6] ∧ m = e ∧ e ≤ u.length ∧ st ≤ v.length ∧ go (u.take e).reverse (v.drop st) = go u.reverse v ∧ H3 = H,
      ⟨u.length, u.length, 0, none, none, none, rfl, rfl, Nat.le_refl _, Nat.zero_le _, by rw [List.take_length, List.drop_zero], rfl⟩, ?_⟩
    rintro m σ H3 ⟨e, st, y4, y5, y6, rfl, rfl, he, hst, hg, rfl⟩
    -- the end of the def from here
    have out : go (u.take m).reverse (v.drop st) = (v.drop st).reverse ++ (u.take m).reverse → ∀ z4 z5 : Option V, Q (.str (cutS (S u) none (some (m : Int)) ++ cutS (S v) (some (st : Int)) none)) H3 := by
      intro h _ _
      rw [cut_upto he, cut_from hst]
      exact fin hg h
    have outL : (cutS (S u) none (some (m : Int))).length + (cutS (S v) (some (st : Int)) none).length ≤ sizeLine := by
      rw [cut_upto he, cut_from hst]
      exact fits m st
    have rdp : Rd (u.take m).reverse := by
      rw [List.reverse_take]
      exact Rd.drop _ (fw_rd hu)
    have fws : Fw (v.drop st) := Fw.drop _ hv
    refine ⟨.int (m : Int), rfl, _, _, rfl, rfl, _, rfl, ?_⟩
    by_cases h0 : m = 0
    · subst h0
      refine iteDF (by decide) (iteF ?_)
      refine ⟨.str (S u), rfl, .int ((0 : Nat) : Int), rfl, ((0 : Nat) : Int), rfl, S u, rfl, lu, .str (S v), rfl, .int (st : Int), rfl, (st : Int), rfl, S v, rfl, lv, _, _, rfl, rfl, outL, out ?_ none none⟩
      exact go_on rdp fws fun a r c t z _ => by cases z
    refine iteDT (by omega) ?_
    refine ⟨.int (st : Int), rfl, .str (S v), rfl, S v, rfl, lv, _, _, rfl, rfl, _, rfl, ?_⟩
    by_cases h1 : st = v.length
    · refine iteDF (by show ¬ ((st : Int) < ((v.length : Nat) : Int)); omega) ?_
      refine ⟨.str (S u), rfl, .int (m : Int), rfl, (m : Int), rfl, S u, rfl, lu, .str (S v), rfl, .int (st : Int), rfl, (st : Int), rfl, S v, rfl, lv, _, _, rfl, rfl, outL, out ?_ none none⟩
      rw [h1, List.drop_length]
      rfl
    refine iteDT (by show (st : Int) < ((v.length : Nat) : Int); omega) ?_
    have np : (u.take m).reverse ≠ [] := fun z => by
      have := congrArg List.length z
      rw [List.length_reverse, List.length_take] at this
      have z0 : ([] : List Nat).length = 0 := rfl
      omega
    have ns : v.drop st ≠ [] := fun z => by
      have := congrArg List.length z
      rw [List.length_drop] at this
      have z0 : ([] : List Nat).length = 0 := rfl
      omega
    obtain ⟨la, lb, lc⟩ := lastS_len (u.take m).reverse
    obtain ⟨fa, fb, fc⟩ := firstS_len (v.drop st)
    have lc := lc np
    have fc := fc ns
    have l4 := lastS_four rdp np
    have f4 := firstS_four fws ns
    rw [List.length_reverse, List.length_take, Nat.min_eq_left he] at lb
    rw [List.length_drop] at fb
    have below : (u.take m).reverse.drop (lastS (u.take m).reverse).1.length = (u.take (m - (lastS (u.take m).reverse).1.length)).reverse := by
      rw [List.drop_reverse, List.length_take, Nat.min_eq_left he, List.take_take, Nat.min_eq_left (Nat.sub_le _ _)]
    have behind : (v.drop st).drop (firstS (v.drop st)).1.length = v.drop (st + (firstS (v.drop st)).1.length) := List.drop_drop ..
    rw [below] at la
    rw [behind] at fa
    have two := fun h => meet_two rdp fws np ns h
    have same := meet_same rdp fws np ns
    have one := meet_one rdp fws np ns
    rw [la, fa] at same
    simp only [la, fa] at two
    -- tail, head
    refine ⟨fun σ' H' => ∃ (e st' : Nat) (z4 z5 z6 : Option V), σ' = [some (.str (S u)), some (.str (S v)), some (.int (e : Int)), some (.int (st' : Int)), z4, z5, z6] ∧ e < m ∧ e ≤ u.length ∧ st' ≤ v.length ∧ go (u.take e).reverse (v.drop st') = go u.reverse v ∧ H' = H3, ?_, ?_⟩
    · rintro σ' H' ⟨e, st', z4, z5, z6, rfl, h1, h2, h3, h4, rfl⟩
      exact ⟨e, h1, e, st', z4, z5, z6, rfl, rfl, h2, h3, h4, rfl⟩
    refine ⟨.str (S u), rfl, .int (m : Int), rfl, u, m, rfl, by omega, he, zu, ?_⟩
    refine ⟨.str (S v), rfl, .int (st : Int), rfl, v, st, rfl, by omega, zv, ?_⟩
    generalize (lastS (u.take m).reverse).1 = t at *
    generalize (firstS (v.drop st)).1 = hd at *
    have lt2 : t.length ≤ 2 := by rcases l4 with z | z | z | z <;> subst z <;> decide
    have lh2 : hd.length ≤ 2 := by rcases f4 with z | z | z | z <;> subst z <;> decide
    have lt : (S t).length ≤ sizeLine := Nat.le_trans lt2 (by decide)
    have lh : (S hd).length ≤ sizeLine := Nat.le_trans lh2 (by decide)
    have em : (m : Int) - ((S t).length : Int) = ((m - t.length : Nat) : Int) := by
      show (m : Int) - (t.length : Int) = _
      omega
    have es : (st : Int) + ((S hd).length : Int) = ((st + hd.length : Nat) : Int) := by
      show (st : Int) + (hd.length : Int) = _
      omega
    refine ⟨.str (S t), rfl, .str (S hd), rfl, rfl, _, rfl, ?_⟩
    by_cases e : t = hd
    · subst e
      rw [decide_eq_true rfl]
      refine iteF ?_
      refine ⟨.int (m : Int), rfl, .str (S t), rfl, S t, rfl, lt, _, _, rfl, rfl, ?_⟩
      refine ⟨.int (st : Int), rfl, .str (S t), rfl, S t, rfl, lt, _, _, rfl, rfl, ?_⟩
      refine ⟨m - t.length, st + t.length, some (.str (S t)), some (.str (S t)), y6, ?_, by omega, by omega, by omega, ?_, rfl⟩
      · rw [← em, ← es]
        rfl
      · rw [← same rfl]
        exact hg
    · have ne : ¬ V.str (S t) = V.str (S hd) := fun z => e (s_inj (V.str.inj z))
      rw [decide_eq_false ne]
      refine iteT ?_
      refine ⟨.str (S t), rfl, rfl, _, rfl, ?_⟩
      by_cases e1 : t = [49]
      · refine iteDT (by rw [e1]; rfl) (iteT ?_)
        refine ⟨.str (S u), rfl, .int (m : Int), rfl, (m : Int), rfl, S u, rfl, lu, .str (S v), rfl, .int (st : Int), rfl, (st : Int), rfl, S v, rfl, lv, _, _, rfl, rfl, outL, out ?_ none none⟩
        exact one e (.inl e1)
      refine iteDF (fun z => e1 (s_inj (V.str.inj z))) ?_
      refine ⟨.str (S hd), rfl, rfl, _, rfl, ?_⟩
      by_cases e2 : hd = [49]
      · refine iteDT (by rw [e2]; rfl) ?_
        refine ⟨.str (S u), rfl, .int (m : Int), rfl, (m : Int), rfl, S u, rfl, lu, .str (S v), rfl, .int (st : Int), rfl, (st : Int), rfl, S v, rfl, lv, _, _, rfl, rfl, outL, out ?_ none none⟩
        exact one e (.inr e2)
      refine iteDF (fun z => e2 (s_inj (V.str.inj z))) ?_
      obtain ⟨g, c3, d3⟩ := two e e1 e2
      have nc : cdS t ≠ cdS hd := fun z => e (cdS_inj l4 f4 z)
      obtain ⟨gx, gl⟩ := sg_four c3 d3 nc
      refine ⟨.str (S t), rfl, aC, S t, .int (cdS t : Int), rfl, rfl, kd_four k0 k1 k2 k3 l4, .str (S hd), rfl, aC, S hd, .int (cdS hd : Int), rfl, rfl, kd_four k0 k1 k2 k3 f4, _, _, rfl, rfl, aS, _, _, .str (S (sgS (cdS t ^^^ cdS hd))), rfl, rfl, hS _, ?_, ?_⟩
      · rw [xor_small c3 d3]
        refine atI_nat ?_
        have := congrArg (Option.map V.str) gx
        rw [← List.getElem?_map] at this
        exact this
      refine ⟨.str (S u), rfl, .int (m : Int), rfl, .str (S t), rfl, S t, rfl, lt, _, _, rfl, rfl, _, rfl, S u, rfl, lu, .str (S (sgS (cdS t ^^^ cdS hd))), rfl, _, _, rfl, rfl, ?_, .str (S v), rfl, .int (st : Int), rfl, .str (S hd), rfl, S hd, rfl, lh, _, _, rfl, rfl, _, rfl, S v, rfl, lv, _, _, rfl, rfl, ?_, ?_⟩
      · rw [em, cut_upto (by omega)]
        show (u.take (m - t.length)).length + (sgS (cdS t ^^^ cdS hd)).length ≤ sizeLine
        have : (u.take (m - t.length)).length ≤ u.length := List.length_take_le' _ _
        exact Nat.le_trans (Nat.add_le_add this gl) (Nat.le_trans (Nat.add_le_add_right zu 2) (by decide))
      · rw [em, cut_upto (by omega), es, cut_from (by omega), s_app]
        show (u.take (m - t.length) ++ sgS (cdS t ^^^ cdS hd)).length + (v.drop (st + hd.length)).length ≤ sizeLine
        have a1 : (u.take (m - t.length)).length ≤ u.length := List.length_take_le' _ _
        rw [List.length_append, List.length_drop]
        refine Nat.le_trans (Nat.add_le_add (Nat.add_le_add a1 gl) (Nat.sub_le _ _)) (Nat.le_trans (Nat.add_le_add (Nat.add_le_add_right zu 2) zv) (by decide))
      · rw [em, cut_upto (by omega), es, cut_from (by omega), s_app, s_app]
        rw [← hg, g, List.reverse_append, List.reverse_append, List.reverse_reverse, List.reverse_reverse, List.reverse_reverse] at q
        exact q
end
end K6

namespace K6
open PySem PySem.Spec PyProof.Rows L2 Nr Nw
theorem same_new {H : Hp} {p : Addr} {o : HO} (h : H p = none) : Same H (upd H p o) := fun b x e => by
  rw [upd_ne (ne_of_none e h)]
  exact e
theorem Same.to {H H1 H2 : Hp} (a : Same H H1) (b : Same H1 H2) : Same H H2 := fun x o h => b x o (a x o h)
theorem Same.id (H : Hp) : Same H H := fun _ _ h => h
theorem same_mut {H H1 : Hp} {p : Addr} {o : HO} (a : Same H H1) (n : H p = none) : Same H (upd H1 p o) := fun x u e => by
  rw [upd_ne (ne_of_none e n)]
  exact a x u e
section
variable {P : Program} {w : World} {K : PySem.W.Frag} {mg : Str → Option Value} {base : Heap}

/-! ### strange_place, need_word, limited -/
def spStrange : Sp := fun vs H Q _ => ∃ u : List Nat, vs = [.str (S u)] ∧ Wd u ∧ ∀ H', Same H H' → Q .non H'
theorem in_signs {c : Nat} (h : Sg c) : inV (.str ⟨#[c]⟩) [.str (S [48]), .str (S [49]), .str (S [50])] = true := by
  rcases h with e | e | e <;> subst e <;> rfl
theorem ok_strange (T : Txt w K mg) : Ok P w K mg base 1 "strange_place" ["text"] spStrange := by
  refine ok_of T.fStrangePlace fun f fd F => ?_
  refine F.ok scStrangePlace (fun vs H Q E h => ?_) (fun cdv A outer s H vs Q E hr h => ?_)
  · obtain ⟨u, rfl, _⟩ := h
    rfl
  · obtain ⟨u, rfl, hw, q⟩ := h
    refine ⟨_, pss_cons (ps_for PassesOwn.never rfl (pi_es (by rfl) T.nenumerate (pa_cons (pv 0) pa_nil)) (pg_tup rfl (pgs_cons (pg_name (i := 1) scStrangePlace.nd rfl (.inl rfl)) (pgs_cons (pg_name (i := 2) scStrangePlace.nd rfl (.inl rfl)) pgs_nil)))
        (pss_one (ps_if (pt_cmpR op_notIn_seq (pv 2) (pe_tup (pa_cons pe_str (pa_cons pe_str (pa_cons pe_str pa_nil)))) (by rfl)) (pss_one (ps_ret (pv 1))) pss_nil)))
      (pss_one (ps_ret pe_non)), ?_⟩
    refine ⟨.str (S u), rfl, S u, rfl, fun i m σ H3 => ∃ y1 y2, σ = [some (.str (S u)), y1, y2] ∧ i + m = u.length ∧ Same H H3, ⟨u.length, none, none, rfl, by omega, Same.id H⟩, ?_⟩
    rintro i m σ H3 ⟨y1, y2, rfl, em, sm⟩
    by_cases hi : i < u.length
    · refine .inr ⟨hi, fun σ' H' => ∃ y1 y2, σ' = [some (.str (S u)), y1, y2] ∧ Same H H', ?_, ?_⟩
      · rintro σ' H' ⟨z1, z2, e, sm'⟩
        exact ⟨m - 1, by omega, z1, z2, e, by omega, sm'⟩
      · rintro v H' ⟨Tp, c, rfl, nT, hc, rfl⟩
        have hs : Sg c := by
          have e : u[i]? = some c := by
            have e0 : (S u).cps[i]? = u[i]? := List.getElem?_toArray
            rw [← e0]
            exact hc
          exact hw c (List.mem_of_getElem? e)
        refine ⟨Tp, [.int (i : Nat), .str ⟨#[c]⟩], rfl, .inl (.inl upd_same), rfl, _, [.str ⟨#[c]⟩], rfl, _, [], rfl, rfl, ?_⟩
        refine ⟨.str ⟨#[c]⟩, rfl, by decide, fun t ht => ⟨t, _, rfl, .inr (.inl (.inl upd_same)), rfl, rfl, _, rfl, ?_⟩⟩
        show if (!inV (.str ⟨#[c]⟩) [.str (S [48]), .str (S [49]), .str (S [50])]) = true then _ else _
        rw [in_signs hs]
        refine iteF ⟨_, _, rfl, ?_⟩
        exact Same.to sm (Same.to (same_new nT) (same_new ht))
    · refine .inl ⟨by show u.length ≤ i; omega, ?_⟩
      exact q H3 sm
def spNeed : Sp := fun vs H Q _ => ∃ u : List Nat, vs = [.str (S u)] ∧ Wd u ∧ ∀ H', Same H H' → Q (.str (S u)) H'
theorem ok_need (T : Txt w K mg) : Ok P w K mg base 2 "need_word" ["word"] spNeed := by
  refine ok_of T.fNeedWord fun f fd F => ?_
  refine F.ok scNeedWord (fun vs H Q E h => ?_) (fun cdv A outer s H vs Q E hr h => ?_)
  · obtain ⟨u, rfl, _⟩ := h
    rfl
  · obtain ⟨u, rfl, hw, q⟩ := h
    refine ⟨_, pss_cons (ps_if (pt_not (pt_val (pe_callB call_isi (by rfl) T.nisinstance (by decide +kernel) (pa_cons (pv 0) (pa_cons (pe_bltn (v := .ty "str") (by rfl) T.nstr (by decide +kernel) rfl) pa_nil))))) (pss_one ps_never) pss_nil)
      (pss_cons (ps_set (i := 1) scNeedWord.nd rfl (.inl rfl) (pe_callO (ok_strange T) hr (by decide) (by rfl) (pa_cons (pv 0) pa_nil)))
      (pss_cons (ps_if (pt_cmpR op_notN (pv 1) pe_non (nomark _)) (pss_one ps_never) pss_nil)
      (pss_one (ps_ret (pv 0))))), ?_⟩
    refine ⟨.str (S u), rfl, .str (S u), .ty "str", .type "str", .type "str", true, rfl, .ty "str", .base (.str _), kit_ty (by decide +kernel), true, rfl, iteF ?_⟩
    refine ⟨.str (S u), rfl, u, rfl, hw, fun H1 sm => ?_⟩
    refine ⟨.non, rfl, rfl, _, rfl, iteF ?_⟩
    exact ⟨.str (S u), rfl, q H1 sm⟩
def spLimited : Sp := fun vs H Q _ => ∃ u : List Nat, vs = [.str (S u)] ∧ u.length ≤ 20000 ∧ Q (.str (S u)) H
/-! ### reduced, back, then, is_reduced -/
def spReduced : Sp := fun vs H Q _ => ∃ u : List Nat, vs = [.str (S u)] ∧ Wt u ∧ ∀ H', Same H H' → Q (.str (S (cut u))) H'
def spBack : Sp := fun vs H Q _ => ∃ u : List Nat, vs = [.str (S u)] ∧ Wt u ∧ ∀ H', Same H H' → Q (.str (S (cut u.reverse))) H'
def spThen : Sp := fun vs H Q _ => ∃ u v : List Nat, vs = [.str (S u), .str (S v)] ∧ (Wd u ∧ Wd v) ∧ u.length + v.length ≤ 20000 ∧ ∀ H', Same H H' → Q (.str (S (cut (u ++ v)))) H'
def spIsReduced : Sp := fun vs H Q _ => ∃ u : List Nat, vs = [.str (S u)] ∧ Wd u ∧ ∀ H', Same H H' → Q (.bl (isRed u)) H'
end
end K6

namespace K6
open PySem PySem.Spec PyProof.Rows L2 Nr Nw

/-! ### pairs of a number and a text, by < -/
/-- (n, x) < (m, y) -/
def ltP (n : Int) (x : Str) (m : Int) (y : Str) : Bool := if n = m then (if x = y then false else decide (x.cps.toList < y.cps.toList)) else decide (n < m)
def rLtP (K : PySem.W.Frag) : R2 := fun p q H Q => ∃ (a b : Addr) (n m : Int) (x y : Str), p = .ref a ∧ q = .ref b ∧ SqT K H a [.int n, .str x] ∧ SqT K H b [.int m, .str y] ∧ Q (.bl (ltP n x m y)) H
theorem first_ltP (n m : Int) (x y : Str) : SeqAt.firstLt (fun j => if j = 0 then (n == m) else (x == y)) (fun j => if j = 0 then decide (n < m) else decide (x.cps.toList < y.cps.toList)) false [0, 1] = ltP n x m y := by
  unfold ltP
  by_cases h1 : n = m
  · subst h1
    rw [if_pos rfl]
    rw [SeqAt.firstLt_yes (by show (n == n) = true; exact beq_self_eq_true n)]
    by_cases h2 : x = y
    · subst h2
      rw [if_pos rfl, SeqAt.firstLt_yes (by show (x == x) = true; exact beq_self_eq_true x)]
      rfl
    · rw [if_neg h2, SeqAt.firstLt_no (by show (x == y) = false; exact beq_eq_false_iff_ne.mpr h2)]
      rfl
  · rw [if_neg h1, SeqAt.firstLt_no (by show (n == m) = false; exact beq_eq_false_iff_ne.mpr h1)]
    rfl
theorem rc_pair {A : Around} {s : Shared} {a b : Addr} {n m : Int} {x y : Str} {t1 t2 t3 t4 : Tok} (h1 : s.heap.IsTuple a #[.int n t1, .str x t2]) (h2 : s.heap.IsTuple b #[.int m t3, .str y t4]) (hu : A.units < cLine) :
    SeqAt.RcLt A s (.ref a) (.ref b) (ltP n x m y) := by
  rw [← first_ltP n m x y]
  refine SeqAt.RcLt.tuples (e := fun j => if j = 0 then (n == m) else (x == y)) (r := fun j => if j = 0 then decide (n < m) else decide (x.cps.toList < y.cps.toList)) h1 h2 hu ?_ ?_
  · intro j k1 k2
    rcases j with _ | _ | j
    · exact SeqAt.EqAt.int_int n t1 m t3
    · exact SeqAt.EqAt.str_str x t2 y t4
    · exact absurd k1 (by show ¬ (j + 2 < 2); omega)
  · intro j k1 k2 _
    rcases j with _ | _ | j
    · exact fun prog w E Q q => HT.rcLt_int A.in1 s n t1 m t3 prog w E Q q
    · exact fun prog w E Q q => DT.rcLt_str A.in1 s x t2 y t4 prog w E Q q
    · exact absurd k1 (by show ¬ (j + 2 < 2); omega)
theorem op_ltP {X : Cx} (hu : X.A.units < cLine) : OpR X (compareOp .Lt) (rLtP X.K) := by
  intro pins s σ H p q v u Q I rp rq h
  obtain ⟨a, b, n, m, x, y, rfl, rfl, ha, hb, k⟩ := h
  cases rp
  cases rq
  obtain ⟨i1, r1, p1, _⟩ := I.tuple ha
  obtain ⟨i2, r2, p2, _⟩ := I.tuple hb
  obtain ⟨v1, v2, rfl, ⟨t1, rfl⟩, ⟨t2, rfl⟩⟩ := vals2 r1
  obtain ⟨w1, w2, rfl, ⟨t3, rfl⟩, ⟨t4, rfl⟩⟩ := vals2 r2
  exact rc_pair p1 p2 hu X.prog X.w X.xe (EP X pins σ Q) ⟨.bl (ltP n x m y), H, I, rfl, k⟩
def ahead (u v : List Nat) : Bool := ltP (u.length : Nat) (S u) (v.length : Nat) (S v)
theorem ahead_self (u : List Nat) : ahead u u = false := by
  unfold ahead ltP
  rw [if_pos rfl, if_pos rfl]
section
variable {P : Program} {w : World} {K : PySem.W.Frag} {mg : Str → Option Value} {base : Heap}
def spIsAhead : Sp := fun vs H Q _ => ∃ u v : List Nat, vs = [.str (S u), .str (S v)] ∧ Wt u ∧ Wt v ∧ ∀ H', Same H H' → Q (.bl (ahead (cut u) (cut v))) H'
end
end K6

namespace K6
open PySem PySem.Spec PyProof.Rows L2 Nr Nw
section
variable {P : Program} {w : World} {K : PySem.W.Frag} {mg : Str → Option Value} {base : Heap}

/-! ### the law's own draws -/
def spMixed : Sp := fun vs H Q _ => ∃ c n : Int, vs = [.int c, .int n] ∧ (0 ≤ c ∧ c < 4611686018427387904) ∧ (0 ≤ n ∧ n < 1000000) ∧ ∀ r : Int, 0 ≤ r → r < 2147483629 → Q (.int r) H
theorem ok_mixed (T : Txt w K mg) : Ok P w K mg base 1 "_law_mixed" ["cell", "n"] spMixed := by
  refine ok_of T.fLawMixed fun f fd F => ?_
  refine F.ok scLawMixed (fun vs H Q E h => ?_) (fun cdv A outer s H vs Q E hr h => ?_)
  · obtain ⟨c, n, rfl, _⟩ := h
    rfl
  · obtain ⟨c, n, rfl, ⟨c0, c1⟩, ⟨n0, n1⟩, q⟩ := h
    refine ⟨_, pss_cons (ps_set (i := 2) scLawMixed.nd rfl (.inl rfl) (pe_op op_add (pe_op op_add (pe_op op_mod (pe_callTy call_int1 (by rfl) T.nint (by decide +kernel) (pa_cons (pe_op op_mul (pe_op op_mul (pv 0) (pe_op op_add pe_int (pe_op op_mul pe_int (pv 1)))) pe_int) pa_nil)) pe_int)
        (pe_op op_mul (pe_op op_mul pe_int (pv 1)) (pv 1))) (pe_op op_mul pe_int (pv 1))))
      (pss_one (ps_ret (pe_op op_fdiv (pe_op op_mod (pe_callTy call_int1 (by rfl) T.nint (by decide +kernel) (pa_cons (pe_op op_mul (pv 2) pe_int) pa_nil)) pe_int) pe_int))), ?_⟩
    have k2 : CMul 2 n := .inl ⟨by decide, by decide⟩
    refine ⟨.int c, rfl, .int n, rfl, 2, n, rfl, rfl, k2, 1, 2 * n, rfl, rfl, c, 1 + 2 * n, rfl, rfl, .inl ⟨by omega, by omega⟩, c * (1 + 2 * n), 48271, rfl, rfl, .inr ⟨by decide, by decide⟩, ?_⟩
    refine .inl ⟨_, rfl, _, _, rfl, rfl, by show (0 : Int) < 2147483647; decide, .int n, rfl, 7919, n, rfl, rfl, .inl ⟨by decide, by decide⟩, .int n, rfl, 7919 * n, n, rfl, rfl, .inr ⟨by omega, by omega⟩, _, _, rfl, rfl, .int n, rfl, 104729, n, rfl, rfl, .inl ⟨by decide, by decide⟩, _, _, rfl, rfl, ?_⟩
    refine ⟨_, rfl, _, _, rfl, rfl, .inr ⟨by decide, by decide⟩, .inl ⟨_, rfl, _, _, rfl, rfl, by show (0 : Int) < 2147483629; decide, _, _, rfl, rfl, ⟨by decide, by decide⟩, ?_⟩⟩
    generalize (c * (1 + 2 * n) * 48271) % 2147483647 + 7919 * n * n + 104729 * n = b
    have h1 := Int.emod_nonneg (b * 69621) (show (2147483629 : Int) ≠ 0 by decide)
    have h2 := Int.emod_lt_of_pos (b * 69621) (show (0 : Int) < 2147483629 by decide)
    generalize (b * 69621) % 2147483629 = r at *
    exact q (r / 7) (by omega) (by omega)

def Cells (fs : List Int) : Prop := fs.length = 64 ∧ ∀ x ∈ fs, 0 ≤ x ∧ x < 2147483647
theorem Cells.get {fs : List Int} (h : Cells fs) {j : Nat} (hj : j < 64) : ∃ x, fs[j]? = some x ∧ 0 ≤ x ∧ x < 2147483647 := by
  have hl : j < fs.length := by rw [h.1]; exact hj
  exact ⟨fs[j], List.getElem?_eq_getElem hl, h.2 _ (List.getElem_mem hl)⟩
theorem Cells.set {fs : List Int} (h : Cells fs) (j : Nat) {y : Int} (h0 : 0 ≤ y) (h1 : y < 2147483647) : Cells (fs.set j y) := by
  refine ⟨by rw [List.length_set]; exact h.1, fun x hx => ?_⟩
  rcases List.mem_or_eq_of_mem_set hx with e | e
  · exact h.2 x e
  · rw [e]; exact ⟨h0, h1⟩
theorem map_int_get {fs : List Int} {j : Nat} {x : Int} (h : fs[j]? = some x) : (fs.map V.int)[j]? = some (.int x) := by
  rw [List.getElem?_map, h]
  rfl
theorem mod_cell (y : Int) : 0 ≤ y % 2147483647 ∧ y % 2147483647 < 2147483647 := ⟨Int.emod_nonneg _ (by decide), Int.emod_lt_of_pos _ (by decide)⟩
theorem ixN_nat {n j : Nat} (h : j < n) : ixN n ((j : Nat) : Int) = some j := by
  unfold ixN
  rw [if_pos (by omega), if_pos (by omega), Int.toNat_natCast]
/-- a list of cells at l, whatever they are -/
def CellsAt (H : Hp) (l : Addr) : Prop := ∃ fs : List Int, H l = some (.lst (fs.map V.int)) ∧ Cells fs
def spFolded (K : PySem.W.Frag) : Sp := fun vs H Q _ => ∃ (a : Addr) (ns : List Int), vs = [.ref a] ∧ SqL K H a (ns.map V.int) ∧ ∀ (p : Addr) (H' : Hp), Same H H' → H p = none → CellsAt H' p → Q (.ref p) H'
theorem ok_folded (T : Txt w K mg) : Ok P w K mg base 1 "_law_folded" ["script"] (spFolded K) := by
  refine ok_of T.fLawFolded fun f fd F => ?_
  refine F.ok scLawFolded (fun vs H Q E h => ?_) (fun cdv A outer s H vs Q E hr h => ?_)
  · obtain ⟨a, ns, rfl, _⟩ := h
    rfl
  · obtain ⟨a, ns, rfl, hS, q⟩ := h
    refine ⟨_, pss_cons (ps_setLc (i := 1) (own := [("n", 2)]) (g := gName 2) (tt := tYes) (by rfl) scLawFolded.nd rfl rfl (sw_true rfl rfl rfl (by decide +kernel)) (pi_range1 (by rfl) T.nrange (pa_cons pe_int pa_nil))
        (blkOk_by (N := ["script", "found", "n", "cell"]) (sc := defScope sLawFolded) (by decide +kernel)) (fun _ _ _ _ _ => pg_name (i := 2) scLawFolded.nd rfl (.inl rfl)) (fun _ _ _ _ _ => pts_nil) (fun _ _ _ _ _ => pe_op op_add pe_int (pv 2)))
      (pss_cons (ps_for PassesOwn.never rfl (pi_enum (by rfl) T.nenumerate (pa_cons (pv 0) pa_nil)) (pg_tup rfl (pgs_cons (pg_name (i := 2) scLawFolded.nd rfl (.inl rfl)) (pgs_cons (pg_name (i := 3) scLawFolded.nd rfl (.inl rfl)) pgs_nil)))
        (pss_one (ps_asg (pe_op op_mod (pe_callTy call_int1 (by rfl) T.nint (by decide +kernel) (pa_cons (pe_op op_add (pe_op op_mul (pe_ix (r := rIxL K) ix_list (pv 1) (pe_op op_mod (pe_callTy call_int1 (by rfl) T.nint (by decide +kernel) (pa_cons (pv 2) pa_nil)) pe_int) (fun _ _ => rfl)) pe_int) (pv 3)) pa_nil)) pe_int)
          (pg_sub (pv 1) (pe_op op_mod (pe_callTy call_int1 (by rfl) T.nint (by decide +kernel) (pa_cons (pv 2) pa_nil)) pe_int) set_list))))
      (pss_cons (ps_for PassesOwn.never rfl (pi_range2 (by rfl) T.nrange (pa_cons pe_int (pa_cons pe_int pa_nil))) (pg_name (i := 2) scLawFolded.nd rfl (.inl rfl))
        (pss_one (ps_asg (pe_op op_mod (pe_callTy call_int1 (by rfl) T.nint (by decide +kernel) (pa_cons (pe_op op_add (pe_ix (r := rIxL K) ix_list (pv 1) (pv 2) (fun _ _ => rfl)) (pe_op op_mul (pe_ix (r := rIxL K) ix_list (pv 1) (pe_op op_sub (pv 2) pe_int) (fun _ _ => rfl)) pe_int)) pa_nil)) pe_int)
          (pg_sub (pv 1) (pv 2) set_list))))
      (pss_one (ps_ret (pv 1))))), ?_⟩
    -- found = [17 + n for n in range(64)]
    refine ⟨64, rfl, by decide, by decide, fun l nl => ?_⟩
    refine lc_range (lo := 0) (n := 64) (fun i H' => Same H H' ∧ ∃ fs : List Int, H' l = some (.lst (fs.map V.int)) ∧ fs.length = i ∧ ∀ x ∈ fs, 0 ≤ x ∧ x < 2147483647) ⟨same_new nl, [], upd_same, rfl, fun x hx => by cases hx⟩ (fun i H' hi h => ?_) (fun H1 h => ?_)
    · obtain ⟨sm, fs, e, hl, hb⟩ := h
      refine ⟨rfl, yes (iteT ⟨.int (0 + (i : Nat)), rfl, 17, 0 + (i : Nat), rfl, rfl, _, e, ?_, same_mut sm nl, fs ++ [17 + (0 + (i : Int))], ?_, ?_, ?_⟩)⟩
      · rw [List.length_map, hl]
        exact Nat.lt_of_lt_of_le hi (by decide)
      · rw [upd_same, List.map_append]
        rfl
      · rw [List.length_append, hl]
        rfl
      · intro x hx
        rcases List.mem_append.mp hx with y | y
        · exact hb x y
        · rw [List.mem_singleton.mp y]
          omega
    obtain ⟨sm1, fs1, e1, hl1, hb1⟩ := h
    -- for n, cell in enumerate(script)
    refine ⟨.ref a, rfl, a, ns.map V.int, rfl, sm1.seq hS, ?_⟩
    refine ⟨fun i m σ H3 => ∃ y2 y3, σ = [some (.ref a), some (.ref l), y2, y3] ∧ i + m = ns.length ∧ Same H H3 ∧ CellsAt H3 l, ⟨ns.length, _, _, rfl, by omega, sm1, fs1, e1, hl1, hb1⟩, ?_⟩
    rintro i m σ H3 ⟨y2, y3, rfl, em, sm, fs, e, hc⟩
    have hA : SqL K H3 a (ns.map V.int) := sm.seq hS
    by_cases hi : i < ns.length
    · have g : (ns.map V.int)[i]? = some (.int ns[i]) := map_int_get (List.getElem?_eq_getElem hi)
      refine .inr ⟨⟨_, _, hA, g⟩, fun σ' H' => ∃ y2 y3, σ' = [some (.ref a), some (.ref l), y2, y3] ∧ Same H H' ∧ CellsAt H' l, ?_, ?_⟩
      · rintro σ' H' ⟨z2, z3, e', sm', c'⟩
        exact ⟨m - 1, by omega, z2, z3, e', by omega, sm', c'⟩
      · rintro v H' ⟨Tp, x, rfl, nT, rfl, fx⟩
        have ex : x = .int ns[i] := Option.some.inj ((fx _ hA).symm.trans g)
        subst ex
        refine ⟨Tp, [.int (i : Nat), .int ns[i]], rfl, .inl (.inl upd_same), rfl, _, [.int ns[i]], rfl, _, [], rfl, rfl, ?_⟩
        have ne : l ≠ Tp := ne_of_none e nT
        have eT : (upd H3 Tp (.tup [.int (i : Nat), .int ns[i]])) l = some (.lst (fs.map V.int)) := by
          rw [upd_ne ne]
          exact e
        obtain ⟨x, hx, x0, x1⟩ := hc.get (j := i % 64) (Nat.mod_lt _ (by decide))
        have im : ((i : Nat) : Int) % 64 = ((i % 64 : Nat) : Int) := rfl
        have pos64 : (0 : Int) < 64 := by decide
        have posM : (0 : Int) < 2147483647 := by decide
        refine ⟨.ref l, rfl, .int (i : Nat), rfl, .inl ⟨_, rfl, _, _, rfl, rfl, pos64, l, _, _, .int x, rfl, rfl, .inl (.inl eT), atI_nat (map_int_get hx), _, _, rfl, rfl, .inr ⟨by decide, by decide⟩, .int ns[i], rfl, _, _, rfl, rfl, .inl ⟨_, rfl, _, _, rfl, rfl, posM, ?_⟩⟩⟩
        have mc := mod_cell (x * 48271 + ns[i])
        refine ⟨.ref l, rfl, .int (i : Nat), rfl, .inl ⟨_, rfl, _, _, rfl, rfl, pos64, l, _, _, i % 64, rfl, rfl, eT, ?_, ?_⟩⟩
        · rw [List.length_map, hc.1]
          exact ixN_nat (Nat.mod_lt _ (by decide))
        · refine ⟨_, _, rfl, same_mut (Same.to sm (same_new nT)) nl, fs.set (i % 64) ((x * 48271 + ns[i]) % 2147483647), ?_, hc.set _ mc.1 mc.2⟩
          rw [upd_same, List.map_set]
    · refine .inl ⟨⟨_, hA, by rw [List.length_map]; omega⟩, ?_⟩
      -- for n in range(1, 64)
      refine ⟨1, 64, rfl, ⟨by decide, by decide, by decide, by decide⟩, ?_⟩
      refine ⟨fun i m σ H4 => ∃ y2 y3, σ = [some (.ref a), some (.ref l), y2, y3] ∧ i + m = 63 ∧ Same H H4 ∧ CellsAt H4 l, ⟨63, _, _, rfl, rfl, sm, fs, e, hc⟩, ?_⟩
      rintro j m' σ H4 ⟨z2, z3, rfl, em', sm', fs', e', hc'⟩
      by_cases hj : j < 63
      · refine .inr ⟨hj, fun σ' H' => ∃ y2 y3, σ' = [some (.ref a), some (.ref l), y2, y3] ∧ Same H H' ∧ CellsAt H' l, ?_, ?_⟩
        · rintro σ' H' ⟨w2, w3, ew, sw, cw⟩
          exact ⟨m' - 1, by omega, w2, w3, ew, by omega, sw, cw⟩
        · rintro v H' ⟨rfl, rfl⟩
          obtain ⟨x, hx, x0, x1⟩ := hc'.get (j := j + 1) (by omega)
          obtain ⟨y, hy, y0, y1⟩ := hc'.get (j := j) (by omega)
          have i1 : (1 : Int) + ((j : Nat) : Int) = ((j + 1 : Nat) : Int) := by omega
          have i2 : (1 : Int) + ((j : Nat) : Int) - 1 = ((j : Nat) : Int) := by omega
          have posM : (0 : Int) < 2147483647 := by decide
          have mc := mod_cell (x + y * 16807)
          refine ⟨.ref l, rfl, .int (1 + (j : Nat)), rfl, l, _, _, .int x, rfl, rfl, .inl (.inl e'), ?_, .ref l, rfl, .int (1 + (j : Nat)), rfl, _, _, rfl, rfl, l, _, _, .int y, rfl, rfl, .inl (.inl e'), ?_, _, _, rfl, rfl, .inr ⟨by decide, by decide⟩, _, _, rfl, rfl, .inl ⟨_, rfl, _, _, rfl, rfl, posM, ?_⟩⟩
          · rw [i1]
            exact atI_nat (map_int_get hx)
          · rw [i2]
            exact atI_nat (map_int_get hy)
          · refine ⟨.ref l, rfl, .int (1 + (j : Nat)), rfl, l, _, _, j + 1, rfl, rfl, e', ?_, ?_⟩
            · rw [List.length_map, hc'.1, i1]
              exact ixN_nat (by omega)
            · refine ⟨_, _, rfl, same_mut sm' nl, fs'.set (j + 1) ((x + y * 16807) % 2147483647), ?_, hc'.set _ mc.1 mc.2⟩
              rw [upd_same, List.map_set]
      · refine .inl ⟨by show 63 ≤ j; omega, ?_⟩
        exact ⟨.ref l, rfl, q l H4 sm' nl ⟨fs', e', hc'⟩⟩
end
end K6

namespace K6
open PySem PySem.Spec PyProof.Rows L2 Nr Nw
def mD (lc lg : Addr) (n : Nat) : List (Key × V) := [(.inr "cells", .ref lc), (.inr "great", .ref lg), (.inr "spot", .int (n : Int))]
theorem k_cg : ¬ (("cells" : Str) = "great") := by decide +kernel
theorem k_cs : ¬ (("cells" : Str) = "spot") := by decide +kernel
theorem k_gc : ¬ (("great" : Str) = "cells") := by decide +kernel
theorem k_gs : ¬ (("great" : Str) = "spot") := by decide +kernel
theorem inr_ne {a b : Str} (h : ¬ a = b) : ¬ ((Sum.inr a : Key) = Sum.inr b) := fun e => h (Sum.inr.inj e)
theorem mD_cells (lc lg : Addr) (n : Nat) : valV (mD lc lg n) (.inr "cells") = some (.ref lc) := valV_pos rfl
theorem mD_great (lc lg : Addr) (n : Nat) : valV (mD lc lg n) (.inr "great") = some (.ref lg) := by
  unfold mD valV
  rw [List.find?_cons_of_neg (by rw [decide_eq_true_eq]; exact inr_ne k_cg), List.find?_cons_of_pos (by rw [decide_eq_true_eq])]
  rfl
theorem mD_spot (lc lg : Addr) (n : Nat) : valV (mD lc lg n) (.inr "spot") = some (.int (n : Int)) := by
  unfold mD valV
  rw [List.find?_cons_of_neg (by rw [decide_eq_true_eq]; exact inr_ne k_cs), List.find?_cons_of_neg (by rw [decide_eq_true_eq]; exact inr_ne k_gs), List.find?_cons_of_pos (by rw [decide_eq_true_eq])]
  rfl
theorem mD_put (lc lg : Addr) (n k : Nat) : putK (mD lc lg n) (.inr "spot") (.int (k : Int)) = mD lc lg k := by
  unfold mD putK
  rw [if_pos (by rw [List.any_cons, List.any_cons, List.any_cons, decide_eq_true (show (Sum.inr "spot" : Key) = .inr "spot" from rfl)]; simp only [Bool.true_or, Bool.or_true])]
  simp only [List.map_cons, List.map_nil, if_neg (inr_ne k_cs), if_neg (inr_ne k_gs), if_true]
theorem mD_putG (lc lg lg' : Addr) (n : Nat) : putK (mD lc lg n) (.inr "great") (.ref lg') = mD lc lg' n := by
  unfold mD putK
  have k_sg : ¬ (("spot" : Str) = "great") := fun e => k_gs e.symm
  rw [if_pos (by rw [List.any_cons, List.any_cons, List.any_cons, decide_eq_true (show (Sum.inr "great" : Key) = .inr "great" from rfl)]; simp only [Bool.true_or, Bool.or_true])]
  simp only [List.map_cons, List.map_nil, if_neg (inr_ne k_cg), if_neg (inr_ne k_sg), if_true]

/-- the state of the draws: at most k numbers were drawn -/
def MS (H : Hp) (m lc lg : Addr) (k : Nat) : Prop := lc ≠ lg ∧ m ≠ lg ∧ m ≠ lc ∧ (∃ n : Nat, n ≤ k ∧ H m = some (.dK (mD lc lg n))) ∧ CellsAt H lc ∧ ∃ gs : List Int, gs.length ≤ 63 ∧ H lg = some (.lst (gs.map V.int))
/-- what was there stays, but for the state -/
def Off (m lg : Addr) (H H' : Hp) : Prop := ∀ a o, a ≠ m → a ≠ lg → H a = some o → H' a = some o
theorem Off.same {m lg : Addr} {H H' : Hp} (h : Same H H') : Off m lg H H' := fun a o _ _ e => h a o e
theorem Off.to {m lg : Addr} {H H1 H2 : Hp} (a : Off m lg H H1) (b : Off m lg H1 H2) : Off m lg H H2 := fun x o h1 h2 e => b x o h1 h2 (a x o h1 h2 e)
theorem MS.same {H H' : Hp} {m lc lg : Addr} {k : Nat} (h : MS H m lc lg k) (s : Same H H') : MS H' m lc lg k := by
  obtain ⟨a, b, c, ⟨n, hn, e⟩, ⟨fs, ef, hf⟩, gs, hg, eg⟩ := h
  exact ⟨a, b, c, ⟨n, hn, s _ _ e⟩, ⟨fs, s _ _ ef, hf⟩, gs, hg, s _ _ eg⟩
theorem MS.le {H : Hp} {m lc lg : Addr} {k j : Nat} (h : MS H m lc lg k) (hj : k ≤ j) : MS H m lc lg j := by
  obtain ⟨a, b, c, ⟨n, hn, e⟩, r⟩ := h
  exact ⟨a, b, c, ⟨n, Nat.le_trans hn hj, e⟩, r⟩
/-- an object that is no part of the state may change -/
theorem MS.mut {H : Hp} {m lc lg p : Addr} {o : HO} {k : Nat} (h : MS H m lc lg k) (h1 : p ≠ m) (h2 : p ≠ lc) (h3 : p ≠ lg) : MS (upd H p o) m lc lg k := by
  obtain ⟨a, b, c, ⟨n, hn, e⟩, ⟨fs, ef, hf⟩, gs, hg, eg⟩ := h
  exact ⟨a, b, c, ⟨n, hn, by rw [upd_ne h1.symm]; exact e⟩, ⟨fs, by rw [upd_ne h2.symm]; exact ef, hf⟩, gs, hg, by rw [upd_ne h3.symm]; exact eg⟩
/-- a new object is no part of the state -/
theorem MS.new {H : Hp} {m lc lg p : Addr} {k : Nat} (h : MS H m lc lg k) (hp : H p = none) : p ≠ m ∧ p ≠ lc ∧ p ≠ lg := by
  obtain ⟨_, _, _, ⟨n, _, e⟩, ⟨fs, ef, _⟩, gs, _, eg⟩ := h
  exact ⟨(ne_of_none e hp).symm, (ne_of_none ef hp).symm, (ne_of_none eg hp).symm⟩

theorem lay_ints : ∀ gs : List Int, PyData.canLay0 (.list (gs.map PyData.int)) = true ∧ PyData.depth (.list (gs.map PyData.int)) ≤ 1 := by
  intro gs
  have h : ∀ gs : List Int, PyData.canLayAll0 (gs.map PyData.int) = true ∧ PyData.depthAll (gs.map PyData.int) = 0 := by
    intro gs
    induction gs with
    | nil => exact ⟨by rfl, by rfl⟩
    | cons x r ih =>
      refine ⟨?_, ?_⟩
      · rw [List.map_cons]
        unfold PyData.canLayAll0
        rw [ih.1]
        rfl
      · rw [List.map_cons]
        unfold PyData.depthAll
        rw [ih.2]
        rfl
  refine ⟨?_, ?_⟩
  · unfold PyData.canLay0
    exact (h gs).1
  · unfold PyData.depth
    rw [(h gs).2]
    exact Nat.le_refl _
theorem shaped_ints (gs : List Int) : SeqAt.shaped (.list (gs.map PyData.int)) = true := by
  unfold SeqAt.shaped
  rw [(lay_ints gs).1, decide_eq_true (Nat.le_trans (lay_ints gs).2 (by decide))]
  rfl
theorem eqv_nil (gs : List Int) : PyData.eqv (.list (gs.map PyData.int)) (.list []) = gs.isEmpty := by
  cases gs <;> (unfold PyData.eqv; rfl)
theorem dpAll_ints {K : PySem.W.Frag} {H : Hp} : ∀ gs : List Int, DpAll K H (gs.map V.int) (gs.map PyData.int)
  | [] => .nil
  | x :: r => .cons (.int x) (dpAll_ints r)
section
variable {P : Program} {w : World} {K : PySem.W.Frag} {mg : Str → Option Value} {base : Heap}
def spDraw : Sp := fun vs H Q _ => ∃ (m lc lg : Addr) (k : Nat) (z : Int), vs = [.ref m, .int z] ∧ (0 < z ∧ z < 1000000) ∧ MS H m lc lg k ∧ k < 900000 ∧
  ∀ (d : Nat) (H' : Hp), (d : Int) < z → MS H' m lc lg (k + 1) → Off m lg H H' → Q (.int (d : Int)) H'
theorem ok_draw (T : Txt w K mg) : Ok P w K mg base 2 "_law_draw" ["m", "limit"] spDraw := by
  refine ok_of T.fLawDraw fun f fd F => ?_
  refine F.ok scLawDraw (fun vs H Q E h => ?_) (fun cdv A outer s H vs Q E hr h => ?_)
  · obtain ⟨m, lc, lg, k, z, rfl, _⟩ := h
    rfl
  · obtain ⟨m, lc, lg, k, z, rfl, ⟨z0, z1⟩, ⟨d1, d2, d3, ⟨n, hn, em⟩, ⟨fs, ef, hf⟩, gs, hg, eg⟩, hk, q⟩ := h
    have hu := hu_of hr
    refine ⟨_, pss_cons (ps_set (i := 2) scLawDraw.nd rfl (.inl rfl) (pe_dget hu (pv 0) pe_str (fun _ _ => rfl)))
      (pss_cons (ps_dput hu (pv 0) pe_str (pe_op op_add (pv 2) pe_int) rfl)
      (pss_cons (ps_if (pt_cmpR (op_neD hr.units) (pe_dget hu (pv 0) pe_str (fun _ _ => rfl)) (pe_lst pa_nil) (nomark _))
        (pss_cons (ps_set (i := 3) scLawDraw.nd rfl (.inl rfl) (pe_dget hu (pv 0) pe_str (fun _ _ => rfl)))
        (pss_cons (ps_set (i := 4) scLawDraw.nd rfl (.inl rfl) (pe_op op_mod (pe_callTy call_int1 (by rfl) T.nint (by decide +kernel) (pa_cons (pv 2) pa_nil)) (pe_callB call_len_seq (by rfl) T.nlen PySem.boot_len (pa_cons (pv 3) pa_nil))))
        (pss_cons (ps_set (i := 5) scLawDraw.nd rfl (.inl rfl) (pe_ix (r := rIxL K) ix_list (pv 3) (pv 4) (fun _ _ => rfl)))
        (pss_one (ps_if (pt_cmpR op_gt (pv 5) pe_int (nomark _))
          (pss_cons (ps_asg (pe_op op_fdivW (pv 5) (pv 1)) (pg_sub (pv 3) (pv 4) set_list))
          (pss_one (ps_ret (pe_op op_mod (pe_callTy call_int1 (by rfl) T.nint (by decide +kernel) (pa_cons (pv 5) pa_nil)) (pv 1))))) pss_nil))))) pss_nil)
      (pss_cons (ps_set (i := 3) scLawDraw.nd rfl (.inl rfl) (pe_dget hu (pv 0) pe_str (fun _ _ => rfl)))
      (pss_one (ps_ret (pe_op op_mod (pe_callTy call_int1 (by rfl) T.nint (by decide +kernel) (pa_cons (pe_callO (ok_mixed T) hr (by decide) (by rfl)
        (pa_cons (pe_callO (ok_mixed T) hr (by decide) (by rfl) (pa_cons (pe_op op_add (pe_ix (r := rIxL K) ix_list (pv 3) (pe_op op_mod (pe_callTy call_int1 (by rfl) T.nint (by decide +kernel) (pa_cons (pv 2) pa_nil)) pe_int) (fun _ _ => rfl)) (pe_op op_mul pe_int (pe_op op_fdiv (pv 2) pe_int))) (pa_cons (pv 2) pa_nil)))
          (pa_cons (pe_op op_add (pv 2) pe_int) pa_nil))) pa_nil)) (pv 1))))))), ?_⟩
    have getk : ∀ {H' : Hp} {n' : Nat} {x : Str} {v : V}, H' m = some (.dK (mD lc lg n')) → valV (mD lc lg n') (.inr x) = some v → DGet H' m (.str x) (some v) := by
      intro H' n' x v e1 e2
      exact .inl ⟨_, .inr x, .inl e1, rfl, e2.symm⟩
    -- n = m['spot']
    refine ⟨.ref m, rfl, m, .int (n : Int), rfl, getk em (mD_spot lc lg n), ?_⟩
    -- m['spot'] = n + 1
    refine ⟨.int (n : Int), rfl, _, _, rfl, rfl, .ref m, rfl, m, upd H m (.dK (mD lc lg (n + 1))), rfl, .inl ⟨_, .inr "spot", em, rfl, by show 3 < sizeLine; decide, ?_⟩, ?_⟩
    · have e : (n : Int) + 1 = ((n + 1 : Nat) : Int) := by omega
      show _ = upd H m (.dK (putK (mD lc lg n) (.inr "spot") (.int ((n : Int) + 1))))
      rw [e, mD_put]
    generalize eH : upd H m (.dK (mD lc lg (n + 1))) = H1
    have em1 : H1 m = some (.dK (mD lc lg (n + 1))) := by rw [← eH]; exact upd_same
    have ef1 : H1 lc = some (.lst (fs.map V.int)) := by rw [← eH, upd_ne d3.symm]; exact ef
    have eg1 : H1 lg = some (.lst (gs.map V.int)) := by rw [← eH, upd_ne d2.symm]; exact eg
    have off1 : Off m lg H H1 := fun a o h1 _ e => by rw [← eH, upd_ne h1]; exact e
    -- if m['great'] != []
    refine ⟨.ref m, rfl, m, .ref lg, rfl, getk em1 (mD_great lc lg _), Nat.zero_le _, fun b nb => ?_⟩
    have s2 : Same H1 (upd H1 b (.lst [])) := same_new nb
    have em2 := s2 _ _ em1
    have ef2 := s2 _ _ ef1
    have eg2 := s2 _ _ eg1
    have eb2 : (upd H1 b (.lst [])) b = some (.lst []) := upd_same
    have off2 : Off m lg H (upd H1 b (.lst [])) := off1.to (Off.same s2)
    generalize upd H1 b (.lst []) = H2 at em2 ef2 eg2 eb2 off2 ⊢
    obtain ⟨x, hx, x0, x1⟩ := hf.get (j := n % 64) (Nat.mod_lt _ (by decide))
    have pos64 : (0 : Int) < 64 := by decide
    -- a number and its rest
    have fin : ∀ (t : Int) (H' : Hp), Off m lg H H' → (∃ n : Nat, n ≤ k + 1 ∧ H' m = some (.dK (mD lc lg n))) → H' lc = some (.lst (fs.map V.int)) → (∃ gs : List Int, gs.length ≤ 63 ∧ H' lg = some (.lst (gs.map V.int))) → Q (.int (t % z)) H' := by
      intro t H' o e1 e2 e3
      have h0 := Int.emod_nonneg t (show z ≠ 0 by omega)
      have h1 := Int.emod_lt_of_pos t z0
      obtain ⟨d, hd⟩ := Int.eq_ofNat_of_zero_le h0
      rw [hd] at h1 ⊢
      exact q d H' h1 ⟨d1, d2, d3, e1, ⟨fs, e2, hf⟩, e3⟩ o
    refine ⟨.list (gs.map PyData.int), .list [], .lst (.inl (.inl eg2)) (dpAll_ints gs), .lst (.inl (.inl eb2)) .nil, shaped_ints gs, shaped_ints [], _, rfl, ?_⟩
    rw [eqv_nil]
    cases gs with
    | nil =>
      refine iteF ?_
      refine ⟨.ref m, rfl, m, .ref lc, rfl, getk em2 (mD_cells lc lg _), ?_⟩
      refine ⟨.ref lc, rfl, .int (n : Int), rfl, .inl ⟨_, rfl, _, _, rfl, rfl, pos64, lc, _, _, .int x, rfl, rfl, .inl (.inl ef2), atI_nat (map_int_get hx), .int (n : Int), rfl, _, _, rfl, rfl, ⟨by decide, by decide⟩, _, _, rfl, rfl, .inl ⟨by decide, by decide⟩, _, _, rfl, rfl, .int (n : Int), rfl, ?_⟩⟩
      refine ⟨x + 31 * ((n : Int) / 64), (n : Int), rfl, by omega, by omega, fun r r0 r1 => ⟨.int (n : Int), rfl, _, _, rfl, rfl, ?_⟩⟩
      refine ⟨r, (n : Int) + 7, rfl, by omega, by omega, fun t t0 t1 => .inl ⟨_, rfl, .int z, rfl, _, _, rfl, rfl, z0, ?_⟩⟩
      exact fin t H2 off2 ⟨n + 1, by omega, em2⟩ ef2 ⟨[], hg, eg2⟩
    | cons g0 gr =>
      refine iteT ?_
      refine ⟨.ref m, rfl, m, .ref lg, rfl, getk em2 (mD_great lc lg _), ?_⟩
      have posL : (0 : Int) < (((g0 :: gr).map V.int).length : Nat) := by
        rw [List.length_map, List.length_cons]
        omega
      refine ⟨.int (n : Int), rfl, .inl ⟨_, rfl, .ref lg, rfl, lg, _, rfl, .inl (.inl (.inl eg2)), _, _, rfl, rfl, posL, ?_⟩⟩
      have il : ((n : Nat) : Int) % (((g0 :: gr).map V.int).length : Nat) = ((n % (g0 :: gr).length : Nat) : Int) := by
        rw [List.length_map]
        rfl
      have hlt : n % (g0 :: gr).length < (g0 :: gr).length := Nat.mod_lt _ (by rw [List.length_cons]; omega)
      have hg2 : (g0 :: gr)[n % (g0 :: gr).length]? = some (g0 :: gr)[n % (g0 :: gr).length] := List.getElem?_eq_getElem hlt
      generalize (g0 :: gr)[n % (g0 :: gr).length] = c at hg2
      generalize n % (g0 :: gr).length = here at hlt hg2 il
      have idx : (((n : Nat) : Int) % (((g0 :: gr).map V.int).length : Nat)) = (here : Int) := il
      refine ⟨.ref lg, rfl, .int (((n : Nat) : Int) % (((g0 :: gr).map V.int).length : Nat)), rfl, lg, _, _, .int c, rfl, rfl, .inl (.inl eg2), by rw [idx]; exact atI_nat (map_int_get hg2), ?_⟩
      refine ⟨.int c, rfl, _, _, rfl, rfl, _, rfl, ?_⟩
      by_cases hc : 0 < c
      · refine iteDT hc ?_
        have zw : z.natAbs < 2 ^ 30 := by omega
        refine ⟨.int c, rfl, .int z, rfl, _, _, rfl, rfl, wide_div z0 zw (by decide) (by decide), .ref lg, rfl, .int (((n : Nat) : Int) % (((g0 :: gr).map V.int).length : Nat)), rfl, lg, _, _, here, rfl, rfl, eg2, ?_, ?_⟩
        · rw [idx, List.length_map]
          exact ixN_nat hlt
        · refine ⟨.int c, rfl, .inl ⟨_, rfl, .int z, rfl, _, _, rfl, rfl, z0, ?_⟩⟩
          have nm : m ≠ lg := d2
          have nc : lc ≠ lg := d1
          refine fin c _ (fun a o h1 h2 e => ?_) ⟨n + 1, by omega, ?_⟩ ?_ ⟨(g0 :: gr).set here (c / z), ?_, ?_⟩
          · rw [upd_ne h2]
            exact off2 a o h1 h2 e
          · rw [upd_ne nm]
            exact em2
          · rw [upd_ne nc]
            exact ef2
          · rw [List.length_set]
            exact hg
          · rw [upd_same, List.map_set]
      · refine iteDF hc ?_
        refine ⟨.ref m, rfl, m, .ref lc, rfl, getk em2 (mD_cells lc lg _), ?_⟩
        refine ⟨.ref lc, rfl, .int (n : Int), rfl, .inl ⟨_, rfl, _, _, rfl, rfl, pos64, lc, _, _, .int x, rfl, rfl, .inl (.inl ef2), atI_nat (map_int_get hx), .int (n : Int), rfl, _, _, rfl, rfl, ⟨by decide, by decide⟩, _, _, rfl, rfl, .inl ⟨by decide, by decide⟩, _, _, rfl, rfl, .int (n : Int), rfl, ?_⟩⟩
        refine ⟨x + 31 * ((n : Int) / 64), (n : Int), rfl, by omega, by omega, fun r r0 r1 => ⟨.int (n : Int), rfl, _, _, rfl, rfl, ?_⟩⟩
        refine ⟨r, (n : Int) + 7, rfl, by omega, by omega, fun t t0 t1 => .inl ⟨_, rfl, .int z, rfl, _, _, rfl, rfl, z0, ?_⟩⟩
        exact fin t H2 off2 ⟨n + 1, by omega, em2⟩ ef2 ⟨g0 :: gr, hg, eg2⟩
end
end K6

namespace K6
open PySem PySem.Spec PyProof.Rows L2 Nr Nw
theorem ends_iff (a b : List Nat) : Txt.endswith (S a) (S b) = true ↔ ∃ t, a = t ++ b := by
  unfold Txt.endswith
  rw [PySem.StrLaws.subAt_eq, Bool.and_eq_true, decide_eq_true_eq, beq_iff_eq]
  show (0 + b.length ≤ a.length ∧ (a.drop (a.length - b.length)).take b.length = b) ↔ _
  constructor
  · rintro ⟨h1, h2⟩
    refine ⟨a.take (a.length - b.length), ?_⟩
    have h3 : (a.drop (a.length - b.length)).take b.length = a.drop (a.length - b.length) := List.take_of_length_le (by rw [List.length_drop]; omega)
    rw [h3] at h2
    rw [← h2]
    conv => lhs; rw [← List.take_append_drop (a.length - b.length) a]
    rw [h2]
  · rintro ⟨t, rfl⟩
    rw [List.length_append, Nat.add_sub_cancel, List.drop_left, List.take_length]
    exact ⟨by omega, rfl⟩
theorem cut_neg (t b : List Nat) (k : Nat) (hk : b.length = k) (h : 0 < k) : cutS (S (t ++ b)) none (some (-(k : Int))) = S t := by
  unfold cutS
  have h1 : (S (t ++ b)).length = t.length + b.length := by
    show (t ++ b).length = _
    rw [List.length_append]
  have h2 : HT.sIx (t.length + b.length) (t.length + b.length) (some (-(k : Int))) = t.length := by
    show (if (-(k : Int)) < 0 then (-(k : Int) + ((t.length + b.length : Nat) : Int)).toNat else _) = _
    rw [if_pos (by omega)]
    omega
  rw [h1, h2, HT.sIx_none]
  show (⟨((t ++ b).take (t.length - 0)).toArray⟩ : Str) = S t
  rw [Nat.sub_zero, List.take_left]
  rfl
theorem go_len {w : List Nat} (h : Wd w) : (go [] w).length ≤ w.length := by
  have := cut_len _ w rfl h
  unfold cut at this
  rw [List.length_reverse] at this
  exact this
section
variable {P : Program} {w : World} {K : PySem.W.Frag} {mg : Str → Option Value} {base : Heap}

/-! ### _law_cut -/
def spCut : Sp := fun vs H Q _ => ∃ u : List Nat, vs = [.str (S u)] ∧ Wt u ∧ Q (.str (S (cut u))) H
theorem ends_c {s : List Nat} {c : Nat} : Txt.endswith (S s.reverse) (S [c]) = true ↔ ∃ r, s = c :: r := by
  rw [ends_iff]
  constructor
  · rintro ⟨t, e⟩
    refine ⟨t.reverse, ?_⟩
    have := congrArg List.reverse e
    rw [List.reverse_reverse, List.reverse_append] at this
    exact this
  · rintro ⟨r, rfl⟩
    exact ⟨r.reverse, List.reverse_cons⟩
theorem ends_02 {s : List Nat} : Txt.endswith (S s.reverse) (S [48, 50]) = true ↔ ∃ r, s = 50 :: 48 :: r := by
  rw [ends_iff]
  constructor
  · rintro ⟨t, e⟩
    refine ⟨t.reverse, ?_⟩
    have := congrArg List.reverse e
    rw [List.reverse_reverse, List.reverse_append] at this
    exact this
  · rintro ⟨r, rfl⟩
    refine ⟨r.reverse, ?_⟩
    rw [List.reverse_cons, List.reverse_cons, List.append_assoc]
    rfl
theorem ok_cut (T : Txt w K mg) : Ok P w K mg base 1 "_law_cut" ["word"] spCut := by
  refine ok_of T.fLawCut fun f fd F => ?_
  refine F.ok scLawCut (fun vs H Q E h => ?_) (fun cdv A outer s H vs Q E hr h => ?_)
  · obtain ⟨u, rfl, _⟩ := h
    rfl
  · obtain ⟨u, rfl, ⟨hw, hz⟩, q⟩ := h
    refine ⟨_, pss_cons (ps_set (i := 1) scLawCut.nd rfl (.inl rfl) pe_str)
      (pss_cons (ps_for PassesOwn.never rfl (pi_str (pv 0)) (pg_name (i := 2) scLawCut.nd rfl (.inl rfl))
        (pss_one (ps_if (pt_val (pe_m1 PySem.F.slot_str_endswith PySem.F.type_str_endswith mt_endswith (pv 1) (pv 2)))
          (pss_one (ps_set (i := 1) scLawCut.nd rfl (.inl rfl) (pe_slice sl_str (pv 1) po_none (po_some (pe_un un_neg pe_int)))))
          (pss_one (ps_if (PW.pt (pw_and (pt_cmpR op_eq (pv 2) pe_str (nomark _)) (pw_and1 (pt_val (pe_m1 PySem.F.slot_str_endswith PySem.F.type_str_endswith mt_endswith (pv 1) pe_str)))))
            (pss_one (ps_set (i := 1) scLawCut.nd rfl (.inl rfl) (pe_op op_add_str (pe_slice sl_str (pv 1) po_none (po_some (pe_un un_neg pe_int))) pe_str)))
            (pss_one (ps_if (PW.pt (pw_and (pt_cmpR op_eq (pv 2) pe_str (nomark _)) (pw_and1 (pt_val (pe_m1 PySem.F.slot_str_endswith PySem.F.type_str_endswith mt_endswith (pv 1) pe_str)))))
              (pss_one (ps_set (i := 1) scLawCut.nd rfl (.inl rfl) (pe_op op_add_str (pe_slice sl_str (pv 1) po_none (po_some (pe_un un_neg pe_int))) pe_str)))
              (pss_one (ps_set (i := 1) scLawCut.nd rfl (.inl rfl) (pe_op op_add_str (pv 1) (pv 2)))))))))))
      (pss_one (ps_ret (pv 1)))), ?_⟩
    refine ⟨.str (S u), rfl, S u, rfl, fun i m σ H3 => ∃ y2, σ = [some (.str (S u)), some (.str (S (go [] (u.take i)).reverse)), y2] ∧ i + m = u.length ∧ H3 = H, ⟨u.length, none, rfl, by omega, rfl⟩, ?_⟩
    rintro i m σ H3 ⟨y2, rfl, em, rfl⟩
    have hwt : Wd (u.take i) := fun c hc => hw c (List.mem_of_mem_take hc)
    by_cases hi : i < u.length
    · refine .inr ⟨hi, fun σ' H' => ∃ y2, σ' = [some (.str (S u)), some (.str (S (go [] (u.take (i + 1))).reverse)), y2] ∧ H' = H3, ?_, ?_⟩
      · rintro σ' H' ⟨z2, e, e2⟩
        exact ⟨m - 1, by omega, z2, e, by omega, e2⟩
      · rintro v H' ⟨rfl, c, hc, rfl⟩
        have e : u[i]? = some c := by
          have e0 : (S u).cps[i]? = u[i]? := List.getElem?_toArray
          rw [← e0]
          exact hc
        have hsg : Sg c := hw c (List.mem_of_getElem? e)
        have et : u.take (i + 1) = u.take i ++ [c] := by
          rw [List.take_add_one, e]
          rfl
        have rd := go_rd rd_nil hwt
        have ln := go_len hwt
        rw [List.length_take] at ln
        rw [et, go_snoc]
        generalize go [] (u.take i) = st at rd ln ⊢
        have lst : (S st.reverse).length ≤ 20000 := by
          show st.reverse.length ≤ _
          rw [List.length_reverse]
          omega
        have lsz : (S st.reverse).length ≤ sizeLine := Nat.le_trans lst (by decide)
        have neg1 : -(1 : Int) = -((1 : Nat) : Int) := rfl
        refine ⟨.str (S st.reverse), rfl, ⟨_, rfl⟩, .str (S [c]), rfl, _, _, rfl, rfl, _, rfl, ?_⟩
        cases h1 : Txt.endswith (S st.reverse) (S [c]) with
        | true =>
          obtain ⟨r, rfl⟩ := ends_c.mp h1
          refine iteT ⟨.str (S (c :: r).reverse), rfl, 1, rfl, -1, rfl, _, rfl, lsz, some (.str (S [c])), ?_, rfl⟩
          have : cutS (S (c :: r).reverse) none (some (-1)) = S r.reverse := by
            rw [List.reverse_cons]
            exact cut_neg r.reverse [c] 1 rfl (by decide)
          show [some (V.str (S u)), some (V.str (cutS (S (c :: r).reverse) none (some (-1)))), some (V.str (S [c]))] = _
          rw [this, Nw.step_same]
        | false =>
        have n1 : ∀ r, st ≠ c :: r := fun r z => by
          rw [ends_c.mpr ⟨r, z⟩] at h1
          cases h1
        refine iteF ⟨.str (S [c]), rfl, rfl, _, rfl, ?_⟩
        by_cases c48 : c = 48
        · refine iteDT (str_is c48) ⟨.str (S st.reverse), rfl, ⟨_, rfl⟩, S st.reverse, S [48, 50], rfl, rfl, _, rfl, ?_⟩
          subst c48
          cases h2 : Txt.endswith (S st.reverse) (S [48, 50]) with
          | true =>
            obtain ⟨r, rfl⟩ := ends_02.mp h2
            have ec : cutS (S (50 :: 48 :: r).reverse) none (some (-2)) = S r.reverse := by
              rw [List.reverse_cons, List.reverse_cons, List.append_assoc]
              exact cut_neg r.reverse [48, 50] 2 rfl (by decide)
            refine iteT ⟨.str (S (50 :: 48 :: r).reverse), rfl, 2, rfl, -2, rfl, _, rfl, lsz, _, S [50], rfl, rfl, ?_, some (.str (S [48])), ?_, rfl⟩
            · refine Nat.le_trans (Nat.add_le_add_right (cutS_length _ _ _) _) (Nat.le_trans (Nat.add_le_add_right lst 1) (by decide))
            · show [some (V.str (S u)), some (V.str (cutS (S (50 :: 48 :: r).reverse) none (some (-2)) ++ S [50])), some (V.str (S [48]))] = _
              rw [ec, s_app, step_02, List.reverse_cons]
          | false =>
            have n2 : ∀ r, st ≠ 50 :: 48 :: r := fun r z => by
              rw [ends_02.mpr ⟨r, z⟩] at h2
              cases h2
            refine iteF ⟨.str (S [48]), rfl, rfl, _, rfl, iteDT rfl ⟨.str (S st.reverse), rfl, ⟨_, rfl⟩, S st.reverse, S [50], rfl, rfl, _, rfl, ?_⟩⟩
            cases h3 : Txt.endswith (S st.reverse) (S [50]) with
            | true =>
              obtain ⟨r, rfl⟩ := ends_c.mp h3
              have ec : cutS (S (50 :: r).reverse) none (some (-1)) = S r.reverse := by
                rw [List.reverse_cons]
                exact cut_neg r.reverse [50] 1 rfl (by decide)
              refine iteT ⟨.str (S (50 :: r).reverse), rfl, 1, rfl, -1, rfl, _, rfl, lsz, _, S [48, 50], rfl, rfl, ?_, some (.str (S [48])), ?_, rfl⟩
              · refine Nat.le_trans (Nat.add_le_add_right (cutS_length _ _ _) _) (Nat.le_trans (Nat.add_le_add_right lst 2) (by decide))
              · show [some (V.str (S u)), some (V.str (cutS (S (50 :: r).reverse) none (some (-1)) ++ S [48, 50])), some (V.str (S [48]))] = _
                rw [ec, s_app, step_2 (fun q z => n2 q (by rw [z])), List.reverse_cons, List.reverse_cons, List.append_assoc]
                rfl
            | false =>
              have n3 : ∀ r, st ≠ 50 :: r := fun r z => by
                rw [ends_c.mpr ⟨r, z⟩] at h3
                cases h3
              refine iteF ⟨.str (S st.reverse), rfl, .str (S [48]), rfl, _, _, rfl, rfl, ?_, some (.str (S [48])), ?_, rfl⟩
              · exact Nat.le_trans (Nat.add_le_add_right lst 1) (by decide)
              · have es : step st 48 = 48 :: st := by
                  rcases step_ways rd hsg with ⟨r, z, _⟩ | ⟨r, _, z, _⟩ | ⟨r, _, z, _, _⟩ | ⟨z, _⟩
                  · exact absurd z (n1 r)
                  · exact absurd z (n2 r)
                  · exact absurd z (n3 r)
                  · exact z
                show [some (V.str (S u)), some (V.str (S st.reverse ++ S [48])), some (V.str (S [48]))] = _
                rw [s_app, es, List.reverse_cons]
        · refine iteDF (str_one c48) (iteF ⟨.str (S [c]), rfl, rfl, _, rfl, iteDF (str_one c48) (iteF ⟨.str (S st.reverse), rfl, .str (S [c]), rfl, _, _, rfl, rfl, ?_, some (.str (S [c])), ?_, rfl⟩)⟩)
          · exact Nat.le_trans (Nat.add_le_add_right lst 1) (by decide)
          · have es : step st c = c :: st := by
              rcases step_ways rd hsg with ⟨r, z, _⟩ | ⟨r, y, z, _⟩ | ⟨r, y, z, _, _⟩ | ⟨z, _⟩
              · exact absurd z (n1 r)
              · exact absurd y c48
              · exact absurd y c48
              · exact z
            show [some (V.str (S u)), some (V.str (S st.reverse ++ S [c])), some (V.str (S [c]))] = _
            rw [s_app, es, List.reverse_cons]
    · refine .inl ⟨by show u.length ≤ i; omega, ?_⟩
      rw [List.take_of_length_le (by omega)]
      exact ⟨_, rfl, q⟩
end
end K6

namespace K6
open PySem PySem.Spec PyProof.Rows L2 Nr Nw
/-! ### nets -/
/-- the rows of the three changes -/
structure Net where
  a : List Nat
  b : List Nat
  c : List Nat
def Net.row (N : Net) (s : Nat) : List Nat := if s = 48 then N.a else if s = 49 then N.b else N.c
def Net.stp (N : Net) (x s : Nat) : Nat := (N.row s)[x]?.getD 0
def Net.lead (N : Net) (x : Nat) (u : List Nat) : Nat := u.foldl N.stp x
/-- rows of n flags -/
def Net.Of (N : Net) (n : Nat) : Prop := ∀ s, (N.row s).length = n ∧ ∀ x ∈ N.row s, x < n
def NetAt (K : PySem.W.Frag) (H : Hp) (p : Addr) (N : Net) : Prop := ∃ t0 t1 t2 : Addr, SqT K H p [.ref t0, .ref t1, .ref t2] ∧ SqT K H t0 (Vi N.a) ∧ SqT K H t1 (Vi N.b) ∧ SqT K H t2 (Vi N.c)
theorem rd_keep {H H' : Hp} {a : Addr} {u : HO} (s : ∀ o, H a = some o → H' a = some o) (h : Rd H a u) : Rd H' a u := by
  rcases h with h | ⟨o, h⟩
  · exact .inl (s _ h)
  · exact .inr ⟨o, s _ h⟩
theorem Net.Of.get {N : Net} {n x : Nat} (h : N.Of n) (hx : x < n) (s : Nat) : (N.row s)[x]? = some (N.stp x s) ∧ N.stp x s < n := by
  have hl : x < (N.row s).length := by rw [(h s).1]; exact hx
  have e : (N.row s)[x]? = some (N.row s)[x] := List.getElem?_eq_getElem hl
  have e2 : N.stp x s = (N.row s)[x] := by
    unfold Net.stp
    rw [e]
    rfl
  rw [e2]
  exact ⟨e, (h s).2 _ (List.getElem_mem hl)⟩
theorem vi_get {cs : List Nat} {i x : Nat} (h : cs[i]? = some x) : (Vi cs)[i]? = some (.int (x : Int)) := by
  unfold Vi
  rw [List.getElem?_map, h]
  rfl
theorem digit {c : Nat} (h : Sg c) : PySem.intText? (S [c]) = some (((c - 48 : Nat) : Int)) := by
  rcases h with e | e | e <;> subst e <;> decide +kernel
section
variable {P : Program} {w : World} {K : PySem.W.Frag} {mg : Str → Option Value} {base : Heap}
theorem NetAt.rows {H : Hp} {p : Addr} {N : Net} (h : NetAt K H p N) : ∃ t0 t1 t2 : Addr, SqT K H p [.ref t0, .ref t1, .ref t2] ∧ ∀ s, Sg s → ∃ t, ([V.ref t0, .ref t1, .ref t2] : List V)[s - 48]? = some (.ref t) ∧ SqT K H t (Vi (N.row s)) := by
  obtain ⟨t0, t1, t2, h1, h2, h3, h4⟩ := h
  refine ⟨t0, t1, t2, h1, fun s hs => ?_⟩
  rcases hs with e | e | e <;> subst e
  · exact ⟨t0, rfl, h2⟩
  · exact ⟨t1, rfl, h3⟩
  · exact ⟨t2, rfl, h4⟩
/-! ### _law_lead -/
def spLead (K : PySem.W.Frag) : Sp := fun vs H Q _ => ∃ (p : Addr) (N : Net) (n x : Nat) (u : List Nat), vs = [.ref p, .int (x : Int), .str (S u)] ∧ NetAt K H p N ∧ N.Of n ∧ x < n ∧ Wd u ∧ Q (.int (N.lead x u : Int)) H
/-! ### _law_same_lead -/
def spSameLead (K : PySem.W.Frag) : Sp := fun vs H Q _ => ∃ (p : Addr) (N : Net) (n : Nat) (u v : List Nat), vs = [.ref p, .str (S u), .str (S v)] ∧ NetAt K H p N ∧ N.Of n ∧ n ≤ 100000 ∧ Wd u ∧ Wd v ∧ (∀ x, x < n → N.lead x u = N.lead x v) ∧ Q (.bl true) H
/-! ### _law_is_ahead -/
def spLawAhead : Sp := fun vs H Q _ => ∃ u v : List Nat, vs = [.str (S u), .str (S v)] ∧ u.length ≤ 20000 ∧ v.length ≤ 20000 ∧ ∀ H', Same H H' → Q (.bl (ahead u v)) H'
end
end K6

namespace K6
open PySem PySem.Spec PyProof.Rows L2 Nr Nw
/-- a promise where no repr is under way -/
def OkG (P : Program) (w : World) (K : PySem.W.Frag) (mg : Str → Option Value) (base : Heap) (k : Nat) (x : String) (ps : List Str) (sp : Sp) : Prop :=
  ∃ (f : Addr) (fd : FuncData), mg x = some (.ref f) ∧ PySem.W.keepIn K (.ref f) = true ∧ Binds K fd ps [] ∧ FnG P w K mg base CX0 k f fd ps sp
theorem pe_callOG {X : Cx} {k j : Nat} {x : String} {ps : List Str} {sp : Sp} {p pos : Pos} {e : Expr} {es : List Expr} {t : TA} (O : OkG X.prog X.w X.K X.mg X.base k x ps sp) (hA : X.A.guards = some []) (hr : Room j X.A) (hkj : k ≤ j) (hg : Gl X x) (ha : PA X (e :: es) t)
    (hdb : ((x : Str) == ("__debug__" : Str)) = false := by decide) (he : starEach (e :: es) X.env = (false, eval e X.env) :: starEach es X.env := by rfl) (hpl : (backTo pos (starEach es X.env)).any (·.1) = false := by rfl) :
    PE X (.Call (.Name x p) (e :: es) [] pos) (fun σ H Q => t σ H fun vs H1 => sp vs H1 Q E0) := by
  obtain ⟨f, fd, h1, h2, h3, h4⟩ := O
  exact pe_callG h4 hA (hr.mono hkj) hg h1 h2 h3 pass0 ha hdb he hpl
section
variable {P : Program} {w : World} {K : PySem.W.Frag} {mg : Str → Option Value} {base : Heap}

/-! ### _law_like -/
def Shows (d : PyData) : Prop := d.showable = true ∧ d.hasDict = false ∧ d.depth ≤ 60 ∧ d.shown.length ≤ sizeLine
def spLike (K : PySem.W.Frag) : Sp := fun vs H Q _ => ∃ (a b : Addr) (d : PyData), vs = [.ref a, .ref b] ∧ Dp K H (.ref a) d ∧ Dp K H (.ref b) d ∧ Shows d ∧ Q (.bl true) H
theorem ok_like (T : Txt w K mg) : OkG P w K mg base 1 "_law_like" ["got", "due"] (spLike K) := by
  obtain ⟨f, fd, h1, F, h3⟩ := T.fLawLike
  refine ⟨f, fd, h1, F.kp, h3, ?_⟩
  refine Nr.Fun.okG F scLawLike (fun vs H Q E h => ?_) (fun cdv A outer s H vs Q E hg hr h => ?_)
  · obtain ⟨a, b, d, rfl, _⟩ := h
    rfl
  · obtain ⟨a, b, d, rfl, da, db, sh, q⟩ := h
    refine ⟨_, pss_one (ps_ret (pe_cmpR op_eq (pe_callB (call_reprD hg hr.units) (by rfl) T.nrepr (by decide +kernel) (pa_cons (pv 0) pa_nil)) (pe_callB (call_reprD hg hr.units) (by rfl) T.nrepr (by decide +kernel) (pa_cons (pv 1) pa_nil)) (nomark _))), ?_⟩
    refine ⟨.ref a, rfl, a, d, rfl, da, sh, .ref b, rfl, b, d, rfl, db, sh, rfl, ?_⟩
    rw [decide_eq_true rfl]
    exact q

/-! ### _law_begun -/
theorem merge_m (lc lg : Addr) : mergeK [] ([(Sum.inr "cells", V.ref lc), (Sum.inr "great", V.ref lg), (Sum.inr "spot", V.int 0)] : List (Key × V)) = mD lc lg 0 := by
  have p1 : putK ([] : List (Key × V)) (.inr "cells") (.ref lc) = [(.inr "cells", .ref lc)] := rfl
  have p2 : putK ([(Sum.inr "cells", V.ref lc)] : List (Key × V)) (.inr "great") (.ref lg) = [(.inr "cells", .ref lc), (.inr "great", .ref lg)] := by
    unfold putK
    rw [if_neg (by rw [List.any_cons, List.any_nil, decide_eq_false (inr_ne k_cg)]; decide)]
    rfl
  have p3 : putK ([(Sum.inr "cells", V.ref lc), (Sum.inr "great", V.ref lg)] : List (Key × V)) (.inr "spot") (.int 0) = mD lc lg 0 := by
    unfold putK
    rw [if_neg (by rw [List.any_cons, List.any_cons, List.any_nil, decide_eq_false (inr_ne k_cs), decide_eq_false (inr_ne k_gs)]; decide)]
    rfl
  unfold mergeK
  rw [List.foldl_cons, List.foldl_cons, List.foldl_cons, List.foldl_nil]
  show putK (putK (putK ([] : List (Key × V)) (Sum.inr "cells" : Key) (V.ref lc)) (Sum.inr "great" : Key) (V.ref lg)) (Sum.inr "spot" : Key) (V.int 0) = _
  rw [p1, p2, p3]
def spBegun (K : PySem.W.Frag) : Sp := fun vs H Q _ => ∃ (a : Addr) (ns : List Int), vs = [.ref a] ∧ SqL K H a (ns.map V.int) ∧ ns.length ≤ 63 ∧ ∀ (m lc lg : Addr) (H' : Hp), Same H H' → H m = none → H lc = none → H lg = none → MS H' m lc lg 0 → Q (.ref m) H'
theorem ok_begun (T : Txt w K mg) : Ok P w K mg base 2 "_law_begun" ["script"] (spBegun K) := by
  refine ok_of T.fLawBegun fun f fd F => ?_
  refine F.ok scLawBegun (fun vs H Q E h => ?_) (fun cdv A outer s H vs Q E hr h => ?_)
  · obtain ⟨a, ns, rfl, _⟩ := h
    rfl
  · obtain ⟨a, ns, rfl, hS, hz, q⟩ := h
    refine ⟨_, pss_cons (ps_set (i := 1) scLawBegun.nd rfl (.inl rfl) (pe_disp (pps_cons pe_str (pe_callO (ok_folded T) hr (by decide) (by rfl) (pa_cons (pv 0) pa_nil)) (pps_cons pe_str (pe_lst pa_nil) (pps_cons pe_str pe_int pps_nil))) (by rfl) (by rfl) (fun z => by cases z) (by decide)))
      (pss_cons (ps_dput (hu_of hr) (pv 1) pe_str (pe_lc (own := [("cell", 2)]) (g := gName 2) (tt := tYes) (by rfl) scLawBegun.nd (pi_list (pv 0)) (blkOk_by (N := ["script", "m", "cell"]) (sc := defScope sLawBegun) (by decide +kernel)) (fun _ _ _ _ _ => pg_name (i := 2) scLawBegun.nd rfl (.inl rfl)) (fun _ _ _ _ _ => pts_nil)
        (fun _ _ _ _ _ => pe_ifExp (pt_cmpR op_ge (pv 2) (pe_op op_pow pe_int pe_int) (nomark _)) (pv 2) pe_int)) (by rfl))
      (pss_one (ps_ret (pv 1)))), ?_⟩
    intro m nm
    have s0 : Same H (upd H m (.dK [])) := same_new nm
    refine ⟨.ref a, rfl, a, ns, rfl, s0.seq hS, fun lc H1 s1 nlc hc => ⟨Nat.zero_le _, fun l0 nl0 => ?_⟩⟩
    have em1 : H1 m = some (.dK []) := s1 _ _ upd_same
    have ne0 : m ≠ l0 := ne_of_none em1 nl0
    refine ⟨by rw [upd_ne ne0]; exact em1, [(Sum.inr "cells", V.ref lc), (Sum.inr "great", V.ref l0), (Sum.inr "spot", V.int 0)], rfl, by show 3 ≤ 15; decide, ?_⟩
    rw [merge_m]
    obtain ⟨fs, ef, hf⟩ := hc
    have nmc : m ≠ lc := fun e => by
      rw [← e, upd_same] at nlc
      cases nlc
    have sH : Same H H1 := fun b x e => s1 b x (s0 b x e)
    have ncl : H lc = none := by
      have := nlc
      rw [upd_ne nmc.symm] at this
      exact this
    have nh0 : H l0 = none := by
      cases z : H l0 with
      | none => rfl
      | some o => 
        rw [sH _ _ z] at nl0
        cases nl0
    have s2 : Same H (upd (upd H1 l0 (.lst [])) m (.dK (mD lc l0 0))) := same_mut (same_mut sH nh0) nm
    have em2 : (upd (upd H1 l0 (.lst [])) m (.dK (mD lc l0 0))) m = some (.dK (mD lc l0 0)) := upd_same
    have elc : lc ≠ l0 := ne_of_none ef nl0
    have ec2 : (upd (upd H1 l0 (.lst [])) m (.dK (mD lc l0 0))) lc = some (.lst (fs.map V.int)) := by
      rw [upd_ne nmc.symm, upd_ne elc]
      exact ef
    generalize upd (upd H1 l0 (.lst [])) m (.dK (mD lc l0 0)) = H2 at s2 em2 ec2 ⊢
    refine ⟨.ref a, rfl, a, rfl, ⟨_, s2.seq hS⟩, fun D nD => ?_⟩
    have nD0 : H D = none := by
      cases z : H D with
      | none => rfl
      | some o => 
        rw [s2 _ _ z] at nD
        cases nD
    refine lc_list (K := K) (a := a) (xs := ns.map V.int) (fun i H' => Same H2 H' ∧ ∃ gs : List Int, gs.length = i ∧ H' D = some (.lst (gs.map V.int))) ⟨same_new nD, [], rfl, upd_same⟩ (fun i H' hi h => h.1.seq (s2.seq hS)) (fun i x H' hx h => ?_) (fun H' h => ?_)
    · obtain ⟨sm, gs, hl, eD⟩ := h
      have hlt : i < ns.length := by
        have := (List.getElem?_eq_some_iff.mp hx).1
        rw [List.length_map] at this
        exact this
      have ex : x = .int ns[i] := by
        rw [List.getElem?_map, List.getElem?_eq_getElem hlt] at hx
        exact (Option.some.inj hx).symm
      subst ex
      have put : ∀ y : Int, ∃ acc, H' D = some (.lst acc) ∧ acc.length < sizeLine ∧ (Same H2 (upd H' D (.lst (acc ++ [V.int y]))) ∧ ∃ gs : List Int, gs.length = i + 1 ∧ (upd H' D (.lst (acc ++ [V.int y]))) D = some (.lst (gs.map V.int))) := by
        intro y
        refine ⟨_, eD, ?_, same_mut sm nD, gs ++ [y], ?_, ?_⟩
        · rw [List.length_map, hl]
          exact Nat.lt_of_lt_of_le hlt (Nat.le_trans hz (by decide))
        · rw [List.length_append, hl]
          rfl
        · rw [upd_same, List.map_append]
          rfl
      refine ⟨rfl, yes (iteT ?_)⟩
      refine ⟨.int ns[i], rfl, 10, 18, rfl, rfl, ⟨by decide, by decide, by decide⟩, _, _, rfl, rfl, _, rfl, ?_⟩
      refine ite2 (fun _ => ⟨.int ns[i], rfl, put _⟩) (fun _ => put 0)
    · obtain ⟨sm, gs, hl, eD⟩ := h
      have em3 := sm _ _ em2
      have nmD : m ≠ D := ne_of_none em2 nD
      have ncD : lc ≠ D := ne_of_none ec2 nD
      refine ⟨.ref m, rfl, m, upd H' m (.dK (mD lc D 0)), rfl, .inl ⟨_, .inr "great", em3, rfl, by show 3 < sizeLine; decide, by rw [mD_putG]⟩, .ref m, rfl, ?_⟩
      refine q m lc D _ (same_mut (fun b x e => sm b x (s2 b x e)) nm) nm ncl nD0 ⟨ncD, nmD, nmc, ⟨0, Nat.le_refl _, upd_same⟩, ⟨fs, ?_, hf⟩, gs, ?_, ?_⟩
      · rw [upd_ne nmc.symm]
        exact sm _ _ ec2
      · rw [hl, List.length_map]
        exact hz
      · rw [upd_ne nmD.symm]
        exact eD

/-! ### _law_word -/
theorem none_of {H H' : Hp} {p : Addr} (s : Same H H') (h : H' p = none) : H p = none := by
  cases z : H p with
  | none => rfl
  | some o =>
    rw [s _ _ z] at h
    cases h
theorem ones_sum : ∀ ws : List Nat, ((ws.map fun c => S [c]).map (·.length)).sum = ws.length
  | [] => rfl
  | c :: r => by
    rw [List.map_cons, List.map_cons, List.sum_cons, ones_sum r, List.length_cons]
    show 1 + r.length = _
    omega
theorem join_ones (ws : List Nat) : Txt.join (S []) (ws.map fun c => S [c]) = S ws := by
  have e : (ws.map fun c => S [c]) = (ws.map fun c => [c]).map S := by
    rw [List.map_map]
    rfl
  rw [e, join_flat]
  refine congrArg S ?_
  clear e
  induction ws with
  | nil => rfl
  | cons c r ih => rw [List.map_cons, List.flatten_cons, ih]; rfl
def spWord : Sp := fun vs H Q _ => ∃ (m lc lg : Addr) (k most : Nat), vs = [.ref m, .int (most : Int)] ∧ MS H m lc lg k ∧ most ≤ 1000 ∧ k + most < 800000 ∧
  ∀ (u : List Nat) (H' : Hp), Wd u → u.length ≤ most → MS H' m lc lg (k + 1 + most) → Off m lg H H' → Q (.str (S u)) H'
theorem ok_word (T : Txt w K mg) : Ok P w K mg base 3 "_law_word" ["m", "most"] spWord := by
  refine ok_of T.fLawWord fun f fd F => ?_
  refine F.ok scLawWord (fun vs H Q E h => ?_) (fun cdv A outer s H vs Q E hr h => ?_)
  · obtain ⟨m, lc, lg, k, most, rfl, _⟩ := h
    rfl
  · obtain ⟨m, lc, lg, k, most, rfl, hM, hm, hk, q⟩ := h
    refine ⟨_, pss_one (ps_ret (pe_join pe_str (pe_lc (own := [("turn", 2)]) (g := gName 2) (tt := tYes) (by rfl) scLawWord.nd (pi_range1 (by rfl) T.nrange (pa_cons (pe_callO (ok_draw T) hr (by decide) (by rfl) (pa_cons (pv 0) (pa_cons (pe_op op_add (pv 1) pe_int) pa_nil))) pa_nil))
      (blkOk_by (N := ["m", "most", "turn"]) (sc := defScope sLawWord) (by decide +kernel)) (fun _ _ _ _ _ => pg_name (i := 2) scLawWord.nd rfl (.inl rfl)) (fun _ _ _ _ _ => pts_nil)
      (fun _ _ _ _ _ => pe_ix ix_str pe_str (pe_callO (ok_draw T) hr (by decide) (by rfl) (pa_cons (pv 0) (pa_cons pe_int pa_nil))) (fun _ _ => rfl))))), ?_⟩
    refine ⟨⟨_, rfl⟩, .ref m, rfl, .int (most : Int), rfl, _, _, rfl, rfl, m, lc, lg, k, _, rfl, ⟨by omega, by omega⟩, hM, by omega, fun d H1 hd M1 o1 => ?_⟩
    refine ⟨(d : Int), rfl, by omega, by omega, fun D nD => ?_⟩
    obtain ⟨n1, n2, n3⟩ := M1.new nD
    have dn : ((d : Nat) : Int).toNat = d := Int.toNat_natCast d
    rw [dn]
    refine lc_range (lo := 0) (n := d) (fun i H' => ∃ ws : List Nat, H' D = some (.lst ((ws.map fun c => S [c]).map V.str)) ∧ ws.length = i ∧ Wd ws ∧ MS H' m lc lg (k + 1 + i) ∧ Off m lg H1 H') ⟨[], upd_same, rfl, (fun c hc => by cases hc), M1.mut n1 n2 n3, Off.same (same_new nD)⟩ (fun i H' hi h => ?_) (fun H' h => ?_)
    · obtain ⟨ws, eD, hl, hw, M, o⟩ := h
      refine ⟨rfl, yes (iteT ?_)⟩
      refine ⟨.ref m, rfl, m, lc, lg, k + 1 + i, 3, rfl, ⟨by decide, by decide⟩, M, by omega, fun c H2 hc M2 o2 => ?_⟩
      have hc3 : c < 3 := by omega
      have sgn : ([48, 49, 50] : List Nat)[c]? = some (c + 48) := by
        rcases c with _ | _ | _ | c
        · rfl
        · rfl
        · rfl
        · omega
      have wsg : Sg (c + 48) := by
        rcases c with _ | _ | _ | c
        · exact .inl rfl
        · exact .inr (.inl rfl)
        · exact .inr (.inr rfl)
        · omega
      refine ⟨S [48, 49, 50], _, c + 48, rfl, rfl, by show 3 ≤ sizeLine; decide, at_str sgn, _, o2 D _ n1 n3 eD, ?_, ws ++ [c + 48], ?_, ?_, ?_, M2.mut n1 n2 n3, ?_⟩
      · rw [List.length_map, List.length_map, hl]
        exact Nat.lt_of_lt_of_le hi (Nat.le_trans (show d ≤ 1001 by omega) (by decide))
      · rw [upd_same, List.map_append, List.map_append]
        rfl
      · rw [List.length_append, hl]
        rfl
      · exact wd_append.mpr ⟨hw, fun z hz => by rw [List.mem_singleton.mp hz]; exact wsg⟩
      · intro a ob h1 h2 e
        by_cases ea : a = D
        · rw [ea, nD] at e
          cases e
        · rw [upd_ne ea]
          exact o2 a ob h1 h2 (o a ob h1 h2 e)
    · obtain ⟨ws, eD, hl, hw, M, o⟩ := h
      refine ⟨_, D, ws.map (fun c => S [c]), rfl, rfl, .inl (.inl (.inl eD)), ?_, ?_⟩
      · rw [ones_sum, hl, List.length_map, hl]
        show d + d * (S ([] : List Nat)).length ≤ _
        have e0 : (S ([] : List Nat)).length = 0 := rfl
        rw [e0]
        omega
      · show Q (.str (Txt.join (S []) (ws.map fun c => S [c]))) H'
        rw [join_ones]
        exact q ws H' hw (by omega) (M.le (by omega)) (o1.to o)

/-! ### _law_order -/
def spOrder : Sp := fun vs H Q _ => ∃ (m lc lg : Addr) (k many : Nat), vs = [.ref m, .int (many : Int)] ∧ MS H m lc lg k ∧ many ≤ 1000 ∧ k + many < 800000 ∧
  ∀ (os : List Nat) (p : Addr) (H' : Hp), os.Perm (List.range many) → H p = none → H' p = some (.lst (Vi os)) → MS H' m lc lg (k + many) → Off m lg H H' → Q (.ref p) H'
theorem vi_erase (ls : List Nat) (d : Nat) : (Vi ls).eraseIdx d = Vi (ls.eraseIdx d) := by
  unfold Vi
  induction ls generalizing d with
  | nil => rfl
  | cons x r ih =>
    cases d with
    | zero => rfl
    | succ d => 
      rw [List.map_cons, List.eraseIdx_cons_succ, List.eraseIdx_cons_succ, List.map_cons, ih]
theorem erase_perm : ∀ (ls : List Nat) (d x : Nat), ls[d]? = some x → (x :: ls.eraseIdx d).Perm ls
  | [], d, x, h => by cases h
  | y :: r, 0, x, h => by
    cases h
    exact .refl _
  | y :: r, d + 1, x, h => by
    rw [List.eraseIdx_cons_succ]
    exact (List.Perm.swap y x _).trans ((erase_perm r d x h).cons y)
end
end K6

namespace K6
open PySem PySem.Spec PyProof.Rows L2 Nr Nw
/-- the net with its flags told in an order -/
def newRow (N : Net) (os : List Nat) (s : Nat) : List Nat := os.map fun x => os.idxOf (N.stp x s)
def Net.ren (N : Net) (os : List Nat) : Net := ⟨newRow N os 48, newRow N os 49, newRow N os 50⟩
theorem ren_row {N : Net} {os : List Nat} {s : Nat} (h : Sg s) : (N.ren os).row s = newRow N os s := by
  rcases h with e | e | e <;> subst e <;> rfl
theorem perm_mem {os : List Nat} {n : Nat} (h : os.Perm (List.range n)) (x : Nat) : x ∈ os ↔ x < n := by
  rw [h.mem_iff, List.mem_range]
theorem idx_get {os : List Nat} {x : Nat} (h : x ∈ os) : os[os.idxOf x]? = some x := by
  have := List.idxOf_lt_length_of_mem h
  rw [List.getElem?_eq_getElem this, List.getElem_idxOf this]
theorem ren_of {N : Net} {os : List Nat} {n : Nat} (hN : N.Of n) (h : os.Perm (List.range n)) : (N.ren os).Of n := by
  have hl : os.length = n := by rw [h.length_eq, List.length_range]
  have key : ∀ s, (newRow N os s).length = n ∧ ∀ x ∈ newRow N os s, x < n := by
    intro s
    refine ⟨by unfold newRow; rw [List.length_map]; exact hl, fun x hx => ?_⟩
    unfold newRow at hx
    obtain ⟨y, hy, rfl⟩ := List.mem_map.mp hx
    rw [← hl]
    exact List.idxOf_lt_length_of_mem ((perm_mem h _).mpr (hN.get ((perm_mem h y).mp hy) s).2)
  intro s
  unfold Net.row
  split
  · exact key 48
  · split
    · exact key 49
    · exact key 50
theorem ren_stp {N : Net} {os : List Nat} {n : Nat} (hN : N.Of n) (h : os.Perm (List.range n)) {i x s : Nat} (hx : os[i]? = some x) (hs : Sg s) : (N.ren os).stp i s = os.idxOf (N.stp x s) := by
  unfold Net.stp
  rw [ren_row hs]
  unfold newRow
  rw [List.getElem?_map, hx]
  rfl
/-- what the changes do, they do in every order of the flags -/
theorem ren_acts {N : Net} {os : List Nat} {n : Nat} (hN : N.Of n) (h : os.Perm (List.range n)) (A : Nw.Acts N.stp (· < n)) : Nw.Acts (N.ren os).stp (· < n) := by
  have hl : os.length = n := by rw [h.length_eq, List.length_range]
  have nd : os.Nodup := h.nodup_iff.mpr List.nodup_range
  have at_ : ∀ {i : Nat}, i < n → ∃ x, os[i]? = some x ∧ x < n := by
    intro i hi
    have h1 : i < os.length := by omega
    exact ⟨os[i], List.getElem?_eq_getElem h1, (perm_mem h _).mp (List.getElem_mem h1)⟩
  have idx : ∀ {i x : Nat}, os[i]? = some x → os.idxOf x = i := by
    intro i x e
    obtain ⟨h1, h2⟩ := List.getElem?_eq_some_iff.mp e
    rw [← h2]
    exact List.Nodup.idxOf_getElem nd i h1
  have st := fun {i x s : Nat} (hx : os[i]? = some x) (hs : Sg s) => ren_stp (s := s) hN h hx hs
  have nx : ∀ {i x s : Nat}, os[i]? = some x → x < n → Sg s → os[(N.ren os).stp i s]? = some (N.stp x s) ∧ N.stp x s < n := by
    intro i x s e hx hs
    rw [st e hs]
    have lt := (hN.get hx s).2
    exact ⟨idx_get ((perm_mem h _).mpr lt), lt⟩
  refine ⟨fun i s hi hs => ((ren_of hN h).get hi s).2, fun i s hi hs => ?_, fun i hi => ?_⟩
  · obtain ⟨x, e, hx⟩ := at_ hi
    obtain ⟨e1, l1⟩ := nx e hx hs
    rw [st e1 hs, A.back x s hx hs, idx e]
  · obtain ⟨x, e, hx⟩ := at_ hi
    have h0 : Sg 48 := .inl rfl
    have h2 : Sg 50 := .inr (.inr rfl)
    obtain ⟨e1, l1⟩ := nx e hx h0
    obtain ⟨e2, l2⟩ := nx e hx h2
    rw [st e1 h2, st e2 h0, A.comm x hx]
theorem sqt {K : PySem.W.Frag} {H H' : Hp} {a : Addr} {xs : List V} (e : Same H H') (h : SqT K H a xs) : SqT K H' a xs := by
  rcases h with h | h
  · exact .inl (rd_keep (fun o => e a o) h)
  · exact .inr h
section
variable {P : Program} {w : World} {K : PySem.W.Frag} {mg : Str → Option Value} {base : Heap}
/-- the names of the outer comprehension -/
def scCh : Scope := { kind := .function, names := [(".0", .local), ("change", .cell), ("tuple", .globalImplicit), ("order", .free), ("spots", .free)], isGenerator := false, isCoroutine := false }
def rTupOf (K : PySem.W.Frag) : List V → Hp → VK → Prop := fun xs H Q => ∃ p ys, xs = [.ref p] ∧ ((SqL K H p ys ∧ ∀ l, H l = none → Q (.ref l) (upd H l (.tup ys))) ∨ (SqT K H p ys ∧ Q (.ref p) H))
def spNumbered (K : PySem.W.Frag) : Sp := fun vs H Q _ => ∃ (p q : Addr) (N : Net) (n : Nat) (os : List Nat), vs = [.ref p, .ref q] ∧ NetAt K H p N ∧ N.Of n ∧ SqL K H q (Vi os) ∧ os.Perm (List.range n) ∧ n ≤ 1000 ∧
  ∀ (p' : Addr) (H' : Hp), Same H H' → NetAt K H' p' (N.ren os) → Q (.ref p') H'
end
end K6

namespace K6
open PySem PySem.Spec PyProof.Rows L2 Nr Nw
def endF (x : Nat) : Nat := if x % 2 = 0 then x + 1 else x - 1
def sideF (x : Nat) : Nat := if x % 4 < 2 then x + 2 else x - 2
/-- the net of squares whose flags change 1 leads as told -/
def pairN (ps : List Nat) : Net := ⟨(List.range ps.length).map endF, ps, (List.range ps.length).map sideF⟩
def PairOk (ps : List Nat) (n : Nat) : Prop := ps.length = n ∧ ∀ x, x < n → ∃ y, y < n ∧ ps[x]? = some y ∧ ps[y]? = some x
theorem endF_lt {x n : Nat} (h : n % 4 = 0) (hx : x < n) : endF x < n := by
  unfold endF
  split <;> omega
theorem sideF_lt {x n : Nat} (h : n % 4 = 0) (hx : x < n) : sideF x < n := by
  unfold sideF
  split <;> omega
theorem endF_back (x : Nat) : endF (endF x) = x := by
  unfold endF
  split <;> split <;> omega
theorem sideF_back (x : Nat) : sideF (sideF x) = x := by
  unfold sideF
  split <;> split <;> omega
theorem end_side (x : Nat) : sideF (endF x) = endF (sideF x) := by
  unfold sideF endF
  split <;> split <;> split <;> split <;> omega
theorem range_map_get {f : Nat → Nat} {n x : Nat} (h : x < n) : ((List.range n).map f)[x]? = some (f x) := by
  rw [List.getElem?_map, List.getElem?_range h]
  rfl
theorem pair_of {ps : List Nat} {n : Nat} (h : PairOk ps n) (h4 : n % 4 = 0) : (pairN ps).Of n := by
  have r1 : ∀ {f : Nat → Nat}, (∀ x, x < n → f x < n) → ((List.range ps.length).map f).length = n ∧ ∀ x ∈ (List.range ps.length).map f, x < n := by
    intro f hf
    refine ⟨by rw [List.length_map, List.length_range]; exact h.1, fun x hx => ?_⟩
    obtain ⟨y, hy, rfl⟩ := List.mem_map.mp hx
    refine hf y ?_
    rw [List.mem_range, h.1] at hy
    exact hy
  intro s
  unfold Net.row
  split
  · exact r1 fun x hx => endF_lt h4 hx
  · split
    · refine ⟨h.1, fun x hx => ?_⟩
      obtain ⟨i, hi, e⟩ := List.mem_iff_getElem.mp (show x ∈ ps from hx)
      obtain ⟨y, hy, e1, _⟩ := h.2 i (by rw [← h.1]; exact hi)
      have : ps[i]? = some x := by rw [List.getElem?_eq_getElem hi, e]
      rw [this] at e1
      cases e1
      exact hy
    · exact r1 fun x hx => sideF_lt h4 hx
theorem pair_stp {ps : List Nat} {n x : Nat} (h : PairOk ps n) (hx : x < n) : (pairN ps).stp x 48 = endF x ∧ (pairN ps).stp x 50 = sideF x ∧ (pairN ps).stp x 49 = ps[x]?.getD 0 := by
  refine ⟨?_, ?_, rfl⟩
  · show ((List.range ps.length).map endF)[x]?.getD 0 = _
    rw [range_map_get (by rw [h.1]; exact hx)]
    rfl
  · show ((List.range ps.length).map sideF)[x]?.getD 0 = _
    rw [range_map_get (by rw [h.1]; exact hx)]
    rfl
theorem pair_acts {ps : List Nat} {n : Nat} (h : PairOk ps n) (h4 : n % 4 = 0) : Nw.Acts (pairN ps).stp (· < n) := by
  have st := fun {x : Nat} (hx : x < n) => pair_stp h hx
  refine ⟨fun x s hx _ => ((pair_of h h4).get hx s).2, fun x s hx hs => ?_, fun x hx => ?_⟩
  · rcases hs with e | e | e <;> subst e
    · rw [(st hx).1, (st (endF_lt h4 hx)).1, endF_back]
    · obtain ⟨y, hy, e1, e2⟩ := h.2 x hx
      have s1 : (pairN ps).stp x 49 = y := by
        rw [(st hx).2.2, e1]
        rfl
      rw [s1, (st hy).2.2, e2]
      rfl
    · rw [(st hx).2.1, (st (sideF_lt h4 hx)).2.1, sideF_back]
  · rw [(st hx).1, (st hx).2.1, (st (endF_lt h4 hx)).2.1, (st (sideF_lt h4 hx)).1, end_side]
section
variable {P : Program} {w : World} {K : PySem.W.Frag} {mg : Str → Option Value} {base : Heap}
theorem vi_snoc (cs : List Nat) (c : Nat) : Vi cs ++ [.int (c : Int)] = Vi (cs ++ [c]) := by
  unfold Vi
  rw [List.map_append]
  rfl
def spPaired (K : PySem.W.Frag) : Sp := fun vs H Q _ => ∃ (l : Addr) (ps : List Nat), vs = [.ref l] ∧ SqL K H l (Vi ps) ∧ ps.length ≤ 1000 ∧ ∀ (p' : Addr) (H' : Hp), Same H H' → NetAt K H' p' (pairN ps) → Q (.ref p') H'
end
end K6

namespace K6
open PySem PySem.Spec PyProof.Rows L2 Nr Nw
/-- ls: flags without a partner; the others have one -/
structure Half (n : Nat) (ls ps : List Nat) : Prop where
  len : ps.length = n
  nd : ls.Nodup
  low : ∀ x ∈ ls, x < n
  has : ∀ x, x < n → x ∉ ls → ∃ y, y < n ∧ y ∉ ls ∧ ps[x]? = some y ∧ ps[y]? = some x
  mv : ∀ x, x < n → x ∉ ls → ps[x]? ≠ some x
theorem Half.moved {n : Nat} {ps : List Nat} (h : Half n [] ps) : ∀ x, x < n → ps[x]? ≠ some x := fun x hx => h.mv x hx List.not_mem_nil
theorem Half.ok {n : Nat} {ps : List Nat} (h : Half n [] ps) : PairOk ps n := ⟨h.len, fun x hx => by
  obtain ⟨y, h1, _, h3⟩ := h.has x hx (List.not_mem_nil)
  exact ⟨y, h1, h3⟩⟩
theorem set_get {ps : List Nat} {a b x : Nat} (ha : a < ps.length) : (ps.set a b)[x]? = if x = a then some b else ps[x]? := by
  by_cases e : x = a
  · rw [if_pos e, e, List.getElem?_set_self ha]
  · rw [if_neg e, List.getElem?_set_ne (Ne.symm e)]
/-- two flags are put together -/
theorem Half.put {n : Nat} {ls ps ls' : List Nat} {a b : Nat} (h : Half n ls ps) (hp : (a :: b :: ls').Perm ls) : Half n ls' ((ps.set a b).set b a) := by
  have nd : (a :: b :: ls').Nodup := hp.nodup_iff.mpr h.nd
  have mem : ∀ x, x ∈ ls ↔ x = a ∨ x = b ∨ x ∈ ls' := by
    intro x
    rw [← hp.mem_iff, List.mem_cons, List.mem_cons]
  have na : a ≠ b ∧ a ∉ ls' := by
    have := (List.nodup_cons.mp nd).1
    exact ⟨fun e => this (by rw [e]; exact List.mem_cons_self), fun e => this (List.mem_cons_of_mem _ e)⟩
  have nb : b ∉ ls' := (List.nodup_cons.mp (List.nodup_cons.mp nd).2).1
  have la : a < n := h.low a ((mem a).mpr (.inl rfl))
  have lb : b < n := h.low b ((mem b).mpr (.inr (.inl rfl)))
  have g : ∀ x, ((ps.set a b).set b a)[x]? = if x = b then some a else if x = a then some b else ps[x]? := by
    intro x
    rw [set_get (by rw [List.length_set, h.len]; exact lb), set_get (by rw [h.len]; exact la)]
  refine ⟨by rw [List.length_set, List.length_set]; exact h.len, (List.nodup_cons.mp (List.nodup_cons.mp nd).2).2, fun x hx => h.low x ((mem x).mpr (.inr (.inr hx))), fun x hx hn => ?_, fun x hx hn => ?_⟩
  rotate_left
  · rw [g]
    by_cases eb : x = b
    · rw [if_pos eb]
      exact fun z => na.1 (by rw [← eb]; exact Option.some.inj z)
    · rw [if_neg eb]
      by_cases ea : x = a
      · rw [if_pos ea]
        exact fun z => na.1 (by rw [← ea]; exact (Option.some.inj z).symm)
      · rw [if_neg ea]
        refine h.mv x hx fun z => ?_
        rcases (mem x).mp z with y | y | y
        · exact ea y
        · exact eb y
        · exact hn y
  by_cases ea : x = a
  · subst ea
    exact ⟨b, lb, nb, by rw [g, if_neg na.1, if_pos rfl], by rw [g, if_pos rfl]⟩
  · by_cases eb : x = b
    · subst eb
      exact ⟨a, la, na.2, by rw [g, if_pos rfl], by rw [g, if_neg na.1, if_pos rfl]⟩
    · have hx' : x ∉ ls := fun z => by
        rcases (mem x).mp z with y | y | y
        · exact ea y
        · exact eb y
        · exact hn y
      obtain ⟨y, h1, h2, h3, h4⟩ := h.has x hx hx'
      have ya : y ≠ a := fun z => h2 ((mem y).mpr (.inl z))
      have yb : y ≠ b := fun z => h2 ((mem y).mpr (.inr (.inl z)))
      exact ⟨y, h1, fun z => h2 ((mem y).mpr (.inr (.inr z))), by rw [g, if_neg eb, if_neg ea]; exact h3, by rw [g, if_neg yb, if_neg ya]; exact h4⟩
/-- no flag stays where it is -/
def Net.Free (N : Net) (n : Nat) : Prop := ∀ x, x < n → N.stp x 48 ≠ x ∧ N.stp x 49 ≠ x ∧ N.stp x 50 ≠ x ∧ N.stp (N.stp x 48) 50 ≠ x
theorem endF_ne (x : Nat) : endF x ≠ x := by
  unfold endF
  split <;> omega
theorem sideF_ne (x : Nat) : sideF x ≠ x := by
  unfold sideF
  split <;> omega
theorem both_ne (x : Nat) : sideF (endF x) ≠ x := by
  unfold sideF endF
  split <;> split <;> omega
theorem pair_free {ps : List Nat} {n : Nat} (h : PairOk ps n) (h4 : n % 4 = 0) (hm : ∀ x, x < n → ps[x]? ≠ some x) : (pairN ps).Free n := by
  intro x hx
  obtain ⟨s0, s2, s1⟩ := pair_stp h hx
  refine ⟨by rw [s0]; exact endF_ne x, ?_, by rw [s2]; exact sideF_ne x, ?_⟩
  · rw [s1]
    obtain ⟨y, _, e1, _⟩ := h.2 x hx
    have := hm x hx
    rw [e1] at this ⊢
    exact fun z => this (by rw [show y = x from z])
  · rw [s0, (pair_stp h (endF_lt h4 hx)).2.1]
    exact both_ne x
theorem ren_free {N : Net} {os : List Nat} {n : Nat} (hN : N.Of n) (h : os.Perm (List.range n)) (F : N.Free n) : (N.ren os).Free n := by
  intro i hi
  have lo : os.length = n := by rw [h.length_eq, List.length_range]
  have ndp : os.Nodup := h.nodup_iff.mpr List.nodup_range
  have gi : os[i]? = some os[i] := List.getElem?_eq_getElem (by omega)
  have xl : os[i] < n := (perm_mem h _).mp (List.getElem_mem (by omega))
  have back : os.idxOf os[i] = i := List.Nodup.idxOf_getElem ndp i (by omega)
  generalize os[i] = x at gi xl back
  obtain ⟨f0, f1, f2, f3⟩ := F x xl
  have inj : ∀ y, y < n → y ≠ x → os.idxOf y ≠ i := fun y hy ne z => ne (by
    have h1 := idx_get ((perm_mem h y).mpr hy)
    rw [z, gi] at h1
    exact (Option.some.inj h1).symm)
  have st := fun {j y s : Nat} (hy : os[j]? = some y) (hs : Sg s) => ren_stp hN h hy hs
  refine ⟨?_, ?_, ?_, ?_⟩
  · rw [st gi (.inl rfl)]
    exact inj _ (hN.get xl 48).2 f0
  · rw [st gi (.inr (.inl rfl))]
    exact inj _ (hN.get xl 49).2 f1
  · rw [st gi (.inr (.inr rfl))]
    exact inj _ (hN.get xl 50).2 f2
  · have l0 := (hN.get xl 48).2
    rw [st gi (.inl rfl), st (idx_get ((perm_mem h _).mpr l0)) (.inr (.inr rfl))]
    exact inj _ (hN.get l0 50).2 f3
section
variable {P : Program} {w : World} {K : PySem.W.Frag} {mg : Str → Option Value} {base : Heap}
theorem vi_set (cs : List Nat) (i c : Nat) : (Vi cs).set i (.int (c : Int)) = Vi (cs.set i c) := by
  unfold Vi
  rw [List.map_set]
def spNet (K : PySem.W.Frag) : Sp := fun vs H Q _ => ∃ (m lc lg : Addr) (k most : Nat), vs = [.ref m, .int (most : Int)] ∧ (0 < most ∧ most ≤ 20) ∧ MS H m lc lg k ∧ k < 700000 ∧
  ∀ (N : Net) (n : Nat) (p' : Addr) (H' : Hp), N.Of n → 0 < n → n ≤ 80 → Nw.Acts N.stp (· < n) → N.Free n → NetAt K H' p' N → MS H' m lc lg (k + 200) → Off m lg H H' → Q (.ref p') H'
end
end K6

namespace K6
open PySem PySem.Spec PyProof.Rows L2 Nr Nw
/-- texts of words -/
def Vs (ws : List (List Nat)) : List V := ws.map fun u => V.str (S u)
theorem vs_len (ws : List (List Nat)) : (Vs ws).length = ws.length := List.length_map ..
theorem vs_get {ws : List (List Nat)} {i : Nat} {u : List Nat} (h : ws[i]? = some u) : (Vs ws)[i]? = some (.str (S u)) := by
  unfold Vs
  rw [List.getElem?_map, h]
  rfl
theorem vs_snoc (ws : List (List Nat)) (u : List Nat) : Vs ws ++ [.str (S u)] = Vs (ws ++ [u]) := by
  unfold Vs
  rw [List.map_append]
  rfl
def Good (i : Nat) (w : List Nat) : Prop := Wd w ∧ cut w = w ∧ w.length ≤ i
section
variable {P : Program} {w : World} {K : PySem.W.Frag} {mg : Str → Option Value} {base : Heap}
def spAll : Sp := fun vs H Q _ => vs = [.int 5] ∧ ∀ (p : Addr) (H' : Hp) (ws : List (List Nat)), Same H H' → H p = none → H' p = some (.lst (Vs ws)) → (∀ u ∈ ws, Good 5 u) → ws.length ≤ 5001 → Q (.ref p) H'
theorem ok_all (T : Txt w K mg) : Ok P w K mg base 2 "_law_all_words" ["most"] spAll := by
  refine ok_of T.fLawAllWords fun f fd F => ?_
  refine F.ok scLawAllWords (fun vs H Q E h => ?_) (fun cdv A outer s H vs Q E hr h => ?_)
  · obtain ⟨rfl, _⟩ := h
    rfl
  · obtain ⟨rfl, q⟩ := h
    refine ⟨_, pss_cons (ps_par (i := 2) (j := 3) (by rfl) scLawAllWords.nd rfl rfl (by decide) rfl rfl (pa_cons (pe_lst (pa_cons pe_str pa_nil)) (pa_cons (pe_lst (pa_cons pe_str pa_nil)) pa_nil)) (by rfl))
      (pss_cons (ps_for PassesOwn.never rfl (pi_range1 (by rfl) T.nrange (pa_cons (pv 0) pa_nil)) (pg_name (i := 1) scLawAllWords.nd rfl (.inl rfl))
        (pss_cons (ps_set (i := 4) scLawAllWords.nd rfl (.inl rfl) (pe_lst pa_nil))
        (pss_cons (ps_for PassesOwn.never rfl (pi_list (pv 3)) (pg_name (i := 5) scLawAllWords.nd rfl (.inl rfl))
          (pss_one (ps_for PassesOwn.never rfl (pi_str pe_str) (pg_name (i := 6) scLawAllWords.nd rfl (.inl rfl))
            (pss_one (ps_if (pt_cmpR op_eq (pe_callO (ok_cut T) hr (by decide) (by rfl) (pa_cons (pe_op op_add_str (pv 5) (pv 6)) pa_nil)) (pe_op op_add_str (pv 5) (pv 6)) (nomark _))
              (pss_one (ps_expr (pe_bm PySem.F.plainAttrs_list PySem.F.slot_list_append PySem.F.type_list_append mt_append (pv 4) (pa_cons (pe_op op_add_str (pv 5) (pv 6)) pa_nil)))) pss_nil)))))
        (pss_cons (ps_set (i := 2) scLawAllWords.nd rfl (.inl rfl) (pe_op op_cat (pv 2) (pv 4)))
        (pss_one (ps_set (i := 3) scLawAllWords.nd rfl (.inl rfl) (pv 4)))))))
      (pss_one (ps_ret (pv 2)))), ?_⟩
    have one1 : (1 : Nat) ≤ sizeLine := by decide
    refine ⟨one1, fun fl nf => ?_⟩
    refine ⟨one1, fun rl nr => ?_⟩
    refine ⟨_, _, rfl, ?_⟩
    have nf0 : H fl = none := nf
    have nr0 : H rl = none := none_of (same_new nf) nr
    have nfr : fl ≠ rl := fun e => by
      rw [← e, upd_same] at nr
      cases nr
    have s1 : Same H (upd (upd H fl (.lst (Vs [[]]))) rl (.lst (Vs [[]]))) := same_mut (same_new nf) nr0
    have g0 : Good 0 [] := ⟨(fun c hc => by cases hc), rfl, Nat.le_refl _⟩
    refine ⟨.int 5, rfl, 5, rfl, by decide, by decide, ?_⟩
    refine ⟨fun i m σ H3 => ∃ (y1 y4 y5 y6 : Option V) (fl rl : Addr) (ws rs : List (List Nat)), σ = [some (.int 5), y1, some (.ref fl), some (.ref rl), y4, y5, y6] ∧ i + m = 5 ∧ Same H H3 ∧ H fl = none ∧ H3 fl = some (.lst (Vs ws)) ∧ H3 rl = some (.lst (Vs rs)) ∧ (∀ u ∈ ws, Good 5 u) ∧ (∀ u ∈ rs, Good i u) ∧ rs.length ≤ 3 ^ i ∧ ws.length ≤ 1 + 1000 * i,
      ⟨5, none, none, none, none, fl, rl, [[]], [[]], rfl, rfl, s1, nf0, by rw [upd_ne nfr]; exact upd_same, upd_same, (fun u hu => by rw [List.mem_singleton.mp hu]; exact ⟨g0.1, g0.2.1, Nat.zero_le _⟩), (fun u hu => by rw [List.mem_singleton.mp hu]; exact g0), by decide, by decide⟩, ?_⟩
    clear s1 nfr nf0 nr0 nr nf
    clear fl rl
    rintro i m σ H3 ⟨y1, y4, y5, y6, fl, rl, ws, rs, rfl, em, sm, nf, ef, er, gw, gr, lr, lw⟩
    by_cases hi : i < 5
    · refine .inr ⟨hi, fun σ' H' => ∃ (y1 y4 y5 y6 : Option V) (fl rl : Addr) (ws rs : List (List Nat)), σ' = [some (.int 5), y1, some (.ref fl), some (.ref rl), y4, y5, y6] ∧ Same H H' ∧ H fl = none ∧ H' fl = some (.lst (Vs ws)) ∧ H' rl = some (.lst (Vs rs)) ∧ (∀ u ∈ ws, Good 5 u) ∧ (∀ u ∈ rs, Good (i + 1) u) ∧ rs.length ≤ 3 ^ (i + 1) ∧ ws.length ≤ 1 + 1000 * (i + 1), ?_, ?_⟩
      · rintro σ' H' ⟨z1, z4, z5, z6, fl', rl', ws', rs', e, r⟩
        exact ⟨m - 1, by omega, z1, z4, z5, z6, fl', rl', ws', rs', e, by omega, r⟩
      · rintro v H' ⟨rfl, rfl⟩
        refine ⟨Nat.zero_le _, fun lo nlo => ?_⟩
        have nlo0 : H lo = none := none_of sm nlo
        have p5 : 3 ^ i ≤ 81 := by
          have : 3 ^ i ≤ 3 ^ 4 := Nat.pow_le_pow_right (by decide) (by omega)
          exact this
        have rne : rl ≠ lo := ne_of_none er nlo
        have fne : fl ≠ lo := ne_of_none ef nlo
        -- over the row
        refine ⟨.ref rl, rfl, rl, rfl, ⟨Vs rs, .inl (.inl (by rw [upd_ne rne]; exact er))⟩, ?_⟩
        refine ⟨fun j mm σ H4 => ∃ (y5 y6 : Option V) (ls : List (List Nat)), σ = [some (.int 5), some (.int (0 + (i : Nat))), some (.ref fl), some (.ref rl), some (.ref lo), y5, y6] ∧ j + mm = rs.length ∧ Same H H4 ∧ H4 fl = some (.lst (Vs ws)) ∧ H4 rl = some (.lst (Vs rs)) ∧ H4 lo = some (.lst (Vs ls)) ∧ (∀ u ∈ ls, Good (i + 1) u) ∧ ls.length ≤ 3 * j,
          ⟨rs.length, y5, y6, [], rfl, by omega, same_mut sm nlo0, by rw [upd_ne fne]; exact ef, by rw [upd_ne rne]; exact er, upd_same, (fun u hu => by cases hu), Nat.le_refl _⟩, ?_⟩
        rintro j mm σ H4 ⟨x5, x6, ls, rfl, em4, sm4, ef4, er4, el4, gl, ll⟩
        by_cases hj : j < rs.length
        · have gj : rs[j]? = some rs[j] := List.getElem?_eq_getElem hj
          have gu := gr _ (List.getElem_mem hj)
          generalize rs[j] = u at gj gu
          refine .inr ⟨⟨_, _, .inl (.inl er4), vs_get gj⟩, fun σ' H' => ∃ (y5 y6 : Option V) (ls : List (List Nat)), σ' = [some (.int 5), some (.int (0 + (i : Nat))), some (.ref fl), some (.ref rl), some (.ref lo), y5, y6] ∧ Same H H' ∧ H' fl = some (.lst (Vs ws)) ∧ H' rl = some (.lst (Vs rs)) ∧ H' lo = some (.lst (Vs ls)) ∧ (∀ u ∈ ls, Good (i + 1) u) ∧ ls.length ≤ 3 * (j + 1), ?_, ?_⟩
          · rintro σ' H' ⟨z5, z6, ls', e, r⟩
            exact ⟨mm - 1, by omega, z5, z6, ls', e, by omega, r⟩
          · rintro v H' ⟨rfl, fv⟩
            have ev := Option.some.inj ((fv _ (.inl (.inl er4))).symm.trans (vs_get gj))
            subst ev
            -- over the signs
            refine ⟨S [48, 49, 50], rfl, ?_⟩
            refine ⟨fun t mt σ H5 => ∃ (y6 : Option V) (ls : List (List Nat)), σ = [some (.int 5), some (.int (0 + (i : Nat))), some (.ref fl), some (.ref rl), some (.ref lo), some (.str (S u)), y6] ∧ t + mt = 3 ∧ Same H H5 ∧ H5 fl = some (.lst (Vs ws)) ∧ H5 rl = some (.lst (Vs rs)) ∧ H5 lo = some (.lst (Vs ls)) ∧ (∀ u ∈ ls, Good (i + 1) u) ∧ ls.length ≤ 3 * j + t,
              ⟨3, x6, ls, rfl, rfl, sm4, ef4, er4, el4, gl, ll⟩, ?_⟩
            rintro t mt σ H5 ⟨w6, ks, rfl, em5, sm5, ef5, er5, el5, gk, lk⟩
            by_cases ht : t < 3
            · refine .inr ⟨ht, fun σ' H' => ∃ (y6 : Option V) (ls : List (List Nat)), σ' = [some (.int 5), some (.int (0 + (i : Nat))), some (.ref fl), some (.ref rl), some (.ref lo), some (.str (S u)), y6] ∧ Same H H' ∧ H' fl = some (.lst (Vs ws)) ∧ H' rl = some (.lst (Vs rs)) ∧ H' lo = some (.lst (Vs ls)) ∧ (∀ u ∈ ls, Good (i + 1) u) ∧ ls.length ≤ 3 * j + (t + 1), ?_, ?_⟩
              · rintro σ' H' ⟨z6, ls', e, r⟩
                exact ⟨mt - 1, by omega, z6, ls', e, by omega, r⟩
              · rintro v H' ⟨rfl, c, hc, rfl⟩
                have sgc : Sg c := by
                  have e0 : ([48, 49, 50] : List Nat)[t]? = some c := (List.getElem?_toArray).symm.trans hc
                  have : c ∈ ([48, 49, 50] : List Nat) := List.mem_of_getElem? e0
                  simp only [List.mem_cons, List.not_mem_nil, or_false] at this
                  exact this
                have wd : Wd (u ++ [c]) := wd_append.mpr ⟨gu.1, fun z hz => by rw [List.mem_singleton.mp hz]; exact sgc⟩
                have lz : (u ++ [c]).length ≤ i + 1 := by
                  rw [List.length_append]
                  have := gu.2.2
                  have e1 : ([c] : List Nat).length = 1 := rfl
                  omega
                have fits : (S u).length + (S [c]).length ≤ sizeLine := by
                  show u.length + 1 ≤ _
                  have := gu.2.2
                  exact Nat.le_trans (show u.length + 1 ≤ 10 by omega) (by decide)
                have esc : S u ++ S [c] = S (u ++ [c]) := s_app u [c]
                refine ⟨.str (S u), rfl, .str (S [c]), rfl, _, _, rfl, rfl, fits, u ++ [c], congrArg (fun z => [V.str z]) esc, ⟨wd, by omega⟩, .str (S u), rfl, .str (S [c]), rfl, _, _, rfl, rfl, fits, rfl, _, rfl, ?_⟩
                by_cases hcut : cut (u ++ [c]) = u ++ [c]
                · refine iteDT (by rw [hcut, ← esc]) ?_
                  refine ⟨.ref lo, rfl, .inl ⟨rfl, _, .inl (.inl el5)⟩, .str (S u), rfl, .str (S [c]), rfl, _, _, rfl, rfl, fits, lo, _, _, rfl, rfl, el5, ?_, ?_⟩
                  · rw [vs_len]
                    exact Nat.lt_of_le_of_lt (show ks.length ≤ 1000 by omega) (by decide)
                  · refine ⟨_, ks ++ [u ++ [c]], rfl, same_mut sm5 nlo0, by rw [upd_ne fne]; exact ef5, by rw [upd_ne rne]; exact er5, ?_, ?_, ?_⟩
                    · rw [upd_same, ← vs_snoc, ← esc]
                    · intro z hz
                      rcases List.mem_append.mp hz with h | h
                      · exact gk z h
                      · rw [List.mem_singleton.mp h]
                        exact ⟨wd, hcut, lz⟩
                    · rw [List.length_append]
                      have e1 : ([u ++ [c]] : List (List Nat)).length = 1 := rfl
                      omega
                · refine iteDF (fun z => hcut ?_) ?_
                  · have := V.str.inj z
                    have z2 : S (cut (u ++ [c])) = S (u ++ [c]) := this.trans esc
                    exact s_inj z2
                  · exact ⟨_, ks, rfl, sm5, ef5, er5, el5, gk, by omega⟩
            · refine .inl ⟨by show 3 ≤ t; omega, ?_⟩
              exact ⟨_, _, ks, rfl, sm5, ef5, er5, el5, gk, by omega⟩
        · refine .inl ⟨⟨_, .inl (.inl er4), by rw [vs_len]; omega⟩, ?_⟩
          have jl : j ≤ rs.length := by omega
          refine ⟨.ref fl, rfl, .ref lo, rfl, fl, lo, Vs ws, Vs ls, rfl, rfl, ef4, el4, ?_, fun p np => ?_⟩
          · rw [vs_len, vs_len]
            exact Nat.le_trans (show ws.length + ls.length ≤ 10000 by omega) (by decide)
          · have sp : Same H4 (upd H4 p (.lst (Vs ws ++ Vs ls))) := same_new np
            refine ⟨.ref lo, rfl, some (.int (0 + (i : Nat))), some (.ref lo), x5, x6, p, lo, ws ++ ls, ls, rfl, Same.to sm4 sp, none_of sm4 np, ?_, sp _ _ el4, ?_, gl, ?_, ?_⟩
            · rw [upd_same]
              unfold Vs
              rw [List.map_append]
            · intro u hu
              rcases List.mem_append.mp hu with h | h
              · exact gw u h
              · have := gl u h
                exact ⟨this.1, this.2.1, Nat.le_trans this.2.2 (by omega)⟩
            · rw [Nat.pow_succ]
              omega
            · rw [List.length_append]
              omega
    · refine .inl ⟨by show 5 ≤ i; omega, ?_⟩
      exact ⟨.ref fl, rfl, q fl H3 ws sm nf ef gw (by omega)⟩
end
end K6

namespace K6
open PySem PySem.Spec PyProof.Rows L2 Nr Nw
/-! ### pieces -/
def pst (st : List (List Nat)) (c : Nat) : List (List Nat) := if c = 50 ∧ st.head? = some [48] then [48, 50] :: st.tail else [c] :: st
def P4 (p : List Nat) : Prop := p = [48] ∨ p = [50] ∨ p = [48, 50] ∨ p = [49]
/-- pieces, the last one first: one of two neighbors is "1" -/
def Pal : List (List Nat) → Prop
  | [] => True
  | [p] => P4 p
  | p :: q :: r => P4 p ∧ ((p = [49] ∧ q ≠ [49]) ∨ (p ≠ [49] ∧ q = [49])) ∧ Pal (q :: r)
theorem Pal.tail {p : List Nat} {r : List (List Nat)} (h : Pal (p :: r)) : Pal r := by
  cases r with
  | nil => trivial
  | cons q r => exact h.2.2
theorem Pal.head {p : List Nat} {r : List (List Nat)} (h : Pal (p :: r)) : P4 p := by
  cases r with
  | nil => exact h
  | cons q r => exact h.1
theorem Pal.all : ∀ {st : List (List Nat)}, Pal st → ∀ p ∈ st, P4 p
  | [], _, p, hp => by cases hp
  | q :: r, h, p, hp => by
    rcases List.mem_cons.mp hp with e | e
    · rw [e]; exact h.head
    · exact Pal.all h.tail p e
def pcs (u : List Nat) : List (List Nat) := u.foldl pst []
theorem pcs_snoc (u : List Nat) (c : Nat) : pcs (u ++ [c]) = pst (pcs u) c := by
  unfold pcs
  rw [List.foldl_append]
  rfl
theorem fw_snoc {u : List Nat} {c : Nat} (h : Fw (u ++ [c])) : Fw u ∧ Sg c ∧ ∀ a, u.getLast? = some a → Nb c a := by
  have hr := fw_rd h
  rw [List.reverse_append] at hr
  have hr' : Rd (c :: u.reverse) := hr
  refine ⟨rd_fw hr'.tail, hr'.head, fun a e => ?_⟩
  rw [← List.head?_reverse] at e
  cases e2 : u.reverse with
  | nil => rw [e2] at e; cases e
  | cons b r =>
    rw [e2] at e hr'
    cases e
    exact nb_of hr'
theorem pcs_pal : ∀ (n : Nat) (u : List Nat), u.length = n → Fw u → Pal (pcs u) ∧ (pcs u).reverse.flatten = u ∧ (∀ p, (pcs u).head? = some p → p.getLast? = u.getLast?)
  | 0, u, hn, _ => by
    rw [List.length_eq_zero_iff.mp hn]
    exact ⟨trivial, rfl, fun p h => by cases h⟩
  | n + 1, u, hn, hf => by
    have hne : u ≠ [] := fun z => by rw [z] at hn; cases hn
    have eu := (List.dropLast_concat_getLast hne).symm
    have hl : u.dropLast.length = n := by rw [List.length_dropLast]; omega
    rw [eu] at hf ⊢
    generalize u.dropLast = v at hf hl ⊢
    generalize u.getLast hne = c at hf ⊢
    obtain ⟨hv, hc, hnb⟩ := fw_snoc hf
    obtain ⟨h1, h2, h3⟩ := pcs_pal n v hl hv
    rw [pcs_snoc]
    have lastc : (v ++ [c]).getLast? = some c := List.getLast?_concat ..
    rw [lastc]
    generalize hst : pcs v = st at h1 h2 h3
    unfold pst
    by_cases e : c = 50 ∧ st.head? = some [48]
    · rw [if_pos e]
      obtain ⟨rfl, e2⟩ := e
      cases st with
      | nil => cases e2
      | cons p r =>
        cases e2
        refine ⟨?_, ?_, fun p hp => by cases hp; rfl⟩
        · cases r with
          | nil => exact .inr (.inr (.inl rfl))
          | cons q r =>
            refine ⟨.inr (.inr (.inl rfl)), ?_, h1.2.2⟩
            rcases h1.2.1 with ⟨z, _⟩ | ⟨_, z⟩
            · cases z
            · exact .inr ⟨by decide, z⟩
        · rw [← h2]
          rw [List.tail_cons, List.reverse_cons, List.reverse_cons, List.flatten_append, List.flatten_append, List.append_assoc]
          rfl
    · rw [if_neg e]
      have p4 : P4 [c] := by
        rcases hc with z | z | z <;> subst z
        · exact .inl rfl
        · exact .inr (.inr (.inr rfl))
        · exact .inr (.inl rfl)
      refine ⟨?_, ?_, fun p hp => by cases hp; rfl⟩
      · cases st with
        | nil => exact p4
        | cons q r =>
          refine ⟨p4, ?_, h1⟩
          have hq := h3 q rfl
          have q4 := h1.head
          have nb := fun a (ha : q.getLast? = some a) => hnb a (by rw [← hq]; exact ha)
          rcases q4 with z | z | z | z <;> subst z
          · have n1 := nb 48 rfl
            rcases hc with y | y | y
            · exact absurd y n1.1
            · subst y; exact .inl ⟨rfl, by decide⟩
            · exact absurd ⟨y, rfl⟩ e
          · have n1 := nb 50 rfl
            rcases hc with y | y | y
            · exact absurd ⟨rfl, y⟩ n1.2
            · subst y; exact .inl ⟨rfl, by decide⟩
            · exact absurd y n1.1
          · have n1 := nb 50 rfl
            rcases hc with y | y | y
            · exact absurd ⟨rfl, y⟩ n1.2
            · subst y; exact .inl ⟨rfl, by decide⟩
            · exact absurd y n1.1
          · have n1 := nb 49 rfl
            rcases hc with y | y | y
            · subst y; exact .inr ⟨by decide, rfl⟩
            · exact absurd y n1.1
            · subst y; exact .inr ⟨by decide, rfl⟩
      · rw [List.reverse_cons, List.flatten_append, h2]
        rfl
theorem lay_four : ∀ ps : List (List Nat), (∀ p ∈ ps, P4 p) → PyData.canLayAll0 (ps.map fun p => PyData.str (S p)) = true ∧ PyData.depthAll (ps.map fun p => PyData.str (S p)) = 0
  | [], _ => ⟨by rfl, by rfl⟩
  | p :: r, h => by
    have ih := lay_four r fun q hq => h q (List.mem_cons_of_mem _ hq)
    have hp := h p List.mem_cons_self
    refine ⟨?_, ?_⟩
    · rw [List.map_cons]
      unfold PyData.canLayAll0
      rw [ih.1]
      rcases hp with e | e | e | e <;> subst e <;> decide +kernel
    · rw [List.map_cons]
      unfold PyData.depthAll
      rw [ih.2]
      rfl
theorem shaped_four {ps : List (List Nat)} (h : ∀ p ∈ ps, P4 p) : SeqAt.shaped (.list (ps.map fun p => PyData.str (S p))) = true := by
  unfold SeqAt.shaped PyData.canLay0 PyData.depth
  rw [(lay_four ps h).1, (lay_four ps h).2]
  decide
theorem eqv_nilS (ps : List (List Nat)) : PyData.eqv (.list (ps.map fun p => PyData.str (S p))) (.list []) = ps.isEmpty := by
  cases ps <;> (unfold PyData.eqv; rfl)
theorem dpAll_strs {K : PySem.W.Frag} {H : Hp} : ∀ ps : List (List Nat), DpAll K H (Vs ps) (ps.map fun p => PyData.str (S p))
  | [] => .nil
  | p :: r => .cons (.str (S p)) (dpAll_strs r)
section
variable {P : Program} {w : World} {K : PySem.W.Frag} {mg : Str → Option Value} {base : Heap}
def spPieces : Sp := fun vs H Q _ => ∃ u : List Nat, vs = [.str (S u)] ∧ Fw u ∧ u.length ≤ 20000 ∧ ∀ (p : Addr) (H' : Hp), Same H H' → H p = none → H' p = some (.lst (Vs (pcs u).reverse)) → Q (.ref p) H'
theorem pcs_len : ∀ (n : Nat) (u : List Nat), u.length = n → (pcs u).length ≤ n
  | 0, u, hn => by
    rw [List.length_eq_zero_iff.mp hn]
    exact Nat.le_refl _
  | n + 1, u, hn => by
    have hne : u ≠ [] := fun z => by rw [z] at hn; cases hn
    rw [(List.dropLast_concat_getLast hne).symm, pcs_snoc]
    have ih := pcs_len n u.dropLast (by rw [List.length_dropLast]; omega)
    unfold pst
    split
    · simp only [List.length_cons, List.length_tail]
      omega
    · simp only [List.length_cons]
      omega
theorem ok_pieces (T : Txt w K mg) : Ok P w K mg base 1 "_law_pieces" ["word"] spPieces := by
  refine ok_of T.fLawPieces fun f fd F => ?_
  refine F.ok scLawPieces (fun vs H Q E h => ?_) (fun cdv A outer s H vs Q E hr h => ?_)
  · obtain ⟨u, rfl, _⟩ := h
    rfl
  · obtain ⟨u, rfl, hf, hz, q⟩ := h
    refine ⟨_, pss_cons (ps_set (i := 1) scLawPieces.nd rfl (.inl rfl) (pe_lst pa_nil))
      (pss_cons (ps_for PassesOwn.never rfl (pi_str (pv 0)) (pg_name (i := 2) scLawPieces.nd rfl (.inl rfl))
        (pss_one (ps_if (PW.pt (pw_and (pt_cmpR op_eq (pv 2) pe_str (nomark _)) (pw_and (pt_cmpR (op_neD hr.units) (pv 1) (pe_lst pa_nil) (nomark _)) (pw_and1 (pt_cmpR op_eq (pe_ix (r := rIxL K) ix_list (pv 1) (pe_un un_neg pe_int) (fun _ _ => rfl)) pe_str (nomark _))))))
          (pss_one (ps_asg pe_str (pg_sub (pv 1) (pe_un un_neg pe_int) set_list)))
          (pss_one (ps_expr (pe_bm PySem.F.plainAttrs_list PySem.F.slot_list_append PySem.F.type_list_append mt_append (pv 1) (pa_cons (pv 2) pa_nil)))))))
      (pss_one (ps_ret (pv 1)))), ?_⟩
    refine ⟨Nat.zero_le _, fun l nl => ?_⟩
    refine ⟨.str (S u), rfl, S u, rfl, fun i m σ H3 => ∃ y2, σ = [some (.str (S u)), some (.ref l), y2] ∧ i + m = u.length ∧ Same H H3 ∧ H3 l = some (.lst (Vs (pcs (u.take i)).reverse)), ⟨u.length, none, rfl, by omega, same_new nl, upd_same⟩, ?_⟩
    rintro i m σ H3 ⟨y2, rfl, em, sm, el⟩
    by_cases hi : i < u.length
    · refine .inr ⟨hi, fun σ' H' => ∃ y2, σ' = [some (.str (S u)), some (.ref l), y2] ∧ Same H H' ∧ H' l = some (.lst (Vs (pcs (u.take (i + 1))).reverse)), ?_, ?_⟩
      · rintro σ' H' ⟨z2, e, sm', el'⟩
        exact ⟨m - 1, by omega, z2, e, by omega, sm', el'⟩
      · rintro v H' ⟨rfl, c, hc, rfl⟩
        have e : u[i]? = some c := (List.getElem?_toArray).symm.trans hc
        have et : u.take (i + 1) = u.take i ++ [c] := by
          rw [List.take_add_one, e]
          rfl
        have hft : Fw (u.take i) := by
          have h1 := fw_rd hf
          refine rd_fw ?_
          rw [List.reverse_take]
          exact Rd.drop _ h1
        have pal := (pcs_pal _ (u.take i) rfl hft).1
        have pl := pcs_len _ (u.take i) rfl
        rw [List.length_take] at pl
        rw [et, pcs_snoc]
        generalize pcs (u.take i) = st at pal el pl ⊢
        have four : ∀ p ∈ st.reverse, P4 p := fun p hp => pal.all p (List.mem_reverse.mp hp)
        have stl : (Vs st.reverse).length < sizeLine := by
          rw [vs_len, List.length_reverse]
          exact Nat.lt_of_le_of_lt (show st.length ≤ 20000 by omega) (by decide)
        -- put on as it is
        have push : ∀ {Hx : Hp}, Same H' Hx → Hx l = some (.lst (Vs st.reverse)) → pst st c = [c] :: st → ∃ y, (fun (y : Option V) => True) y ∧ Same H (upd Hx l (.lst (Vs st.reverse ++ [.str (S [c])]))) ∧ (upd Hx l (.lst (Vs st.reverse ++ [.str (S [c])]))) l = some (.lst (Vs (pst st c).reverse)) := by
          intro Hx sx ex ep
          refine ⟨none, trivial, same_mut (Same.to sm sx) nl, ?_⟩
          rw [upd_same, vs_snoc, ep, List.reverse_cons]
        refine ⟨.str (S [c]), rfl, rfl, _, rfl, ?_⟩
        by_cases c50 : c = 50
        · refine iteDT (str_is c50) ⟨.ref l, rfl, Nat.zero_le _, fun b nb => ?_⟩
          have sb : Same H' (upd H' b (.lst [])) := same_new nb
          have elb := sb _ _ el
          have eb : (upd H' b (.lst [])) b = some (.lst []) := upd_same
          generalize upd H' b (.lst []) = Hb at sb elb eb ⊢
          refine ⟨_, .list [], .lst (.inl (.inl elb)) (dpAll_strs st.reverse), .lst (.inl (.inl eb)) .nil, shaped_four four, shaped_ints [], _, rfl, ?_⟩
          rw [eqv_nilS]
          cases st with
          | nil =>
            refine iteF (iteF ?_)
            obtain ⟨_, _, h1, h2⟩ := push (Hx := Hb) sb elb (by unfold pst; rw [if_neg (by rintro ⟨_, z⟩; cases z)])
            exact ⟨.ref l, rfl, .inl ⟨rfl, _, .inl (.inl elb)⟩, .str (S [c]), rfl, l, _, _, rfl, rfl, elb, stl, _, rfl, h1, h2⟩
          | cons p r =>
            have ne : (p :: r).reverse.isEmpty = false := by
              rw [List.reverse_cons]
              cases r.reverse <;> rfl
            rw [ne]
            have ev : Vs (p :: r).reverse = Vs r.reverse ++ [.str (S p)] := by rw [List.reverse_cons, vs_snoc]
            have elb2 := elb
            rw [ev] at elb2
            refine iteT ⟨.ref l, rfl, 1, rfl, l, _, _, .str (S p), rfl, rfl, .inl (.inl elb2), atI_last _ _, rfl, _, rfl, ?_⟩
            by_cases e48 : p = [48]
            · refine iteDT (by rw [e48]; rfl) ?_
              refine ⟨.ref l, rfl, 1, rfl, l, Vs r.reverse ++ [.str (S p)], -1, r.length, rfl, rfl, elb2, ?_, ?_⟩
              · unfold ixN
                rw [List.length_append, vs_len, List.length_reverse, if_neg (by decide)]
                have e1 : ([V.str (S p)] : List V).length = 1 := rfl
                rw [e1, if_pos (by omega)]
                congr 1
                omega
              · refine ⟨_, rfl, same_mut (Same.to sm sb) nl, ?_⟩
                have lr : r.length = (Vs r.reverse).length := by rw [vs_len, List.length_reverse]
                rw [upd_same, lr, List.set_append_right _ _ (Nat.le_refl _), Nat.sub_self]
                have ep : pst (p :: r) c = [48, 50] :: r := by
                  unfold pst
                  rw [if_pos ⟨c50, by rw [e48]; rfl⟩]
                  rfl
                rw [ep, List.reverse_cons, ← vs_snoc]
                rfl
            · refine iteDF (fun z => e48 (s_inj (V.str.inj z))) ?_
              obtain ⟨_, _, h1, h2⟩ := push (Hx := Hb) sb elb (by unfold pst; rw [if_neg (by rintro ⟨_, z⟩; exact e48 (Option.some.inj z))])
              exact ⟨.ref l, rfl, .inl ⟨rfl, _, .inl (.inl elb)⟩, .str (S [c]), rfl, l, _, _, rfl, rfl, elb, stl, _, rfl, h1, h2⟩
        · refine iteDF (str_one c50) (iteF ?_)
          obtain ⟨_, _, h1, h2⟩ := push (Hx := H') (Same.id _) el (by unfold pst; rw [if_neg (fun z => c50 z.1)])
          exact ⟨.ref l, rfl, .inl ⟨rfl, _, .inl (.inl el)⟩, .str (S [c]), rfl, l, _, _, rfl, rfl, el, stl, _, rfl, h1, h2⟩
    · refine .inl ⟨by show u.length ≤ i; omega, ?_⟩
      rw [List.take_of_length_le (by omega)] at el
      exact ⟨.ref l, rfl, q l H3 sm nl el⟩
end
end K6

namespace K6
open PySem PySem.Spec PyProof.Rows L2 Nr Nw
/-- a dict of partners: ls are the flags without one -/
structure HD (n : Nat) (ls ps : List Nat) (kvs : List (Key × V)) : Prop where
  half : Half n ls ps
  on : ∀ x y, x < n → x ∉ ls → ps[x]? = some y → valV kvs (.inl (x : Int)) = some (.int (y : Int))
  off : ∀ x, x ∈ ls → valV kvs (.inl (x : Int)) = none
theorem keyne {x y : Nat} (h : ¬ x = y) : ¬ ((Sum.inl (x : Int) : Key) = .inl (y : Int)) := fun e => h (by have := Sum.inl.inj e; omega)
theorem put_get {n a b x : Nat} {ps : List Nat} (hl : ps.length = n) (la : a < n) (lb : b < n) : ((ps.set a b).set b a)[x]? = if x = b then some a else if x = a then some b else ps[x]? := by
  rw [set_get (by rw [List.length_set, hl]; exact lb), set_get (by rw [hl]; exact la)]
theorem HD.put {n a b : Nat} {ls ps : List Nat} {kvs : List (Key × V)} (h : HD n (a :: b :: ls) ps kvs) : HD n ls ((ps.set a b).set b a) (putK (putK kvs (.inl (a : Int)) (.int (b : Int))) (.inl (b : Int)) (.int (a : Int))) := by
  have la : a < n := h.half.low a List.mem_cons_self
  have lb : b < n := h.half.low b (List.mem_cons_of_mem _ List.mem_cons_self)
  have nd := h.half.nd
  have nab : a ≠ b := fun e => (List.nodup_cons.mp nd).1 (by rw [e]; exact List.mem_cons_self)
  have na : a ∉ ls := fun e => (List.nodup_cons.mp nd).1 (List.mem_cons_of_mem _ e)
  have nb : b ∉ ls := (List.nodup_cons.mp (List.nodup_cons.mp nd).2).1
  refine ⟨h.half.put (List.Perm.refl _), fun x y hx hn hp => ?_, fun x hx => ?_⟩
  · rw [put_get h.half.len la lb] at hp
    rw [valV_put, valV_put]
    by_cases e1 : x = b
    · rw [if_pos e1] at hp
      cases hp
      rw [e1, if_pos rfl]
    · rw [if_neg e1] at hp
      rw [if_neg (keyne e1)]
      by_cases e2 : x = a
      · rw [if_pos e2] at hp
        cases hp
        rw [e2, if_pos rfl]
      · rw [if_neg e2] at hp
        rw [if_neg (keyne e2)]
        refine h.on x y hx (fun z => ?_) hp
        rcases List.mem_cons.mp z with z | z
        · exact e2 z
        · rcases List.mem_cons.mp z with z | z
          · exact e1 z
          · exact hn z
  · rw [valV_put, valV_put, if_neg (keyne fun e => nb (by rw [← e]; exact hx)), if_neg (keyne fun e => na (by rw [← e]; exact hx))]
    exact h.off x (List.mem_cons_of_mem _ (List.mem_cons_of_mem _ hx))
/-- links that are laid -/
def Kept (es : List (Nat × Nat)) (ls ps : List Nat) : Prop := ∀ e ∈ es, e.1 ∉ ls ∧ e.2 ∉ ls ∧ ps[e.1]? = some e.2 ∧ ps[e.2]? = some e.1
theorem Kept.put {n a b : Nat} {ls ps : List Nat} {es : List (Nat × Nat)} (h : Kept es (a :: b :: ls) ps) (hh : Half n (a :: b :: ls) ps) : Kept es ls ((ps.set a b).set b a) := by
  intro e he
  obtain ⟨h1, h2, h3, h4⟩ := h e he
  have la : a < n := hh.low a List.mem_cons_self
  have lb : b < n := hh.low b (List.mem_cons_of_mem _ List.mem_cons_self)
  have mem : ∀ x, x ∉ a :: b :: ls → x ≠ a ∧ x ≠ b ∧ x ∉ ls := fun x hx => ⟨fun z => hx (by rw [z]; exact List.mem_cons_self), fun z => hx (by rw [z]; exact List.mem_cons_of_mem _ List.mem_cons_self), fun z => hx (List.mem_cons_of_mem _ (List.mem_cons_of_mem _ z))⟩
  obtain ⟨x1, x2, x3⟩ := mem _ h1
  obtain ⟨y1, y2, y3⟩ := mem _ h2
  refine ⟨x3, y3, ?_, ?_⟩
  · rw [put_get hh.len la lb, if_neg x2, if_neg x1]
    exact h3
  · rw [put_get hh.len la lb, if_neg y2, if_neg y1]
    exact h4
theorem Kept.new {n a b : Nat} {ls ps : List Nat} {es : List (Nat × Nat)} (h : Kept es (a :: b :: ls) ps) (hh : Half n (a :: b :: ls) ps) : Kept (es ++ [(a, b)]) ls ((ps.set a b).set b a) := by
  intro e he
  have la : a < n := hh.low a List.mem_cons_self
  have lb : b < n := hh.low b (List.mem_cons_of_mem _ List.mem_cons_self)
  have nd := hh.nd
  have nab : a ≠ b := fun e => (List.nodup_cons.mp nd).1 (by rw [e]; exact List.mem_cons_self)
  have na : a ∉ ls := fun e => (List.nodup_cons.mp nd).1 (List.mem_cons_of_mem _ e)
  have nb : b ∉ ls := (List.nodup_cons.mp (List.nodup_cons.mp nd).2).1
  rcases List.mem_append.mp he with he | he
  · exact h.put hh e he
  · rw [List.mem_singleton.mp he]
    refine ⟨na, nb, ?_, ?_⟩
    · show ((ps.set a b).set b a)[a]? = some b
      rw [put_get hh.len la lb, if_neg nab, if_pos rfl]
    · show ((ps.set a b).set b a)[b]? = some a
      rw [put_get hh.len la lb, if_pos rfl]
def ends (es : List (Nat × Nat)) : List Nat := es.flatMap fun e => [e.1, e.2]
theorem ends_len : ∀ es : List (Nat × Nat), (ends es).length = 2 * es.length
  | [] => rfl
  | e :: r => by
    show (e.1 :: e.2 :: ends r).length = 2 * (r.length + 1)
    have := ends_len r
    simp only [List.length_cons]
    omega
theorem ends_drop {es : List (Nat × Nat)} {i : Nat} {e : Nat × Nat} (h : es[i]? = some e) : ends (es.drop i) = e.1 :: e.2 :: ends (es.drop (i + 1)) := by
  obtain ⟨h1, h2⟩ := List.getElem?_eq_some_iff.mp h
  rw [List.drop_eq_getElem_cons h1, h2]
  rfl
theorem take_get {α : Type} {u : List α} {i : Nat} {e : α} (h : u[i]? = some e) : u.take (i + 1) = u.take i ++ [e] := by
  obtain ⟨h1, h2⟩ := List.getElem?_eq_some_iff.mp h
  rw [take_next h1, h2]
theorem drop_get {α : Type} {u : List α} {i : Nat} {e : α} (h : u[i]? = some e) : u.drop i = e :: u.drop (i + 1) := by
  obtain ⟨h1, h2⟩ := List.getElem?_eq_some_iff.mp h
  rw [List.drop_eq_getElem_cons h1, h2]
section
variable {P : Program} {w : World} {K : PySem.W.Frag} {mg : Str → Option Value} {base : Heap}
/-- a list of links -/
def LinksAt (H : Hp) (l : Addr) (es : List (Nat × Nat)) : Prop := ∃ rs : List Addr, rs.length = es.length ∧ H l = some (.lst (rs.map V.ref)) ∧ ∀ (i : Nat) (e : Nat × Nat), es[i]? = some e → ∃ t, rs[i]? = some t ∧ H t = some (.tup [.int (e.1 : Int), .int (e.2 : Int)])
theorem LinksAt.same {H H' : Hp} {l : Addr} {es : List (Nat × Nat)} (h : LinksAt H l es) (s : Same H H') : LinksAt H' l es := by
  obtain ⟨rs, h1, h2, h3⟩ := h
  refine ⟨rs, h1, s _ _ h2, fun i e he => ?_⟩
  obtain ⟨t, h4, h5⟩ := h3 i e he
  exact ⟨t, h4, s _ _ h5⟩
def spHung (K : PySem.W.Frag) : Sp := fun vs H Q _ => ∃ (m lc lg l : Addr) (k many : Nat) (es : List (Nat × Nat)), vs = [.ref m, .int (many : Int), .ref l] ∧ many ≤ 30 ∧ MS H m lc lg k ∧ k < 700000 ∧ LinksAt H l es ∧ (ends es).Nodup ∧ (∀ x ∈ ends es, x < 4 * many) ∧
  ∀ (ps : List Nat) (p' : Addr) (H' : Hp), PairOk ps (4 * many) → (∀ x, x < 4 * many → ps[x]? ≠ some x) → Kept es [] ps → NetAt K H' p' (pairN ps) → MS H' m lc lg (k + 120) → Off m lg H H' → Q (.ref p') H'
end
end K6

namespace K6
open PySem PySem.Spec PyProof.Rows L2 Nr Nw
/-- the worth of a piece that is not "1" -/
def pv4 (p : List Nat) : Nat := if p = [48] then 1 else if p = [50] then 2 else 3
/-- where a walk over pieces is: flag, links, edges -/
structure Wk where
  h : Nat
  es : List (Nat × Nat)
  k : Nat
def wst (s : Wk) (p : List Nat) : Wk := if p = [49] then ⟨4 * (s.k + 1), s.es ++ [(s.h, 4 * (s.k + 1))], s.k + 1⟩ else ⟨s.h + pv4 p, s.es, s.k⟩
def wOf (ps : List (List Nat)) : Wk := ps.foldl wst ⟨0, [], 0⟩
theorem wOf_snoc (ps : List (List Nat)) (p : List Nat) : wOf (ps ++ [p]) = wst (wOf ps) p := by
  unfold wOf
  rw [List.foldl_append]
  rfl
theorem wst_one (s : Wk) : wst s [49] = ⟨4 * (s.k + 1), s.es ++ [(s.h, 4 * (s.k + 1))], s.k + 1⟩ := if_pos rfl
theorem wst_ne (s : Wk) {p : List Nat} (h : p ≠ [49]) : wst s p = ⟨s.h + pv4 p, s.es, s.k⟩ := if_neg h
theorem pv4_le (p : List Nat) : 1 ≤ pv4 p ∧ pv4 p ≤ 3 := by
  unfold pv4
  split
  · omega
  · split <;> omega
theorem ends_app (es : List (Nat × Nat)) (a b : Nat) : ends (es ++ [(a, b)]) = ends es ++ [a, b] := by
  unfold ends
  rw [List.flatMap_append]
  rfl
structure WInv (st : List (List Nat)) (s : Wk) : Prop where
  one : st.head? = some [49] → s.h = 4 * s.k ∧ 0 < s.k
  nil : st = [] → s.h = 0 ∧ s.k = 0 ∧ s.es = []
  oth : ∀ p, st.head? = some p → p ≠ [49] → s.h = 4 * s.k + pv4 p
  nd : (ends s.es).Nodup
  low : ∀ x ∈ ends s.es, x ≤ 4 * s.k
  len : s.es.length = s.k
  kl : s.k ≤ st.length
theorem w_inv : ∀ {st : List (List Nat)}, Pal st → WInv st (wOf st.reverse)
  | [], _ => by
    have e : wOf ([] : List (List Nat)).reverse = ⟨0, [], 0⟩ := rfl
    rw [e]
    exact ⟨(fun z => by cases z), (fun _ => ⟨rfl, rfl, rfl⟩), (fun p z => by cases z), List.nodup_nil, fun x hx => (by cases hx), rfl, Nat.le_refl _⟩
  | p :: r, hp => by
    have ih := w_inv hp.tail
    rw [List.reverse_cons, wOf_snoc]
    generalize wOf r.reverse = s at ih ⊢
    by_cases e : p = [49]
    · subst e
      rw [wst_one]
      have hh : s.h ∉ ends s.es ∧ s.h ≤ 4 * s.k + 3 := by
        cases r with
        | nil =>
          obtain ⟨h1, h2, h3⟩ := ih.nil rfl
          rw [h3, h1]
          exact ⟨List.not_mem_nil, by omega⟩
        | cons q r =>
          have nq : q ≠ [49] := by
            rcases hp.2.1 with z | z
            · exact z.2
            · exact absurd rfl z.1
          have := ih.oth q rfl nq
          have := pv4_le q
          exact ⟨fun z => by have := ih.low _ z; omega, by omega⟩
      refine ⟨fun _ => ⟨rfl, Nat.succ_pos _⟩, (fun z => by cases z), (fun p z hz => by cases z; exact absurd rfl hz), ?_, ?_, ?_, ?_⟩
      · show (ends (s.es ++ [(s.h, 4 * (s.k + 1))])).Nodup
        rw [ends_app, List.nodup_append]
        refine ⟨ih.nd, ?_, ?_⟩
        · refine List.nodup_cons.mpr ⟨fun z => ?_, List.nodup_cons.mpr ⟨List.not_mem_nil, List.nodup_nil⟩⟩
          have := List.mem_singleton.mp z
          omega
        · intro a ha b hb e
          subst e
          have l1 := ih.low a ha
          rcases List.mem_cons.mp hb with z | z
          · exact hh.1 (by rw [← z]; exact ha)
          · have := List.mem_singleton.mp z
            omega
      · intro x hx
        have hx' : x ∈ ends (s.es ++ [(s.h, 4 * (s.k + 1))]) := hx
        show x ≤ 4 * (s.k + 1)
        rw [ends_app] at hx'
        rcases List.mem_append.mp hx' with z | z
        · have := ih.low x z
          omega
        · rcases List.mem_cons.mp z with z | z
          · omega
          · have := List.mem_singleton.mp z
            omega
      · show (s.es ++ [(s.h, 4 * (s.k + 1))]).length = s.k + 1
        rw [List.length_append, ih.len]
        rfl
      · show s.k + 1 ≤ r.length + 1
        have := ih.kl
        omega
    · rw [wst_ne s e]
      have hh : s.h = 4 * s.k := by
        cases r with
        | nil =>
          obtain ⟨h1, h2, h3⟩ := ih.nil rfl
          omega
        | cons q r =>
          have nq : q = [49] := by
            rcases hp.2.1 with z | z
            · exact absurd z.1 e
            · exact z.2
          exact (ih.one (by rw [nq]; rfl)).1
      refine ⟨fun z => absurd (Option.some.inj z) e, (fun z => by cases z), (fun p z hz => by cases z; show s.h + pv4 _ = 4 * s.k + pv4 _; omega), ih.nd, ih.low, ih.len, ?_⟩
      show s.k ≤ r.length + 1
      have := ih.kl
      omega
theorem w_pos {st : List (List Nat)} {s : Wk} (h : WInv st s) (hne : st ≠ []) : s.h ≠ 0 := by
  cases st with
  | nil => exact absurd rfl hne
  | cons p r =>
    by_cases e : p = [49]
    · have := h.one (by rw [e]; rfl)
      omega
    · have := h.oth p rfl e
      have := pv4_le p
      omega
theorem w_h {st : List (List Nat)} {s : Wk} (h : WInv st s) : s.h < 4 * (s.k + 1) := by
  cases st with
  | nil =>
    have := h.nil rfl
    omega
  | cons p r =>
    by_cases e : p = [49]
    · have := h.one (by rw [e]; rfl)
      omega
    · have := h.oth p rfl e
      have := pv4_le p
      omega
/-- the told net leads as the walk goes -/
theorem w_lead {ps : List Nat} {n : Nat} (hok : PairOk ps n) : ∀ {st : List (List Nat)}, Pal st → (∀ e ∈ (wOf st.reverse).es, ps[e.1]? = some e.2) → 4 * ((wOf st.reverse).k + 1) ≤ n → (pairN ps).lead 0 st.reverse.flatten = (wOf st.reverse).h
  | [], _, _, _ => rfl
  | p :: r, hp, hk, hn => by
    have inv := w_inv hp.tail
    rw [List.reverse_cons, wOf_snoc] at hk hn ⊢
    have kk : (wOf r.reverse).k ≤ (wst (wOf r.reverse) p).k ∧ ∀ e ∈ (wOf r.reverse).es, e ∈ (wst (wOf r.reverse) p).es := by
      unfold wst
      split
      · exact ⟨Nat.le_succ _, fun e he => List.mem_append_left _ he⟩
      · exact ⟨Nat.le_refl _, fun e he => he⟩
    have ih := w_lead hok hp.tail (fun e he => hk e (kk.2 e he)) (by have := kk.1; omega)
    have el : (pairN ps).lead 0 (r.reverse ++ [p]).flatten = p.foldl (pairN ps).stp ((pairN ps).lead 0 r.reverse.flatten) := by
      unfold Net.lead
      rw [List.flatten_append, List.foldl_append]
      have : ([p] : List (List Nat)).flatten = p := List.append_nil p
      rw [this]
    rw [el, ih]
    generalize hs : wOf r.reverse = s at inv hk hn kk ⊢
    have hlt := w_h inv
    have k1 := kk.1
    have hx : s.h < n := by omega
    by_cases e : p = [49]
    · subst e
      rw [wst_one] at hk ⊢
      show (pairN ps).stp s.h 49 = 4 * (s.k + 1)
      rw [(pair_stp hok hx).2.2, hk (s.h, 4 * (s.k + 1)) (List.mem_append_right _ List.mem_cons_self)]
      rfl
    · rw [wst_ne s e] at hn ⊢
      show p.foldl (pairN ps).stp s.h = s.h + pv4 p
      have hn' : 4 * (s.k + 1) ≤ n := hn
      have h4 : s.h % 4 = 0 := by
        cases r with
        | nil =>
          have := inv.nil rfl
          omega
        | cons q r =>
          have nq : q = [49] := by
            rcases hp.2.1 with z | z
            · exact absurd z.1 e
            · exact z.2
          have := (inv.one (by rw [nq]; rfl)).1
          omega
      have s0 : (pairN ps).stp s.h 48 = s.h + 1 := by
        rw [(pair_stp hok hx).1]
        unfold endF
        rw [if_pos (by omega)]
      have s2 : (pairN ps).stp s.h 50 = s.h + 2 := by
        rw [(pair_stp hok hx).2.1]
        unfold sideF
        rw [if_pos (by omega)]
      have s3 : (pairN ps).stp (s.h + 1) 50 = s.h + 3 := by
        rw [(pair_stp hok (show s.h + 1 < n by omega)).2.1]
        unfold sideF
        rw [if_pos (by omega)]
      rcases hp.head with z | z | z | z
      · subst z; exact s0
      · subst z; exact s2
      · subst z
        show (pairN ps).stp ((pairN ps).stp s.h 48) 50 = _
        rw [s0, s3]
        rfl
      · exact absurd z e
theorem worth {p : List Nat} (h : P4 p) (hn : p ≠ [49]) : valV (mergeK [] ([(Sum.inr "0", V.int 1), (Sum.inr "2", V.int 2), (Sum.inr "02", V.int 3)] : List (Key × V))) (.inr (S p)) = some (.int (pv4 p : Int)) := by
  unfold mergeK
  rw [List.foldl_cons, List.foldl_cons, List.foldl_cons, List.foldl_nil, valV_put, valV_put, valV_put]
  rcases h with e | e | e | e
  · subst e
    rw [if_neg (inr_ne (by decide +kernel)), if_neg (inr_ne (by decide +kernel)), if_pos (by rfl)]
    rfl
  · subst e
    rw [if_neg (inr_ne (by decide +kernel)), if_pos (by rfl)]
    rfl
  · subst e
    rw [if_pos (by rfl)]
    rfl
  · exact absurd e hn
theorem vs_mem {ws : List (List Nat)} {i : Nat} (h : i < ws.length) : ∃ u, ws[i]? = some u ∧ u ∈ ws ∧ (Vs ws)[i]? = some (.str (S u)) := ⟨ws[i], List.getElem?_eq_getElem h, List.getElem_mem h, vs_get (List.getElem?_eq_getElem h)⟩
section
variable {P : Program} {w : World} {K : PySem.W.Frag} {mg : Str → Option Value} {base : Heap}
def spSplit (K : PySem.W.Frag) : Sp := fun vs H Q _ => ∃ (m lc lg : Addr) (k : Nat) (u : List Nat), vs = [.ref m, .str (S u)] ∧ Fw u ∧ u ≠ [] ∧ u.length ≤ 25 ∧ MS H m lc lg k ∧ k < 700000 ∧
  ∀ (N : Net) (n : Nat) (p' : Addr) (H' : Hp), N.Of n → 0 < n → n ≤ 1000 → Nw.Acts N.stp (· < n) → N.lead 0 u ≠ 0 → NetAt K H' p' N → MS H' m lc lg (k + 120) → Off m lg H H' → Q (.ref p') H'
end
end K6

namespace K6
open PySem PySem.Spec PyProof.Rows L2 Nr Nw
theorem call_reprS {X : Cx} : CallR X (.builtin "repr") (fun xs H Q => ∃ z, xs = [.str z] ∧ (reprText z).length ≤ sizeLine ∧ Q (.str (reprText z)) H) := by
  intro pins s σ H xs us Q I r h
  obtain ⟨z, rfl, hz, q⟩ := h
  obtain ⟨u, rfl, t, rfl⟩ := vals1 r
  exact P.repr_of_str ⟨.str (reprText z), H, I.tok _, ⟨_, rfl⟩, q⟩ hz
theorem repr_short {u : List Nat} (h : Wd u) (hl : u.length ≤ 100) : (reprText (S u)).length ≤ 1002 := by
  have := StrLaws.reprText_len (S u) (fun c hc => by
    have hc' : c ∈ u := hc
    rcases h c hc' with e | e | e <;> subst e <;> decide)
  have e : (S u).length = u.length := rfl
  omega
def Leaf (d : PyData) : Prop := (∃ u, d = .str (S u) ∧ Wd u ∧ u.length ≤ 100) ∨ ∃ b, d = .bool b
theorem Leaf.shown {d : PyData} (h : Leaf d) : d.showable = true ∧ d.hasDict = false ∧ d.depth = 0 ∧ d.shown.length ≤ 1002 := by
  rcases h with ⟨u, rfl, hu, hl⟩ | ⟨b, rfl⟩
  · exact ⟨by unfold PyData.showable; rfl, by unfold PyData.hasDict; rfl, by unfold PyData.depth; rfl, by unfold PyData.shown; exact repr_short hu hl⟩
  · exact ⟨by unfold PyData.showable; rfl, by unfold PyData.hasDict; rfl, by unfold PyData.depth; rfl, by unfold PyData.shown; cases b <;> decide +kernel⟩
theorem leaf_all : ∀ {ds : List PyData}, (∀ d ∈ ds, Leaf d) → PyData.showableAll ds = true ∧ PyData.hasDictAll ds = false ∧ PyData.depthAll ds = 0 ∧ (PyData.shownAll ds).length = ds.length ∧ ∀ t ∈ PyData.shownAll ds, t.length ≤ 1002
  | [], _ => ⟨by unfold PyData.showableAll; rfl, by unfold PyData.hasDictAll; rfl, by unfold PyData.depthAll; rfl, by unfold PyData.shownAll; rfl, fun t ht => by unfold PyData.shownAll at ht; cases ht⟩
  | d :: r, h => by
    obtain ⟨h1, h2, h3, h4⟩ := (h d List.mem_cons_self).shown
    obtain ⟨i1, i2, i3, i4, i5⟩ := leaf_all fun x hx => h x (List.mem_cons_of_mem _ hx)
    refine ⟨?_, ?_, ?_, ?_, fun t ht => ?_⟩
    · unfold PyData.showableAll
      rw [h1, i1]
      rfl
    · unfold PyData.hasDictAll
      rw [h2, i2]
      rfl
    · unfold PyData.depthAll
      rw [h3, i3]
      rfl
    · unfold PyData.shownAll
      simp only [List.length_cons, i4]
    · unfold PyData.shownAll at ht
      rcases List.mem_cons.mp ht with e | e
      · rw [e]; exact h4
      · exact i5 t e
theorem textFrom_le : ∀ (ts : List Str) (k : Nat) (acc : Str), (∀ t ∈ ts, t.length ≤ 1002) → (textFrom k acc ts).length ≤ acc.length + 1004 * ts.length
  | [], k, acc, _ => Nat.le_refl _
  | t :: r, k, acc, h => by
    have ih := textFrom_le r (k + 1) (acc ++ (if k > 0 then ", " else "" : String) ++ t) fun x hx => h x (List.mem_cons_of_mem _ hx)
    have ht := h t List.mem_cons_self
    have e : textFrom k acc (t :: r) = textFrom (k + 1) (acc ++ (if k > 0 then ", " else "" : String) ++ t) r := rfl
    rw [e]
    have l : (acc ++ ((if k > 0 then ", " else "" : String) : Str) ++ t).length ≤ acc.length + 2 + t.length := by
      rw [strLen_append, strLen_append]
      split
      · exact Nat.le_refl _
      · show acc.length + 0 + t.length ≤ _
        omega
    simp only [List.length_cons]
    omega
theorem shows_list {ds : List PyData} (h : ∀ d ∈ ds, Leaf d) (hl : ds.length ≤ 10) : Shows (.list ds) := by
  obtain ⟨h1, h2, h3, h4, h5⟩ := leaf_all h
  refine ⟨?_, ?_, ?_, ?_⟩
  · unfold PyData.showable; exact h1
  · unfold PyData.hasDict; exact h2
  · unfold PyData.depth
    rw [h3]
    decide
  · unfold PyData.shown
    have := textFrom_le (PyData.shownAll ds) 0 "[" h5
    unfold listText
    rw [strLen_append]
    rw [h4] at this
    have e1 : ("[" : Str).length = 1 := rfl
    have e2 : ("]" : Str).length = 1 := rfl
    rw [e1] at this
    show _ + ("]" : Str).length ≤ _
    rw [e2]
    exact Nat.le_trans (show _ ≤ 20000 by omega) (by decide)
section
variable {P : Program} {w : World} {K : PySem.W.Frag} {mg : Str → Option Value} {base : Heap}
def spLk (K : PySem.W.Frag) : Sp := fun vs H Q _ => (∃ (a b : Addr) (d : PyData), vs = [.ref a, .ref b] ∧ Dp K H (.ref a) d ∧ Dp K H (.ref b) d ∧ Shows d ∧ Q (.bl true) H) ∨ ∃ u : List Nat, vs = [.str (S u), .str (S u)] ∧ Wd u ∧ u.length ≤ 100 ∧ Q (.bl true) H
theorem ok_lk (T : Txt w K mg) : OkG P w K mg base 1 "_law_like" ["got", "due"] (spLk K) := by
  obtain ⟨f, fd, h1, F, h3⟩ := T.fLawLike
  refine ⟨f, fd, h1, F.kp, h3, ?_⟩
  refine Nr.Fun.okG F scLawLike (fun vs H Q E h => ?_) (fun cdv A outer s H vs Q E hg hr h => ?_)
  · rcases h with ⟨a, b, d, rfl, _⟩ | ⟨u, rfl, _⟩ <;> rfl
  · refine ⟨_, pss_one (ps_ret (pe_cmpR op_eq (pe_callB ((call_reprD hg hr.units).or call_reprS) (by rfl) T.nrepr (by decide +kernel) (pa_cons (pv 0) pa_nil)) (pe_callB ((call_reprD hg hr.units).or call_reprS) (by rfl) T.nrepr (by decide +kernel) (pa_cons (pv 1) pa_nil)) (nomark _))), ?_⟩
    rcases h with ⟨a, b, d, rfl, da, db, sh, q⟩ | ⟨u, rfl, hu, hl, q⟩
    · refine ⟨.ref a, rfl, .inl ⟨a, d, rfl, da, sh, .ref b, rfl, .inl ⟨b, d, rfl, db, sh, rfl, ?_⟩⟩⟩
      rw [decide_eq_true rfl]
      exact q
    · have lz : (reprText (S u)).length ≤ sizeLine := Nat.le_trans (repr_short hu hl) (by decide)
      refine ⟨.str (S u), rfl, .inr ⟨S u, rfl, lz, .str (S u), rfl, .inr ⟨S u, rfl, lz, rfl, ?_⟩⟩⟩
      rw [decide_eq_true rfl]
      exact q
end
end K6

namespace K6
open PySem PySem.Spec PyProof.Rows L2 Nr Nw
/-! ### codes: a row of them, both ways; mirrors -/
abbrev Ty (a : Nat) : Bool := decide (a = 4)
theorem ty_ne {a b : Nat} : Ty a ≠ Ty b ↔ (a = 4 ∧ b ≠ 4) ∨ (a ≠ 4 ∧ b = 4) := by
  unfold Ty
  by_cases h1 : a = 4 <;> by_cases h2 : b = 4 <;> simp [h1, h2]
theorem alt_cons {a : Nat} {r : List Nat} : Alt (a :: r) ↔ Cd a ∧ Alt r ∧ ∀ b, r.head? = some b → Ty a ≠ Ty b := by
  cases r with
  | nil => exact ⟨fun h => ⟨h, trivial, (fun b hb => by cases hb)⟩, fun h => h.1⟩
  | cons b q =>
    constructor
    · intro h
      exact ⟨h.1, h.2.2, fun c hc => by cases hc; exact ty_ne.mpr h.2.1⟩
    · intro h
      exact ⟨h.1, ty_ne.mp (h.2.2 b rfl), h.2.1⟩
theorem alt_app : ∀ {A B : List Nat}, Alt (A ++ B) ↔ Alt A ∧ Alt B ∧ ∀ a b, A.getLast? = some a → B.head? = some b → Ty a ≠ Ty b
  | [], B => ⟨fun h => ⟨trivial, h, (fun a b ha => by cases ha)⟩, fun h => h.2.1⟩
  | [x], B => by
    show Alt (x :: B) ↔ _
    rw [alt_cons]
    constructor
    · rintro ⟨h1, h2, h3⟩
      exact ⟨h1, h2, fun a b ha hb => by cases ha; exact h3 b hb⟩
    · rintro ⟨h1, h2, h3⟩
      exact ⟨h1, h2, fun b hb => h3 x b rfl hb⟩
  | x :: y :: r, B => by
    show Alt (x :: ((y :: r) ++ B)) ↔ _
    rw [alt_cons, alt_app, alt_cons (r := y :: r)]
    have e : (x :: y :: r).getLast? = (y :: r).getLast? := List.getLast?_cons_cons
    rw [e]
    constructor
    · rintro ⟨h1, ⟨h2, h3, h4⟩, h5⟩
      exact ⟨⟨h1, h2, fun b hb => h5 b hb⟩, h3, h4⟩
    · rintro ⟨⟨h1, h2, h5⟩, h3, h4⟩
      exact ⟨h1, ⟨h2, h3, h4⟩, fun b hb => h5 b hb⟩
theorem alt_rev : ∀ {A : List Nat}, Alt A → Alt A.reverse
  | [], _ => trivial
  | a :: r, h => by
    obtain ⟨h1, h2, h3⟩ := alt_cons.mp h
    rw [List.reverse_cons, alt_app]
    refine ⟨alt_rev h2, h1, fun x y hx hy => ?_⟩
    cases hy
    rw [List.getLast?_reverse] at hx
    exact (h3 x hx).symm
/-- led on by the codes of a word's signs -/
def Fo (s u : List Nat) : List Nat := u.foldl (fun s c => put s (cd c)) s
theorem fo_app (s u v : List Nat) : Fo s (u ++ v) = Fo (Fo s u) v := List.foldl_append ..
theorem put_ty {s : List Nat} {c : Nat} (h : ∀ b, s.head? = some b → Ty b ≠ Ty c) : put s c = c :: s := by
  cases s with
  | nil => rfl
  | cons a r =>
    rw [put_cons]
    exact if_pos (h a rfl)
theorem fo_sg {s : List Nat} {a : Nat} (ha : Cd a) (h : ∀ b, s.head? = some b → Ty b ≠ Ty a) : Fo s (sg a) = a :: s ∧ Fo s (sg a).reverse = a :: s := by
  rcases ha with e | e | e | e <;> subst e
  · exact ⟨put_ty h, put_ty h⟩
  · exact ⟨put_ty h, put_ty h⟩
  · have h1 : put s 1 = 1 :: s := put_ty h
    have h2 : put s 2 = 2 :: s := put_ty h
    constructor
    · show put (put s 2) 1 = _
      rw [h2]
      rfl
    · show put (put s 1) 2 = _
      rw [h1]
      rfl
  · exact ⟨put_ty h, put_ty h⟩
theorem fo_spell : ∀ {st s0 : List Nat}, Alt st → (∀ a b, s0.head? = some a → st.head? = some b → Ty a ≠ Ty b) → Fo s0 (spell st) = st.reverse ++ s0
  | [], s0, _, _ => rfl
  | a :: r, s0, h, hd => by
    obtain ⟨h1, h2, h3⟩ := alt_cons.mp h
    rw [spell_cons, fo_app, (fo_sg h1 fun b hb => hd b a hb rfl).1, fo_spell h2 (fun x y hx hy => by cases hx; exact h3 y hy), List.reverse_cons, List.append_assoc]
    rfl
theorem codes_back {st : List Nat} (h : Alt st) : codesOf (spell st) = st.reverse := by
  have := fo_spell (s0 := []) h (fun a b ha => by cases ha)
  rw [List.append_nil] at this
  exact this
theorem codes_word : ∀ {st : List Nat}, Alt st → codesOf (spell st).reverse = st
  | [], _ => rfl
  | a :: r, h => by
    obtain ⟨h1, h2, h3⟩ := alt_cons.mp h
    rw [spell_cons, List.reverse_append]
    show Fo [] ((spell r).reverse ++ (sg a).reverse) = _
    rw [fo_app]
    have ih : Fo [] (spell r).reverse = r := codes_word h2
    rw [ih, (fo_sg h1 fun b hb => (h3 b hb).symm).2]
theorem spell_inj {s t : List Nat} (hs : Alt s) (ht : Alt t) (h : spell s = spell t) : s = t := by
  rw [← codes_word hs, ← codes_word ht, h]
theorem spell_codes {u : List Nat} (h : Wd u) : spell (codesOf u) = go [] u := (codes_go (s := []) trivial h).2
theorem cut_codes {u : List Nat} (h : Wd u) : cut u = (spell (codesOf u)).reverse := by rw [spell_codes h]; rfl
theorem codes_same {u v : List Nat} (hu : Wd u) (hv : Wd v) : codesOf u = codesOf v ↔ cut u = cut v := by
  constructor
  · intro h
    rw [cut_codes hu, cut_codes hv, h]
  · intro h
    refine spell_inj (codes_alt hu) (codes_alt hv) ?_
    have := congrArg List.reverse h
    rw [cut_codes hu, cut_codes hv, List.reverse_reverse, List.reverse_reverse] at this
    exact this
theorem sg_wd (c : Nat) : Wd (sg c) := by
  unfold sg
  intro x hx
  split at hx
  · rw [List.mem_singleton.mp hx]; exact .inl rfl
  · split at hx
    · rw [List.mem_singleton.mp hx]; exact .inr (.inr rfl)
    · split at hx
      · rcases List.mem_cons.mp hx with e | e
        · rw [e]; exact .inr (.inr rfl)
        · rw [List.mem_singleton.mp e]; exact .inl rfl
      · rw [List.mem_singleton.mp hx]; exact .inr (.inl rfl)
theorem spell_wd (s : List Nat) : Wd (spell s) := fun x hx => by
  obtain ⟨c, _, h⟩ := List.mem_flatMap.mp hx
  exact sg_wd c x h
theorem codes_rev {u : List Nat} (h : Wd u) : codesOf u.reverse = (codesOf u).reverse := by
  rw [← codes_back (codes_alt h), codes_same (wd_rev.mpr h) (spell_wd _)]
  have := cut_rev h
  rw [cut_codes h, List.reverse_reverse] at this
  exact this.symm
/-- words that lead alike -/
def E2 (u v : List Nat) : Prop := ∀ s, Rd s → go s u = go s v
theorem e2_of {u v : List Nat} (hu : Wd u) (hv : Wd v) (h : cut u = cut v) : E2 u v := fun s hs => by
  rw [← go_cut hs hu, ← go_cut hs hv, h]
theorem cut_of {u v : List Nat} (h : E2 u v) : cut u = cut v := by
  unfold cut
  rw [h [] rd_nil]
theorem E2.app {u v x y : List Nat} (hu : Wd u) (h : E2 u v) (k : E2 x y) : E2 (u ++ x) (v ++ y) := fun s hs => by
  rw [go_append, go_append, ← h s hs, k _ (go_rd hs hu)]
theorem E2.sym {u v : List Nat} (h : E2 u v) : E2 v u := fun s hs => (h s hs).symm
theorem E2.trans {u v x : List Nat} (h : E2 u v) (k : E2 v x) : E2 u x := fun s hs => (h s hs).trans (k s hs)
theorem E2.id (u : List Nat) : E2 u u := fun _ _ => rfl
theorem E2.home {u : List Nat} (h : Wd u) : E2 (u ++ u.reverse) [] := fun s hs => by
  rw [go_append, go_home hs h]
  rfl
theorem E2.home' {u : List Nat} (h : Wd u) : E2 (u.reverse ++ u) [] := by
  have := E2.home (wd_rev.mpr h)
  rw [List.reverse_reverse] at this
  exact this
/-- a word done twice vanishes if the word is its own back -/
theorem twice_iff {u : List Nat} (h : Wd u) : cut (u ++ u) = [] ↔ codesOf u = (codesOf u).reverse := by
  rw [← codes_rev h, codes_same h (wd_rev.mpr h)]
  constructor
  · intro e
    have := cut_eq_of (u := u.reverse) (wd_rev.mpr h) h (by rw [List.reverse_reverse]; exact e)
    exact this.symm
  · intro e
    have := E2.app h (E2.id u) (e2_of h (wd_rev.mpr h) e)
    rw [cut_of (this.trans (E2.home h))]
    rfl
/-- rows of codes of even length have unlike ends -/
theorem alt_ends : ∀ (n : Nat) {s : List Nat}, s.length = n → Alt s → ∀ a b, s.head? = some a → s.getLast? = some b → (Ty a = Ty b ↔ n % 2 = 1)
  | 0, s, hn, _, a, b, ha, _ => by
    rw [List.length_eq_zero_iff.mp hn] at ha
    cases ha
  | 1, s, hn, _, a, b, ha, hb => by
    match s, hn with
    | [x], _ =>
      cases ha
      cases hb
      exact ⟨fun _ => rfl, fun _ => rfl⟩
  | n + 2, s, hn, h, a, b, ha, hb => by
    match s, hn with
    | x :: y :: r, hn =>
      cases ha
      obtain ⟨_, h2, h3⟩ := alt_cons.mp h
      have ih := alt_ends (n + 1) (s := y :: r) (by simpa using hn) h2 y b rfl (by rw [← hb]; exact (List.getLast?_cons_cons).symm)
      have hxy := h3 y rfl
      have key : ∀ p q r : Bool, p ≠ q → ((p = r) ↔ ¬ (q = r)) := by decide
      rw [key _ _ _ hxy, ih]
      omega
/-- one's own back: exactly odd rows -/
theorem pal_odd {s : List Nat} (h : Alt s) (hp : s = s.reverse) : s ≠ [] ↔ s.length % 2 = 1 := by
  constructor
  · intro hne
    cases s with
    | nil => exact absurd rfl hne
    | cons a r =>
      have hl : (a :: r).getLast? = some a := by
        rw [hp, List.getLast?_reverse]
        rfl
      exact (alt_ends _ rfl h a a rfl hl).mp rfl
  · intro ho hn
    rw [hn] at ho
    cases ho
def isMir (u : List Nat) : Bool := decide ((codesOf u).length % 2 = 1) && decide (codesOf u = (codesOf u).reverse)
theorem cut_nil {u : List Nat} (h : Wd u) : cut u = [] ↔ codesOf u = [] := by
  have := codes_same h (v := []) (fun c hc => by cases hc)
  exact this.symm
theorem isMir_iff {u : List Nat} (h : Wd u) : isMir u = true ↔ cut u ≠ [] ∧ cut (u ++ u) = [] := by
  unfold isMir
  rw [Bool.and_eq_true, decide_eq_true_iff, decide_eq_true_iff, twice_iff h]
  constructor
  · rintro ⟨h1, h2⟩
    exact ⟨fun z => (pal_odd (codes_alt h) h2).mpr h1 ((cut_nil h).mp z), h2⟩
  · rintro ⟨h1, h2⟩
    exact ⟨(pal_odd (codes_alt h) h2).mp fun z => h1 ((cut_nil h).mpr z), h2⟩
theorem spell_len : ∀ s : List Nat, (spell s).length ≤ 2 * s.length
  | [] => Nat.le_refl _
  | c :: r => by
    have ih := spell_len r
    rw [spell_cons, List.length_append, List.length_cons]
    have h : (sg c).length ≤ 2 := by
      unfold sg
      split
      · decide
      · split
        · decide
        · split <;> decide
    omega
end K6

namespace K6
open PySem PySem.Spec PyProof.Rows L2 Nr Nw
/-! ### rows of codes as words, and rings -/
def pw (c : Nat) : List Nat := (sg c).reverse
def flat (L : List Nat) : List Nat := L.flatMap pw
theorem flat_app (L M : List Nat) : flat (L ++ M) = flat L ++ flat M := List.flatMap_append ..
theorem flat_cons (a : Nat) (L : List Nat) : flat (a :: L) = pw a ++ flat L := rfl
theorem flat_eq : ∀ L : List Nat, flat L = (spell L.reverse).reverse
  | [] => rfl
  | a :: r => by
    have h : spell (r.reverse ++ [a]) = spell r.reverse ++ sg a := by
      unfold spell
      rw [List.flatMap_append]
      exact congrArg (_ ++ ·) (List.append_nil _)
    rw [flat_cons, flat_eq r, List.reverse_cons, h, List.reverse_append]
    rfl
theorem pw_wd (c : Nat) : Wd (pw c) := wd_rev.mpr (sg_wd c)
theorem flat_wd (L : List Nat) : Wd (flat L) := by
  rw [flat_eq]
  exact wd_rev.mpr (spell_wd _)
theorem codes_flat {L : List Nat} (h : Alt L) : codesOf (flat L) = L.reverse := by
  rw [flat_eq]
  exact codes_word (alt_rev h)
theorem cut_flat {L : List Nat} (h : Alt L) : cut (flat L) = flat L := by
  rw [cut_codes (flat_wd L), codes_flat h, ← flat_eq]
theorem cut_flat_rev {L : List Nat} (h : Alt L) : cut (flat L).reverse = flat L.reverse := by
  rw [cut_codes (wd_rev.mpr (flat_wd L)), codes_rev (flat_wd L), codes_flat h, List.reverse_reverse, flat_eq, List.reverse_reverse]
theorem flat_len : ∀ L : List Nat, (flat L).length ≤ 2 * L.length := fun L => by
  rw [flat_eq, List.length_reverse]
  have := spell_len L.reverse
  rw [List.length_reverse] at this
  exact this
theorem flat_ne {L : List Nat} (h : Alt L) (hn : L ≠ []) : flat L ≠ [] := fun z => by
  have := codes_flat h
  rw [z] at this
  exact hn (by rw [← List.reverse_reverse L, ← this]; rfl)
/-- a piece done twice leads home -/
theorem pw_twice {c : Nat} (h : Cd c) : E2 (pw c ++ pw c) [] := by
  rcases h with e | e | e | e <;> subst e
  · exact E2.home (u := [48]) (pw_wd 1)
  · exact E2.home (u := [50]) (pw_wd 2)
  · intro s hs
    show go s [48, 50, 48, 50] = s
    have h1 : go s [48, 50] = go s [50, 48] := step_comm hs
    have h2 : go s ([48, 50] ++ [48, 50]) = go (go s [50, 48]) [48, 50] := by rw [go_append, h1]
    have h3 := go_home (s := s) (w := [50, 48]) hs (fun c hc => by
      rcases List.mem_cons.mp hc with e | e
      · exact .inr (.inr e)
      · exact .inl (List.mem_singleton.mp e))
    exact h2.trans h3
  · exact E2.home (u := [49]) (pw_wd 4)
theorem pw_rev {c : Nat} (h : Cd c) : E2 (pw c).reverse (pw c) := by
  have h1 : E2 ((pw c).reverse ++ (pw c ++ pw c)) ((pw c).reverse ++ []) := E2.app (wd_rev.mpr (pw_wd c)) (E2.id _) (pw_twice h)
  have h2 : E2 ((pw c).reverse ++ pw c ++ pw c) ([] ++ pw c) := E2.app (wd_append.mpr ⟨wd_rev.mpr (pw_wd c), pw_wd c⟩) (E2.home' (pw_wd c)) (E2.id _)
  rw [List.append_assoc] at h2
  rw [List.append_nil] at h1
  exact h1.sym.trans h2
/-- two pieces that aren't 1 -/
theorem pw_two {a b : Nat} (ha : Cd a) (hb : Cd b) (a4 : a ≠ 4) (b4 : b ≠ 4) (hab : a ≠ b) : cut (pw b ++ pw a) = pw (b ^^^ a) ∧ Cd (b ^^^ a) ∧ b ^^^ a ≠ 4 := by
  rcases ha with e | e | e | e <;> rcases hb with f | f | f | f <;> subst e <;> subst f <;> first | exact absurd rfl hab | exact absurd rfl a4 | exact absurd rfl b4 | decide
theorem pcs_codes : ∀ (n : Nat) (u : List Nat), u.length = n → Fw u → pcs u = (codesOf u).map pw
  | 0, u, hn, _ => by
    rw [List.length_eq_zero_iff.mp hn]
    rfl
  | n + 1, u, hn, hf => by
    have hne : u ≠ [] := fun z => by rw [z] at hn; cases hn
    have eu := (List.dropLast_concat_getLast hne).symm
    have hl : u.dropLast.length = n := by rw [List.length_dropLast]; omega
    rw [eu] at hf ⊢
    generalize u.dropLast = v at hf hl ⊢
    generalize u.getLast hne = c at hf ⊢
    obtain ⟨hv, hc, hnb⟩ := fw_snoc hf
    have ih := pcs_codes n v hl hv
    obtain ⟨_, _, h3⟩ := pcs_pal n v hl hv
    rw [pcs_snoc, codes_snoc, ih]
    rw [ih] at h3
    have alt := codes_alt hv.wd
    generalize codesOf v = st at h3 alt
    cases st with
    | nil =>
      rcases hc with e | e | e <;> subst e <;> rfl
    | cons a r =>
      have hh := h3 (pw a) rfl
      have nb := fun x (hx : (pw a).getLast? = some x) => hnb x (by rw [← hh]; exact hx)
      rcases alt.head with e | e | e | e <;> subst e
      · have n1 := nb 48 rfl
        rcases hc with y | y | y <;> subst y
        · exact absurd rfl n1.1
        · rfl
        · rfl
      · have n1 := nb 50 rfl
        rcases hc with y | y | y <;> subst y
        · exact absurd ⟨rfl, rfl⟩ n1.2
        · rfl
        · exact absurd rfl n1.1
      · have n1 := nb 50 rfl
        rcases hc with y | y | y <;> subst y
        · exact absurd ⟨rfl, rfl⟩ n1.2
        · rfl
        · exact absurd rfl n1.1
      · have n1 := nb 49 rfl
        rcases hc with y | y | y <;> subst y
        · rfl
        · exact absurd rfl n1.1
        · rfl
/-! ### one turn of a ring -/
/-- the ring's state: L the codes, y the way, u the word -/
structure RInv (u L y : List Nat) : Prop where
  alt : Alt L
  ne : L ≠ []
  wd : Wd y
  eq : E2 (y.reverse ++ flat L ++ y) u
/-- both ends of one kind -/
theorem ends_split {L : List Nat} {a b : Nat} (ha : L.head? = some a) (hb : L.getLast? = some b) (hl : 1 < L.length) : ∃ M, L = a :: (M ++ [b]) := by
  cases L with
  | nil => cases ha
  | cons x r =>
    cases ha
    cases r with
    | nil => exact absurd hl (Nat.lt_irrefl 1)
    | cons y q =>
      have hne : (y :: q) ≠ [] := by intro z; cases z
      refine ⟨(y :: q).dropLast, ?_⟩
      have e : (y :: q).getLast hne = b := by
        rw [List.getLast?_cons_cons, List.getLast?_eq_getLast hne] at hb
        exact Option.some.inj hb
      rw [← e, List.dropLast_concat_getLast hne]
theorem rinv_step {u M y : List Nat} {a b : Nat} (h : RInv u (a :: (M ++ [b])) y) (ht : Ty a = Ty b) : M ≠ [] ∧ Cd a ∧ Cd b ∧
    (a = b → RInv u M (cut (pw b ++ y))) ∧ (a ≠ b → cut (pw b ++ pw a) = pw (b ^^^ a) ∧ RInv u ((b ^^^ a) :: M) (cut (pw b ++ y))) := by
  obtain ⟨h1, h2, h3⟩ := alt_cons.mp h.alt
  obtain ⟨m1, m2, m3⟩ := alt_app.mp h2
  have hb : Cd b := m2
  have hM : M ≠ [] := fun z => by
    subst z
    exact h3 b rfl ht
  have wy : Wd (pw b ++ y) := wd_append.mpr ⟨pw_wd b, h.wd⟩
  have wc := cut_wd wy
  -- the way's back, then the way
  have ey : E2 (cut (pw b ++ y)) (pw b ++ y) := e2_of wc wy (cut_cut wy)
  have eyr : E2 (cut (pw b ++ y)).reverse (y.reverse ++ pw b) := by
    have h1 : E2 (cut (pw b ++ y)).reverse (pw b ++ y).reverse := e2_of (wd_rev.mpr wc) (wd_rev.mpr wy) (cut_rev wy)
    rw [List.reverse_append] at h1
    exact h1.trans (E2.app (wd_rev.mpr h.wd) (E2.id _) (pw_rev hb))
  have old := h.eq
  rw [flat_cons, flat_app] at old
  have one : flat [b] = pw b := List.append_nil _
  rw [one] at old
  have mk : ∀ X : List Nat, Wd X → E2 (pw b ++ X ++ pw b) (pw a ++ (flat M ++ pw b)) → E2 ((cut (pw b ++ y)).reverse ++ X ++ cut (pw b ++ y)) u := by
    intro X hX hE
    have g1 : E2 ((cut (pw b ++ y)).reverse ++ X ++ cut (pw b ++ y)) ((y.reverse ++ pw b) ++ X ++ (pw b ++ y)) := E2.app (wd_append.mpr ⟨wd_rev.mpr wc, hX⟩) (E2.app (wd_rev.mpr wc) eyr (E2.id X)) ey
    have g2 : (y.reverse ++ pw b) ++ X ++ (pw b ++ y) = y.reverse ++ (pw b ++ X ++ pw b) ++ y := by simp only [List.append_assoc]
    rw [g2] at g1
    refine g1.trans (E2.trans ?_ old)
    exact E2.app (wd_append.mpr ⟨wd_rev.mpr h.wd, wd_append.mpr ⟨wd_append.mpr ⟨pw_wd b, hX⟩, pw_wd b⟩⟩) (E2.app (wd_rev.mpr h.wd) (E2.id _) hE) (E2.id y)
  refine ⟨hM, h1, hb, fun e => ?_, fun e => ?_⟩
  · subst e
    refine ⟨m1, hM, wc, mk (flat M) (flat_wd M) ?_⟩
    rw [List.append_assoc]
    exact E2.id _
  · have a4 : a ≠ 4 := fun z => e (by
      subst z
      exact (of_decide_eq_true (ht.symm.trans (decide_eq_true rfl))).symm)
    have b4 : b ≠ 4 := fun z => e (by
      subst z
      exact of_decide_eq_true (ht.trans (decide_eq_true rfl)))
    obtain ⟨c1, c2, c3⟩ := pw_two h1 hb a4 b4 e
    refine ⟨c1, ?_, (by intro z; cases z), wc, mk _ (flat_wd _) ?_⟩
    · rw [alt_cons]
      refine ⟨c2, m1, fun x hx => ?_⟩
      have hxx : (M ++ [b]).head? = some x := by
        cases M with
        | nil => cases hx
        | cons z q => exact hx
      have := h3 x hxx
      have t1 : Ty (b ^^^ a) = false := decide_eq_false c3
      have t2 : Ty a = false := decide_eq_false a4
      rw [t1]
      rw [t2] at this
      exact this
    · have e1 : E2 (pw (b ^^^ a)) (pw b ++ pw a) := by
        have : E2 (cut (pw b ++ pw a)) (pw b ++ pw a) := e2_of (cut_wd (wd_append.mpr ⟨pw_wd b, pw_wd a⟩)) (wd_append.mpr ⟨pw_wd b, pw_wd a⟩) (cut_cut (wd_append.mpr ⟨pw_wd b, pw_wd a⟩))
        rw [c1] at this
        exact this
      rw [flat_cons]
      have s1 : E2 (pw b ++ (pw (b ^^^ a) ++ flat M) ++ pw b) (pw b ++ ((pw b ++ pw a) ++ flat M) ++ pw b) := E2.app (wd_append.mpr ⟨pw_wd b, wd_append.mpr ⟨pw_wd _, flat_wd M⟩⟩) (E2.app (pw_wd b) (E2.id _) (E2.app (pw_wd _) e1 (E2.id _))) (E2.id _)
      refine s1.trans ?_
      have s2 : pw b ++ ((pw b ++ pw a) ++ flat M) ++ pw b = (pw b ++ pw b) ++ (pw a ++ (flat M ++ pw b)) := by simp only [List.append_assoc]
      rw [s2]
      show E2 _ ([] ++ (pw a ++ (flat M ++ pw b)))
      exact E2.app (wd_append.mpr ⟨pw_wd b, pw_wd b⟩) (pw_twice hb) (E2.id _)
end K6

namespace K6
open PySem PySem.Spec PyProof.Rows L2 Nr Nw
/-! ### the ring of a row of codes -/
theorem cd_ty {a b : Nat} (ha : Cd a) (hb : Cd b) : Ty a = Ty b ↔ (a = 4 ∧ b = 4) ∨ (a ≠ 4 ∧ b ≠ 4) := by
  rcases ha with e | e | e | e <;> rcases hb with f | f | f | f <;> subst e <;> subst f <;> decide
/-- where both ends are unlike: the ring that begins with 1 -/
def fnr (a : Nat) (M : List Nat) (b : Nat) : List Nat := if a = 4 then a :: (M ++ [b]) else if b = 4 then M ++ [b, a] else M ++ [b ^^^ a]
inductive Rg : List Nat → List Nat → Prop
  | nil : Rg [] []
  | one (c : Nat) : Rg [c] [c]
  | strip (a : Nat) (M ρ : List Nat) : M ≠ [] → Rg M ρ → Rg (a :: (M ++ [a])) ρ
  | fin (a : Nat) (M : List Nat) (b : Nat) : a ≠ b → Rg (a :: (M ++ [b])) (fnr a M b)
theorem snoc_inj {a : Nat} {M N : List Nat} {b c d : Nat} (h : a :: (M ++ [b]) = c :: (N ++ [d])) : a = c ∧ M = N ∧ b = d := by
  have h1 := (List.cons.inj h).1
  have h2 := (List.cons.inj h).2
  have h3 := List.append_inj' h2 rfl
  exact ⟨h1, h3.1, (List.cons.inj h3.2).1⟩
theorem rg_fun : ∀ {L ρ σ : List Nat}, Rg L ρ → Rg L σ → ρ = σ := by
  intro L ρ σ h
  induction h generalizing σ with
  | nil =>
    intro k
    generalize e : ([] : List Nat) = X at k
    cases k with
    | nil => rfl
    | one c => cases e
    | strip a M ρ _ => cases e
    | fin a M b _ => cases e
  | one c =>
    intro k
    generalize e : [c] = X at k
    cases k with
    | nil => cases e
    | one d => cases e; rfl
    | strip a M ρ _ _ =>
      have := congrArg List.length e
      simp at this
    | fin a M b _ =>
      have := congrArg List.length e
      simp at this
  | strip a M ρ hne _ ih =>
    intro k
    generalize e : a :: (M ++ [a]) = X at k
    cases k with
    | nil => cases e
    | one d =>
      have := congrArg List.length e
      simp at this
    | strip c N τ hn k =>
      obtain ⟨_, rfl, _⟩ := snoc_inj e
      exact ih k
    | fin c N d hcd =>
      obtain ⟨rfl, _, h3⟩ := snoc_inj e
      exact absurd h3 hcd
  | fin a M b hab =>
    intro k
    generalize e : a :: (M ++ [b]) = X at k
    cases k with
    | nil => cases e
    | one d =>
      have := congrArg List.length e
      simp at this
    | strip c N τ hn k =>
      obtain ⟨rfl, _, h3⟩ := snoc_inj e
      exact absurd h3.symm hab
    | fin c N d hcd =>
      obtain ⟨rfl, rfl, rfl⟩ := snoc_inj e
      rfl
/-- a row of two codes or more -/
theorem two_ends {L : List Nat} (h : 2 ≤ L.length) : ∃ a M b, L = a :: (M ++ [b]) := by
  cases L with
  | nil => simp at h
  | cons a r =>
    have hne : r ≠ [] := fun z => by rw [z] at h; simp at h
    exact ⟨a, r.dropLast, r.getLast hne, by rw [List.dropLast_concat_getLast hne]⟩
theorem mid_alt {a : Nat} {M : List Nat} {b : Nat} (h : Alt (a :: (M ++ [b]))) : Cd a ∧ Alt M ∧ Cd b ∧ (∀ x, M.head? = some x → Ty a ≠ Ty x) ∧ (∀ x, M.getLast? = some x → Ty x ≠ Ty b) := by
  obtain ⟨h1, h2, h3⟩ := alt_cons.mp h
  obtain ⟨m1, m2, m3⟩ := alt_app.mp h2
  refine ⟨h1, m1, m2, fun x hx => ?_, fun x hx => m3 x b hx rfl⟩
  refine h3 x ?_
  cases M with
  | nil => cases hx
  | cons y q => exact hx
theorem mid_ne {a : Nat} {M : List Nat} (h : Alt (a :: (M ++ [a]))) : M ≠ [] := fun z => by
  subst z
  exact (alt_cons.mp h).2.2 a rfl rfl
theorem rg_ex : ∀ (n : Nat) {L : List Nat}, L.length ≤ n → Alt L → ∃ ρ, Rg L ρ
  | 0, L, hn, _ => by
    rw [List.length_eq_zero_iff.mp (Nat.le_zero.mp hn)]
    exact ⟨_, .nil⟩
  | n + 1, L, hn, h => by
    by_cases h2 : 2 ≤ L.length
    · obtain ⟨a, M, b, rfl⟩ := two_ends h2
      by_cases e : a = b
      · subst e
        obtain ⟨ρ, k⟩ := rg_ex n (L := M) (by simp at hn; omega) (mid_alt h).2.1
        exact ⟨ρ, .strip _ _ _ (mid_ne h) k⟩
      · exact ⟨_, .fin a M b e⟩
    · match L, h2 with
      | [], _ => exact ⟨_, .nil⟩
      | [c], _ => exact ⟨_, .one c⟩
      | a :: b :: r, h2 => exact absurd (by simp) h2
/-! ### moved by a code -/
def mvc (k : Nat) (L : List Nat) : List Nat := put (put L.reverse k).reverse k
theorem put_other {a k : Nat} {r : List Nat} (h : Ty a ≠ Ty k) : put (a :: r) k = k :: a :: r := by rw [put_cons, if_pos h]
theorem put_same {k : Nat} {r : List Nat} : put (k :: r) k = r := by rw [put_cons, if_neg (fun z => z rfl), if_pos rfl]
theorem put_mix {a k : Nat} {r : List Nat} (h : Ty a = Ty k) (e : a ≠ k) : put (a :: r) k = (a ^^^ k) :: r := by rw [put_cons, if_neg (fun z => z h), if_neg e]
theorem xor3 {a b : Nat} (ha : Cd a) (hb : Cd b) (a4 : a ≠ 4) (b4 : b ≠ 4) (hab : a ≠ b) : Cd (a ^^^ b) ∧ a ^^^ b ≠ 4 ∧ a ^^^ b ≠ a ∧ a ^^^ b ≠ b ∧ a ^^^ b ^^^ b = a := by
  rcases ha with e | e | e | e <;> rcases hb with f | f | f | f <;> subst e <;> subst f <;> first | exact absurd rfl hab | exact absurd rfl a4 | exact absurd rfl b4 | decide
theorem both4 {a b : Nat} (ha : Cd a) (hb : Cd b) (h : Ty a = Ty b) (e : a ≠ b) : a ≠ 4 ∧ b ≠ 4 := by
  rcases (cd_ty ha hb).mp h with ⟨x, y⟩ | x
  · exact absurd (x.trans y.symm) e
  · exact x
/-- rings that are read alike: the same one, or turned by two codes -/
inductive Tn : List Nat → List Nat → Prop
  | id (ρ : List Nat) : Tn ρ ρ
  | on (b : Nat) (r : List Nat) : Tn (4 :: b :: r) (r ++ [4, b])
  | back (b : Nat) (r : List Nat) : Tn (r ++ [4, b]) (4 :: b :: r)
theorem rev_ends (a : Nat) (M : List Nat) (b : Nat) : (a :: (M ++ [b])).reverse = b :: (M.reverse ++ [a]) := by simp
theorem rev_ends' (a : Nat) (M : List Nat) (b : Nat) : (b :: (M.reverse ++ [a])).reverse = a :: (M ++ [b]) := by simp
theorem fnr4 (M : List Nat) (b : Nat) : fnr 4 M b = 4 :: (M ++ [b]) := if_pos rfl
theorem fnr_4 {a : Nat} (h : a ≠ 4) (M : List Nat) : fnr a M 4 = M ++ [4, a] := by unfold fnr; rw [if_neg h, if_pos rfl]
theorem fnr_x {a b : Nat} (h : a ≠ 4) (k : b ≠ 4) (M : List Nat) : fnr a M b = M ++ [b ^^^ a] := by unfold fnr; rw [if_neg h, if_neg k]
theorem rg_mv {k : Nat} (hk : Cd k) {L ρ σ : List Nat} (h : Alt L) (r1 : Rg L ρ) (r2 : Rg (mvc k L) σ) : Tn ρ σ := by
  by_cases h2 : 2 ≤ L.length
  · obtain ⟨a, M, b, rfl⟩ := two_ends h2
    obtain ⟨ca, am, cb, ea, eb⟩ := mid_alt h
    have hM : Ty a = Ty b → M ≠ [] := fun t z => by
      subst z
      exact (alt_cons.mp h).2.2 b rfl t
    unfold mvc at r2
    rw [rev_ends] at r2
    by_cases tb : Ty b = Ty k
    · by_cases bk : b = k
      · -- b is taken off
        subst bk
        rw [put_same] at r2
        have rr : (M.reverse ++ [a]).reverse = a :: M := by simp
        rw [rr] at r2
        by_cases ta : Ty a = Ty b
        · by_cases ab : a = b
          · subst ab
            rw [put_same] at r2
            have := rg_fun r1 (.strip a M σ (hM rfl) r2)
            rw [this]
            exact .id _
          · obtain ⟨a4, b4⟩ := both4 ca cb ta ab
            obtain ⟨x1, x2, x3, x4, x5⟩ := xor3 ca cb a4 b4 ab
            rw [put_mix ta ab] at r2
            have e1 := rg_fun r1 (.fin a M b ab)
            rw [fnr_x a4 b4] at e1
            -- the other one: (a ^^^ b) :: M
            obtain ⟨N, c, rfl⟩ : ∃ N c, M = N ++ [c] := ⟨_, _, (List.dropLast_concat_getLast (hM ta)).symm⟩
            have c4 : c = 4 := by
              have := eb c (by simp)
              by_cases z : c = 4
              · exact z
              · exact absurd ((cd_ty (am.all c (by simp)) cb).mpr (.inr ⟨z, b4⟩)) this
            subst c4
            have e2 := rg_fun r2 (.fin (a ^^^ b) N 4 x2)
            rw [fnr_4 x2] at e2
            rw [e1, e2, Nat.xor_comm b a, List.append_assoc]
            exact .id _
        · rw [put_other ta] at r2
          have e1 := rg_fun r1 (.fin a M b (fun z => ta (by rw [z])))
          by_cases a4 : a = 4
          · -- b is no 4: turned once
            subst a4
            have b4 : b ≠ 4 := fun z => ta (by rw [z])
            rw [fnr4] at e1
            cases M with
            | nil =>
              have e2 := rg_fun r2 (.fin b [] 4 b4)
              rw [fnr_4 b4] at e2
              rw [e1, e2]
              exact .id _
            | cons x M =>
              obtain ⟨N, c, e⟩ : ∃ N c, x :: M = N ++ [c] := ⟨_, _, (List.dropLast_concat_getLast (List.cons_ne_nil x M)).symm⟩
              have c4 : c = 4 := by
                have := eb c (by rw [e]; simp)
                by_cases z : c = 4
                · exact z
                · exact absurd ((cd_ty (am.all c (by rw [e]; simp)) cb).mpr (.inr ⟨z, b4⟩)) this
              subst c4
              rw [e] at r2 e1
              have e2 := rg_fun r2 (.fin b (4 :: N) 4 b4)
              rw [fnr_4 b4] at e2
              rw [e1, e2]
              have : 4 :: N ++ [4, b] = 4 :: (N ++ [4] ++ [b]) := by simp
              rw [this]
              exact .id _
          · have b4 : b = 4 := by
              by_cases z : b = 4
              · exact z
              · exact absurd ((cd_ty ca cb).mpr (.inr ⟨a4, z⟩)) ta
            subst b4
            rw [fnr_4 a4] at e1
            cases M with
            | nil =>
              have e2 := rg_fun r2 (.fin 4 [] a (fun z => a4 z.symm))
              rw [fnr4] at e2
              rw [e1, e2]
              exact .id _
            | cons x M =>
              obtain ⟨N, c, e⟩ : ∃ N c, x :: M = N ++ [c] := ⟨_, _, (List.dropLast_concat_getLast (List.cons_ne_nil x M)).symm⟩
              have c4 : c ≠ 4 := fun z => by
                have := eb c (by rw [e]; simp)
                exact this (by rw [z])
              rw [e] at r2 e1
              have e2 := rg_fun r2 (.fin 4 (a :: N) c (fun z => c4 z.symm))
              rw [fnr4] at e2
              rw [e1, e2]
              exact .back a (N ++ [c])
      · -- b is mixed with k
        obtain ⟨b4, k4⟩ := both4 cb hk tb bk
        obtain ⟨x1, x2, x3, x4, x5⟩ := xor3 cb hk b4 k4 bk
        rw [put_mix tb bk, rev_ends'] at r2
        by_cases ta : Ty a = Ty k
        · by_cases ak : a = k
          · subst ak
            have ab : a ≠ b := fun z => bk z.symm
            rw [put_same] at r2
            have e1 := rg_fun r1 (.fin a M b ab)
            rw [fnr_x k4 b4] at e1
            have hm := hM (ta.trans tb.symm)
            cases M with
            | nil => exact absurd rfl hm
            | cons x N =>
              have x4' : x = 4 := by
                have := ea x rfl
                by_cases z : x = 4
                · exact z
                · exact absurd ((cd_ty ca (am.all x (by simp))).mpr (.inr ⟨k4, z⟩)) this
              subst x4'
              have e2 := rg_fun r2 (.fin 4 N (b ^^^ a) (fun z => x2 z.symm))
              rw [fnr4] at e2
              rw [e1, e2]
              exact .id _
          · have a4 : a ≠ 4 := (both4 ca hk ta ak).1
            obtain ⟨y1, y2, y3, y4, y5⟩ := xor3 ca hk a4 k4 ak
            rw [put_mix ta ak] at r2
            by_cases ab : a = b
            · subst ab
              have hm := hM rfl
              obtain ⟨τ, ht⟩ := rg_ex _ (Nat.le_refl _) am
              rw [rg_fun r1 (.strip a M τ hm ht), rg_fun r2 (.strip (a ^^^ k) M τ hm ht)]
              exact .id _
            · have e1 := rg_fun r1 (.fin a M b ab)
              rw [fnr_x a4 b4] at e1
              have ne : a ^^^ k ≠ b ^^^ k := fun z => ab (by rw [← y5, z, x5])
              have e2 := rg_fun r2 (.fin (a ^^^ k) M (b ^^^ k) ne)
              rw [fnr_x y2 x2] at e2
              have : b ^^^ k ^^^ (a ^^^ k) = b ^^^ a := by
                rw [Nat.xor_comm a k, ← Nat.xor_assoc, x5]
              rw [e1, e2, this]
              exact .id _
        · rw [put_other ta] at r2
          have a4 : a = 4 := by
            by_cases z : a = 4
            · exact z
            · exact absurd ((cd_ty ca hk).mpr (.inr ⟨z, k4⟩)) ta
          subst a4
          have e1 := rg_fun r1 (.fin 4 M b (fun z => b4 z.symm))
          rw [fnr4] at e1
          have ne : k ≠ b ^^^ k := fun z => x4 z.symm
          have e2 := rg_fun r2 (.fin k (4 :: M) (b ^^^ k) ne)
          rw [fnr_x k4 x2, x5] at e2
          rw [e1, e2]
          exact .id _
    · -- k is put behind b
      rw [put_other tb] at r2
      have rr : (k :: b :: (M.reverse ++ [a])).reverse = a :: (M ++ [b] ++ [k]) := by simp
      rw [rr] at r2
      by_cases ta : Ty a = Ty k
      · have ab : a ≠ b := fun z => tb (by rw [← z]; exact ta)
        have e1 := rg_fun r1 (.fin a M b ab)
        by_cases ak : a = k
        · subst ak
          rw [put_same] at r2
          by_cases a4 : a = 4
          · subst a4
            rw [fnr4] at e1
            have b4 : b ≠ 4 := fun z => ab z.symm
            cases M with
            | nil =>
              have e2 := rg_fun r2 (.fin b [] 4 b4)
              rw [fnr_4 b4] at e2
              rw [e1, e2]
              exact .id _
            | cons x N =>
              have x4 : x ≠ 4 := fun z => ea x rfl (by rw [z])
              have e2 := rg_fun r2 (.fin x (N ++ [b]) 4 x4)
              rw [fnr_4 x4] at e2
              rw [e1, e2]
              exact .on x (N ++ [b])
          · have b4 : b = 4 := by
              by_cases z : b = 4
              · exact z
              · exact absurd ((cd_ty cb ca).mpr (.inr ⟨z, a4⟩)) tb
            subst b4
            rw [fnr_4 a4] at e1
            cases M with
            | nil =>
              have e2 := rg_fun r2 (.fin 4 [] a (fun z => a4 z.symm))
              rw [fnr4] at e2
              rw [e1, e2]
              exact .id _
            | cons x N =>
              have x4 : x = 4 := by
                have := ea x rfl
                by_cases z : x = 4
                · exact z
                · exact absurd ((cd_ty ca (am.all x (by simp))).mpr (.inr ⟨a4, z⟩)) this
              subst x4
              have r2' : Rg (4 :: (N ++ [4] ++ [a])) σ := r2
              have e2 := rg_fun r2' (.fin 4 (N ++ [4]) a (fun z => a4 z.symm))
              rw [fnr4] at e2
              rw [e1, e2]
              have : 4 :: N ++ [4, a] = 4 :: (N ++ [4] ++ [a]) := by simp
              rw [this]
              exact .id _
        · have a4 : a ≠ 4 := (both4 ca hk ta ak).1
          have k4 : k ≠ 4 := (both4 ca hk ta ak).2
          have b4 : b = 4 := by
            by_cases z : b = 4
            · exact z
            · exact absurd ((cd_ty cb hk).mpr (.inr ⟨z, k4⟩)) tb
          subst b4
          obtain ⟨y1, y2, y3, y4, y5⟩ := xor3 ca hk a4 k4 ak
          rw [put_mix ta ak] at r2
          rw [fnr_4 a4] at e1
          have e2 := rg_fun r2 (.fin (a ^^^ k) (M ++ [4]) k y4)
          have y6 : k ^^^ (a ^^^ k) = a := by rw [Nat.xor_comm, y5]
          rw [fnr_x y2 k4, y6] at e2
          rw [e1, e2, List.append_assoc]
          exact .id _
      · rw [put_other ta] at r2
        have e2 := rg_fun r2 (.strip k (a :: (M ++ [b])) ρ (by simp) r1)
        rw [e2]
        exact .id _
  · match L, h2, h, r1, r2 with
    | [], _, _, r1, r2 =>
      have : mvc k [] = [] := put_same
      rw [this] at r2
      rw [rg_fun r1 .nil, rg_fun r2 .nil]
      exact .id _
    | [a], _, h, r1, r2 =>
      have ca : Cd a := h
      rw [rg_fun r1 (.one a)]
      unfold mvc at r2
      by_cases ta : Ty a = Ty k
      · by_cases ak : a = k
        · subst ak
          have : put (put [a].reverse a).reverse a = [a] := by
            show put (put [a] a).reverse a = [a]
            rw [put_same]
            rfl
          rw [this] at r2
          rw [rg_fun r2 (.one a)]
          exact .id _
        · have hx := both4 ca hk ta ak
          obtain ⟨y1, y2, y3, y4, y5⟩ := xor3 ca hk hx.1 hx.2 ak
          have : put (put [a].reverse k).reverse k = [a] := by
            show put (put [a] k).reverse k = [a]
            rw [put_mix ta ak]
            show put [a ^^^ k] k = [a]
            rw [put_mix ((cd_ty y1 hk).mpr (.inr ⟨y2, hx.2⟩)) y4, y5]
          rw [this] at r2
          rw [rg_fun r2 (.one a)]
          exact .id _
      · have : put (put [a].reverse k).reverse k = k :: ([a] ++ [k]) := by
          show put (put [a] k).reverse k = _
          rw [put_other ta]
          show put [a, k] k = _
          rw [put_other ta]
          rfl
        rw [this] at r2
        rw [rg_fun r2 (.strip k [a] [a] (by simp) (.one a))]
        exact .id _
    | a :: b :: r, h2, _, _, _ => exact absurd (by simp) h2
end K6

namespace K6
open PySem PySem.Spec PyProof.Rows L2 Nr Nw
/-! ### rings in pairs, readings, the least one -/
inductive Prs : List Nat → Prop
  | nil : Prs []
  | cons (b : Nat) (r : List Nat) : Cd b → b ≠ 4 → Prs r → Prs (4 :: b :: r)
theorem prs_of : ∀ (n : Nat) {X : List Nat}, X.length ≤ n → Alt X → (∀ a, X.head? = some a → a = 4) → (∀ b, X.getLast? = some b → b ≠ 4) → Prs X
  | _, [], _, _, _, _ => .nil
  | 0, a :: r, hn, _, _, _ => by simp at hn
  | n + 1, a :: r, hn, h, h4, hl => by
    have e := h4 a rfl
    subst e
    obtain ⟨_, h2, h3⟩ := alt_cons.mp h
    cases r with
    | nil => exact absurd rfl (hl 4 rfl)
    | cons b q =>
      have b4 : b ≠ 4 := fun z => h3 b rfl (by rw [z])
      refine .cons b q h2.head b4 (prs_of n (by simp at hn; omega) h2.tail (fun x hx => ?_) (fun x hx => hl x ?_))
      · have := (alt_cons.mp h2).2.2 x hx
        by_cases z : x = 4
        · exact z
        · exfalso
          apply this
          unfold Ty
          rw [decide_eq_false b4, decide_eq_false z]
      · cases q with
        | nil => cases hx
        | cons y q => rw [List.getLast?_cons_cons, List.getLast?_cons_cons]; exact hx
theorem Prs.alt {X : List Nat} (h : Prs X) : Alt X := by
  induction h with
  | nil => trivial
  | cons b r hb b4 hr ih =>
    refine ⟨by decide, .inl ⟨rfl, b4⟩, ?_⟩
    cases hr with
    | nil => exact hb
    | cons c q hc c4 hq => exact ⟨hb, .inr ⟨b4, rfl⟩, ih⟩
theorem Prs.app {X Y : List Nat} (h : Prs X) (k : Prs Y) : Prs (X ++ Y) := by
  induction h with
  | nil => exact k
  | cons b r hb b4 _ ih => exact .cons b _ hb b4 ih
theorem ty_of {a b : Nat} (ha : Cd a) (hb : Cd b) (h : Ty a ≠ Ty b) (b4 : b ≠ 4) : a = 4 := by
  by_cases z : a = 4
  · exact z
  · exact absurd ((cd_ty ha hb).mpr (.inr ⟨z, b4⟩)) h
/-- what a ring is -/
theorem rg_ok {L ρ : List Nat} (h : Rg L ρ) (al : Alt L) : (∃ c, Cd c ∧ ρ = [c]) ∨ Prs ρ := by
  induction h with
  | nil => exact .inr .nil
  | one c => exact .inl ⟨c, al, rfl⟩
  | strip a M ρ _ _ ih => exact ih (mid_alt al).2.1
  | fin a M b hab =>
    right
    obtain ⟨ca, am, cb, ea, eb⟩ := mid_alt al
    by_cases a4 : a = 4
    · subst a4
      rw [fnr4]
      refine prs_of _ (Nat.le_refl _) al (fun x hx => by cases hx; rfl) (fun x hx => ?_)
      rw [← List.cons_append, List.getLast?_concat] at hx
      cases hx
      exact fun z => hab z.symm
    · have hM : ∀ x, M.head? = some x → x = 4 := fun x hx => ty_of (am.all x (List.mem_of_mem_head? hx)) ca (ea x hx).symm a4
      by_cases b4 : b = 4
      · subst b4
        rw [fnr_4 a4]
        refine prs_of _ (Nat.le_refl _) (alt_app.mpr ⟨am, ⟨by decide, .inl ⟨rfl, a4⟩, ca⟩, fun x y hx hy => by cases hy; exact eb x hx⟩) (fun x hx => ?_) (fun x hx => ?_)
        · cases M with
          | nil => cases hx; rfl
          | cons y q => exact hM x hx
        · have e : M ++ [4, a] = M ++ [4] ++ [a] := by simp
          rw [e, List.getLast?_concat] at hx
          cases hx
          exact a4
      · rw [fnr_x a4 b4]
        obtain ⟨x1, x2, _⟩ := xor3 cb ca b4 a4 (fun z => hab z.symm)
        have hne : M ≠ [] := fun z => by
          subst z
          exact (alt_cons.mp al).2.2 b rfl ((cd_ty ca cb).mpr (.inr ⟨a4, b4⟩))
        refine prs_of _ (Nat.le_refl _) (alt_app.mpr ⟨am, x1, fun x y hx hy => ?_⟩) (fun x hx => ?_) (fun x hx => ?_)
        · cases hy
          have := ty_of (am.all x (List.mem_of_mem_getLast? hx)) cb (eb x hx) b4
          subst this
          exact fun z => x2 (of_decide_eq_true (z.symm.trans (decide_eq_true rfl)))
        · cases M with
          | nil => exact absurd rfl hne
          | cons y q => exact hM x hx
        · rw [List.getLast?_concat] at hx
          cases hx
          exact x2
def rest (c : Nat) : List Nat := if c = 1 then [] else [50]
/-- a reading that begins with 0 -/
def Rdg (ρ s : List Nat) : Prop := ∃ P c Q, ρ = P ++ c :: Q ∧ (c = 1 ∨ c = 3) ∧ s = 48 :: (flat (Q ++ P) ++ rest c)
def Lst (ρ t : List Nat) : Prop := if ρ.length < 2 then t = flat ρ else (Rdg ρ t ∧ ∀ s, Rdg ρ s → t ≤ s) ∨ ((∀ s, ¬ Rdg ρ s) ∧ t = flat ρ)
theorem le_anti {s t : List Nat} (h : s ≤ t) (k : t ≤ s) : s = t := List.le_antisymm h k
theorem lst_fun {ρ s t : List Nat} (h : Lst ρ s) (k : Lst ρ t) : s = t := by
  unfold Lst at h k
  by_cases e : ρ.length < 2
  · rw [if_pos e] at h k
    rw [h, k]
  · rw [if_neg e] at h k
    rcases h with ⟨h1, h2⟩ | ⟨h1, h2⟩ <;> rcases k with ⟨k1, k2⟩ | ⟨k1, k2⟩
    · exact le_anti (h2 t k1) (k2 s h1)
    · exact absurd h1 (k1 s)
    · exact absurd k1 (h1 t)
    · rw [h2, k2]
theorem rdg_turn {X Y s : List Nat} (h : Rdg (X ++ Y) s) : Rdg (Y ++ X) s := by
  obtain ⟨P, c, Q, e, hc, rfl⟩ := h
  rcases List.append_eq_append_iff.mp e with ⟨Z, e1, e2⟩ | ⟨Z, e1, e2⟩
  · subst e1
    subst e2
    exact ⟨Z, c, Q ++ X, by simp, hc, by simp⟩
  · cases Z with
    | nil =>
      rw [List.append_nil] at e1
      rw [List.nil_append] at e2
      subst e1
      subst e2
      exact ⟨[], c, Q ++ X, rfl, hc, by simp⟩
    | cons z Z =>
      have := (List.cons.inj (show c :: Q = z :: (Z ++ Y) from e2))
      obtain ⟨rfl, rfl⟩ := this
      subst e1
      exact ⟨Y ++ P, c, Z, by simp, hc, by simp⟩
/-- rows of 1 and 2 alone -/
theorem prs_two {X : List Nat} (h : Prs X) (no : ∀ s, ¬ Rdg X s) : ∀ c ∈ X, c = 4 ∨ c = 2 := fun c hc => by
  rcases h.alt.all c hc with e | e | e | e
  · obtain ⟨P, Q, rfl⟩ := List.append_of_mem hc
    exact absurd ⟨P, c, Q, rfl, .inl e, rfl⟩ (no _)
  · exact .inr e
  · obtain ⟨P, Q, rfl⟩ := List.append_of_mem hc
    exact absurd ⟨P, c, Q, rfl, .inr e, rfl⟩ (no _)
  · exact .inl e
theorem prs_same {X Y : List Nat} (h : Prs X) (hx : ∀ c ∈ X, c = 4 ∨ c = 2) (k : Prs Y) (hy : ∀ c ∈ Y, c = 4 ∨ c = 2) (hl : X.length = Y.length) : X = Y := by
  induction h generalizing Y with
  | nil => exact (List.length_eq_zero_iff.mp hl.symm).symm
  | cons b r hb b4 _ ih =>
    cases k with
    | nil => simp at hl
    | cons c q hc c4 kq =>
      have e1 : b = 2 := (hx b (by simp)).resolve_left b4
      have e2 : c = 2 := (hy c (by simp)).resolve_left c4
      subst e1
      subst e2
      rw [ih (fun x h => hx x (by simp [h])) kq (fun x h => hy x (by simp [h])) (by simpa using hl)]
/-- turned by any row: the least reading stays -/
theorem lst_turn {X Y t : List Nat} (hx : Prs (X ++ Y)) (hy : Prs (Y ++ X)) (h : Lst (X ++ Y) t) : Lst (Y ++ X) t := by
  have hl : (X ++ Y).length = (Y ++ X).length := by simp; omega
  unfold Lst at h ⊢
  by_cases e : (X ++ Y).length < 2
  · rw [if_pos e] at h
    rw [if_pos (by omega)]
    cases hx' : X ++ Y with
    | nil =>
      have : Y ++ X = [] := List.length_eq_zero_iff.mp (by rw [← hl, hx']; rfl)
      rw [h, hx', this]
    | cons a r =>
      rw [hx'] at hx e
      cases hx with
      | cons b r _ _ _ => exact absurd e (by simp)
  · rw [if_neg e] at h
    rw [if_neg (by omega)]
    rcases h with ⟨h1, h2⟩ | ⟨h1, h2⟩
    · exact .inl ⟨rdg_turn h1, fun s hs => h2 s (rdg_turn hs)⟩
    · have no : ∀ s, ¬ Rdg (Y ++ X) s := fun s hs => h1 s (rdg_turn hs)
      exact .inr ⟨no, by rw [h2, prs_same hx (prs_two hx h1) hy (prs_two hy no) hl]⟩
theorem lst_tn {ρ σ t : List Nat} (h : Tn ρ σ) (hr : Prs ρ) (hs : Prs σ) (k : Lst ρ t) : Lst σ t := by
  cases h with
  | id => exact k
  | on b r => exact lst_turn (X := [4, b]) (Y := r) hr hs k
  | back b r => exact lst_turn (X := r) (Y := [4, b]) hr hs k
theorem tn_one {ρ σ : List Nat} (h : Tn ρ σ) {c : Nat} (e : ρ = [c]) : σ = [c] := by
  cases h with
  | id => exact e
  | on b r => cases e
  | back b r =>
    have := congrArg List.length e
    simp at this
theorem lst_tn' {ρ σ t : List Nat} (h : Tn ρ σ) (hr : (∃ c, Cd c ∧ ρ = [c]) ∨ Prs ρ) (hs : (∃ c, Cd c ∧ σ = [c]) ∨ Prs σ) (k : Lst ρ t) : Lst σ t := by
  rcases hr with ⟨c, _, e⟩ | hr
  · rw [tn_one h e, ← e]
    exact k
  · rcases hs with ⟨c, _, e⟩ | hs
    · cases h with
      | id => exact k
      | on b r =>
        have := congrArg List.length e
        simp at this
      | back b r => cases e
    · exact lst_tn h hr hs k
/-! ### the class -/
def Cls (L t : List Nat) : Prop := ∃ ρ, Rg L ρ ∧ Lst ρ t
theorem cls_fun {L s t : List Nat} (h : Cls L s) (k : Cls L t) : s = t := by
  obtain ⟨ρ, h1, h2⟩ := h
  obtain ⟨σ, k1, k2⟩ := k
  rw [rg_fun h1 k1] at h2
  exact lst_fun h2 k2
theorem mvc_alt {k : Nat} (hk : k = 1 ∨ k = 2 ∨ k = 4) {L : List Nat} (h : Alt L) : Alt (mvc k L) := put_alt (alt_rev (put_alt (alt_rev h) hk)) hk
theorem cls_mv {k : Nat} (hk : k = 1 ∨ k = 2 ∨ k = 4) {L t : List Nat} (h : Alt L) (c : Cls L t) : Cls (mvc k L) t := by
  obtain ⟨ρ, r1, l1⟩ := c
  have hk' : Cd k := by rcases hk with e | e | e <;> subst e <;> decide
  have al := mvc_alt hk h
  obtain ⟨σ, r2⟩ := rg_ex _ (Nat.le_refl _) al
  exact ⟨σ, r2, lst_tn' (rg_mv hk' h r1 r2) (rg_ok r1 h) (rg_ok r2 al) l1⟩
/-- the class of a word -/
def Cw (u t : List Nat) : Prop := Cls (codesOf u).reverse t
theorem cw_sign {u t : List Nat} {c : Nat} (hu : Wd u) (hc : Sg c) (h : Cw u t) : Cw (c :: (u ++ [c])) t := by
  have hk := cd_of hc
  have h2 := cls_mv hk (alt_rev (codes_alt hu)) h
  unfold Cw
  have wc : Wd (u ++ [c]) := wd_append.mpr ⟨hu, fun x hx => by rw [List.mem_singleton.mp hx]; exact hc⟩
  have wc2 : Wd (c :: (u ++ [c])) := fun x hx => by
    rcases List.mem_cons.mp hx with e | e
    · rw [e]; exact hc
    · exact wc x e
  have e : (codesOf (c :: (u ++ [c]))).reverse = mvc (cd c) (codesOf u).reverse := by
    rw [← codes_rev wc2]
    have : (c :: (u ++ [c])).reverse = (u ++ [c]).reverse ++ [c] := by rw [List.reverse_cons]
    rw [this, codes_snoc, codes_rev wc, codes_snoc]
    unfold mvc
    rw [List.reverse_reverse]
  rw [e]
  exact h2
theorem cw_word : ∀ (n : Nat) {u t v : List Nat}, v.length = n → Wd u → Wd v → Cw u t → Cw (v.reverse ++ u ++ v) t
  | 0, u, t, v, hn, _, _, h => by
    rw [List.length_eq_zero_iff.mp hn]
    simpa using h
  | n + 1, u, t, v, hn, hu, hv, h => by
    have hne : v ≠ [] := fun z => by rw [z] at hn; cases hn
    have ev := (List.dropLast_concat_getLast hne).symm
    have hl : v.dropLast.length = n := by rw [List.length_dropLast]; omega
    rw [ev] at hv ⊢
    generalize v.dropLast = x at hl hv ⊢
    generalize v.getLast hne = c at hv ⊢
    obtain ⟨hx, hc⟩ := wd_append.mp hv
    have ih := cw_word n hl hu hx h
    have := cw_sign (c := c) (wd_append.mpr ⟨wd_append.mpr ⟨wd_rev.mpr hx, hu⟩, hx⟩) (hc c (by simp)) ih
    simpa using this
theorem cw_cut {u v t : List Nat} (hu : Wd u) (hv : Wd v) (e : cut u = cut v) (h : Cw u t) : Cw v t := by
  unfold Cw at h ⊢
  rw [← (codes_same hu hv).mpr e]
  exact h
theorem cw_moved {X y u t : List Nat} (hX : Wd X) (hy : Wd y) (hu : Wd u) (e : E2 (y.reverse ++ X ++ y) u) (h : Cw X t) : Cw u t :=
  cw_cut (wd_append.mpr ⟨wd_append.mpr ⟨wd_rev.mpr hy, hX⟩, hy⟩) hu (cut_of e) (cw_word _ rfl hX hy h)
theorem cw_fun {u s t : List Nat} (h : Cw u s) (k : Cw u t) : s = t := cls_fun h k
theorem cw_ex {u : List Nat} (hu : Wd u) : ∃ t, Cw u t := by
  obtain ⟨ρ, h⟩ := rg_ex _ (Nat.le_refl _) (alt_rev (codes_alt hu))
  by_cases e : ρ.length < 2
  · exact ⟨flat ρ, ρ, h, by unfold Lst; rw [if_pos e]⟩
  · by_cases r : ∃ s, Rdg ρ s
    · -- the least of finitely many
      have fin : ∀ n : Nat, n ≤ ρ.length → (∃ t, Rdg ρ t ∧ ∀ P c Q, ρ = P ++ c :: Q → P.length < n → (c = 1 ∨ c = 3) → t ≤ 48 :: (flat (Q ++ P) ++ rest c)) ∨ (∀ P c Q, ρ = P ++ c :: Q → P.length < n → ¬ (c = 1 ∨ c = 3)) := by
        intro n
        induction n with
        | zero => exact fun _ => .inr fun _ _ _ _ h => absurd h (Nat.not_lt_zero _)
        | succ n ih =>
          intro hn
          have hn' : n < ρ.length := hn
          have es : ρ = ρ.take n ++ ρ[n] :: ρ.drop (n + 1) := by
            rw [← List.drop_eq_getElem_cons hn', List.take_append_drop]
          have uniq : ∀ P c Q, ρ = P ++ c :: Q → P.length = n → P = ρ.take n ∧ c = ρ[n] ∧ Q = ρ.drop (n + 1) := by
            intro P c Q e hl
            have h1 : P = ρ.take n := by rw [e, ← hl, List.take_left]
            have h2 : c :: Q = ρ[n] :: ρ.drop (n + 1) := by rw [← List.drop_eq_getElem_cons hn']; rw [e, ← hl]; simp
            exact ⟨h1, (List.cons.inj h2).1, (List.cons.inj h2).2⟩
          by_cases hc : ρ[n] = 1 ∨ ρ[n] = 3
          · have new : Rdg ρ (48 :: (flat (ρ.drop (n + 1) ++ ρ.take n) ++ rest ρ[n])) := ⟨_, _, _, es, hc, rfl⟩
            left
            rcases ih (by omega) with ⟨t, h1, h2⟩ | h0
            · rcases List.le_total t (48 :: (flat (ρ.drop (n + 1) ++ ρ.take n) ++ rest ρ[n])) with le | le
              · refine ⟨t, h1, fun P c Q e hl hc => ?_⟩
                by_cases z : P.length < n
                · exact h2 P c Q e z hc
                · obtain ⟨rfl, rfl, rfl⟩ := uniq P c Q e (by omega)
                  exact le
              · refine ⟨_, new, fun P c Q e hl hc => ?_⟩
                by_cases z : P.length < n
                · exact List.le_trans le (h2 P c Q e z hc)
                · obtain ⟨rfl, rfl, rfl⟩ := uniq P c Q e (by omega)
                  exact List.le_refl _
            · refine ⟨_, new, fun P c Q e hl hc => ?_⟩
              by_cases z : P.length < n
              · exact absurd hc (h0 P c Q e z)
              · obtain ⟨rfl, rfl, rfl⟩ := uniq P c Q e (by omega)
                exact List.le_refl _
          · rcases ih (by omega) with ⟨t, h1, h2⟩ | h0
            · refine .inl ⟨t, h1, fun P c Q e hl hc' => ?_⟩
              by_cases z : P.length < n
              · exact h2 P c Q e z hc'
              · obtain ⟨_, rfl, _⟩ := uniq P c Q e (by omega)
                exact absurd hc' hc
            · refine .inr fun P c Q e hl => ?_
              by_cases z : P.length < n
              · exact h0 P c Q e z
              · obtain ⟨_, rfl, _⟩ := uniq P c Q e (by omega)
                exact hc
      rcases fin ρ.length (Nat.le_refl _) with ⟨t, h1, h2⟩ | h0
      · refine ⟨t, ρ, h, ?_⟩
        unfold Lst
        rw [if_neg e]
        refine .inl ⟨h1, ?_⟩
        rintro s ⟨P, c, Q, e1, hc, rfl⟩
        exact h2 P c Q e1 (by rw [e1]; simp) hc
      · obtain ⟨s, P, c, Q, e1, hc, _⟩ := r
        exact absurd hc (h0 P c Q e1 (by rw [e1]; simp))
    · refine ⟨flat ρ, ρ, h, ?_⟩
      unfold Lst
      rw [if_neg e]
      exact .inr ⟨fun s hs => r ⟨s, hs⟩, rfl⟩
end K6

namespace K6
open PySem PySem.Spec PyProof.Rows L2 Nr Nw
/-! ### the readings of a text -/
theorem pw1 : pw 1 = [48] := rfl
theorem pw2 : pw 2 = [50] := rfl
theorem pw3 : pw 3 = [48, 50] := rfl
theorem pw4 : pw 4 = [49] := rfl
theorem le_cons {a b : Nat} {s t : List Nat} (h : a < b) : a :: s ≤ b :: t := List.le_of_lt (List.cons_lt_cons_iff.mpr (.inl h))
theorem le_same {a : Nat} {s t : List Nat} (h : s ≤ t) : a :: s ≤ a :: t := fun z => (List.cons_lt_cons_iff.mp z).elim (fun y => Nat.lt_irrefl _ y) (fun y => h y.2)
theorem prs_head {X : List Nat} (h : Prs X) (hne : X ≠ []) : ∃ b r, X = 4 :: b :: r ∧ b ≠ 4 := by
  cases h with
  | nil => exact absurd rfl hne
  | cons b r _ b4 _ => exact ⟨b, r, rfl, b4⟩
/-- where a 0 stands in a text of pieces -/
theorem flat_zero : ∀ {L U V : List Nat}, Alt L → flat L = U ++ 48 :: V → ∃ P c Q, L = P ++ c :: Q ∧ U = flat P ∧ ((c = 1 ∧ V = flat Q) ∨ (c = 3 ∧ V = 50 :: flat Q))
  | [], U, V, _, e => by
    have := congrArg List.length e
    simp [flat] at this
  | d :: L, U, V, h, e => by
    rw [flat_cons] at e
    have hL := (alt_cons.mp h).2.1
    have go : ∀ {W : List Nat}, flat L = W ++ 48 :: V → U = pw d ++ W → ∃ P c Q, d :: L = P ++ c :: Q ∧ U = flat P ∧ ((c = 1 ∧ V = flat Q) ∨ (c = 3 ∧ V = 50 :: flat Q)) := by
      intro W e1 e2
      obtain ⟨P, c, Q, e3, e4, e5⟩ := flat_zero hL e1
      exact ⟨d :: P, c, Q, by rw [e3]; rfl, by rw [e2, e4, flat_cons], e5⟩
    rcases h.head with z | z | z | z <;> subst z
    · rw [pw1] at e go
      cases U with
      | nil => exact ⟨[], 1, L, rfl, rfl, .inl ⟨rfl, (List.cons.inj e).2.symm⟩⟩
      | cons x U =>
        obtain ⟨rfl, e2⟩ := List.cons.inj e
        exact go e2 rfl
    · rw [pw2] at e go
      cases U with
      | nil => exact absurd (List.cons.inj e).1 (by decide)
      | cons x U =>
        obtain ⟨rfl, e2⟩ := List.cons.inj e
        exact go e2 rfl
    · rw [pw3] at e go
      cases U with
      | nil => exact ⟨[], 3, L, rfl, rfl, .inr ⟨rfl, (List.cons.inj e).2.symm⟩⟩
      | cons x U =>
        obtain ⟨rfl, e2⟩ := List.cons.inj e
        cases U with
        | nil => exact absurd (List.cons.inj e2).1 (by decide)
        | cons y U =>
          obtain ⟨rfl, e3⟩ := List.cons.inj e2
          exact go e3 rfl
    · rw [pw4] at e go
      cases U with
      | nil => exact absurd (List.cons.inj e).1 (by decide)
      | cons x U =>
        obtain ⟨rfl, e2⟩ := List.cons.inj e
        exact go e2 rfl
/-- where a 1 stands -/
theorem flat_one : ∀ {L U V : List Nat}, Alt L → flat L = U ++ 49 :: V → ∃ P Q, L = P ++ 4 :: Q ∧ U = flat P ∧ V = flat Q
  | [], U, V, _, e => by
    have := congrArg List.length e
    simp [flat] at this
  | d :: L, U, V, h, e => by
    rw [flat_cons] at e
    have hL := (alt_cons.mp h).2.1
    have go : ∀ {W : List Nat}, flat L = W ++ 49 :: V → U = pw d ++ W → ∃ P Q, d :: L = P ++ 4 :: Q ∧ U = flat P ∧ V = flat Q := by
      intro W e1 e2
      obtain ⟨P, Q, e3, e4, e5⟩ := flat_one hL e1
      exact ⟨d :: P, Q, by rw [e3]; rfl, by rw [e2, e4, flat_cons], e5⟩
    rcases h.head with z | z | z | z <;> subst z
    · rw [pw1] at e go
      cases U with
      | nil => exact absurd (List.cons.inj e).1 (by decide)
      | cons x U =>
        obtain ⟨rfl, e2⟩ := List.cons.inj e
        exact go e2 rfl
    · rw [pw2] at e go
      cases U with
      | nil => exact absurd (List.cons.inj e).1 (by decide)
      | cons x U =>
        obtain ⟨rfl, e2⟩ := List.cons.inj e
        exact go e2 rfl
    · rw [pw3] at e go
      cases U with
      | nil => exact absurd (List.cons.inj e).1 (by decide)
      | cons x U =>
        obtain ⟨rfl, e2⟩ := List.cons.inj e
        cases U with
        | nil => exact absurd (List.cons.inj e2).1 (by decide)
        | cons y U =>
          obtain ⟨rfl, e3⟩ := List.cons.inj e2
          exact go e3 rfl
    · rw [pw4] at e go
      cases U with
      | nil => exact ⟨[], L, rfl, rfl, (List.cons.inj e).2.symm⟩
      | cons x U =>
        obtain ⟨rfl, e2⟩ := List.cons.inj e
        exact go e2 rfl
def shift (x : List Nat) (n : Nat) : List Nat := x.drop n ++ x.take n
def readOf (s : List Nat) : List (List Nat) := if s.take 2 = [48, 50] then [s, 48 :: (s.drop 2 ++ [50])] else [s]
def readL (x : List Nat) : List (List Nat) := (List.range x.length).flatMap fun n => readOf (shift x n)
theorem mem_readL {x s : List Nat} : s ∈ readL x ↔ ∃ n, n < x.length ∧ s ∈ readOf (shift x n) := by
  unfold readL
  rw [List.mem_flatMap]
  constructor
  · rintro ⟨n, h1, h2⟩
    exact ⟨n, List.mem_range.mp h1, h2⟩
  · rintro ⟨n, h1, h2⟩
    exact ⟨n, List.mem_range.mpr h1, h2⟩
theorem last_app {A B : List Nat} (h : B ≠ []) : (A ++ B).getLast? = B.getLast? := by
  rw [List.getLast?_append]
  cases e : B.getLast? with
  | none => exact absurd (List.getLast?_eq_none_iff.mp e) h
  | some x => rfl
/-- the law's ring: no 1 ahead, a 1 behind -/
structure Lr (L : List Nat) : Prop where
  alt : Alt L
  hd : ∃ a X, L = a :: X ∧ a ≠ 4
  lt : ∃ Y, L = Y ++ [4]
theorem Lr.split {L : List Nat} (h : Lr L) : ∃ a M, L = a :: (M ++ [4]) ∧ a ≠ 4 ∧ Cd a := by
  obtain ⟨a, X, e, a4⟩ := h.hd
  obtain ⟨Y, e2⟩ := h.lt
  cases Y with
  | nil =>
    rw [e] at e2
    exact absurd (List.cons.inj e2).1 a4
  | cons y Y =>
    rw [e] at e2
    obtain ⟨rfl, e3⟩ := List.cons.inj e2
    refine ⟨a, Y, e.trans (congrArg (a :: ·) e3), a4, ?_⟩
    exact h.alt.all a (by rw [e]; simp)
/-- what stands behind a piece that isn't 1 -/
theorem Lr.next {L P Q : List Nat} {c : Nat} (h : Lr L) (e : L = P ++ c :: Q) (c4 : c ≠ 4) : ∃ q, Q = 4 :: q := by
  obtain ⟨Y, e2⟩ := h.lt
  have al := h.alt
  rw [e] at al
  have a2 := (alt_app.mp al).2.1
  cases Q with
  | nil =>
    rw [e] at e2
    have := congrArg List.getLast? e2
    rw [List.getLast?_concat, List.getLast?_concat] at this
    exact absurd (Option.some.inj this) c4
  | cons x q =>
    have := (alt_cons.mp a2).2.2 x rfl
    have x4 := ty_of (a2.tail.head) a2.head (fun z => this z.symm) c4
    exact ⟨q, by rw [x4]⟩
theorem lst_readings {L t : List Nat} (h : Lr L) {a : Nat} {M : List Nat} (e : L = a :: (M ++ [4])) (a4 : a ≠ 4) (hl : Lst (M ++ [4, a]) t) : t ∈ readL (flat L) ∧ ∀ s ∈ readL (flat L), t ≤ s := by
  have hp : Prs (M ++ [4, a]) := by
    have r : Rg L (fnr a M 4) := by rw [e]; exact .fin a M 4 a4
    rw [fnr_4 a4] at r
    rcases rg_ok r h.alt with ⟨c, _, z⟩ | hp
    · have := congrArg List.length z
      simp at this
    · exact hp
  have e' : M ++ [4, a] = (M ++ [4]) ++ [a] := by simp
  have toL : ∀ s, Rdg (M ++ [4, a]) s → Rdg L s := fun s hs => by
    rw [e'] at hs
    have := rdg_turn hs
    rw [e]
    exact this
  have ofL : ∀ s, Rdg L s → Rdg (M ++ [4, a]) s := fun s hs => by
    rw [e]at hs
    rw [e']
    exact rdg_turn (X := [a]) hs
  have l2 : ¬ (M ++ [4, a]).length < 2 := by simp
  unfold Lst at hl
  rw [if_neg l2] at hl
  -- readings that begin with 0 are told
  have told : ∀ s, Rdg L s → s ∈ readL (flat L) := by
    rintro s ⟨P, c, Q, e1, hc, rfl⟩
    have ef : flat L = flat P ++ (pw c ++ flat Q) := by rw [e1, flat_app, flat_cons]
    rw [mem_readL]
    refine ⟨(flat P).length, ?_, ?_⟩
    · rw [ef, List.length_append, List.length_append]
      rcases hc with z | z <;> subst z
      · rw [pw1]; simp; omega
      · rw [pw3]; simp; omega
    · have es : shift (flat L) (flat P).length = pw c ++ flat Q ++ flat P := by
        unfold shift
        rw [ef, List.drop_left, List.take_left]
      rw [es]
      rcases hc with z | z <;> subst z
      · have : 48 :: (flat (Q ++ P) ++ rest 1) = pw 1 ++ flat Q ++ flat P := by
          rw [flat_app, pw1]
          simp [rest]
        rw [this]
        unfold readOf
        split
        · exact List.mem_cons_self
        · exact List.mem_singleton.mpr rfl
      · have : pw 3 ++ flat Q ++ flat P = 48 :: 50 :: (flat Q ++ flat P) := by rw [pw3]; rfl
        rw [this]
        unfold readOf
        rw [if_pos (show List.take 2 (48 :: 50 :: (flat Q ++ flat P)) = [48, 50] from rfl), flat_app]
        exact List.mem_cons_of_mem _ (List.mem_singleton.mpr rfl)
  -- how a shifted text begins
  have begins : ∀ n, n < (flat L).length → ∃ U x V, flat L = U ++ x :: V ∧ shift (flat L) n = x :: (V ++ U) ∧ Sg x := by
    intro n hn
    refine ⟨(flat L).take n, (flat L)[n], (flat L).drop (n + 1), ?_, ?_, flat_wd L _ (List.getElem_mem hn)⟩
    · rw [← List.drop_eq_getElem_cons hn, List.take_append_drop]
    · unfold shift
      rw [List.drop_eq_getElem_cons hn]
      rfl
  have zero : ∀ U V s, flat L = U ++ 48 :: V → s ∈ readOf (48 :: (V ++ U)) → ∃ r, Rdg L r ∧ r ≤ s := by
    intro U V s ef hs
    obtain ⟨P, c, Q, e1, rfl, hV⟩ := flat_zero h.alt ef
    rcases hV with ⟨rfl, rfl⟩ | ⟨rfl, rfl⟩
    · obtain ⟨q, rfl⟩ := h.next e1 (by decide)
      refine ⟨_, ⟨P, 1, 4 :: q, e1, .inl rfl, rfl⟩, ?_⟩
      unfold readOf at hs
      rw [flat_cons, pw4] at hs
      rw [if_neg (by intro z; exact absurd (List.cons.inj (List.cons.inj z).2).1 (by decide))] at hs
      rw [List.mem_singleton.mp hs, flat_app, flat_cons, pw4]
      simp [rest]
    · obtain ⟨q, rfl⟩ := h.next e1 (by decide)
      refine ⟨_, ⟨P, 3, 4 :: q, e1, .inr rfl, rfl⟩, ?_⟩
      have hs' : s ∈ readOf (48 :: 50 :: (flat (4 :: q) ++ flat P)) := hs
      unfold readOf at hs'
      rw [if_pos (show List.take 2 (48 :: 50 :: (flat (4 :: q) ++ flat P)) = [48, 50] from rfl)] at hs'
      rcases List.mem_cons.mp hs' with z | z
      · rw [z, flat_app, flat_cons, pw4]
        exact le_same (le_cons (by decide))
      · rw [List.mem_singleton.mp z, flat_app]
        exact List.le_refl _
  have other : ∀ x V U s, x ≠ 48 → s ∈ readOf (x :: (V ++ U)) → s = x :: (V ++ U) := by
    intro x V U s hx hs
    unfold readOf at hs
    rw [if_neg (by intro z; exact hx (List.cons.inj (show x :: _ = _ from z)).1)] at hs
    exact List.mem_singleton.mp hs
  rcases hl with ⟨h1, h2⟩ | ⟨h1, h2⟩
  · refine ⟨told t (toL t h1), fun s hs => ?_⟩
    obtain ⟨n, hn, hs⟩ := mem_readL.mp hs
    obtain ⟨U, x, V, ef, es, sg⟩ := begins n hn
    rw [es] at hs
    by_cases hx : x = 48
    · subst hx
      obtain ⟨r, hr, le⟩ := zero U V s ef hs
      exact List.le_trans (h2 r (ofL r hr)) le
    · rw [other x V U s hx hs]
      obtain ⟨P, c, Q, _, _, rfl⟩ := h1
      refine le_cons ?_
      rcases sg with z | z | z
      · exact absurd z hx
      · omega
      · omega
  · have no : ∀ s, ¬ Rdg L s := fun s hs => h1 s (ofL s hs)
    have two := prs_two hp h1
    -- all that begins with 1 is the ring's text
    have one : ∀ U V, flat L = U ++ 49 :: V → 49 :: (V ++ U) = flat (M ++ [4, a]) := by
      intro U V ef
      obtain ⟨P, Q, e1, rfl, rfl⟩ := flat_one h.alt ef
      have hq : Prs (4 :: Q ++ P) := by
        have al := h.alt
        obtain ⟨x, X, ex, x4⟩ := h.hd
        obtain ⟨Y, ey⟩ := h.lt
        rw [e1] at al
        obtain ⟨p1, p2, p3⟩ := alt_app.mp al
        have hPne : P ≠ [] := fun z => by
          subst z
          rw [e1] at ex
          exact x4 (List.cons.inj ex).1.symm
        have lastQ : (4 :: Q).getLast? = some 4 := by
          have : L.getLast? = some 4 := by rw [ey]; exact List.getLast?_concat ..
          rw [e1, last_app (List.cons_ne_nil _ _)] at this
          exact this
        have headP : ∀ y, P.head? = some y → y = x := fun y hy => by
          cases P with
          | nil => cases hy
          | cons z r =>
            cases hy
            rw [e1] at ex
            exact (List.cons.inj ex).1
        refine prs_of _ (Nat.le_refl _) (alt_app.mpr ⟨p2, p1, fun u y hu hy => ?_⟩) (fun y hy => by cases hy; rfl) (fun y hy => ?_)
        · rw [lastQ] at hu
          cases hu
          rw [headP y hy]
          intro z
          exact x4 (of_decide_eq_true (z.symm.trans (decide_eq_true rfl)))
        · rw [last_app hPne] at hy
          have := p3 y 4 hy rfl
          intro z
          exact this (by rw [z])
      have memL : ∀ c ∈ L, c = 4 ∨ c = 2 := fun c hc => two c (by
        rw [e] at hc
        simp at hc ⊢
        rcases hc with z | z | z
        · exact .inr (.inr z)
        · exact .inl z
        · exact .inr (.inl z))
      have same := prs_same hq (fun c hc => memL c (by rw [e1]; simp at hc ⊢; rcases hc with z | z | z; exact .inr (.inl z); exact .inr (.inr z); exact .inl z)) hp two (by
        have := congrArg List.length (e1.symm.trans e)
        simp at this ⊢
        omega)
      rw [← same, flat_app, flat_cons, pw4]
      rfl
    obtain ⟨b, r, er, b4⟩ := prs_head hp (by simp)
    have ft : flat (M ++ [4, a]) = 49 :: flat (b :: r) := by rw [er, flat_cons, pw4]; rfl
    have hin : t ∈ readL (flat L) := by
      obtain ⟨Y, ey⟩ := h.lt
      have ef : flat L = flat Y ++ 49 :: [] := by rw [ey, flat_app]; rfl
      have := one _ _ ef
      rw [h2, ← this]
      rw [mem_readL]
      refine ⟨(flat Y).length, by rw [ef]; simp, ?_⟩
      have es : shift (flat L) (flat Y).length = 49 :: ([] ++ flat Y) := by
        unfold shift
        rw [ef, List.drop_left, List.take_left]
        rfl
      rw [es]
      unfold readOf
      rw [if_neg (by intro z; exact absurd (List.cons.inj (show (49 : Nat) :: _ = _ from z)).1 (by decide))]
      exact List.mem_singleton.mpr rfl
    refine ⟨hin, fun s hs => ?_⟩
    obtain ⟨n, hn, hs⟩ := mem_readL.mp hs
    obtain ⟨U, x, V, ef, es, sg⟩ := begins n hn
    rw [es] at hs
    rcases sg with z | z | z
    · subst z
      obtain ⟨r, hr, _⟩ := zero U V s ef hs
      exact absurd hr (no r)
    · subst z
      rw [other 49 V U s (by decide) hs, one U V ef, h2]
      exact List.le_refl _
    · subst z
      rw [other 50 V U s (by decide) hs, h2, ft]
      exact le_cons (by decide)
/-! ### none of a class is ahead of the least -/
theorem rdg_len {ρ s : List Nat} (h : Rdg ρ s) : s.length = (flat ρ).length := by
  obtain ⟨P, c, Q, rfl, hc, rfl⟩ := h
  rw [flat_app, flat_app, flat_cons]
  rcases hc with z | z <;> subst z
  · rw [pw1]; simp [rest]; omega
  · rw [pw3]; simp [rest]; omega
theorem lst_len {ρ t : List Nat} (h : Lst ρ t) : t.length = (flat ρ).length := by
  unfold Lst at h
  split at h
  · rw [h]
  · rcases h with ⟨h, _⟩ | ⟨_, h⟩
    · exact rdg_len h
    · rw [h]
def NotAhead (u t : List Nat) : Prop := t.length < u.length ∨ (t.length = u.length ∧ t ≤ u)
/-- how the least one begins -/
theorem lst_begins {ρ t : List Nat} (hp : Prs ρ) (hne : ρ ≠ []) (h : Lst ρ t) : (∃ r, t = 48 :: r) ∨ (t = flat ρ ∧ ∃ r, t = 49 :: r) := by
  obtain ⟨b, r, er, b4⟩ := prs_head hp hne
  have l2 : ¬ ρ.length < 2 := by rw [er]; simp
  unfold Lst at h
  rw [if_neg l2] at h
  rcases h with ⟨⟨P, c, Q, _, _, e⟩, _⟩ | ⟨_, e⟩
  · exact .inl ⟨_, e⟩
  · refine .inr ⟨e, flat (b :: r), ?_⟩
    rw [e, er, flat_cons, pw4]
    rfl
theorem lst_least {ρ t : List Nat} (l2 : ¬ ρ.length < 2) (h : Lst ρ t) {s : List Nat} (hs : Rdg ρ s) : t ≤ s := by
  unfold Lst at h
  rw [if_neg l2] at h
  rcases h with ⟨_, h⟩ | ⟨h, _⟩
  · exact h s hs
  · exact absurd hs (h s)
theorem rg_not_ahead {L ρ t : List Nat} (h : Rg L ρ) (al : Alt L) (hl : Lst ρ t) : NotAhead (flat L) t := by
  induction h with
  | nil =>
    unfold Lst at hl
    rw [if_pos (by decide)] at hl
    rw [hl]
    exact .inr ⟨rfl, List.le_refl _⟩
  | one c =>
    unfold Lst at hl
    rw [if_pos (by show 1 < 2; decide)] at hl
    rw [hl]
    exact .inr ⟨rfl, List.le_refl _⟩
  | strip a M ρ _ _ ih =>
    left
    have := ih (mid_alt al).2.1 hl
    have h1 : t.length ≤ (flat M).length := by
      rcases this with h | ⟨h, _⟩ <;> omega
    have h2 : 0 < (pw a).length := by
      rcases (mid_alt al).1 with z | z | z | z <;> subst z <;> decide
    rw [flat_cons, flat_app, List.length_append, List.length_append]
    omega
  | fin a M b hab =>
    have len := lst_len hl
    obtain ⟨ca, am, cb, ea, eb⟩ := mid_alt al
    have hp : Prs (fnr a M b) := by
      rcases rg_ok (.fin a M b hab) al with ⟨c, cc, e⟩ | hp
      · exfalso
        unfold fnr at e
        split at e
        · have := congrArg List.length e
          simp at this
        · split at e
          · have := congrArg List.length e
            simp at this
          · next a4 b4 =>
            have hne : M ≠ [] := fun z => by
              subst z
              exact (alt_cons.mp al).2.2 b rfl ((cd_ty ca cb).mpr (.inr ⟨a4, b4⟩))
            cases M with
            | nil => exact hne rfl
            | cons x q =>
              have := congrArg List.length e
              simp at this
      · exact hp
    by_cases a4 : a = 4
    · subst a4
      rw [fnr4] at hl len hp
      refine .inr ⟨len, ?_⟩
      rcases lst_begins hp (by simp) hl with ⟨r, e⟩ | ⟨e, _⟩
      · rw [e, flat_cons, pw4]
        exact le_cons (by decide)
      · rw [e]
        exact List.le_refl _
    · by_cases b4 : b = 4
      · subst b4
        rw [fnr_4 a4] at hl len hp
        have l2 : ¬ (M ++ [4, a]).length < 2 := by simp
        have len2 : t.length = (flat (a :: (M ++ [4]))).length := by
          rw [len]
          have : M ++ [4, a] = (M ++ [4]) ++ [a] := by simp
          have e3 : flat [a] = pw a := List.append_nil _
          rw [this, flat_app, e3, flat_cons, List.length_append, List.length_append]
          omega
        refine .inr ⟨len2, ?_⟩
        rcases ca with z | z | z | z
        · subst z
          refine lst_least l2 hl ⟨M ++ [4], 1, [], by simp, .inl rfl, ?_⟩
          rw [flat_cons, pw1]
          simp [rest]
        · subst z
          rw [flat_cons, pw2]
          rcases lst_begins hp (by simp) hl with ⟨r, e⟩ | ⟨_, r, e⟩ <;> rw [e] <;> exact le_cons (by decide)
        · subst z
          have h1 := lst_least l2 hl (s := 48 :: (flat ([] ++ (M ++ [4])) ++ rest 3)) ⟨M ++ [4], 3, [], by simp, .inr rfl, rfl⟩
          refine List.le_trans h1 ?_
          have hM : ∃ q, M ++ [4] = 4 :: q := by
            cases M with
            | nil => exact ⟨[], rfl⟩
            | cons x q =>
              have := ty_of (am.all x (by simp)) (.inr (.inr (.inl rfl))) (ea x rfl).symm (by decide)
              exact ⟨q ++ [4], by rw [this]; rfl⟩
          obtain ⟨q, eq⟩ := hM
          rw [flat_cons, pw3, List.nil_append, eq, flat_cons, pw4]
          exact le_same (le_cons (by decide))
        · exact absurd z a4
      · rw [fnr_x a4 b4] at hl len hp
        have hne : M ≠ [] := fun z => by
          subst z
          exact (alt_cons.mp al).2.2 b rfl ((cd_ty ca cb).mpr (.inr ⟨a4, b4⟩))
        have l2 : ¬ (M ++ [b ^^^ a]).length < 2 := by
          cases M with
          | nil => exact absurd rfl hne
          | cons x q => simp
        have lens : (flat (a :: (M ++ [b]))).length = (pw a).length + (flat M).length + (pw b).length := by
          rw [flat_cons, flat_app, List.length_append, List.length_append]
          have : flat [b] = pw b := List.append_nil _
          rw [this]
          omega
        have lent : t.length = (flat M).length + (pw (b ^^^ a)).length := by
          rw [len, flat_app, List.length_append]
          have : flat [b ^^^ a] = pw (b ^^^ a) := List.append_nil _
          rw [this]
        have case12 : a = 1 → b = 2 → NotAhead (flat (a :: (M ++ [b]))) t := by
          intro z y
          subst z
          subst y
          refine .inr ⟨by rw [lens, lent]; show (flat M).length + 2 = 1 + (flat M).length + 1; omega, ?_⟩
          have : flat (1 :: (M ++ [2])) = 48 :: (flat ([] ++ M) ++ rest 3) := by
            rw [flat_cons, pw1, flat_app]
            rfl
          rw [this]
          exact lst_least l2 hl ⟨M, 3, [], rfl, .inr rfl, rfl⟩
        have case21 : a = 2 → b = 1 → NotAhead (flat (a :: (M ++ [b]))) t := by
          intro z y
          subst z
          subst y
          refine .inr ⟨by rw [lens, lent]; show (flat M).length + 2 = 1 + (flat M).length + 1; omega, ?_⟩
          rw [flat_cons, pw2]
          rcases lst_begins hp (by simp) hl with ⟨r, e⟩ | ⟨_, r, e⟩ <;> rw [e] <;> exact le_cons (by decide)
        have other : (pw (b ^^^ a)).length < (pw a).length + (pw b).length → NotAhead (flat (a :: (M ++ [b]))) t := fun z => .inl (by rw [lens, lent]; omega)
        rcases ca with z | z | z | z <;> rcases cb with y | y | y | y <;> first | exact absurd z a4 | exact absurd y b4 | exact absurd (z.trans y.symm) hab | exact case12 z y | exact case21 z y | exact other (by rw [z, y]; decide)
theorem cw_not_ahead {u t : List Nat} (hu : Wd u) (h : Cw u t) : NotAhead (cut u) t := by
  obtain ⟨ρ, r, l⟩ := h
  have al := alt_rev (codes_alt hu)
  have := rg_not_ahead r al l
  rw [flat_eq, List.reverse_reverse, ← cut_codes hu] at this
  exact this
/-- the least one of a class leads as the class does -/
theorem cw_self {L t : List Nat} (al : Alt L) (h : Cls L t) : Cw (flat L) t := by
  unfold Cw
  rw [codes_flat al, List.reverse_reverse]
  exact h
end K6

namespace K6
open PySem PySem.Spec PyProof.Rows L2 Nr Nw
/-! ### rows that are repeated -/
def rep (k : Nat) (A : List Nat) : List Nat := (List.replicate k A).flatten
theorem rep_zero (A : List Nat) : rep 0 A = [] := rfl
theorem rep_succ (k : Nat) (A : List Nat) : rep (k + 1) A = A ++ rep k A := by
  unfold rep
  rw [List.replicate_succ, List.flatten_cons]
theorem rep_one (A : List Nat) : rep 1 A = A := by rw [rep_succ, rep_zero, List.append_nil]
theorem rep_add (i j : Nat) (A : List Nat) : rep (i + j) A = rep i A ++ rep j A := by
  induction i with
  | zero => rw [Nat.zero_add, rep_zero, List.nil_append]
  | succ i ih => rw [Nat.succ_add, rep_succ, rep_succ, ih, List.append_assoc]
theorem rep_comm (i : Nat) (A : List Nat) : rep i A ++ A = A ++ rep i A := by
  have h := rep_add i 1 A
  rw [rep_one, Nat.add_comm, rep_add, rep_one] at h
  exact h.symm
theorem rep_mul (i j : Nat) (A : List Nat) : rep i (rep j A) = rep (i * j) A := by
  induction i with
  | zero => rw [Nat.zero_mul, rep_zero, rep_zero]
  | succ i ih => rw [rep_succ, ih, Nat.succ_mul, Nat.add_comm, rep_add]
theorem rep_len (k : Nat) (A : List Nat) : (rep k A).length = k * A.length := by
  induction k with
  | zero => rw [rep_zero, Nat.zero_mul]; rfl
  | succ k ih => rw [rep_succ, List.length_append, ih, Nat.succ_mul, Nat.add_comm]
theorem rep_nil (k : Nat) : rep k [] = [] := List.length_eq_zero_iff.mp (by rw [rep_len]; rfl)
theorem pow_comm {x y : List Nat} {i j : Nat} (hi : 1 ≤ i) (hj : 1 ≤ j) (h : rep i x = rep j y) : x ++ y = y ++ x := by
  obtain ⟨i, rfl⟩ : ∃ k, i = k + 1 := ⟨i - 1, by omega⟩
  obtain ⟨j, rfl⟩ : ∃ k, j = k + 1 := ⟨j - 1, by omega⟩
  have w1 : x ++ (rep (j + 1) y ++ rep (j + 1) y) = (rep (j + 1) y ++ rep (j + 1) y) ++ x := by
    rw [← h, ← rep_add, rep_comm]
  have w2 : x ++ y ++ (rep j y ++ rep (j + 1) y) = y ++ x ++ (rep i x ++ rep j y ++ x) := by
    have e1 : x ++ y ++ (rep j y ++ rep (j + 1) y) = x ++ (rep (j + 1) y ++ rep (j + 1) y) := by
      rw [rep_succ j y]
      simp
    have e2 : y ++ x ++ (rep i x ++ rep j y ++ x) = (rep (j + 1) y ++ rep (j + 1) y) ++ x := by
      have e3 : rep (j + 1) y ++ rep (j + 1) y = y ++ (rep (j + 1) y ++ rep j y) := by
        have := rep_comm j y
        rw [rep_succ j y, List.append_assoc, ← List.append_assoc (rep j y), this, List.append_assoc]
      rw [e3, ← h, rep_succ i x]
      simp
    rw [e1, w1, ← e2]
  exact (List.append_inj w2 (by simp; omega)).1
theorem comm_lists : ∀ (n : Nat) {x y : List Nat}, x.length + y.length ≤ n → x ++ y = y ++ x → ∃ z i j, x = rep i z ∧ y = rep j z
  | n, [], y, _, _ => ⟨y, 0, 1, rfl, (rep_one y).symm⟩
  | n, x, [], _, _ => ⟨x, 1, 0, (rep_one x).symm, rfl⟩
  | 0, a :: x, b :: y, hn, _ => by simp at hn
  | n + 1, a :: x, b :: y, hn, h => by
    rcases Nat.le_total (a :: x).length (b :: y).length with le | le
    · obtain ⟨t, ht⟩ : ∃ t, b :: y = (a :: x) ++ t := by
        refine ⟨(b :: y).drop (a :: x).length, ?_⟩
        have h1 : (a :: x) = (b :: y).take (a :: x).length := by
          have := congrArg (List.take (a :: x).length) h
          rw [List.take_left, List.take_append_of_le_length le] at this
          exact this
        conv => lhs; rw [← List.take_append_drop (a :: x).length (b :: y)]
        rw [← h1]
      have h2 : (a :: x) ++ t = t ++ (a :: x) := by
        have h3 := h
        rw [ht, List.append_assoc] at h3
        exact List.append_cancel_left h3
      have hl := congrArg List.length ht
      obtain ⟨z, i, j, e1, e2⟩ := comm_lists n (by simp at hl hn ⊢; omega) h2
      exact ⟨z, i, i + j, e1, by rw [ht, rep_add, ← e1, ← e2]⟩
    · obtain ⟨t, ht⟩ : ∃ t, a :: x = (b :: y) ++ t := by
        refine ⟨(a :: x).drop (b :: y).length, ?_⟩
        have h1 : (b :: y) = (a :: x).take (b :: y).length := by
          have := congrArg (List.take (b :: y).length) h
          rw [List.take_left, List.take_append_of_le_length le] at this
          exact this.symm
        conv => lhs; rw [← List.take_append_drop (b :: y).length (a :: x)]
        rw [← h1]
      have h2 : t ++ (b :: y) = (b :: y) ++ t := by
        have h3 := h
        rw [ht, List.append_assoc] at h3
        exact List.append_cancel_left h3
      have hl := congrArg List.length ht
      obtain ⟨z, i, j, e1, e2⟩ := comm_lists n (by simp at hl hn ⊢; omega) h2
      exact ⟨z, j + i, j, by rw [ht, rep_add, ← e1, ← e2], e2⟩
/-- what commutes with a row that is repeated as often as can be -/
theorem comm_root {A v : List Nat} {k : Nat} (hA : A ≠ []) (hk : 1 ≤ k) (prim : ∀ z i, A = rep i z → i ≤ 1) (h : rep k A ++ v = v ++ rep k A) : ∃ j, v = rep j A := by
  obtain ⟨z, i, j, e1, e2⟩ := comm_lists _ (Nat.le_refl _) h
  have hz : 1 ≤ i := by
    cases i with
    | zero =>
      exfalso
      have := congrArg List.length e1
      rw [rep_len, rep_zero] at this
      have h1 : 0 < A.length := List.length_pos_iff.mpr hA
      have : 0 < k * A.length := Nat.mul_pos (by omega) h1
      simp at *
      omega
    | succ i => omega
  obtain ⟨t, a, b, f1, f2⟩ := comm_lists _ (Nat.le_refl _) (pow_comm hz hk e1.symm)
  have hb : b = 1 := by
    have := prim t b f2
    cases b with
    | zero => exact absurd f2 hA
    | succ b => omega
  rw [hb, rep_one] at f2
  rw [← f2] at f1
  exact ⟨j * a, by rw [e2, f1, rep_mul]⟩
/-! ### turned rings repeat as often -/
theorem per_turn {X Y A : List Nat} {k : Nat} (h : X ++ Y = rep k A) : ∃ B, Y ++ X = rep k B ∧ B.length = A.length := by
  induction X generalizing Y A with
  | nil => exact ⟨A, by rw [List.append_nil]; exact h, rfl⟩
  | cons a X ih =>
    cases k with
    | zero => cases h
    | succ k =>
      cases A with
      | nil => rw [rep_nil] at h; cases h
      | cons b A =>
        rw [rep_succ] at h
        have e := List.cons.inj (show a :: (X ++ Y) = b :: (A ++ rep k (b :: A)) from h)
        obtain ⟨rfl, e2⟩ := e
        have key : ∀ k, A ++ rep k (a :: A) ++ [a] = rep (k + 1) (A ++ [a]) := by
          intro k
          induction k with
          | zero => rw [rep_zero, rep_one, List.append_nil]
          | succ k ihk =>
            rw [rep_succ k (a :: A), rep_succ (k + 1) (A ++ [a]), ← ihk]
            simp
        have e3 : X ++ (Y ++ [a]) = rep (k + 1) (A ++ [a]) := by
          rw [← key, ← e2, List.append_assoc]
        obtain ⟨B, h1, h2⟩ := ih e3
        refine ⟨B, ?_, by rw [h2]; simp⟩
        rw [← h1]
        simp
/-! ### codes behind codes -/
theorem put_alt3 {s : List Nat} (h : Alt s) {c : Nat} (hc : Cd c) : Alt (put s c) := by
  rcases hc with e | e | e | e
  · exact put_alt h (.inl e)
  · exact put_alt h (.inr (.inl e))
  · subst e
    cases s with
    | nil => show Cd 3; decide
    | cons a r =>
      by_cases ta : Ty a = Ty 3
      · by_cases e : a = 3
        · subst e; rw [put_same]; exact h.tail
        · rw [put_mix ta e]
          obtain ⟨a4, _⟩ := both4 h.head (by decide) ta e
          obtain ⟨x1, x2, _⟩ := xor3 h.head (b := 3) (by decide) a4 (by decide) e
          rw [alt_cons]
          refine ⟨x1, h.tail, fun b hb => ?_⟩
          have := (alt_cons.mp h).2.2 b hb
          have tx : Ty (a ^^^ 3) = Ty a := (cd_ty x1 h.head).mpr (.inr ⟨x2, a4⟩)
          rw [tx]
          exact this
      · rw [put_other ta]
        exact alt_cons.mpr ⟨by decide, h, fun b hb => by cases hb; exact fun z => ta z.symm⟩
  · exact put_alt h (.inr (.inr e))
theorem put_02 {s : List Nat} (h : Alt s) : put (put s 1) 2 = put s 3 := by
  cases s with
  | nil => rfl
  | cons a r =>
    rcases h.head with e | e | e | e <;> subst e
    · rw [put_same, put_mix (a := 1) (k := 3) rfl (by decide)]
      cases r with
      | nil => rfl
      | cons b q =>
        have := (alt_cons.mp h).2.2 b rfl
        rw [put_other (a := b) (k := 2) (fun z => this z.symm)]
        rfl
    · rfl
    · rfl
    · rfl
theorem fo_flat : ∀ (L : List Nat) {s : List Nat}, Alt s → (∀ c ∈ L, Cd c) → Fo s (flat L) = L.foldl put s
  | [], s, _, _ => rfl
  | c :: L, s, hs, hL => by
    have hc := hL c List.mem_cons_self
    rw [flat_cons, fo_app, List.foldl_cons]
    have e : Fo s (pw c) = put s c := by
      rcases hc with e | e | e | e <;> subst e
      · rfl
      · rfl
      · exact put_02 hs
      · rfl
    rw [e]
    exact fo_flat L (put_alt3 hs hc) fun d hd => hL d (List.mem_cons_of_mem _ hd)
theorem fold_len : ∀ (L s : List Nat), (L.foldl put s).length ≤ s.length + L.length
  | [], s => Nat.le_refl _
  | c :: L, s => by
    have h1 := fold_len L (put s c)
    have h2 := put_length s c
    rw [List.foldl_cons, List.length_cons]
    omega
theorem flat_codes_len {L : List Nat} (hL : ∀ c ∈ L, Cd c) : (codesOf (flat L)).length ≤ L.length := by
  have := fo_flat L (s := []) trivial hL
  have e : codesOf (flat L) = Fo [] (flat L) := rfl
  rw [e, this]
  have := fold_len L []
  simpa using this
theorem alt_cd {L : List Nat} (h : Alt L) : ∀ c ∈ L, Cd c := h.all
theorem codes_app {X Y : List Nat} (h : Alt (X ++ Y)) : (codesOf (flat X ++ flat Y)).length = X.length + Y.length := by
  rw [← flat_app, codes_flat h, List.length_reverse, List.length_append]
theorem app_cd {X Y : List Nat} (hX : ∀ c ∈ X, Cd c) (hY : ∀ c ∈ Y, Cd c) : ∀ c ∈ X ++ Y, Cd c := fun c hc => (List.mem_append.mp hc).elim (hX c) (hY c)
/-- where ends meet that are of one kind, something is lost -/
theorem codes_meet {X Y : List Nat} {a b : Nat} (hX : Alt (X ++ [a])) (hY : Alt (b :: Y)) (t : Ty a = Ty b) : (codesOf (flat (X ++ [a]) ++ flat (b :: Y))).length ≤ X.length + Y.length + 1 := by
  have ca : Cd a := hX.all a (by simp)
  have cb : Cd b := hY.head
  have cX : ∀ c ∈ X, Cd c := fun c hc => hX.all c (by simp [hc])
  have cY : ∀ c ∈ Y, Cd c := fun c hc => hY.all c (by simp [hc])
  have wX := flat_wd X
  have wY := flat_wd Y
  have one : flat [a] = pw a := List.append_nil _
  have e0 : flat (X ++ [a]) ++ flat (b :: Y) = flat X ++ (pw a ++ pw b) ++ flat Y := by rw [flat_app, one, flat_cons]; simp
  have w0 : Wd (flat X ++ (pw a ++ pw b) ++ flat Y) := wd_append.mpr ⟨wd_append.mpr ⟨wX, wd_append.mpr ⟨pw_wd a, pw_wd b⟩⟩, wY⟩
  rw [e0]
  by_cases e : a = b
  · subst e
    have g := E2.app (wd_append.mpr ⟨wX, wd_append.mpr ⟨pw_wd a, pw_wd a⟩⟩) (E2.app wX (E2.id (flat X)) (pw_twice ca)) (E2.id (flat Y))
    rw [List.append_nil, ← flat_app] at g
    rw [(codes_same w0 (flat_wd _)).mpr (cut_of g)]
    have := flat_codes_len (app_cd cX cY)
    rw [List.length_append] at this
    omega
  · obtain ⟨a4, b4⟩ := both4 ca cb t e
    obtain ⟨c1, c2, c3⟩ := pw_two cb ca b4 a4 (fun z => e z.symm)
    have wab : Wd (pw a ++ pw b) := wd_append.mpr ⟨pw_wd a, pw_wd b⟩
    have e1 : E2 (pw a ++ pw b) (pw (a ^^^ b)) := by
      have : E2 (cut (pw a ++ pw b)) (pw a ++ pw b) := e2_of (cut_wd wab) wab (cut_cut wab)
      rw [c1] at this
      exact this.sym
    have g := E2.app (wd_append.mpr ⟨wX, wab⟩) (E2.app wX (E2.id (flat X)) e1) (E2.id (flat Y))
    have e2 : flat X ++ pw (a ^^^ b) ++ flat Y = flat (X ++ (a ^^^ b) :: Y) := by rw [flat_app, flat_cons]; simp
    rw [e2] at g
    rw [(codes_same w0 (flat_wd _)).mpr (cut_of g)]
    have := flat_codes_len (L := X ++ (a ^^^ b) :: Y) (app_cd cX (fun c hc => by
      rcases List.mem_cons.mp hc with z | z
      · rw [z]; exact c2
      · exact cY c z))
    rw [List.length_append, List.length_cons] at this
    omega
/-- two rows commute -/
def Cm (u v : List Nat) : Prop := cut (u ++ v) = cut (v ++ u)
theorem cm_e2 {u v : List Nat} (hu : Wd u) (hv : Wd v) (h : Cm u v) : E2 (u ++ v) (v ++ u) := e2_of (wd_append.mpr ⟨hu, hv⟩) (wd_append.mpr ⟨hv, hu⟩) h
theorem e2_cm {u v : List Nat} (h : E2 (u ++ v) (v ++ u)) : Cm u v := cut_of h
theorem cm_back {u v : List Nat} (hu : Wd u) (hv : Wd v) (h : Cm u v) : Cm u v.reverse := by
  have wr := wd_rev.mpr hv
  have g1 := E2.app (wd_append.mpr ⟨wr, wd_append.mpr ⟨hu, hv⟩⟩) (E2.app wr (E2.id v.reverse) (cm_e2 hu hv h)) (E2.id v.reverse)
  have e1 : v.reverse ++ (u ++ v) ++ v.reverse = (v.reverse ++ u) ++ (v ++ v.reverse) := by simp
  have e2 : v.reverse ++ (v ++ u) ++ v.reverse = (v.reverse ++ v) ++ (u ++ v.reverse) := by simp
  rw [e1, e2] at g1
  have h1 := E2.app (wd_append.mpr ⟨wr, hu⟩) (E2.id (v.reverse ++ u)) (E2.home hv)
  have h2 := E2.app (wd_append.mpr ⟨wr, hv⟩) (E2.home' hv) (E2.id (u ++ v.reverse))
  rw [List.append_nil] at h1
  have := (h1.sym.trans g1).trans h2
  exact e2_cm this.sym
theorem flat_rev_e2 {L : List Nat} (h : Alt L) : E2 (flat L).reverse (flat L.reverse) := e2_of (wd_rev.mpr (flat_wd L)) (flat_wd _) (by rw [cut_flat_rev h, cut_flat (alt_rev h)])
theorem cm_of_e2 {u v w : List Nat} (hu : Wd u) (hv : Wd v) (hw : Wd w) (e : E2 v w) (h : Cm u v) : Cm u w := by
  have g1 := E2.app hu (E2.id u) e
  have g2 := E2.app hv e (E2.id u)
  exact e2_cm ((g1.sym.trans (cm_e2 hu hv h)).trans g2)
/-- what commutes with a ring -/
theorem centr_ring {ρ v : List Nat} (hp : Prs ρ) (hne : ρ ≠ []) (hv : Alt v) (h : Cm (flat ρ) (flat v)) : ρ ++ v = v ++ ρ ∨ ρ ++ v.reverse = v.reverse ++ ρ := by
  obtain ⟨b0, r0, e0, b04⟩ := prs_head hp hne
  have alr := hp.alt
  obtain ⟨R, z, ez⟩ : ∃ R z, ρ = R ++ [z] := ⟨_, _, (List.dropLast_concat_getLast hne).symm⟩
  have z4 : z ≠ 4 := by
    have al2 := alr
    have h1 := alt_ends _ rfl alr 4 z (by rw [e0]; rfl) (by rw [ez]; exact List.getLast?_concat ..)
    intro e
    subst e
    have odd := h1.mp rfl
    have even : ∀ {X : List Nat}, Prs X → X.length % 2 = 0 := by
      intro X hX
      induction hX with
      | nil => rfl
      | cons b r _ _ _ ih => simp; omega
    have := even hp
    omega
  -- no meeting, on either side
  have both : ∀ {x : List Nat}, Alt x → x.head? = some 4 → (∀ y, x.getLast? = some y → y ≠ 4) → Cm (flat ρ) (flat x) → ρ ++ x = x ++ ρ := by
    intro x ax hx hl hc
    have a1 : Alt (ρ ++ x) := alt_app.mpr ⟨alr, ax, fun p q hp' hq => by
      rw [ez, List.getLast?_concat] at hp'
      cases hp'
      rw [hx] at hq
      cases hq
      exact fun t => z4 (of_decide_eq_true (t.trans (decide_eq_true rfl)))⟩
    have a2 : Alt (x ++ ρ) := alt_app.mpr ⟨ax, alr, fun p q hp' hq => by
      rw [e0] at hq
      cases hq
      exact fun t => hl p hp' (of_decide_eq_true (t.trans (decide_eq_true rfl)))⟩
    have hc' := hc
    unfold Cm at hc'
    rw [← flat_app, ← flat_app] at hc'
    have := (codes_same (flat_wd _) (flat_wd _)).mpr hc'
    rw [codes_flat a1, codes_flat a2] at this
    have := congrArg List.reverse this
    rw [List.reverse_reverse, List.reverse_reverse] at this
    exact this
  by_cases v0 : v = []
  · subst v0
    exact .inl (by simp)
  obtain ⟨V, e, ev⟩ : ∃ V e, v = V ++ [e] := ⟨_, _, (List.dropLast_concat_getLast v0).symm⟩
  obtain ⟨s, W, ew⟩ : ∃ s W, v = s :: W := by
    cases v with
    | nil => exact absurd rfl v0
    | cons s W => exact ⟨s, W, rfl⟩
  have cs : Cd s := hv.all s (by rw [ew]; simp)
  have ce : Cd e := hv.all e (by rw [ev]; simp)
  have cz : Cd z := alr.all z (by rw [ez]; simp)
  have same := (codes_same (wd_append.mpr ⟨flat_wd ρ, flat_wd v⟩) (wd_append.mpr ⟨flat_wd v, flat_wd ρ⟩)).mpr h
  have sl := congrArg List.length same
  by_cases s4 : s = 4
  · by_cases e4 : e = 4
    · -- 4 .. 4: v meets the ring behind it alone
      exfalso
      have a1 : Alt (ρ ++ v) := alt_app.mpr ⟨alr, hv, fun p q hp' hq => by
        rw [ez, List.getLast?_concat] at hp'
        cases hp'
        rw [ew] at hq
        cases hq
        rw [s4]
        exact fun t => z4 (of_decide_eq_true (t.trans (decide_eq_true rfl)))⟩
      have l1 := codes_app a1
      have hv' := hv
      have alr' := alr
      rw [ev] at hv'
      rw [e0] at alr'
      have l2 := codes_meet hv' alr' (show Ty e = Ty 4 by rw [e4])
      rw [← ev, ← e0] at l2
      have k1 := congrArg List.length ev
      have k2 := congrArg List.length e0
      simp at k1 k2 l2
      omega
    · refine .inl (both hv (by rw [ew, s4]; rfl) (fun y hy => ?_) h)
      rw [ev, List.getLast?_concat] at hy
      cases hy
      exact e4
  · by_cases e4 : e = 4
    · refine .inr (both (alt_rev hv) (by rw [ev, e4]; simp) (fun y hy => ?_) ?_)
      · rw [ew, List.reverse_cons, List.getLast?_concat] at hy
        cases hy
        exact s4
      · exact cm_of_e2 (flat_wd ρ) (wd_rev.mpr (flat_wd v)) (flat_wd _) (flat_rev_e2 hv) (cm_back (flat_wd ρ) (flat_wd v) h)
    · exfalso
      have a2 : Alt (v ++ ρ) := alt_app.mpr ⟨hv, alr, fun p q hp' hq => by
        rw [ev, List.getLast?_concat] at hp'
        cases hp'
        rw [e0] at hq
        cases hq
        exact fun t => e4 (of_decide_eq_true (t.trans (decide_eq_true rfl)))⟩
      have l1 := codes_app a2
      have hv' := hv
      have alr' := alr
      rw [ew] at hv'
      rw [ez] at alr'
      have l2 := codes_meet alr' hv' ((cd_ty cz cs).mpr (.inr ⟨z4, s4⟩))
      rw [← ew, ← ez] at l2
      have k1 := congrArg List.length ew
      have k2 := congrArg List.length ez
      simp at k1 k2
      omega
/-- what commutes with one code -/
theorem centr_eq {c : Nat} {v : List Nat} (hc : Cd c) (hv : Alt v) (h : Cm (pw c) (flat v)) : (put v c).reverse = put v.reverse c := by
  have e1 : flat [c] = pw c := List.append_nil _
  have fo1 : ∀ {x : List Nat}, Alt x → codesOf (flat x ++ pw c) = put x.reverse c := fun {x} hx => by
    have e : codesOf (flat x ++ pw c) = Fo (codesOf (flat x)) (pw c) := fo_app [] (flat x) (pw c)
    rw [e, codes_flat hx, ← e1, fo_flat [c] (alt_rev hx) (fun d hd => by rw [List.mem_singleton.mp hd]; exact hc)]
    rfl
  have avr := alt_rev hv
  have w1 : Wd (pw c ++ flat v) := wd_append.mpr ⟨pw_wd c, flat_wd v⟩
  have w2 : Wd (flat v.reverse ++ pw c) := wd_append.mpr ⟨flat_wd _, pw_wd c⟩
  have g : E2 (flat v.reverse ++ pw c).reverse (pw c ++ flat v) := by
    rw [List.reverse_append]
    have := flat_rev_e2 avr
    rw [List.reverse_reverse] at this
    exact E2.app (wd_rev.mpr (pw_wd c)) (pw_rev hc) this
  have c1 : codesOf (pw c ++ flat v) = (put v c).reverse := by
    rw [← (codes_same (wd_rev.mpr w2) w1).mpr (cut_of g), codes_rev w2, fo1 avr, List.reverse_reverse]
  rw [← c1, ← fo1 hv]
  exact (codes_same w1 (wd_append.mpr ⟨flat_wd v, pw_wd c⟩)).mpr h
theorem centr_one {c : Nat} {v : List Nat} (hc : Cd c) (hv : Alt v) (h : Cm (pw c) (flat v)) : v = [] ∨ (c = 4 ∧ v = [4]) ∨ (c ≠ 4 ∧ ∃ a, a ≠ 4 ∧ Cd a ∧ v = [a]) := by
  have q := centr_eq hc hv h
  by_cases l2 : 2 ≤ v.length
  · exfalso
    obtain ⟨s, M, e, rfl⟩ := two_ends l2
    obtain ⟨cs, aM, ce, es, ee⟩ := mid_alt hv
    have rr : (s :: (M ++ [e])).reverse = e :: (M.reverse ++ [s]) := rev_ends s M e
    rw [rr] at q
    have ql := congrArg List.length q
    by_cases ts : Ty s = Ty c
    · by_cases sc : s = c
      · subst sc
        rw [put_same] at q ql
        by_cases te : Ty e = Ty s
        · by_cases ec : e = s
          · subst ec
            rw [put_same] at q
            have hM := mid_ne hv
            have q2 : e :: M.reverse = M.reverse ++ [e] := by
              have : (M ++ [e]).reverse = e :: M.reverse := by simp
              rw [← this]
              exact q
            obtain ⟨N, y, eN⟩ : ∃ N y, M = N ++ [y] := ⟨_, _, (List.dropLast_concat_getLast hM).symm⟩
            rw [eN] at q2
            simp at q2
            exact ee y (by rw [eN]; simp) (by rw [← q2.1])
          · rw [put_mix te ec] at ql
            simp at ql
        · rw [put_other te] at ql
          simp at ql
      · rw [put_mix ts sc] at q ql
        by_cases te : Ty e = Ty c
        · by_cases ec : e = c
          · subst ec
            rw [put_same] at ql
            simp at ql
          · rw [put_mix te ec] at q
            have : ((s ^^^ c) :: (M ++ [e])).reverse = e :: (M.reverse ++ [s ^^^ c]) := rev_ends _ M e
            rw [this] at q
            obtain ⟨e4, c4⟩ := both4 ce hc te ec
            obtain ⟨_, _, x3, _⟩ := xor3 ce hc e4 c4 ec
            exact x3 (List.cons.inj q).1.symm
        · rw [put_other te] at ql
          simp at ql
    · rw [put_other ts] at q ql
      by_cases te : Ty e = Ty c
      · by_cases ec : e = c
        · subst ec
          rw [put_same] at ql
          simp at ql
        · rw [put_mix te ec] at ql
          simp at ql
      · rw [put_other te] at q
        have : (c :: s :: (M ++ [e])).reverse = e :: (M.reverse ++ [s, c]) := by simp
        rw [this] at q
        exact te (by rw [(List.cons.inj q).1])
  · match v, l2 with
    | [], _ => exact .inl rfl
    | [s], _ =>
      right
      have cs : Cd s := hv
      by_cases ts : Ty s = Ty c
      · rcases (cd_ty cs hc).mp ts with ⟨x, y⟩ | ⟨x, y⟩
        · exact .inl ⟨y, by rw [x]⟩
        · exact .inr ⟨y, s, x, cs, rfl⟩
      · exfalso
        have q' : (put [s] c).reverse = put [s] c := q
        rw [put_other ts] at q'
        have : [s, c] = [c, s] := q'
        exact ts (by rw [(List.cons.inj this).1])
    | a :: b :: r, l2 => exact absurd (by simp) l2
end K6

namespace K6
open PySem PySem.Spec PyProof.Rows L2 Nr Nw
/-! ### what all rings of a class have -/
def Cq (P : List Nat → Prop) (u : List Nat) : Prop := ∃ ρ, Rg (codesOf u).reverse ρ ∧ P ρ
theorem cq_sign {P : List Nat → Prop} (hP : ∀ ρ σ, Tn ρ σ → P ρ → P σ) {u : List Nat} {c : Nat} (hu : Wd u) (hc : Sg c) (h : Cq P u) : Cq P (c :: (u ++ [c])) := by
  have hk := cd_of hc
  have wc : Wd (u ++ [c]) := wd_append.mpr ⟨hu, fun x hx => by rw [List.mem_singleton.mp hx]; exact hc⟩
  have wc2 : Wd (c :: (u ++ [c])) := fun x hx => by
    rcases List.mem_cons.mp hx with e | e
    · rw [e]; exact hc
    · exact wc x e
  have e : (codesOf (c :: (u ++ [c]))).reverse = mvc (cd c) (codesOf u).reverse := by
    rw [← codes_rev wc2]
    have : (c :: (u ++ [c])).reverse = (u ++ [c]).reverse ++ [c] := by rw [List.reverse_cons]
    rw [this, codes_snoc, codes_rev wc, codes_snoc]
    unfold mvc
    rw [List.reverse_reverse]
  obtain ⟨ρ, r1, p1⟩ := h
  have al := alt_rev (codes_alt hu)
  have hk' : Cd (cd c) := by rcases hk with e | e | e <;> rw [e] <;> decide
  obtain ⟨σ, r2⟩ := rg_ex _ (Nat.le_refl _) (mvc_alt hk al)
  unfold Cq
  rw [e]
  exact ⟨σ, r2, hP _ _ (rg_mv hk' al r1 r2) p1⟩
theorem cq_word {P : List Nat → Prop} (hP : ∀ ρ σ, Tn ρ σ → P ρ → P σ) : ∀ (n : Nat) {u v : List Nat}, v.length = n → Wd u → Wd v → Cq P u → Cq P (v.reverse ++ u ++ v)
  | 0, u, v, hn, _, _, h => by
    rw [List.length_eq_zero_iff.mp hn]
    simpa using h
  | n + 1, u, v, hn, hu, hv, h => by
    have hne : v ≠ [] := fun z => by rw [z] at hn; cases hn
    have ev := (List.dropLast_concat_getLast hne).symm
    have hl : v.dropLast.length = n := by rw [List.length_dropLast]; omega
    rw [ev] at hv ⊢
    generalize v.dropLast = x at hl hv ⊢
    generalize v.getLast hne = c at hv ⊢
    obtain ⟨hx, hc⟩ := wd_append.mp hv
    have ih := cq_word hP n hl hu hx h
    have := cq_sign hP (c := c) (wd_append.mpr ⟨wd_append.mpr ⟨wd_rev.mpr hx, hu⟩, hx⟩) (hc c (by simp)) ih
    simpa using this
theorem cq_moved {P : List Nat → Prop} (hP : ∀ ρ σ, Tn ρ σ → P ρ → P σ) {X y u : List Nat} (hX : Wd X) (hy : Wd y) (hu : Wd u) (e : E2 (y.reverse ++ X ++ y) u) (h : Cq P X) : Cq P u := by
  have h1 := cq_word hP _ rfl hX hy h
  unfold Cq at h1 ⊢
  rw [← (codes_same (wd_append.mpr ⟨wd_append.mpr ⟨wd_rev.mpr hy, hX⟩, hy⟩) hu).mpr (cut_of e)]
  exact h1
theorem tn_len {ρ σ : List Nat} (h : Tn ρ σ) : σ.length = ρ.length := by
  cases h <;> simp
theorem tn_rep {k : Nat} {ρ σ : List Nat} (h : Tn ρ σ) (p : ∃ A, ρ = rep k A) : ∃ A, σ = rep k A := by
  obtain ⟨A, e⟩ := p
  cases h with
  | id => exact ⟨A, e⟩
  | on b r =>
    obtain ⟨B, h1, _⟩ := per_turn (X := [4, b]) (Y := r) e
    exact ⟨B, h1⟩
  | back b r =>
    obtain ⟨B, h1, _⟩ := per_turn (X := r) (Y := [4, b]) e
    exact ⟨B, h1⟩
/-! ### words led along -/
theorem conj_out {m X u : List Nat} (hm : Wd m) (hX : Wd X) (hu : Wd u) (h : E2 (m.reverse ++ X ++ m) u) : E2 (m ++ u ++ m.reverse) X := by
  have wr := wd_rev.mpr hm
  have g1 := E2.app (wd_append.mpr ⟨hm, hu⟩) (E2.app hm (E2.id m) h.sym) (E2.id m.reverse)
  have e1 : m ++ (m.reverse ++ X ++ m) ++ m.reverse = (m ++ m.reverse) ++ (X ++ (m ++ m.reverse)) := by simp
  rw [e1] at g1
  have wh : Wd (m ++ m.reverse) := wd_append.mpr ⟨hm, wr⟩
  have g2 := E2.app wh (E2.home hm) (E2.app hX (E2.id X) (E2.home hm))
  rw [List.append_nil, List.nil_append] at g2
  exact g1.trans g2
theorem conj_in {m X u : List Nat} (hm : Wd m) (hX : Wd X) (hu : Wd u) (h : E2 (m ++ u ++ m.reverse) X) : E2 (m.reverse ++ X ++ m) u := by
  have := conj_out (m := m.reverse) (X := u) (u := X) (wd_rev.mpr hm) hu hX (by rw [List.reverse_reverse]; exact h)
  rw [List.reverse_reverse] at this
  exact this
theorem conj_mul {m X Y u v : List Nat} (hm : Wd m) (hX : Wd X) (hY : Wd Y) (hu : Wd u) (hv : Wd v) (h : E2 (m.reverse ++ X ++ m) u) (k : E2 (m.reverse ++ Y ++ m) v) : E2 (m.reverse ++ (X ++ Y) ++ m) (u ++ v) := by
  have wr := wd_rev.mpr hm
  have wX := wd_append.mpr ⟨wd_append.mpr ⟨wr, hX⟩, hm⟩
  have g1 := E2.app wX h k
  have e1 : (m.reverse ++ X ++ m) ++ (m.reverse ++ Y ++ m) = (m.reverse ++ X) ++ ((m ++ m.reverse) ++ (Y ++ m)) := by simp
  rw [e1] at g1
  have wh : Wd (m ++ m.reverse) := wd_append.mpr ⟨hm, wr⟩
  have g2 := E2.app (wd_append.mpr ⟨wr, hX⟩) (E2.id (m.reverse ++ X)) (E2.app wh (E2.home hm) (E2.id (Y ++ m)))
  have e2 : (m.reverse ++ X) ++ ([] ++ (Y ++ m)) = m.reverse ++ (X ++ Y) ++ m := by simp
  rw [e2] at g2
  exact g2.sym.trans g1
theorem conj_eq {m X Y u : List Nat} (hm : Wd m) (hX : Wd X) (h : E2 X Y) (k : E2 (m.reverse ++ Y ++ m) u) : E2 (m.reverse ++ X ++ m) u :=
  (E2.app (wd_append.mpr ⟨wd_rev.mpr hm, hX⟩) (E2.app (wd_rev.mpr hm) (E2.id _) h) (E2.id m)).trans k
theorem rep_wd {u : List Nat} (h : Wd u) : ∀ k, Wd (rep k u)
  | 0 => fun c hc => by cases hc
  | k + 1 => by rw [rep_succ]; exact wd_append.mpr ⟨h, rep_wd h k⟩
theorem conj_rep {m X u : List Nat} (hm : Wd m) (hX : Wd X) (hu : Wd u) (h : E2 (m.reverse ++ X ++ m) u) : ∀ k, E2 (m.reverse ++ rep k X ++ m) (rep k u)
  | 0 => by
    have := E2.home' hm
    simpa [rep_zero] using this
  | k + 1 => by
    rw [rep_succ, rep_succ]
    exact conj_mul hm hX (rep_wd hX k) hu (rep_wd hu k) h (conj_rep hm hX hu h k)
theorem flat_rep (k : Nat) (A : List Nat) : flat (rep k A) = rep k (flat A) := by
  induction k with
  | zero => rfl
  | succ k ih => rw [rep_succ, rep_succ, flat_app, ih]
theorem rep_rev (k : Nat) (u : List Nat) : (rep k u).reverse = rep k u.reverse := by
  induction k with
  | zero => rfl
  | succ k ih =>
    rw [rep_succ, List.reverse_append, ih, rep_succ, rep_comm]
/-- commuting is led along -/
theorem cm_conj {m X Y u v : List Nat} (hm : Wd m) (hX : Wd X) (hY : Wd Y) (hu : Wd u) (hv : Wd v) (h : E2 (m.reverse ++ X ++ m) u) (k : E2 (m.reverse ++ Y ++ m) v) : Cm u v → Cm X Y := by
  intro c
  have h1 := conj_mul hm hX hY hu hv h k
  have h2 := conj_mul hm hY hX hv hu k h
  have wXY := wd_append.mpr ⟨hX, hY⟩
  have wYX := wd_append.mpr ⟨hY, hX⟩
  have wuv := wd_append.mpr ⟨hu, hv⟩
  have wvu := wd_append.mpr ⟨hv, hu⟩
  have a1 := conj_out hm wXY wuv h1
  have a2 := conj_out hm wYX wvu h2
  have g := E2.app (wd_append.mpr ⟨hm, wuv⟩) (E2.app hm (E2.id m) (cm_e2 hu hv c)) (E2.id m.reverse)
  exact e2_cm ((a1.sym.trans g).trans a2)
theorem cm_sym {u v : List Nat} (h : Cm u v) : Cm v u := h.symm
theorem cm_self_rep {u : List Nat} (hu : Wd u) (i j : Nat) : Cm (rep i u) (rep j u) := by
  unfold Cm
  rw [← rep_add, ← rep_add, Nat.add_comm]
/-! ### a ring's least period -/
def IsPer (ρ : List Nat) (d : Nat) : Prop := 1 ≤ d ∧ ρ.length % d = 0 ∧ rep (ρ.length / d) (ρ.take d) = ρ
theorem isPer_of {ρ z : List Nat} {k : Nat} (hz : z ≠ []) (hk : 1 ≤ k) (h : ρ = rep k z) : IsPer ρ z.length := by
  have hl : ρ.length = k * z.length := by rw [h, rep_len]
  have hp : 0 < z.length := List.length_pos_iff.mpr hz
  refine ⟨hp, by rw [hl]; exact Nat.mul_mod_left _ _, ?_⟩
  rw [hl, Nat.mul_div_cancel _ hp]
  have : ρ.take z.length = z := by
    obtain ⟨k, rfl⟩ : ∃ j, k = j + 1 := ⟨k - 1, by omega⟩
    rw [h, rep_succ, List.take_left]
  rw [this, h]
structure LeastPer (ρ : List Nat) (d : Nat) : Prop where
  per : IsPer ρ d
  least : ∀ e, e < d → ¬ IsPer ρ e
theorem least_root {ρ : List Nat} {d : Nat} (hne : ρ ≠ []) (h : LeastPer ρ d) : ρ.take d ≠ [] ∧ (ρ.take d).length = d ∧ 1 ≤ ρ.length / d ∧ ρ = rep (ρ.length / d) (ρ.take d) ∧ ∀ z i, ρ.take d = rep i z → i ≤ 1 := by
  obtain ⟨h1, h2, h3⟩ := h.per
  have hp : 0 < ρ.length := List.length_pos_iff.mpr hne
  have hd : d ≤ ρ.length := Nat.le_of_dvd hp (Nat.dvd_of_mod_eq_zero h2)
  have hl : (ρ.take d).length = d := by rw [List.length_take]; omega
  have hq : 1 ≤ ρ.length / d := Nat.div_pos hd (by omega)
  refine ⟨fun z => by rw [z] at hl; simp at hl; omega, hl, hq, h3.symm, ?_⟩
  intro z i e
  by_cases hi : i ≤ 1
  · exact hi
  · exfalso
    have e2 : ρ = rep (ρ.length / d * i) z := by
      conv => lhs; rw [← h3, e, rep_mul]
    have zl : i * z.length = d := by rw [← hl, e, rep_len]
    have zne : z ≠ [] := fun y => by rw [y] at zl; simp at zl; omega
    have hz := isPer_of zne (Nat.mul_pos hq (by omega)) e2
    have zp : 0 < z.length := List.length_pos_iff.mpr zne
    have : z.length < d := by
      have : 2 * z.length ≤ i * z.length := Nat.mul_le_mul_right _ (by omega)
      omega
    exact h.least _ this hz
/-- how often it is repeated, at most -/
theorem least_most {ρ : List Nat} {d k : Nat} {z : List Nat} (hne : ρ ≠ []) (h : LeastPer ρ d) (e : ρ = rep k z) : k ≤ ρ.length / d := by
  cases k with
  | zero => exact Nat.zero_le _
  | succ k =>
    have zne : z ≠ [] := fun y => by rw [y, rep_nil] at e; exact hne e
    have hz := isPer_of zne (Nat.le_add_left 1 k) e
    have hd : d ≤ z.length := by
      by_cases lt : z.length < d
      · exact absurd hz (h.least _ lt)
      · omega
    have hl : ρ.length = (k + 1) * z.length := by rw [e, rep_len]
    rw [Nat.le_div_iff_mul_le (by have := h.per.1; omega), hl]
    exact Nat.mul_le_mul_left _ hd
theorem root_prs {ρ A : List Nat} {k : Nat} (hp : Prs ρ) (hA : A ≠ []) (hk : 1 ≤ k) (e : ρ = rep k A) : Prs A := by
  obtain ⟨k, rfl⟩ : ∃ j, k = j + 1 := ⟨k - 1, by omega⟩
  have e2 : ρ = rep k A ++ A := by rw [e, rep_succ, rep_comm]
  have al := hp.alt
  rw [e2] at al
  have aA := (alt_app.mp al).2.1
  have hne : ρ ≠ [] := fun z => by rw [z] at e2; have := (List.append_eq_nil_iff.mp e2.symm).2; exact hA this
  obtain ⟨b, r, er, b4⟩ := prs_head hp hne
  refine prs_of _ (Nat.le_refl _) aA (fun a ha => ?_) (fun b hb => ?_)
  · have : ρ.head? = some a := by
      rw [e, rep_succ]
      cases A with
      | nil => cases ha
      | cons x q => exact ha
    rw [er] at this
    cases this
    rfl
  · have h1 : ρ.getLast? = some b := by rw [e2, last_app hA]; exact hb
    have even : ∀ {X : List Nat}, Prs X → X.length % 2 = 0 := by
      intro X hX
      induction hX with
      | nil => rfl
      | cons b r _ _ _ ih => simp; omega
    intro e4
    subst e4
    have h2 := alt_ends _ rfl hp.alt 4 4 (by rw [er]; rfl) h1
    have := h2.mp rfl
    have := even hp
    omega
theorem prs_rep {A : List Nat} (h : Prs A) : ∀ k, Prs (rep k A)
  | 0 => .nil
  | k + 1 => by rw [rep_succ]; exact h.app (prs_rep h k)
theorem flat_ge {L : List Nat} (h : ∀ c ∈ L, Cd c) : L.length ≤ (flat L).length := by
  induction L with
  | nil => exact Nat.zero_le _
  | cons a r ih =>
    have := ih fun c hc => h c (List.mem_cons_of_mem _ hc)
    have h2 : 1 ≤ (pw a).length := by rcases h a List.mem_cons_self with e | e | e | e <;> subst e <;> decide
    rw [flat_cons, List.length_append, List.length_cons]
    omega
theorem rg_self {X : List Nat} (h : Prs X) (hne : X ≠ []) : Rg X X := by
  obtain ⟨b, r, e, b4⟩ := prs_head h hne
  obtain ⟨M, c, eM⟩ : ∃ M c, b :: r = M ++ [c] := ⟨_, _, (List.dropLast_concat_getLast (List.cons_ne_nil b r)).symm⟩
  have eX : X = 4 :: (M ++ [c]) := by rw [e, ← eM]
  have c4 : c ≠ 4 := by
    intro z
    have h2 := alt_ends _ rfl h.alt 4 c (by rw [e]; rfl) (by rw [eX, ← List.cons_append]; exact List.getLast?_concat ..)
    have odd := h2.mp (by rw [z])
    have even : ∀ {Y : List Nat}, Prs Y → Y.length % 2 = 0 := by
      intro Y hY
      induction hY with
      | nil => rfl
      | cons b r _ _ _ ih => simp; omega
    have := even h
    omega
  have := Rg.fin 4 M c (fun z => c4 z.symm)
  rw [fnr4, ← eX] at this
  exact this
/-- a word led from a ring is at least as long as the ring -/
theorem conj_long {X m u : List Nat} (h : Prs X) (hne : X ≠ []) (hm : Wd m) (hu : Wd u) (e : E2 (m.reverse ++ flat X ++ m) u) : X.length ≤ (cut u).length := by
  obtain ⟨t, ρ, r, l⟩ := cw_ex (flat_wd X)
  rw [codes_flat h.alt, List.reverse_reverse] at r
  have e1 := rg_fun r (rg_self h hne)
  subst e1
  have cw : Cw u t := cw_moved (flat_wd ρ) hm hu e (cw_self h.alt ⟨ρ, r, l⟩)
  have len := lst_len l
  have ge := flat_ge (alt_cd h.alt)
  have na := cw_not_ahead hu cw
  unfold NotAhead at na
  omega
/-! ### what commutes with a word that is no mirror -/
structure Root (u m ρ A told : List Nat) (k : Nat) : Prop where
  wu : Wd u
  wm : Wd m
  eu : E2 (m.reverse ++ flat ρ ++ m) u
  pr : Prs ρ
  ne : ρ ≠ []
  hk : 1 ≤ k
  eA : ρ = rep k A
  Ane : A ≠ []
  prim : ∀ z i, A = rep i z → i ≤ 1
  wt : Wd told
  et : E2 (m.reverse ++ flat A ++ m) told
theorem Root.pow {u m ρ A told : List Nat} {k : Nat} (R : Root u m ρ A told k) : E2 (rep k told) u := by
  have h := conj_rep R.wm (flat_wd A) R.wt R.et k
  rw [← flat_rep, ← R.eA] at h
  exact h.sym.trans R.eu
theorem Root.comm {u m ρ A told o : List Nat} {k : Nat} (R : Root u m ρ A told k) (ho : Wd o) (h : Cm u o) : ∃ j, E2 (rep j told) o ∨ E2 (rep j told.reverse) o := by
  have wmr := wd_rev.mpr R.wm
  have wo' : Wd (m ++ o ++ m.reverse) := wd_append.mpr ⟨wd_append.mpr ⟨R.wm, ho⟩, wmr⟩
  obtain ⟨L, eL⟩ : ∃ L, L = (codesOf (m ++ o ++ m.reverse)).reverse := ⟨_, rfl⟩
  have aL : Alt L := by rw [eL]; exact alt_rev (codes_alt wo')
  have fL : E2 (flat L) (m ++ o ++ m.reverse) := by
    have : flat L = cut (m ++ o ++ m.reverse) := by rw [flat_eq, eL, List.reverse_reverse, ← cut_codes wo']
    rw [this]
    exact e2_of (cut_wd wo') wo' (cut_cut wo')
  have eo : E2 (m.reverse ++ flat L ++ m) o := conj_in R.wm (flat_wd L) ho fL.sym
  have cm := cm_conj R.wm (flat_wd ρ) (flat_wd L) R.wu ho R.eu eo h
  have fin : ∀ {X : List Nat}, ρ ++ X = X ++ ρ → ∃ j, X = rep j A := fun {X} hx => comm_root R.Ane R.hk R.prim (by rw [← R.eA]; exact hx)
  rcases centr_ring R.pr R.ne aL cm with h1 | h1
  · obtain ⟨j, e⟩ := fin h1
    refine ⟨j, .inl ?_⟩
    have hc := conj_rep R.wm (flat_wd A) R.wt R.et j
    rw [← flat_rep, ← e] at hc
    exact hc.sym.trans eo
  · obtain ⟨j, e⟩ := fin h1
    refine ⟨j, .inr ?_⟩
    have hc := conj_rep R.wm (flat_wd A) R.wt R.et j
    rw [← flat_rep, ← e] at hc
    -- turned back
    have w1 : Wd (m.reverse ++ flat L.reverse ++ m) := wd_append.mpr ⟨wd_append.mpr ⟨wmr, flat_wd _⟩, R.wm⟩
    have rv : ∀ {x y : List Nat}, Wd x → Wd y → E2 x y → E2 x.reverse y.reverse := fun {x y} hx hy he => by
      have a1 := e2_of (wd_rev.mpr (cut_wd hx)) (wd_rev.mpr hx) (cut_rev hx)
      have a2 := e2_of (wd_rev.mpr (cut_wd hy)) (wd_rev.mpr hy) (cut_rev hy)
      rw [cut_of he] at a1
      exact a1.sym.trans a2
    have h3 := rv w1 (rep_wd R.wt j) hc
    rw [rep_rev] at h3
    have e4 : (m.reverse ++ flat L.reverse ++ m).reverse = m.reverse ++ (flat L.reverse).reverse ++ m := by simp
    rw [e4] at h3
    have h5 := flat_rev_e2 (alt_rev aL)
    rw [List.reverse_reverse] at h5
    exact h3.sym.trans (conj_eq R.wm (wd_rev.mpr (flat_wd _)) h5 eo)
theorem Root.comm_of {u m ρ A told o : List Nat} {k j : Nat} (R : Root u m ρ A told k) (ho : Wd o) (h : E2 (rep j told) o ∨ E2 (rep j told.reverse) o) : Cm u o := by
  have wk := rep_wd R.wt k
  have base : ∀ {x : List Nat}, Wd x → Cm (rep k told) x → E2 x o → Cm u o := by
    intro x hx c e
    have c1 := cm_of_e2 wk hx ho e c
    exact cm_sym (cm_of_e2 ho wk R.wu R.pow (cm_sym c1))
  rcases h with h | h
  · exact base (rep_wd R.wt j) (cm_self_rep R.wt k j) h
  · have := cm_back wk (rep_wd R.wt j) (cm_self_rep R.wt k j)
    rw [rep_rev] at this
    exact base (rep_wd (wd_rev.mpr R.wt) j) this h
theorem rev_len {u : List Nat} (h : Wd u) : (cut u.reverse).length = (cut u).length := by
  have sp : ∀ s : List Nat, (spell s.reverse).length = (spell s).length := by
    intro s
    induction s with
    | nil => rfl
    | cons a r ih =>
      have e : spell (r.reverse ++ [a]) = spell r.reverse ++ sg a := by
        unfold spell
        rw [List.flatMap_append]
        exact congrArg (_ ++ ·) (List.append_nil _)
      rw [List.reverse_cons, e, spell_cons, List.length_append, List.length_append, ih]
      omega
  rw [cut_codes (wd_rev.mpr h), cut_codes h, codes_rev h, List.length_reverse, List.length_reverse, sp]
theorem Root.few {u m ρ A told : List Nat} {k j : Nat} (R : Root u m ρ A told k) (h : (cut (rep j told)).length ≤ 6) : j ≤ 6 := by
  by_cases j0 : j = 0
  · omega
  · have hc := conj_rep R.wm (flat_wd A) R.wt R.et j
    rw [← flat_rep] at hc
    have pA := root_prs R.pr R.Ane R.hk R.eA
    have pj := prs_rep pA j
    have lj : (rep j A).length = j * A.length := rep_len j A
    obtain ⟨b, r, er, _⟩ := prs_head pA R.Ane
    have l2 : 2 ≤ A.length := by rw [er]; simp
    have : j * 2 ≤ j * A.length := Nat.mul_le_mul_left _ l2
    have ne : rep j A ≠ [] := fun z => by rw [z] at lj; simp at lj; omega
    have := conj_long pj ne R.wm (rep_wd R.wt j) hc
    omega
theorem Root.few' {u m ρ A told : List Nat} {k j : Nat} (R : Root u m ρ A told k) (h : (cut (rep j told.reverse)).length ≤ 6) : j ≤ 6 := by
  rw [← rep_rev, rev_len (rep_wd R.wt j)] at h
  exact R.few h
/-- such a word isn't a mirror -/
theorem Root.not_mir {u m ρ A told : List Nat} {k : Nat} (R : Root u m ρ A told k) : cut u ≠ [] ∧ cut (u ++ u) ≠ [] := by
  have nil_of : ∀ {X v : List Nat}, Alt X → X ≠ [] → Wd v → E2 (m.reverse ++ flat X ++ m) v → cut v ≠ [] := by
    intro X v aX hX hv e z
    have g := conj_out R.wm (flat_wd X) hv e
    have h0 : E2 v [] := e2_of hv (fun c hc => by cases hc) (by rw [z]; rfl)
    have g2 := E2.app (wd_append.mpr ⟨R.wm, hv⟩) (E2.app R.wm (E2.id m) h0) (E2.id m.reverse)
    have e1 : m ++ [] ++ m.reverse = m ++ m.reverse := by simp
    rw [e1] at g2
    have g3 := (g.sym.trans g2).trans (E2.home R.wm)
    have := cut_of g3
    rw [cut_flat aX] at this
    exact flat_ne aX hX this
  refine ⟨nil_of R.pr.alt R.ne R.wu R.eu, ?_⟩
  have h2 := conj_mul R.wm (flat_wd ρ) (flat_wd ρ) R.wu R.wu R.eu R.eu
  rw [← flat_app] at h2
  exact nil_of (R.pr.app R.pr).alt (by simp [R.ne]) (wd_append.mpr ⟨R.wu, R.wu⟩) h2
/-! ### what commutes with a mirror -/
structure Mir (u X : List Nat) (c : Nat) : Prop where
  wu : Wd u
  al : Alt (X.reverse ++ [c] ++ X)
  cu : cut u = flat (X.reverse ++ [c] ++ X)
theorem mir_parts {X : List Nat} {c : Nat} (al : Alt (X.reverse ++ [c] ++ X)) : Cd c ∧ Alt X := by
  obtain ⟨a1, a2, _⟩ := alt_app.mp al
  exact ⟨(alt_app.mp a1).2.1, a2⟩
theorem mir_other {X : List Nat} {c a : Nat} (al : Alt (X.reverse ++ [c] ++ X)) (ca : Cd a) (t : Ty a = Ty c) : Alt (X.reverse ++ [a] ++ X) := by
  obtain ⟨a1, a2, a3⟩ := alt_app.mp al
  obtain ⟨b1, b2, b3⟩ := alt_app.mp a1
  refine alt_app.mpr ⟨alt_app.mpr ⟨b1, ca, fun p q hp hq => ?_⟩, a2, fun p q hp hq => ?_⟩
  · cases hq
    rw [t]
    exact b3 p c hp rfl
  · rw [List.getLast?_concat] at hp
    cases hp
    rw [t]
    exact a3 c q (List.getLast?_concat ..) hq
theorem mir_e2 {X : List Nat} {a : Nat} (aX : Alt X) : E2 ((flat X).reverse ++ pw a ++ flat X) (flat (X.reverse ++ [a] ++ X)) := by
  have one : flat [a] = pw a := List.append_nil _
  rw [flat_app, flat_app, one]
  exact E2.app (wd_append.mpr ⟨wd_rev.mpr (flat_wd X), pw_wd a⟩) (E2.app (wd_rev.mpr (flat_wd X)) (flat_rev_e2 aX) (E2.id _)) (E2.id _)
theorem Mir.comm {u X o : List Nat} {c : Nat} (M : Mir u X c) (ho : Wd o) (h : Cm u o) : cut o = [] ∨ (c = 4 ∧ cut o = cut u) ∨ (c ≠ 4 ∧ ∃ a, a ≠ 4 ∧ Cd a ∧ cut o = flat (X.reverse ++ [a] ++ X)) := by
  obtain ⟨cc, aX⟩ := mir_parts M.al
  have wm := flat_wd X
  have wmr := wd_rev.mpr wm
  have eu : E2 ((flat X).reverse ++ pw c ++ flat X) u := by
    refine (mir_e2 aX).trans ?_
    rw [← M.cu]
    exact e2_of (cut_wd M.wu) M.wu (cut_cut M.wu)
  have wo' : Wd (flat X ++ o ++ (flat X).reverse) := wd_append.mpr ⟨wd_append.mpr ⟨wm, ho⟩, wmr⟩
  obtain ⟨L, eL⟩ : ∃ L, L = (codesOf (flat X ++ o ++ (flat X).reverse)).reverse := ⟨_, rfl⟩
  have aL : Alt L := by rw [eL]; exact alt_rev (codes_alt wo')
  have fL : E2 (flat L) (flat X ++ o ++ (flat X).reverse) := by
    have : flat L = cut (flat X ++ o ++ (flat X).reverse) := by rw [flat_eq, eL, List.reverse_reverse, ← cut_codes wo']
    rw [this]
    exact e2_of (cut_wd wo') wo' (cut_cut wo')
  have eo : E2 ((flat X).reverse ++ flat L ++ flat X) o := conj_in wm (flat_wd L) ho fL.sym
  have cm := cm_conj wm (pw_wd c) (flat_wd L) M.wu ho eu eo h
  rcases centr_one cc aL cm with e | ⟨c4, e⟩ | ⟨c4, a, a4, ca, e⟩
  · left
    rw [e] at eo
    have : E2 o [] := by
      have h1 := E2.home' wm
      have e1 : (flat X).reverse ++ flat [] ++ flat X = (flat X).reverse ++ flat X := by show (flat X).reverse ++ [] ++ flat X = _; simp
      rw [e1] at eo
      exact eo.sym.trans h1
    rw [cut_of this]
    rfl
  · right; left
    refine ⟨c4, ?_⟩
    rw [e] at eo
    have one : flat [4] = pw c := by rw [c4]; exact List.append_nil _
    rw [one] at eo
    exact cut_of (eo.sym.trans eu)
  · right; right
    refine ⟨c4, a, a4, ca, ?_⟩
    rw [e] at eo
    have one : flat [a] = pw a := List.append_nil _
    rw [one] at eo
    have al2 := mir_other M.al ca ((cd_ty ca cc).mpr (.inr ⟨a4, c4⟩))
    have := cut_of (eo.sym.trans (mir_e2 aX))
    rw [cut_flat al2] at this
    exact this
theorem Mir.comm_of {u X o : List Nat} {c a : Nat} (M : Mir u X c) (ca : Cd a) (t : Ty a = Ty c) (h : o = flat (X.reverse ++ [a] ++ X)) : Cm u o := by
  obtain ⟨cc, aX⟩ := mir_parts M.al
  have wm := flat_wd X
  have eu : E2 ((flat X).reverse ++ pw c ++ flat X) u := by
    refine (mir_e2 aX).trans ?_
    rw [← M.cu]
    exact e2_of (cut_wd M.wu) M.wu (cut_cut M.wu)
  have eo : E2 ((flat X).reverse ++ pw a ++ flat X) o := by rw [h]; exact mir_e2 aX
  have wo : Wd o := by rw [h]; exact flat_wd _
  have h1 := conj_mul wm (pw_wd c) (pw_wd a) M.wu wo eu eo
  have h2 := conj_mul wm (pw_wd a) (pw_wd c) wo M.wu eo eu
  have pc : E2 (pw c ++ pw a) (pw a ++ pw c) := by
    refine e2_of (wd_append.mpr ⟨pw_wd c, pw_wd a⟩) (wd_append.mpr ⟨pw_wd a, pw_wd c⟩) ?_
    rcases cc with e | e | e | e <;> rcases ca with f | f | f | f <;> subst e <;> subst f <;> first | rfl | decide | (exfalso; revert t; decide)
  exact e2_cm ((h1.sym.trans (conj_eq wm (wd_append.mpr ⟨pw_wd c, pw_wd a⟩) pc h2)))
theorem Mir.is_mir {u X : List Nat} {c : Nat} (M : Mir u X c) : cut u ≠ [] ∧ cut (u ++ u) = [] := by
  obtain ⟨cc, aX⟩ := mir_parts M.al
  refine ⟨by rw [M.cu]; exact flat_ne M.al (by simp), ?_⟩
  have wm := flat_wd X
  have eu : E2 ((flat X).reverse ++ pw c ++ flat X) u := by
    refine (mir_e2 aX).trans ?_
    rw [← M.cu]
    exact e2_of (cut_wd M.wu) M.wu (cut_cut M.wu)
  have h1 := conj_mul wm (pw_wd c) (pw_wd c) M.wu M.wu eu eu
  have h2 : E2 ((flat X).reverse ++ [] ++ flat X) [] := by
    have := E2.home' wm
    simpa using this
  exact cut_of (h1.sym.trans (conj_eq wm (wd_append.mpr ⟨pw_wd c, pw_wd c⟩) (pw_twice cc) h2))
end K6

namespace K6
open PySem PySem.Spec PyProof.Rows L2 Nr Nw
def PV (L : List Nat) : List V := Vs (L.map pw)
theorem pv_len (L : List Nat) : (PV L).length = L.length := by
  unfold PV
  rw [vs_len, List.length_map]
theorem pv_app (L M : List Nat) : PV (L ++ M) = PV L ++ PV M := by
  unfold PV Vs
  rw [List.map_append, List.map_append]
theorem cut_tail (x : V) (r : List V) : cutV (x :: r) (some 1) none = r := by
  unfold cutV
  have h1 : HT.sIx (x :: r).length 0 (some ((1 : Nat) : Int)) = 1 := (HT.sIx_nat _ _ 1).trans (Nat.min_eq_left (by rw [List.length_cons]; omega))
  have h1' : HT.sIx (x :: r).length 0 (some 1) = 1 := h1
  have h2 : HT.sIx (x :: r).length (x :: r).length none = (x :: r).length := rfl
  rw [h1', h2]
  show List.take _ r = r
  exact List.take_of_length_le (by rw [List.length_cons]; omega)
theorem pw_one {a : Nat} (h : Cd a) : decide (V.str (S (pw a)) = V.str (S [49])) = Ty a := by
  have hs : (V.str (S (pw a)) = V.str (S [49])) ↔ pw a = [49] := ⟨fun z => s_inj (V.str.inj z), fun z => by rw [z]⟩
  have h2 : pw a = [49] ↔ a = 4 := by rcases h with e | e | e | e <;> subst e <;> decide
  by_cases e : a = 4
  · rw [decide_eq_true (hs.mpr (h2.mpr e))]
    exact (decide_eq_true e).symm
  · rw [decide_eq_false fun z => e (h2.mp (hs.mp z))]
    exact (decide_eq_false e).symm
theorem pw_len {c : Nat} (h : Cd c) : (pw c).length ≤ 2 ∧ pw c ≠ [] := by
  rcases h with e | e | e | e <;> subst e <;> decide
def Done (L : List Nat) : Prop := ∀ a b, L.head? = some a → L.getLast? = some b → 1 < L.length → Ty a ≠ Ty b
structure RI (u L y : List Nat) : Prop where
  alt : Alt L
  wd : Wd y
  eq : E2 (y.reverse ++ flat L ++ y) u
theorem RI.to {u L y : List Nat} (h : RI u L y) (ne : L ≠ []) : RInv u L y := ⟨h.alt, ne, h.wd, h.eq⟩
theorem ri {u L y : List Nat} (h : RInv u L y) : RI u L y := ⟨h.alt, h.wd, h.eq⟩
/-- what the law's ring tells -/
structure RingC (u L y : List Nat) : Prop where
  alt : Alt L
  wd : Wd y
  eq : E2 (y.reverse ++ flat L ++ y) u
  sh : L.length < 2 ∨ Lr L
  ly : y.length ≤ 1000
  ll : L.length ≤ u.length
section
variable {P : Program} {w : World} {K : PySem.W.Frag} {mg : Str → Option Value} {base : Heap}
def spRing : Sp := fun vs H Q _ => ∃ u : List Nat, vs = [.str (S u)] ∧ Fw u ∧ u.length ≤ 100 ∧
  ∀ (L y : List Nat) (p q : Addr) (H' : Hp), Same H H' → H p = none → H q = none → H' q = some (.lst (PV L)) → H' p = some (.tup [.ref q, .str (S y)]) → RingC u L y → Q (.ref p) H'
theorem ok_ring (T : Txt w K mg) : Ok P w K mg base 2 "_law_ring" ["word"] spRing := by
  refine ok_of T.fLawRing fun f fd F => ?_
  refine F.ok scLawRing (fun vs H Q E h => ?_) (fun cdv A outer s H vs Q E hr h => ?_)
  · obtain ⟨u, rfl, _⟩ := h
    rfl
  · obtain ⟨u, rfl, hf, hz, q⟩ := h
    refine ⟨_, pss_cons (ps_par (i := 2) (j := 3) (by rfl) scLawRing.nd rfl rfl (by decide) rfl rfl (pa_cons (pe_callO (ok_pieces T) hr (by decide) (by rfl) (pa_cons (pv 0) (pa_nil))) (pa_cons (pe_str) (pa_nil))) (by rfl))
         (pss_cons (ps_for PassesOwn.never rfl (pi_range1 (by rfl) T.nrange (pa_cons (pe_callB call_len_seq (by rfl) T.nlen PySem.boot_len (pa_cons (pv 2) (pa_nil))) (pa_nil))) (pg_name (i := 1) scLawRing.nd rfl (.inl rfl)) (pss_one (ps_if (PW.pt (pw_and (pt_cmpR (op_gt) (pe_callB call_len_seq (by rfl) T.nlen PySem.boot_len (pa_cons (pv 2) (pa_nil))) (pe_int) (nomark _)) (pw_and1 (pt_cmpR (op_eq) (pe_cmpR (op_eq) (pe_ix (r := rIxL K) ix_list (pv 2) (pe_int) (fun _ _ => rfl)) (pe_str) (nomark _)) (pe_cmpR (op_eq) (pe_ix (r := rIxL K) ix_list (pv 2) (pe_un un_neg pe_int) (fun _ _ => rfl)) (pe_str) (nomark _)) (nomark _))))) (pss_cons (ps_set (i := 4) scLawRing.nd rfl (.inl rfl) (pe_bm0 PySem.F.plainAttrs_list PySem.F.slot_list_pop PySem.F.type_list_pop mt_pop (pv 2)))
         (pss_cons (ps_set (i := 3) scLawRing.nd rfl (.inl rfl) (pe_callO (ok_cut T) hr (by decide) (by rfl) (pa_cons (pe_op op_add_str (pv 4) (pv 3)) (pa_nil))))
         (pss_cons (ps_set (i := 5) scLawRing.nd rfl (.inl rfl) (pe_callO (ok_cut T) hr (by decide) (by rfl) (pa_cons (pe_op op_add_str (pv 4) (pe_ix (r := rIxL K) ix_list (pv 2) (pe_int) (fun _ _ => rfl))) (pa_nil))))
         (pss_one (ps_set (i := 2) scLawRing.nd rfl (.inl rfl) (pe_ifExp (pt_cmpR (op_eq) (pv 5) (pe_str) (nomark _)) (pe_slice sl_list (pv 2) (po_some pe_int) po_none) (pe_op op_cat (pe_lst (pa_cons (pv 5) (pa_nil))) (pe_slice sl_list (pv 2) (po_some pe_int) po_none)))))))) (pss_nil))))
         (pss_cons (ps_if (PW.pt (pw_and (pt_cmpR (op_gt) (pe_callB call_len_seq (by rfl) T.nlen PySem.boot_len (pa_cons (pv 2) (pa_nil))) (pe_int) (nomark _)) (pw_and1 (pt_cmpR (op_eq) (pe_ix (r := rIxL K) ix_list (pv 2) (pe_int) (fun _ _ => rfl)) (pe_str) (nomark _))))) (pss_one (ps_par (i := 2) (j := 3) (by rfl) scLawRing.nd rfl rfl (by decide) rfl rfl (pa_cons (pe_op op_cat (pe_slice sl_list (pv 2) (po_some pe_int) po_none) (pe_lst (pa_cons (pe_str) (pa_nil)))) (pa_cons (pe_callO (ok_cut T) hr (by decide) (by rfl) (pa_cons (pe_op op_add_str (pe_str) (pv 3)) (pa_nil))) (pa_nil))) (by rfl))) (pss_nil))
         (pss_one (ps_ret (pe_tup (pa_cons (pv 2) (pa_cons (pv 3) (pa_nil)))))))), ?_⟩
    have hu := hf.wd
    have hcu : cut u = u := cut_of_fw hf
    have pcu := pcs_codes _ u rfl hf
    have alt := codes_alt hu
    have clen := codes_len _ u rfl
    obtain ⟨cs, hcs⟩ : ∃ cs, cs = (codesOf u).reverse := ⟨_, rfl⟩
    have acs : Alt cs := by rw [hcs]; exact alt_rev alt
    have fit : ∀ z : Nat, z ≤ 10000 → z ≤ sizeLine := fun z hz => Nat.le_trans hz (by decide)
    have fcs : flat cs = u := by
      rw [flat_eq, hcs, List.reverse_reverse, ← cut_codes hu, hcu]
    have lcs : cs.length ≤ 100 := by rw [hcs, List.length_reverse]; omega
    have lcu : cs.length ≤ u.length := by rw [hcs, List.length_reverse]; exact clen
    refine ⟨.str (S u), rfl, u, rfl, hf, by omega, fun q0 H1 s1 nq e1 => ?_⟩
    have e1' : H1 q0 = some (.lst (PV cs)) := by
      rw [e1, pcu, ← List.map_reverse, ← hcs]
      rfl
    refine ⟨_, _, rfl, ?_⟩
    refine ⟨.ref q0, rfl, q0, PV cs, rfl, .inl (.inl (.inl e1')), ((PV cs).length : Int), rfl, by rw [pv_len]; omega, by rw [pv_len]; omega, ?_⟩
    rw [pv_len, Int.toNat_natCast]
    refine ⟨fun i mm σ H3 => ∃ y1 y4 y5 q1 L y, σ = [some (.str (S u)), y1, some (.ref q1), some (.str (S y)), y4, y5] ∧ i + mm = cs.length ∧ Same H H3 ∧ H q1 = none ∧ H3 q1 = some (.lst (PV L)) ∧ RI u L y ∧ y.length ≤ 2 * i ∧ L.length ≤ cs.length ∧ (Done L ∨ L.length + i ≤ cs.length),
      ⟨cs.length, none, none, none, q0, cs, [], rfl, by omega, s1, nq, e1', ⟨acs, fun c hc => absurd hc List.not_mem_nil, by show E2 ([] ++ flat cs ++ []) u; rw [List.append_nil, fcs]; exact E2.id u⟩, Nat.le_refl _, Nat.le_refl _, .inr (Nat.le_refl _)⟩, ?_⟩
    rintro i mm σ H3 ⟨y1, y4, y5, q1, L, y, rfl, em, sm, nq1, eq1, hI, ly, lL, hD⟩
    have altL := hI.alt
    by_cases hi : i < cs.length
    · refine .inr ⟨hi, fun σ' H' => ∃ y1 y4 y5 q1 L y, σ' = [some (.str (S u)), y1, some (.ref q1), some (.str (S y)), y4, y5] ∧ Same H H' ∧ H q1 = none ∧ H' q1 = some (.lst (PV L)) ∧ RI u L y ∧ y.length ≤ 2 * (i + 1) ∧ L.length ≤ cs.length ∧ (Done L ∨ L.length + (i + 1) ≤ cs.length), ?_, ?_⟩
      · rintro σ' H' ⟨z1, z4, z5, q', L', y', e, r⟩
        exact ⟨mm - 1, by omega, z1, z4, z5, q', L', y', e, by omega, r⟩
      · rintro v H' ⟨rfl, rfl⟩
        refine ⟨.ref q1, rfl, q1, PV L, rfl, .inl (.inl (.inl eq1)), ((PV L).length : Int), 1, rfl, rfl, _, rfl, ?_⟩
        rw [pv_len]
        by_cases hl : 1 < L.length
        · refine iteDT (by omega) ?_
          obtain ⟨a, ha⟩ : ∃ a, L.head? = some a := by
            cases L with
            | nil => exact absurd hl (by simp)
            | cons a r => exact ⟨a, rfl⟩
          obtain ⟨b, hb⟩ : ∃ b, L.getLast? = some b := ⟨_, List.getLast?_eq_getLast (fun z => by rw [z] at ha; cases ha)⟩
          obtain ⟨M, rfl⟩ := ends_split ha hb hl
          clear ha hb
          have ca : Cd a := altL.head
          have cb : Cd b := altL.all b (by simp)
          have pe : PV (a :: (M ++ [b])) = PV (a :: M) ++ [.str (S (pw b))] := by
            rw [← List.cons_append, pv_app]
            rfl
          have t1 := pw_one ca
          have t2 := pw_one cb
          have e1q := eq1
          rw [pe] at e1q
          refine ⟨.ref q1, rfl, q1, PV (a :: (M ++ [b])), 0, .str (S (pw a)), rfl, rfl, .inl (.inl eq1), atI_nat (j := 0) rfl, rfl, .ref q1, rfl, 1, rfl, q1, _, _, .str (S (pw b)), rfl, rfl, .inl (.inl e1q), atI_last _ _, rfl, rfl, _, rfl, ?_⟩
          by_cases ht : Ty a = Ty b
          · refine iteDT (congrArg V.bl (t1.trans (ht.trans t2.symm))) ?_
            obtain ⟨hM, _, _, stepS, stepN⟩ := rinv_step (hI.to (by simp)) ht
            have wby : Wd (pw b ++ y) := wd_append.mpr ⟨pw_wd b, hI.wd⟩
            have lby : (pw b ++ y).length ≤ 2 * (i + 1) := by
              rw [List.length_append]
              have := (pw_len cb).1
              omega
            have lc := cut_len _ _ rfl wby
            have wba : Wd (pw b ++ pw a) := wd_append.mpr ⟨pw_wd b, pw_wd a⟩
            have lba : (pw b ++ pw a).length ≤ 4 := by
              rw [List.length_append]
              have h1 := (pw_len ca).1
              have h2 := (pw_len cb).1
              omega
            have lLM : (a :: (M ++ [b])).length = M.length + 2 := by simp
            rw [lLM] at lL hD
            have hD' : M.length + 2 + i ≤ cs.length := by
              rcases hD with h | h
              · exact absurd ht (h a b rfl (by rw [← List.cons_append]; exact List.getLast?_concat ..) (by rw [lLM]; omega))
              · exact h
            refine ⟨.ref q1, rfl, .inl ⟨rfl, _, .inl (.inl eq1)⟩, q1, PV (a :: M) ++ [.str (S (pw b))], .str (S (pw b)), rfl, rfl, e1q, by rw [List.length_append]; exact List.getElem?_concat_length, ?_⟩
            rw [List.dropLast_concat]
            have s2 := same_mut (o := .lst (PV (a :: M))) sm nq1
            have e2 : (upd H' q1 (.lst (PV (a :: M)))) q1 = some (.lst (PV (a :: M))) := upd_same
            show (fun x H1 => gName 4 x _ H1 _) (V.str (S (pw b))) (upd H' q1 (.lst (PV (a :: M))))
            generalize upd H' q1 (.lst (PV (a :: M))) = H4 at s2 e2 ⊢
            refine ⟨.str (S (pw b)), rfl, .str (S y), rfl, S (pw b), S y, rfl, rfl, fit _ (show (pw b).length + y.length ≤ 10000 by rw [List.length_append] at lby; omega), pw b ++ y, congrArg (fun z => [V.str z]) (s_app _ _), ⟨wby, by omega⟩, ?_⟩
            refine ⟨.str (S (pw b)), rfl, .ref q1, rfl, q1, PV (a :: M), 0, .str (S (pw a)), rfl, rfl, .inl (.inl e2), atI_nat (j := 0) rfl, S (pw b), S (pw a), rfl, rfl, fit _ (show (pw b).length + (pw a).length ≤ 10000 by rw [List.length_append] at lba; omega), pw b ++ pw a, congrArg (fun z => [V.str z]) (s_app _ _), ⟨wba, by omega⟩, ?_⟩
            refine ⟨.str (S (cut (pw b ++ pw a))), rfl, rfl, _, rfl, ?_⟩
            by_cases eab : a = b
            · have c0 : cut (pw b ++ pw a) = [] := by
                rw [eab, cut_of (pw_twice cb)]
                rfl
              refine iteDT (by rw [c0]; rfl) ⟨.ref q1, rfl, 1, rfl, q1, PV (a :: M), rfl, .inl (.inl e2), fun q2 nq2 => ?_⟩
              refine ⟨_, _, _, q2, M, cut (pw b ++ y), rfl, Same.to s2 (same_new nq2), none_of s2 nq2, ?_, ri (stepS eab), by omega, by omega, .inr (by omega)⟩
              rw [upd_same]
              exact congrArg (fun z => some (HO.lst z)) (cut_tail _ _)
            · obtain ⟨c1, rI⟩ := stepN eab
              have cne' : cut (pw b ++ pw a) ≠ [] := by
                rw [c1]
                exact (pw_len (rI.alt.head)).2
              refine iteDF (fun z => cne' (s_inj (V.str.inj z))) ⟨.str (S (cut (pw b ++ pw a))), rfl, by show 1 ≤ sizeLine; decide, fun q2 nq2 => ?_⟩
              have n12 : q1 ≠ q2 := ne_of_none e2 nq2
              have e3 : (upd H4 q2 (.lst [.str (S (cut (pw b ++ pw a)))])) q2 = some (.lst [.str (S (cut (pw b ++ pw a)))]) := upd_same
              have e4 : (upd H4 q2 (.lst [.str (S (cut (pw b ++ pw a)))])) q1 = some (.lst (PV (a :: M))) := by rw [upd_ne n12]; exact e2
              have s3 := Same.to s2 (same_new (o := .lst [.str (S (cut (pw b ++ pw a)))]) nq2)
              refine ⟨.ref q1, rfl, 1, rfl, q1, PV (a :: M), rfl, .inl (.inl e4), fun q3 nq3 => ?_⟩
              have n23 : q2 ≠ q3 := ne_of_none e3 nq3
              have s4 := Same.to s3 (same_new (o := .lst (cutV (PV (a :: M)) (some 1) none)) nq3)
              have ect : cutV (PV (a :: M)) (some 1) none = PV M := cut_tail _ _
              refine ⟨q2, q3, [.str (S (cut (pw b ++ pw a)))], cutV (PV (a :: M)) (some 1) none, rfl, rfl, by rw [upd_ne n23]; exact e3, upd_same, ?_, fun q4 nq4 => ?_⟩
              · rw [ect, pv_len]
                exact fit _ (show 1 + M.length ≤ 10000 by omega)
              · refine ⟨_, _, _, q4, (b ^^^ a) :: M, cut (pw b ++ y), rfl, Same.to s4 (same_new nq4), none_of s4 nq4, ?_, ri rI, by omega, by rw [List.length_cons]; omega, .inr (by rw [List.length_cons]; omega)⟩
                rw [upd_same, ect, c1]
                rfl
          · refine iteDF (fun z => ht (t1.symm.trans ((V.bl.inj z).trans t2))) ?_
            refine ⟨_, _, _, q1, a :: (M ++ [b]), y, rfl, sm, nq1, eq1, hI, by omega, lL, .inl fun a' b' ha' hb' _ => ?_⟩
            cases ha'
            rw [← List.cons_append, List.getLast?_concat] at hb'
            cases hb'
            exact ht
        · refine iteDF (by omega) ?_
          exact iteF ⟨_, _, _, q1, L, y, rfl, sm, nq1, eq1, hI, by omega, lL, .inl fun _ _ _ _ h => absurd h hl⟩
    · refine .inl ⟨by show cs.length ≤ i; omega, ?_⟩
      have i0 : i = cs.length := by omega
      have done : Done L := by
        rcases hD with h | h
        · exact h
        · have z : L = [] := List.length_eq_zero_iff.mp (by omega)
          subst z
          exact fun a b ha => by cases ha
      refine ⟨.ref q1, rfl, q1, PV L, rfl, .inl (.inl (.inl eq1)), ((PV L).length : Int), 1, rfl, rfl, _, rfl, ?_⟩
      rw [pv_len]
      have fin : ∀ (L' y' : List Nat) (q2 : Addr) (H4 : Hp) (r1 r4 r5 : Option V), Same H H4 → H q2 = none → H4 q2 = some (.lst (PV L')) → RingC u L' y' →
          (tTup (tCons (tVar 2) (tCons (tVar 3) tNil))) [some (.str (S u)), r1, some (.ref q2), some (.str (S y')), r4, r5] H4 (fun x H' => Q x H') := by
        intro L' y' q2 H4 r1 r4 r5 s4 n2 e2 hR
        refine ⟨.ref q2, rfl, .str (S y'), rfl, by show 2 ≤ sizeLine; decide, fun p np => ?_⟩
        exact q L' y' p q2 _ (Same.to s4 (same_new np)) (none_of s4 np) n2 (same_new np _ _ e2) upd_same hR
      by_cases hl : 1 < L.length
      · refine iteDT (by omega) ?_
        obtain ⟨a, ha⟩ : ∃ a, L.head? = some a := by
          cases L with
          | nil => exact absurd hl (by simp)
          | cons a r => exact ⟨a, rfl⟩
        obtain ⟨b, hb⟩ : ∃ b, L.getLast? = some b := ⟨_, List.getLast?_eq_getLast (fun z => by rw [z] at ha; cases ha)⟩
        have dab := done a b ha hb hl
        obtain ⟨M, rfl⟩ := ends_split ha hb hl
        have ca : Cd a := altL.head
        have cb : Cd b := altL.all b (by simp)
        have t1 := pw_one ca
        refine ⟨.ref q1, rfl, q1, PV (a :: (M ++ [b])), 0, .str (S (pw a)), rfl, rfl, .inl (.inl eq1), atI_nat (j := 0) rfl, rfl, _, rfl, ?_⟩
        by_cases a4 : a = 4
        · have wy' : Wd ([49] ++ y) := wd_append.mpr ⟨fun c hc => by rw [List.mem_singleton.mp hc]; exact .inr (.inl rfl), hI.wd⟩
          have ly' : ([49] ++ y).length ≤ 300 := by
            rw [List.length_append]
            show 1 + y.length ≤ 300
            omega
          have lcy := cut_len _ _ rfl wy'
          refine iteDT (of_decide_eq_true (t1.trans (decide_eq_true a4))) ?_
          refine ⟨.ref q1, rfl, 1, rfl, q1, PV (a :: (M ++ [b])), rfl, .inl (.inl eq1), fun q2 nq2 => ?_⟩
          have s2 := Same.to sm (same_new (o := .lst (cutV (PV (a :: (M ++ [b]))) (some 1) none)) nq2)
          have e2 : (upd H3 q2 (.lst (cutV (PV (a :: (M ++ [b]))) (some 1) none))) q2 = some (.lst (cutV (PV (a :: (M ++ [b]))) (some 1) none)) := upd_same
          refine ⟨by show 1 ≤ sizeLine; decide, fun q3 nq3 => ?_⟩
          have n23 : q2 ≠ q3 := ne_of_none e2 nq3
          have s3 := Same.to s2 (same_new (o := .lst [.str (S [49])]) nq3)
          have ect : cutV (PV (a :: (M ++ [b]))) (some 1) none = PV (M ++ [b]) := cut_tail _ _
          refine ⟨q2, q3, cutV (PV (a :: (M ++ [b]))) (some 1) none, [.str (S [49])], rfl, rfl, by rw [upd_ne n23]; exact e2, upd_same, ?_, fun q4 nq4 => ?_⟩
          · rw [ect, pv_len]
            exact fit _ (by simp only [List.length_cons, List.length_append, List.length_nil] at lL ⊢; omega)
          · have s4 := Same.to s3 (same_new (o := .lst (cutV (PV (a :: (M ++ [b]))) (some 1) none ++ [.str (S [49])])) nq4)
            refine ⟨.str (S y), rfl, S [49], S y, rfl, rfl, fit _ (show 1 + y.length ≤ 10000 by omega), [49] ++ y, congrArg (fun z => [V.str z]) (s_app _ _), ⟨wy', by omega⟩, _, _, rfl, ?_⟩
            refine fin (M ++ [b] ++ [4]) (cut ([49] ++ y)) q4 _ _ _ _ s4 (none_of s3 nq4) ?_ ⟨?_, cut_wd wy', ?_, .inr ⟨?_, ?_, ⟨_, rfl⟩⟩, by omega, ?_⟩
            · rw [upd_same, ect, pv_app (M ++ [b]) [4]]
              rfl
            · obtain ⟨h1, h2, h3⟩ := alt_cons.mp altL
              refine alt_app.mpr ⟨h2, (show Cd 4 by decide), fun x y hx hy => ?_⟩
              cases hy
              rw [List.getLast?_concat] at hx
              cases hx
              rw [a4] at dab
              exact dab.symm
            · subst a4
              have ey : E2 (cut ([49] ++ y)) ([49] ++ y) := e2_of (cut_wd wy') wy' (cut_cut wy')
              have eyr : E2 (cut ([49] ++ y)).reverse (y.reverse ++ [49]) := by
                have h1 : E2 (cut ([49] ++ y)).reverse ([49] ++ y).reverse := e2_of (wd_rev.mpr (cut_wd wy')) (wd_rev.mpr wy') (cut_rev wy')
                rw [List.reverse_append] at h1
                exact h1
              have w49 : Wd [49] := pw_wd 4
              have wfl := flat_wd (M ++ [b])
              have g1 : E2 ((cut ([49] ++ y)).reverse ++ flat (M ++ [b] ++ [4]) ++ cut ([49] ++ y)) ((y.reverse ++ [49]) ++ (flat (M ++ [b]) ++ [49]) ++ ([49] ++ y)) := by
                refine E2.app (wd_append.mpr ⟨wd_rev.mpr (cut_wd wy'), flat_wd _⟩) (E2.app (wd_rev.mpr (cut_wd wy')) eyr ?_) ey
                rw [flat_app (M ++ [b]) [4]]
                exact E2.id _
              have g2 : (y.reverse ++ [49]) ++ (flat (M ++ [b]) ++ [49]) ++ ([49] ++ y) = (y.reverse ++ ([49] ++ flat (M ++ [b]))) ++ (([49] ++ [49]) ++ y) := by simp only [List.append_assoc]
              rw [g2] at g1
              have g3 : E2 ((y.reverse ++ ([49] ++ flat (M ++ [b]))) ++ (([49] ++ [49]) ++ y)) ((y.reverse ++ ([49] ++ flat (M ++ [b]))) ++ ([] ++ y)) :=
                E2.app (wd_append.mpr ⟨wd_rev.mpr hI.wd, wd_append.mpr ⟨w49, wfl⟩⟩) (E2.id _) (E2.app (wd_append.mpr ⟨w49, w49⟩) (pw_twice (c := 4) (by decide)) (E2.id _))
              exact g1.trans (g3.trans hI.eq)
            · obtain ⟨h1, h2, h3⟩ := alt_cons.mp altL
              refine alt_app.mpr ⟨h2, (show Cd 4 by decide), fun x y hx hy => ?_⟩
              cases hy
              rw [List.getLast?_concat] at hx
              cases hx
              rw [a4] at dab
              exact dab.symm
            · obtain ⟨h1, h2, h3⟩ := alt_cons.mp altL
              cases M with
              | nil =>
                refine ⟨b, _, rfl, fun z => ?_⟩
                exact dab (by rw [a4, z])
              | cons x r =>
                refine ⟨x, _, rfl, fun z => ?_⟩
                exact h3 x rfl (by rw [a4, z])
            · simp only [List.length_cons, List.length_append, List.length_nil] at lL ⊢
              omega
        · refine iteDF (fun z => a4 (of_decide_eq_true (t1.symm.trans (decide_eq_true z)))) ?_
          have b4 : b = 4 := by
            by_cases e : b = 4
            · exact e
            · exact absurd (show Ty a = Ty b by unfold Ty; rw [decide_eq_false a4, decide_eq_false e]) dab
          subst b4
          exact fin _ y q1 H3 _ _ _ sm nq1 eq1 ⟨altL, hI.wd, hI.eq, .inr ⟨altL, ⟨a, _, rfl, a4⟩, ⟨a :: M, rfl⟩⟩, by omega, by omega⟩
      · refine iteDF (by omega) ?_
        exact iteF (fin L y q1 H3 _ _ _ sm nq1 eq1 ⟨altL, hI.wd, hI.eq, .inl (by omega), by omega, by omega⟩)
end
end K6

namespace K6
open PySem PySem.Spec PyProof.Rows L2 Nr Nw
/-! ### unwound -/
structure Unw (cs mv rg : List Nat) : Prop where
  am : Alt mv
  rr : Rg cs rg
  ar : Alt rg
  eq : E2 ((flat mv).reverse ++ flat rg ++ flat mv) (flat cs)
  lm : mv.length ≤ cs.length + 1
  lr : rg.length ≤ cs.length + 1
  sh : rg.length < 2 → cs = mv.reverse ++ rg ++ mv
/-- the row, with what is stripped -/
structure Ups (cs X M : List Nat) : Prop where
  e : cs = X.reverse ++ M ++ X
  r : ∀ ρ, Rg M ρ → Rg cs ρ
theorem ups_eq {cs X M Y ρ : List Nat} (h : Ups cs X M) (hY : Wd Y) (hX : Alt X) (hρ : E2 (Y.reverse ++ flat ρ ++ Y) (flat M)) : E2 ((Y ++ flat X).reverse ++ flat ρ ++ (Y ++ flat X)) (flat cs) := by
  rw [h.e, flat_app, flat_app]
  have wX := flat_wd X
  have e1 : E2 (flat X).reverse (flat X.reverse) := e2_of (wd_rev.mpr wX) (flat_wd _) (by rw [cut_flat_rev hX, cut_flat (alt_rev hX)])
  have e2 : (Y ++ flat X).reverse ++ flat ρ ++ (Y ++ flat X) = (flat X).reverse ++ (Y.reverse ++ flat ρ ++ Y) ++ flat X := by simp
  rw [e2]
  exact E2.app (wd_append.mpr ⟨wd_rev.mpr wX, wd_append.mpr ⟨wd_append.mpr ⟨wd_rev.mpr hY, flat_wd _⟩, hY⟩⟩) (E2.app (wd_rev.mpr wX) e1 hρ) (E2.id _)
theorem ups_alt {cs X M : List Nat} (h : Ups cs X M) (al : Alt cs) : Alt X ∧ Alt M ∧ (∀ a b, M.getLast? = some a → X.head? = some b → Ty a ≠ Ty b) ∧ (∀ a b, X.head? = some a → M.head? = some b → Ty a ≠ Ty b) := by
  rw [h.e] at al
  obtain ⟨a1, a2, a3⟩ := alt_app.mp al
  obtain ⟨b1, b2, b3⟩ := alt_app.mp a1
  refine ⟨a2, b2, fun a b ha hb => a3 a b ?_ hb, fun a b ha hb => b3 a b ?_ hb⟩
  · cases M with
    | nil => cases ha
    | cons x r => rw [last_app (List.cons_ne_nil _ _)]; exact ha
  · rw [List.getLast?_reverse]; exact ha
theorem unw_same {cs X M : List Nat} (al : Alt cs) (h : Ups cs X M) (hM : Rg M M) : Unw cs X M := by
  obtain ⟨aX, aM, _, _⟩ := ups_alt h al
  have hl := congrArg List.length h.e
  simp at hl
  have := ups_eq (Y := []) (ρ := M) h (fun c hc => by cases hc) aX (by simpa using E2.id (flat M))
  exact ⟨aX, h.r _ hM, aM, this, by omega, by omega, fun _ => h.e⟩
theorem unw_turn {cs X M : List Nat} {a : Nat} (al : Alt cs) (h : Ups cs X (a :: (M ++ [4]))) (a4 : a ≠ 4) : Unw cs (a :: X) (M ++ [4] ++ [a]) := by
  obtain ⟨aX, aM, _, hX⟩ := ups_alt h al
  have hl := congrArg List.length h.e
  simp at hl
  have ca := aM.head
  have r1 : Rg (a :: (M ++ [4])) (M ++ [4] ++ [a]) := by
    have := Rg.fin a M 4 a4
    rw [fnr_4 a4] at this
    simpa using this
  have ar : Alt (M ++ [4] ++ [a]) := by
    rcases rg_ok r1 aM with ⟨c, _, z⟩ | hp
    · have := congrArg List.length z
      simp at this
    · exact hp.alt
  have wM := flat_wd (M ++ [4])
  have one : flat [a] = pw a := List.append_nil _
  have := ups_eq (Y := pw a) (ρ := M ++ [4] ++ [a]) h (pw_wd a) aX (by
    rw [flat_app (M ++ [4]), one, flat_cons]
    have e : (pw a).reverse ++ (flat (M ++ [4]) ++ pw a) ++ pw a = ((pw a).reverse ++ flat (M ++ [4])) ++ (pw a ++ pw a) := by simp
    rw [e]
    have g1 := E2.app (wd_append.mpr ⟨wd_rev.mpr (pw_wd a), wM⟩) (E2.app (wd_rev.mpr (pw_wd a)) (pw_rev ca) (E2.id (flat (M ++ [4])))) (pw_twice ca)
    rw [List.append_nil] at g1
    exact g1)
  rw [← flat_cons] at this
  refine ⟨?_, h.r _ r1, ar, this, by simp; omega, by simp; omega, fun z => absurd z (by simp)⟩
  rw [alt_cons]
  exact ⟨ca, aX, fun b hb => fun z => hX b a hb rfl z.symm⟩
theorem unw_mix {cs X M : List Nat} {a b : Nat} (al : Alt cs) (h : Ups cs X (a :: (M ++ [b]))) (a4 : a ≠ 4) (b4 : b ≠ 4) (ab : a ≠ b) : Unw cs (a :: X) (M ++ [b ^^^ a]) := by
  obtain ⟨aX, aM, _, hX⟩ := ups_alt h al
  have hl := congrArg List.length h.e
  simp at hl
  obtain ⟨ca, am, cb, ea, eb⟩ := mid_alt aM
  have r1 : Rg (a :: (M ++ [b])) (M ++ [b ^^^ a]) := by
    have := Rg.fin a M b ab
    rw [fnr_x a4 b4] at this
    exact this
  have ar : Alt (M ++ [b ^^^ a]) := by
    rcases rg_ok r1 aM with ⟨c, hc, z⟩ | hp
    · rw [z]
      exact hc
    · exact hp.alt
  obtain ⟨c1, c2, c3⟩ := pw_two ca cb a4 b4 ab
  have wba : Wd (pw b ++ pw a) := wd_append.mpr ⟨pw_wd b, pw_wd a⟩
  have e1 : E2 (pw (b ^^^ a)) (pw b ++ pw a) := by
    have : E2 (cut (pw b ++ pw a)) (pw b ++ pw a) := e2_of (cut_wd wba) wba (cut_cut wba)
    rw [c1] at this
    exact this
  have wM := flat_wd M
  have one : flat [b ^^^ a] = pw (b ^^^ a) := List.append_nil _
  have one' : flat [b] = pw b := List.append_nil _
  have := ups_eq (Y := pw a) (ρ := M ++ [b ^^^ a]) h (pw_wd a) aX (by
    rw [flat_app, one, flat_cons, flat_app, one']
    have e : (pw a).reverse ++ (flat M ++ pw (b ^^^ a)) ++ pw a = ((pw a).reverse ++ flat M) ++ (pw (b ^^^ a) ++ pw a) := by simp
    rw [e]
    have w1 : Wd ((pw a).reverse ++ flat M) := wd_append.mpr ⟨wd_rev.mpr (pw_wd a), wM⟩
    have g1 := E2.app w1 (E2.app (wd_rev.mpr (pw_wd a)) (pw_rev ca) (E2.id (flat M))) (E2.app (pw_wd (b ^^^ a)) e1 (E2.id (pw a)))
    have g2 : E2 (pw b ++ pw a ++ pw a) (pw b ++ []) := by
      rw [List.append_assoc]
      exact E2.app (pw_wd b) (E2.id _) (pw_twice ca)
    have g3 := E2.app (wd_append.mpr ⟨pw_wd a, wM⟩) (E2.id (pw a ++ flat M)) g2
    rw [List.append_nil] at g3
    have := g1.trans g3
    rw [List.append_assoc] at this
    simpa using this)
  rw [← flat_cons] at this
  have hM : M ≠ [] := fun z => by
    subst z
    exact (alt_cons.mp aM).2.2 b rfl ((cd_ty ca cb).mpr (.inr ⟨a4, b4⟩))
  refine ⟨?_, h.r _ r1, ar, this, by simp; omega, by simp; omega, fun z => absurd z (by cases M with | nil => exact absurd rfl hM | cons x q => simp)⟩
  rw [alt_cons]
  exact ⟨ca, aX, fun b hb => fun z => hX b a hb rfl z.symm⟩
theorem cutv_from {cs : List Nat} {a : Nat} (ha : a ≤ cs.length) : cutV (Vi cs) (some (a : Int)) none = Vi (cs.drop a) := by
  unfold cutV
  rw [vi_len]
  have h1 : HT.sIx cs.length 0 (some (a : Int)) = a := (HT.sIx_nat _ _ a).trans (Nat.min_eq_left ha)
  have h2 : HT.sIx cs.length cs.length none = cs.length := rfl
  rw [h1, h2]
  unfold Vi
  rw [← List.map_drop, List.take_of_length_le (by rw [List.length_map, List.length_drop]; omega)]
theorem cutv_mid {cs : List Nat} {a b : Nat} (ha : a ≤ b) (hb : b ≤ cs.length) : cutV (Vi cs) (some (a : Int)) (some (b : Int)) = Vi ((cs.drop a).take (b - a)) := by
  unfold cutV
  rw [vi_len]
  have h1 : HT.sIx cs.length 0 (some (a : Int)) = a := (HT.sIx_nat _ _ a).trans (Nat.min_eq_left (by omega))
  have h2 : HT.sIx cs.length cs.length (some (b : Int)) = b := (HT.sIx_nat _ _ b).trans (Nat.min_eq_left hb)
  rw [h1, h2]
  unfold Vi
  rw [← List.map_drop, ← List.map_take]
theorem cutv_neg {cs : List Nat} {a k : Nat} (ha : a + k ≤ cs.length) (hk : 0 < k) : cutV (Vi cs) (some (a : Int)) (some (-(k : Int))) = Vi ((cs.drop a).take (cs.length - k - a)) := by
  unfold cutV
  rw [vi_len]
  have h1 : HT.sIx cs.length 0 (some (a : Int)) = a := (HT.sIx_nat _ _ a).trans (Nat.min_eq_left (by omega))
  have h2 : HT.sIx cs.length cs.length (some (-(k : Int))) = cs.length - k := by
    show (if (-(k : Int)) < 0 then (-(k : Int) + ((cs.length : Nat) : Int)).toNat else _) = _
    rw [if_pos (by omega)]
    omega
  rw [h1, h2]
  unfold Vi
  rw [← List.map_drop, ← List.map_take]
section
variable {P : Program} {w : World} {K : PySem.W.Frag} {mg : Str → Option Value} {base : Heap}
def spUnwound (K : PySem.W.Frag) : Sp := fun vs H Q _ => ∃ (l : Addr) (cs : List Nat), vs = [.ref l] ∧ SqL K H l (Vi cs) ∧ Alt cs ∧ cs.length ≤ 1000 ∧
  ∀ (mv rg : List Nat) (p a b : Addr) (H' : Hp), Unw cs mv rg → Same H H' → H p = none → H a = none → H b = none → H' a = some (.lst (Vi mv)) → H' b = some (.lst (Vi rg)) → H' p = some (.tup [.ref a, .ref b]) → Q (.ref p) H'
theorem vi_app (A B : List Nat) : Vi (A ++ B) = Vi A ++ Vi B := List.map_append
theorem ok_unwound (T : Txt w K mg) : Ok P w K mg base 1 "unwound" ["codes"] (spUnwound K) := by
  refine ok_of T.fUnwound fun f fd F => ?_
  obtain ⟨tO, gO⟩ := T.one
  refine F.ok scUnwound (fun vs H Q E h => ?_) (fun cdv A outer s H vs Q E hr h => ?_)
  · obtain ⟨l, cs, rfl, _⟩ := h
    rfl
  · obtain ⟨l, cs, rfl, hS, al, hz, q⟩ := h
    refine ⟨_, pss_cons (ps_par (i := 1) (j := 2) (by rfl) scUnwound.nd rfl rfl (by decide) rfl rfl (pa_cons (pe_int) (pa_cons (pe_callB call_len_seq (by rfl) T.nlen PySem.boot_len (pa_cons (pv 0) (pa_nil))) (pa_nil))) (by rfl))
         (pss_cons (ps_while PassesOwn.never (PW.pt (pw_and (pt_cmpR (op_gt) (pe_op op_sub (pv 2) (pv 1)) (pe_int) (nomark _)) (pw_and1 (pt_cmpR (op_eq) (pe_ix (r := rIxL K) ix_list (pv 0) (pv 1) (fun _ _ => rfl)) (pe_ix (r := rIxL K) ix_list (pv 0) (pe_op op_sub (pv 2) (pe_int)) (fun _ _ => rfl)) (nomark _))))) (pss_one (ps_par (i := 1) (j := 2) (by rfl) scUnwound.nd rfl rfl (by decide) rfl rfl (pa_cons (pe_op op_add (pv 1) (pe_int)) (pa_cons (pe_op op_sub (pv 2) (pe_int)) (pa_nil))) (by rfl))))
         (pss_cons (ps_par (i := 3) (j := 4) (by rfl) scUnwound.nd rfl rfl (by decide) rfl rfl (pa_cons (pe_slice sl_list (pv 0) (po_some (pv 2)) po_none) (pa_cons (pe_slice sl_list (pv 0) (po_some (pv 1)) (po_some (pv 2))) (pa_nil))) (by rfl))
         (pss_cons (ps_if (PW.pt (pw_or (pt_cmpR (op_lt) (pe_callB call_len_seq (by rfl) T.nlen PySem.boot_len (pa_cons (pv 4) (pa_nil))) (pe_int) (nomark _)) (pw_or1 (pt_cmpR (op_eq) (pe_ix (r := rIxL K) ix_list (pv 4) (pe_int) (fun _ _ => rfl)) (pe_glob (v := .int 4) rfl gO ⟨_, rfl⟩) (nomark _))))) (pss_one (ps_ret (pe_tup (pa_cons (pv 3) (pa_cons (pv 4) (pa_nil)))))) (pss_nil))
         (pss_cons (ps_par (i := 5) (j := 6) (by rfl) scUnwound.nd rfl rfl (by decide) rfl rfl (pa_cons (pe_ix (r := rIxL K) ix_list (pv 4) (pe_int) (fun _ _ => rfl)) (pa_cons (pe_ix (r := rIxL K) ix_list (pv 4) (pe_un un_neg pe_int) (fun _ _ => rfl)) (pa_nil))) (by rfl))
         (pss_cons (ps_if (pt_cmpR (op_eq) (pv 6) (pe_glob (v := .int 4) rfl gO ⟨_, rfl⟩) (nomark _)) (pss_one (ps_ret (pe_tup (pa_cons (pe_op op_cat (pe_lst (pa_cons (pv 5) (pa_nil))) (pv 3)) (pa_cons (pe_op op_cat (pe_slice sl_list (pv 4) (po_some (pe_int)) po_none) (pe_lst (pa_cons (pv 5) (pa_nil)))) (pa_nil)))))) (pss_nil))
         (pss_one (ps_ret (pe_tup (pa_cons (pe_op op_cat (pe_lst (pa_cons (pv 5) (pa_nil))) (pv 3)) (pa_cons (pe_op op_cat (pe_slice sl_list (pv 4) (po_some (pe_int)) (po_some (pe_un un_neg pe_int))) (pe_lst (pa_cons (pe_op op_xor (pv 6) (pv 5)) (pa_nil)))) (pa_nil))))))))))), ?_⟩
    have fit : ∀ z : Nat, z ≤ 10000 → z ≤ sizeLine := fun z hz => Nat.le_trans hz (by decide)
    refine ⟨.ref l, rfl, l, _, rfl, .inl hS, _, _, rfl, ?_⟩
    rw [vi_len]
    refine ⟨fun m σ H3 => ∃ (X M : List Nat) (y3 y4 y5 y6 : Option V), σ = [some (.ref l), some (.int (X.length : Int)), some (.int ((X.length + M.length : Nat) : Int)), y3, y4, y5, y6] ∧ m = M.length ∧ Ups cs X M ∧ H3 = H,
      ⟨cs.length, [], cs, none, none, none, none, by rw [show ([] : List Nat).length + cs.length = cs.length by simp]; rfl, rfl, ⟨by simp, fun _ h => h⟩, rfl⟩, ?_⟩
    rintro m σ H3 ⟨X, M, y3, y4, y5, y6, rfl, rfl, up, rfl⟩
    obtain ⟨aX, aM, mX, Xm⟩ := ups_alt up al
    have len := congrArg List.length up.e
    simp at len
    -- what is told behind the loop
    have eM : (cs.drop X.length).take (X.length + M.length - X.length) = M := by
      rw [up.e, List.append_assoc, ← List.length_reverse (as := X), List.drop_left]
      rw [List.length_reverse, show X.length + M.length - X.length = M.length by omega, List.take_left]
    have eX : cs.drop (X.length + M.length) = X := by
      have : X.length + M.length = (X.reverse ++ M).length := by simp
      rw [up.e, this, List.drop_left]
    have sub0 : ((X.length + M.length : Nat) : Int) - (X.length : Int) = (M.length : Int) := by omega

    have finish : ∀ (mv rg : List Nat) (p a b : Addr) (H' : Hp), Unw cs mv rg → Same H3 H' → H3 p = none → H3 a = none → H3 b = none → H' a = some (.lst (Vi mv)) → H' b = some (.lst (Vi rg)) → H' p = some (.tup [.ref a, .ref b]) → Q (.ref p) H' := q
    -- the two slices
    have e1 : cutV (Vi cs) (some ((X.length + M.length : Nat) : Int)) none = Vi X := by rw [cutv_from (by omega), eX]
    have e2 : cutV (Vi cs) (some (X.length : Int)) (some ((X.length + M.length : Nat) : Int)) = Vi M := by rw [cutv_mid (by omega) (by omega), eM]
    by_cases h2 : 2 ≤ M.length
    · obtain ⟨a, N, b, rfl⟩ := two_ends h2
      have lN : (a :: (N ++ [b])).length = N.length + 2 := by simp
      have ga : cs[X.length]? = some a := by
        rw [up.e, List.append_assoc, List.getElem?_append_right (by simp)]
        simp
      have gb : cs[X.length + N.length + 1]? = some b := by
        have : cs = (X.reverse ++ (a :: N)) ++ (b :: X) := by rw [up.e]; simp
        rw [this, List.getElem?_append_right (by simp; omega)]
        have : X.length + N.length + 1 - (X.reverse ++ (a :: N)).length = 0 := by simp; omega
        rw [this]
        rfl
      refine ⟨.int ((X.length + (a :: (N ++ [b])).length : Nat) : Int), rfl, .int (X.length : Int), rfl, _, _, rfl, rfl, _, _, rfl, rfl, _, rfl, iteDT (by omega) ?_⟩
      refine ⟨.ref l, rfl, .int (X.length : Int), rfl, l, Vi cs, _, .int (a : Int), rfl, rfl, hS, atI_nat (vi_get ga), .ref l, rfl, .int ((X.length + (a :: (N ++ [b])).length : Nat) : Int), rfl, _, _, rfl, rfl, l, Vi cs, _, .int (b : Int), rfl, rfl, hS, ?_, rfl, _, rfl, ?_⟩
      · rw [show ((X.length + (a :: (N ++ [b])).length : Nat) : Int) - 1 = ((X.length + N.length + 1 : Nat) : Int) by rw [lN]; omega]
        exact atI_nat (vi_get gb)
      by_cases ab : a = b
      · subst ab
        refine iteDT rfl ?_
        refine ⟨fun σ' H' => ∃ (X' M' : List Nat) (y3 y4 y5 y6 : Option V), σ' = [some (.ref l), some (.int (X'.length : Int)), some (.int ((X'.length + M'.length : Nat) : Int)), y3, y4, y5, y6] ∧ M'.length < (a :: (N ++ [a])).length ∧ Ups cs X' M' ∧ H' = H3, ?_, ?_⟩
        · rintro σ' H' ⟨X', M', z3, z4, z5, z6, e, hlt, u', eh⟩
          exact ⟨_, hlt, X', M', z3, z4, z5, z6, e, rfl, u', eh⟩
        · refine ⟨.int (X.length : Int), rfl, _, _, rfl, rfl, .int ((X.length + (a :: (N ++ [a])).length : Nat) : Int), rfl, _, _, rfl, rfl, _, _, rfl, ?_⟩
          refine ⟨a :: X, N, y3, y4, y5, y6, ?_, by rw [lN]; omega, ⟨by rw [up.e]; simp, fun ρ h => up.r ρ (.strip a N ρ (mid_ne aM) h)⟩, rfl⟩
          have t1 : (X.length : Int) + 1 = ((a :: X).length : Int) := by simp
          have t2 : ((X.length + (a :: (N ++ [a])).length : Nat) : Int) - 1 = (((a :: X).length + N.length : Nat) : Int) := by rw [lN]; simp; omega
          rw [← t1, ← t2]
          rfl
      · refine iteDF (fun z => ab (by have := V.int.inj z; omega)) ?_
        refine ⟨.ref l, rfl, .int ((X.length + (a :: (N ++ [b])).length : Nat) : Int), rfl, ((X.length + (a :: (N ++ [b])).length : Nat) : Int), rfl, l, Vi cs, rfl, hS, fun p1 np1 => ?_⟩
        rw [e1]
        have s1 := same_new (o := .lst (Vi X)) np1
        refine ⟨.ref l, rfl, .int (X.length : Int), rfl, (X.length : Int), rfl, .int ((X.length + (a :: (N ++ [b])).length : Nat) : Int), rfl, ((X.length + (a :: (N ++ [b])).length : Nat) : Int), rfl, l, Vi cs, rfl, s1.seq hS, fun p2 np2 => ?_⟩
        rw [e2]
        have s2 := Same.to s1 (same_new (o := .lst (Vi (a :: (N ++ [b])))) np2)
        have h1 : (upd (upd H3 p1 (.lst (Vi X))) p2 (.lst (Vi (a :: (N ++ [b]))))) p1 = some (.lst (Vi X)) := same_new np2 _ _ upd_same
        have h2' : (upd (upd H3 p1 (.lst (Vi X))) p2 (.lst (Vi (a :: (N ++ [b]))))) p2 = some (.lst (Vi (a :: (N ++ [b])))) := upd_same
        have n1 : H3 p1 = none := np1
        have n2 : H3 p2 = none := none_of s1 np2
        generalize upd (upd H3 p1 (.lst (Vi X))) p2 (.lst (Vi (a :: (N ++ [b])))) = H4 at s2 h1 h2' ⊢
        refine ⟨_, _, rfl, .ref p2, rfl, p2, Vi (a :: (N ++ [b])), rfl, .inl (.inl (.inl h2')), _, _, rfl, rfl, _, rfl, ?_⟩
        rw [vi_len]
        refine iteDF (by omega) ?_
        refine ⟨.ref p2, rfl, p2, Vi (a :: (N ++ [b])), 0, .int (a : Int), rfl, rfl, .inl (.inl h2'), atI_nat (j := 0) rfl, rfl, _, rfl, ?_⟩
        by_cases a4 : a = 4
        · refine iteDT (by rw [a4]; rfl) ?_
          refine ⟨.ref p1, rfl, .ref p2, rfl, by show 2 ≤ sizeLine; decide, fun p3 np3 => ?_⟩
          have n13 : p1 ≠ p3 := ne_of_none h1 np3
          have n23 : p2 ≠ p3 := ne_of_none h2' np3
          refine finish X (a :: (N ++ [b])) p3 p1 p2 _ (unw_same al up ?_) (Same.to s2 (same_new np3)) (none_of s2 np3) n1 n2 (by rw [upd_ne n13]; exact h1) (by rw [upd_ne n23]; exact h2') upd_same
          subst a4
          have := Rg.fin 4 N b ab
          rw [fnr4] at this
          exact this
        · refine iteDF (fun z => a4 (by have := V.int.inj z; omega)) ?_
          have hv : Vi (a :: (N ++ [b])) = Vi (a :: N) ++ [.int (b : Int)] := by
            rw [← List.cons_append, vi_app]
            rfl
          refine ⟨.ref p2, rfl, p2, Vi (a :: (N ++ [b])), 0, .int (a : Int), rfl, rfl, .inl (.inl h2'), atI_nat (j := 0) rfl, .ref p2, rfl, 1, rfl, p2, Vi (a :: (N ++ [b])), _, .int (b : Int), rfl, rfl, .inl (.inl h2'), by rw [hv]; exact atI_last _ _, _, _, rfl, .int (b : Int), rfl, rfl, _, rfl, ?_⟩
          -- [first] + mover
          have lX : X.length ≤ 1000 := by omega
          by_cases b4 : b = 4
          · refine iteDT (by rw [b4]; rfl) ?_
            refine ⟨.int (a : Int), rfl, by show 1 ≤ sizeLine; decide, fun p3 np3 => ?_⟩
            have s3 := Same.to s2 (same_new (o := .lst [.int (a : Int)]) np3)
            have g1 : (upd H4 p3 (.lst [.int (a : Int)])) p1 = some (.lst (Vi X)) := same_new np3 _ _ h1
            have g2 : (upd H4 p3 (.lst [.int (a : Int)])) p2 = some (.lst (Vi (a :: (N ++ [b])))) := same_new np3 _ _ h2'
            have g3 : (upd H4 p3 (.lst [.int (a : Int)])) p3 = some (.lst [.int (a : Int)]) := upd_same
            generalize upd H4 p3 (.lst [.int (a : Int)]) = H5 at s3 g1 g2 g3 ⊢
            refine ⟨.ref p1, rfl, p3, p1, [.int (a : Int)], Vi X, rfl, rfl, g3, g1, fit _ (by rw [vi_len]; show 1 + X.length ≤ 10000; omega), fun p4 np4 => ?_⟩
            have s4 := Same.to s3 (same_new (o := .lst ([.int (a : Int)] ++ Vi X)) np4)
            have n4 := none_of s3 np4
            have k2 : (upd H5 p4 (.lst ([.int (a : Int)] ++ Vi X))) p2 = some (.lst (Vi (a :: (N ++ [b])))) := same_new np4 _ _ g2
            have k4 : (upd H5 p4 (.lst ([.int (a : Int)] ++ Vi X))) p4 = some (.lst (Vi (a :: X))) := upd_same
            generalize upd H5 p4 (.lst ([.int (a : Int)] ++ Vi X)) = H6 at s4 k2 k4 ⊢
            refine ⟨.ref p2, rfl, 1, rfl, p2, Vi (a :: (N ++ [b])), rfl, .inl (.inl k2), fun p5 np5 => ?_⟩
            have ec : cutV (Vi (a :: (N ++ [b]))) (some 1) none = Vi (N ++ [b]) := cut_tail _ _
            rw [ec]
            have s5 := Same.to s4 (same_new (o := .lst (Vi (N ++ [b]))) np5)
            have m4 : (upd H6 p5 (.lst (Vi (N ++ [b])))) p4 = some (.lst (Vi (a :: X))) := same_new np5 _ _ k4
            have m5 : (upd H6 p5 (.lst (Vi (N ++ [b])))) p5 = some (.lst (Vi (N ++ [b]))) := upd_same
            generalize upd H6 p5 (.lst (Vi (N ++ [b]))) = H7 at s5 m4 m5 ⊢
            refine ⟨.int (a : Int), rfl, by show 1 ≤ sizeLine; decide, fun p6 np6 => ?_⟩
            have s6 := Same.to s5 (same_new (o := .lst [.int (a : Int)]) np6)
            have o4 : (upd H7 p6 (.lst [.int (a : Int)])) p4 = some (.lst (Vi (a :: X))) := same_new np6 _ _ m4
            have o5 : (upd H7 p6 (.lst [.int (a : Int)])) p5 = some (.lst (Vi (N ++ [b]))) := same_new np6 _ _ m5
            have o6 : (upd H7 p6 (.lst [.int (a : Int)])) p6 = some (.lst [.int (a : Int)]) := upd_same
            generalize upd H7 p6 (.lst [.int (a : Int)]) = H8 at s6 o4 o5 o6 ⊢
            refine ⟨p5, p6, Vi (N ++ [b]), [.int (a : Int)], rfl, rfl, o5, o6, fit _ (by rw [vi_len]; show (N ++ [b]).length + 1 ≤ 10000; simp; omega), fun p7 np7 => ?_⟩
            have s7 := Same.to s6 (same_new (o := .lst (Vi (N ++ [b]) ++ [.int (a : Int)])) np7)
            have n7 := none_of s6 np7
            have w4 : (upd H8 p7 (.lst (Vi (N ++ [b]) ++ [.int (a : Int)]))) p4 = some (.lst (Vi (a :: X))) := same_new np7 _ _ o4
            have w7 : (upd H8 p7 (.lst (Vi (N ++ [b]) ++ [.int (a : Int)]))) p7 = some (.lst (Vi (N ++ [b] ++ [a]))) := by rw [upd_same, vi_app (N ++ [b])]; rfl
            generalize upd H8 p7 (.lst (Vi (N ++ [b]) ++ [.int (a : Int)])) = H9 at s7 w4 w7 ⊢
            refine ⟨by show 2 ≤ sizeLine; decide, fun p8 np8 => ?_⟩
            subst b4
            exact finish (a :: X) (N ++ [4] ++ [a]) p8 p4 p7 _ (unw_turn al up a4) (Same.to s7 (same_new np8)) (none_of s7 np8) n4 n7 (same_new np8 _ _ w4) (same_new np8 _ _ w7) upd_same
          · refine iteDF (fun z => b4 (by have := V.int.inj z; omega)) ?_
            refine ⟨.int (a : Int), rfl, by show 1 ≤ sizeLine; decide, fun p3 np3 => ?_⟩
            have s3 := Same.to s2 (same_new (o := .lst [.int (a : Int)]) np3)
            have g1 : (upd H4 p3 (.lst [.int (a : Int)])) p1 = some (.lst (Vi X)) := same_new np3 _ _ h1
            have g2 : (upd H4 p3 (.lst [.int (a : Int)])) p2 = some (.lst (Vi (a :: (N ++ [b])))) := same_new np3 _ _ h2'
            have g3 : (upd H4 p3 (.lst [.int (a : Int)])) p3 = some (.lst [.int (a : Int)]) := upd_same
            generalize upd H4 p3 (.lst [.int (a : Int)]) = H5 at s3 g1 g2 g3 ⊢
            refine ⟨.ref p1, rfl, p3, p1, [.int (a : Int)], Vi X, rfl, rfl, g3, g1, fit _ (by rw [vi_len]; show 1 + X.length ≤ 10000; omega), fun p4 np4 => ?_⟩
            have s4 := Same.to s3 (same_new (o := .lst ([.int (a : Int)] ++ Vi X)) np4)
            have n4 := none_of s3 np4
            have k2 : (upd H5 p4 (.lst ([.int (a : Int)] ++ Vi X))) p2 = some (.lst (Vi (a :: (N ++ [b])))) := same_new np4 _ _ g2
            have k4 : (upd H5 p4 (.lst ([.int (a : Int)] ++ Vi X))) p4 = some (.lst (Vi (a :: X))) := upd_same
            generalize upd H5 p4 (.lst ([.int (a : Int)] ++ Vi X)) = H6 at s4 k2 k4 ⊢
            refine ⟨.ref p2, rfl, 1, rfl, 1, rfl, -1, rfl, p2, Vi (a :: (N ++ [b])), rfl, .inl (.inl k2), fun p5 np5 => ?_⟩
            have ec : cutV (Vi (a :: (N ++ [b]))) (some 1) (some (-1)) = Vi N := by
              have := cutv_neg (cs := a :: (N ++ [b])) (a := 1) (k := 1) (by rw [lN]; omega) (by decide)
              have e3 : ((a :: (N ++ [b])).drop 1).take ((a :: (N ++ [b])).length - 1 - 1) = N := by
                show (N ++ [b]).take _ = N
                rw [lN, show N.length + 2 - 1 - 1 = N.length by omega, List.take_left]
              rw [e3] at this
              exact this
            rw [ec]
            have s5 := Same.to s4 (same_new (o := .lst (Vi N)) np5)
            have m4 : (upd H6 p5 (.lst (Vi N))) p4 = some (.lst (Vi (a :: X))) := same_new np5 _ _ k4
            have m5 : (upd H6 p5 (.lst (Vi N))) p5 = some (.lst (Vi N)) := upd_same
            generalize upd H6 p5 (.lst (Vi N)) = H7 at s5 m4 m5 ⊢
            have ca := aM.head
            have cb : Cd b := aM.all b (by simp)
            have d3 : ∀ {c : Nat}, Cd c → c ≠ 4 → c = 1 ∨ c = 2 ∨ c = 3 := fun hc h4 => by
              rcases hc with z | z | z | z
              · exact .inl z
              · exact .inr (.inl z)
              · exact .inr (.inr z)
              · exact absurd z h4
            refine ⟨.int (b : Int), rfl, .int (a : Int), rfl, (b : Int), (a : Int), rfl, rfl, by show 1 ≤ sizeLine; decide, fun p6 np6 => ?_⟩
            dsimp only
            rw [xor_small (d3 cb b4) (d3 ca a4)]
            have s6 := Same.to s5 (same_new (o := .lst [.int ((b ^^^ a : Nat) : Int)]) np6)
            have o4 : (upd H7 p6 (.lst [.int ((b ^^^ a : Nat) : Int)])) p4 = some (.lst (Vi (a :: X))) := same_new np6 _ _ m4
            have o5 : (upd H7 p6 (.lst [.int ((b ^^^ a : Nat) : Int)])) p5 = some (.lst (Vi N)) := same_new np6 _ _ m5
            have o6 : (upd H7 p6 (.lst [.int ((b ^^^ a : Nat) : Int)])) p6 = some (.lst [.int ((b ^^^ a : Nat) : Int)]) := upd_same
            generalize upd H7 p6 (.lst [.int ((b ^^^ a : Nat) : Int)]) = H8 at s6 o4 o5 o6 ⊢
            refine ⟨p5, p6, Vi N, [.int ((b ^^^ a : Nat) : Int)], rfl, rfl, o5, o6, fit _ (by rw [vi_len]; show N.length + 1 ≤ 10000; omega), fun p7 np7 => ?_⟩
            have s7 := Same.to s6 (same_new (o := .lst (Vi N ++ [.int ((b ^^^ a : Nat) : Int)])) np7)
            have n7 := none_of s6 np7
            have w4 : (upd H8 p7 (.lst (Vi N ++ [.int ((b ^^^ a : Nat) : Int)]))) p4 = some (.lst (Vi (a :: X))) := same_new np7 _ _ o4
            have w7 : (upd H8 p7 (.lst (Vi N ++ [.int ((b ^^^ a : Nat) : Int)]))) p7 = some (.lst (Vi (N ++ [b ^^^ a]))) := by rw [upd_same, vi_app]; rfl
            generalize upd H8 p7 (.lst (Vi N ++ [.int ((b ^^^ a : Nat) : Int)])) = H9 at s7 w4 w7 ⊢
            refine ⟨by show 2 ≤ sizeLine; decide, fun p8 np8 => ?_⟩
            exact finish (a :: X) (N ++ [b ^^^ a]) p8 p4 p7 _ (unw_mix al up a4 b4 ab) (Same.to s7 (same_new np8)) (none_of s7 np8) n4 n7 (same_new np8 _ _ w4) (same_new np8 _ _ w7) upd_same
    · refine ⟨.int ((X.length + M.length : Nat) : Int), rfl, .int (X.length : Int), rfl, _, _, rfl, rfl, _, _, rfl, rfl, _, rfl, iteDF (by omega) (iteF ?_)⟩
      refine ⟨.ref l, rfl, .int ((X.length + M.length : Nat) : Int), rfl, ((X.length + M.length : Nat) : Int), rfl, l, Vi cs, rfl, hS, fun p1 np1 => ?_⟩
      rw [e1]
      have s1 := same_new (o := .lst (Vi X)) np1
      refine ⟨.ref l, rfl, .int (X.length : Int), rfl, (X.length : Int), rfl, .int ((X.length + M.length : Nat) : Int), rfl, ((X.length + M.length : Nat) : Int), rfl, l, Vi cs, rfl, s1.seq hS, fun p2 np2 => ?_⟩
      rw [e2]
      have s2 := Same.to s1 (same_new (o := .lst (Vi M)) np2)
      have h1 : (upd (upd H3 p1 (.lst (Vi X))) p2 (.lst (Vi M))) p1 = some (.lst (Vi X)) := same_new np2 _ _ upd_same
      have h2' : (upd (upd H3 p1 (.lst (Vi X))) p2 (.lst (Vi M))) p2 = some (.lst (Vi M)) := upd_same
      have n1 : H3 p1 = none := np1
      have n2 : H3 p2 = none := none_of s1 np2
      generalize upd (upd H3 p1 (.lst (Vi X))) p2 (.lst (Vi M)) = H4 at s2 h1 h2' ⊢
      refine ⟨_, _, rfl, .ref p2, rfl, p2, Vi M, rfl, .inl (.inl (.inl h2')), _, _, rfl, rfl, _, rfl, ?_⟩
      rw [vi_len]
      refine iteDT (by omega) ?_
      refine ⟨.ref p1, rfl, .ref p2, rfl, by show 2 ≤ sizeLine; decide, fun p3 np3 => ?_⟩
      refine finish X M p3 p1 p2 _ (unw_same al up ?_) (Same.to s2 (same_new np3)) (none_of s2 np3) n1 n2 (same_new np3 _ _ h1) (same_new np3 _ _ h2') upd_same
      match M, h2 with
      | [], _ => exact .nil
      | [c], _ => exact .one c
      | a :: b :: r, h => exact absurd (by simp) h
end
end K6

namespace K6
open PySem PySem.Spec PyProof.Rows L2 Nr Nw
/-! ### all reduced words of up to so many characters -/
def ext (u : List Nat) (t : Nat) : List (List Nat) := (([48, 49, 50] : List Nat).take t).flatMap fun c => if cut (u ++ [c]) = u ++ [c] then [u ++ [c]] else []
def exts (rs : List (List Nat)) : List (List Nat) := rs.flatMap fun u => ext u 3
def lv : Nat → List (List Nat)
  | 0 => [[]]
  | i + 1 => exts (lv i)
def allW : Nat → List (List Nat)
  | 0 => [[]]
  | i + 1 => allW i ++ lv (i + 1)
theorem ext_len (u : List Nat) : ∀ t, t ≤ 3 → (ext u t).length ≤ t := by
  have one : ∀ c, ((if cut (u ++ [c]) = u ++ [c] then [u ++ [c]] else [] : List (List Nat))).length ≤ 1 := fun c => by split <;> simp
  intro t ht
  have a := one 48
  have b := one 49
  have c := one 50
  match t, ht with
  | 0, _ => exact Nat.le_refl _
  | 1, _ => simp only [ext, List.take_succ_cons, List.take_zero, List.flatMap_cons, List.flatMap_nil, List.append_nil]; omega
  | 2, _ => simp only [ext, List.take_succ_cons, List.take_zero, List.flatMap_cons, List.flatMap_nil, List.append_nil, List.length_append]; omega
  | 3, _ => simp only [ext, List.take_succ_cons, List.take_zero, List.flatMap_cons, List.flatMap_nil, List.append_nil, List.length_append]; omega
theorem exts_len : ∀ rs : List (List Nat), (exts rs).length ≤ 3 * rs.length
  | [] => Nat.le_refl _
  | u :: r => by
    have h := exts_len r
    have h2 := ext_len u 3 (Nat.le_refl _)
    have e : exts (u :: r) = ext u 3 ++ exts r := List.flatMap_cons
    rw [e, List.length_append, List.length_cons]
    omega
theorem exts_snoc (rs : List (List Nat)) (j : Nat) (u : List Nat) (h : rs[j]? = some u) : exts (rs.take (j + 1)) = exts (rs.take j) ++ ext u 3 := by
  obtain ⟨hj, e⟩ := List.getElem?_eq_some_iff.mp h
  rw [List.take_succ, h]
  unfold exts
  rw [List.flatMap_append]
  simp
theorem mem_ext {u w : List Nat} : w ∈ ext u 3 ↔ ∃ c, Sg c ∧ w = u ++ [c] ∧ cut w = w := by
  unfold ext
  rw [List.mem_flatMap]
  constructor
  · rintro ⟨c, hc, hw⟩
    split at hw
    · next e =>
      rw [List.mem_singleton.mp hw]
      refine ⟨c, ?_, rfl, e⟩
      have : c ∈ ([48, 49, 50] : List Nat) := hc
      simp only [List.mem_cons, List.not_mem_nil, or_false] at this
      exact this
    · cases hw
  · rintro ⟨c, hc, e, h⟩
    subst e
    refine ⟨c, ?_, by rw [if_pos h]; exact List.mem_singleton.mpr rfl⟩
    show c ∈ ([48, 49, 50] : List Nat)
    simp only [List.mem_cons, List.not_mem_nil, or_false]
    exact hc
theorem mem_lv : ∀ {i : Nat} {w : List Nat}, w ∈ lv i ↔ Fw w ∧ w.length = i
  | 0, w => by
    constructor
    · intro h
      rw [List.mem_singleton.mp h]
      exact ⟨trivial, rfl⟩
    · rintro ⟨_, h⟩
      rw [List.length_eq_zero_iff.mp h]
      exact List.mem_singleton.mpr rfl
  | i + 1, w => by
    show w ∈ (lv i).flatMap (fun u => ext u 3) ↔ _
    rw [List.mem_flatMap]
    constructor
    · rintro ⟨u, hu, hw⟩
      obtain ⟨fu, lu⟩ := mem_lv.mp hu
      obtain ⟨c, hc, e, hcut⟩ := mem_ext.mp hw
      have wd : Wd w := by
        rw [e]
        exact wd_append.mpr ⟨fu.wd, fun z hz => by rw [List.mem_singleton.mp hz]; exact hc⟩
      refine ⟨by rw [← hcut]; exact fw_cut wd, by rw [e]; simp; exact lu⟩
    · rintro ⟨fw, lw⟩
      have hne : w ≠ [] := fun z => by rw [z] at lw; cases lw
      obtain ⟨u, c, rfl⟩ : ∃ u c, w = u ++ [c] := ⟨w.dropLast, w.getLast hne, (List.dropLast_concat_getLast hne).symm⟩
      obtain ⟨fu, hc, _⟩ := fw_snoc fw
      refine ⟨u, mem_lv.mpr ⟨fu, by simpa using lw⟩, mem_ext.mpr ⟨c, hc, rfl, cut_of_fw fw⟩⟩
theorem mem_allW : ∀ {i : Nat} {w : List Nat}, w ∈ allW i ↔ Fw w ∧ w.length ≤ i
  | 0, w => by
    constructor
    · intro h
      rw [List.mem_singleton.mp h]
      exact ⟨trivial, Nat.le_refl _⟩
    · rintro ⟨_, h⟩
      rw [List.length_eq_zero_iff.mp (Nat.le_zero.mp h)]
      exact List.mem_singleton.mpr rfl
  | i + 1, w => by
    show w ∈ allW i ++ lv (i + 1) ↔ _
    rw [List.mem_append, mem_allW, mem_lv]
    constructor
    · rintro (⟨a, b⟩ | ⟨a, b⟩)
      · exact ⟨a, by omega⟩
      · exact ⟨a, by omega⟩
    · rintro ⟨a, b⟩
      by_cases h : w.length ≤ i
      · exact .inl ⟨a, h⟩
      · exact .inr ⟨a, by omega⟩
theorem allW_nodup : (allW 6).Nodup := by decide +kernel
theorem allW_len : (allW 6).length = 85 := by decide +kernel
theorem lv_few : ∀ i, i < 7 → (lv i).length ≤ 100 ∧ (allW i).length ≤ 100 := by decide +kernel
section
variable {P : Program} {w : World} {K : PySem.W.Frag} {mg : Str → Option Value} {base : Heap}
def spAllX : Sp := fun vs H Q _ => vs = [.int 6] ∧ ∀ (p : Addr) (H' : Hp), Same H H' → H p = none → H' p = some (.lst (Vs (allW 6))) → Q (.ref p) H'
theorem ok_allX (T : Txt w K mg) : Ok P w K mg base 2 "_law_all_words" ["most"] spAllX := by
  refine ok_of T.fLawAllWords fun f fd F => ?_
  refine F.ok scLawAllWords (fun vs H Q E h => ?_) (fun cdv A outer s H vs Q E hr h => ?_)
  · obtain ⟨rfl, _⟩ := h
    rfl
  · obtain ⟨rfl, q⟩ := h
    refine ⟨_, pss_cons (ps_par (i := 2) (j := 3) (by rfl) scLawAllWords.nd rfl rfl (by decide) rfl rfl (pa_cons (pe_lst (pa_cons pe_str pa_nil)) (pa_cons (pe_lst (pa_cons pe_str pa_nil)) pa_nil)) (by rfl))
      (pss_cons (ps_for PassesOwn.never rfl (pi_range1 (by rfl) T.nrange (pa_cons (pv 0) pa_nil)) (pg_name (i := 1) scLawAllWords.nd rfl (.inl rfl))
        (pss_cons (ps_set (i := 4) scLawAllWords.nd rfl (.inl rfl) (pe_lst pa_nil))
        (pss_cons (ps_for PassesOwn.never rfl (pi_list (pv 3)) (pg_name (i := 5) scLawAllWords.nd rfl (.inl rfl))
          (pss_one (ps_for PassesOwn.never rfl (pi_str pe_str) (pg_name (i := 6) scLawAllWords.nd rfl (.inl rfl))
            (pss_one (ps_if (pt_cmpR op_eq (pe_callO (ok_cut T) hr (by decide) (by rfl) (pa_cons (pe_op op_add_str (pv 5) (pv 6)) pa_nil)) (pe_op op_add_str (pv 5) (pv 6)) (nomark _))
              (pss_one (ps_expr (pe_bm PySem.F.plainAttrs_list PySem.F.slot_list_append PySem.F.type_list_append mt_append (pv 4) (pa_cons (pe_op op_add_str (pv 5) (pv 6)) pa_nil)))) pss_nil)))))
        (pss_cons (ps_set (i := 2) scLawAllWords.nd rfl (.inl rfl) (pe_op op_cat (pv 2) (pv 4)))
        (pss_one (ps_set (i := 3) scLawAllWords.nd rfl (.inl rfl) (pv 4)))))))
      (pss_one (ps_ret (pv 2)))), ?_⟩
    have one1 : (1 : Nat) ≤ sizeLine := by decide
    refine ⟨one1, fun fl nf => ?_⟩
    refine ⟨one1, fun rl nr => ?_⟩
    refine ⟨_, _, rfl, ?_⟩
    have nf0 : H fl = none := nf
    have nr0 : H rl = none := none_of (same_new nf) nr
    have nfr : fl ≠ rl := fun e => by
      rw [← e, upd_same] at nr
      cases nr
    have s1 : Same H (upd (upd H fl (.lst (Vs [[]]))) rl (.lst (Vs [[]]))) := same_mut (same_new nf) nr0
    have g0 : Good 0 [] := ⟨(fun c hc => by cases hc), rfl, Nat.le_refl _⟩
    refine ⟨.int 6, rfl, 6, rfl, by decide, by decide, ?_⟩
    refine ⟨fun i m σ H3 => ∃ (y1 y4 y5 y6 : Option V) (fl rl : Addr), σ = [some (.int 6), y1, some (.ref fl), some (.ref rl), y4, y5, y6] ∧ i + m = 6 ∧ Same H H3 ∧ H fl = none ∧ H3 fl = some (.lst (Vs (allW i))) ∧ H3 rl = some (.lst (Vs (lv i))),
      ⟨6, none, none, none, none, fl, rl, rfl, rfl, s1, nf0, by rw [upd_ne nfr]; exact upd_same, upd_same⟩, ?_⟩
    clear s1 nfr nf0 nr0 nr nf
    clear fl rl
    rintro i m σ H3 ⟨y1, y4, y5, y6, fl, rl, rfl, em, sm, nf, ef, er⟩
    by_cases hi : i < 6
    · obtain ⟨lr, lw⟩ := lv_few i (by omega)
      refine .inr ⟨hi, fun σ' H' => ∃ (y1 y4 y5 y6 : Option V) (fl rl : Addr), σ' = [some (.int 6), y1, some (.ref fl), some (.ref rl), y4, y5, y6] ∧ Same H H' ∧ H fl = none ∧ H' fl = some (.lst (Vs (allW (i + 1)))) ∧ H' rl = some (.lst (Vs (lv (i + 1)))), ?_, ?_⟩
      · rintro σ' H' ⟨z1, z4, z5, z6, fl', rl', e, r⟩
        exact ⟨m - 1, by omega, z1, z4, z5, z6, fl', rl', e, by omega, r⟩
      · rintro v H' ⟨rfl, rfl⟩
        refine ⟨Nat.zero_le _, fun lo nlo => ?_⟩
        have nlo0 : H lo = none := none_of sm nlo
        have rne : rl ≠ lo := ne_of_none er nlo
        have fne : fl ≠ lo := ne_of_none ef nlo
        -- over the row
        refine ⟨.ref rl, rfl, rl, rfl, ⟨Vs (lv i), .inl (.inl (by rw [upd_ne rne]; exact er))⟩, ?_⟩
        refine ⟨fun j mm σ H4 => ∃ (y5 y6 : Option V), σ = [some (.int 6), some (.int (0 + (i : Nat))), some (.ref fl), some (.ref rl), some (.ref lo), y5, y6] ∧ j + mm = (lv i).length ∧ Same H H4 ∧ H4 fl = some (.lst (Vs (allW i))) ∧ H4 rl = some (.lst (Vs (lv i))) ∧ H4 lo = some (.lst (Vs (exts ((lv i).take j)))),
          ⟨(lv i).length, y5, y6, rfl, by omega, same_mut sm nlo0, by rw [upd_ne fne]; exact ef, by rw [upd_ne rne]; exact er, upd_same⟩, ?_⟩
        rintro j mm σ H4 ⟨x5, x6, rfl, em4, sm4, ef4, er4, el4⟩
        by_cases hj : j < (lv i).length
        · have gj : (lv i)[j]? = some (lv i)[j] := List.getElem?_eq_getElem hj
          have gu := mem_lv.mp (List.getElem_mem hj)
          generalize (lv i)[j] = u at gj gu
          have esn := exts_snoc (lv i) j u gj
          refine .inr ⟨⟨_, _, .inl (.inl er4), vs_get gj⟩, fun σ' H' => ∃ (y5 y6 : Option V), σ' = [some (.int 6), some (.int (0 + (i : Nat))), some (.ref fl), some (.ref rl), some (.ref lo), y5, y6] ∧ Same H H' ∧ H' fl = some (.lst (Vs (allW i))) ∧ H' rl = some (.lst (Vs (lv i))) ∧ H' lo = some (.lst (Vs (exts ((lv i).take (j + 1))))), ?_, ?_⟩
          · rintro σ' H' ⟨z5, z6, e, r⟩
            exact ⟨mm - 1, by omega, z5, z6, e, by omega, r⟩
          · rintro v H' ⟨rfl, fv⟩
            have ev := Option.some.inj ((fv _ (.inl (.inl er4))).symm.trans (vs_get gj))
            subst ev
            have xl := exts_len ((lv i).take j)
            have tl : ((lv i).take j).length ≤ j := List.length_take_le ..
            generalize exts ((lv i).take j) = xs at el4 xl esn
            rw [esn]
            -- over the signs
            refine ⟨S [48, 49, 50], rfl, ?_⟩
            refine ⟨fun t mt σ H5 => ∃ (y6 : Option V), σ = [some (.int 6), some (.int (0 + (i : Nat))), some (.ref fl), some (.ref rl), some (.ref lo), some (.str (S u)), y6] ∧ t + mt = 3 ∧ Same H H5 ∧ H5 fl = some (.lst (Vs (allW i))) ∧ H5 rl = some (.lst (Vs (lv i))) ∧ H5 lo = some (.lst (Vs (xs ++ ext u t))),
              ⟨3, x6, rfl, rfl, sm4, ef4, er4, by rw [show ext u 0 = [] from rfl, List.append_nil]; exact el4⟩, ?_⟩
            rintro t mt σ H5 ⟨w6, rfl, em5, sm5, ef5, er5, el5⟩
            by_cases ht : t < 3
            · refine .inr ⟨ht, fun σ' H' => ∃ (y6 : Option V), σ' = [some (.int 6), some (.int (0 + (i : Nat))), some (.ref fl), some (.ref rl), some (.ref lo), some (.str (S u)), y6] ∧ Same H H' ∧ H' fl = some (.lst (Vs (allW i))) ∧ H' rl = some (.lst (Vs (lv i))) ∧ H' lo = some (.lst (Vs (xs ++ ext u (t + 1)))), ?_, ?_⟩
              · rintro σ' H' ⟨z6, e, r⟩
                exact ⟨mt - 1, by omega, z6, e, by omega, r⟩
              · rintro v H' ⟨rfl, c, hc, rfl⟩
                have e0 : ([48, 49, 50] : List Nat)[t]? = some c := (List.getElem?_toArray).symm.trans hc
                have sgc : Sg c := by
                  have : c ∈ ([48, 49, 50] : List Nat) := List.mem_of_getElem? e0
                  simp only [List.mem_cons, List.not_mem_nil, or_false] at this
                  exact this
                have esx : ext u (t + 1) = ext u t ++ (if cut (u ++ [c]) = u ++ [c] then [u ++ [c]] else []) := by
                  unfold ext
                  rw [List.take_succ, e0, List.flatMap_append]
                  simp
                have lk := ext_len u t (by omega)
                generalize ext u t = es at el5 esx lk
                rw [esx]
                have wd : Wd (u ++ [c]) := wd_append.mpr ⟨gu.1.wd, fun z hz => by rw [List.mem_singleton.mp hz]; exact sgc⟩
                have fits : (S u).length + (S [c]).length ≤ sizeLine := by
                  show u.length + 1 ≤ _
                  exact Nat.le_trans (show u.length + 1 ≤ 10 by omega) (by decide)
                have esc : S u ++ S [c] = S (u ++ [c]) := s_app u [c]
                refine ⟨.str (S u), rfl, .str (S [c]), rfl, _, _, rfl, rfl, fits, u ++ [c], congrArg (fun z => [V.str z]) esc, ⟨wd, by rw [List.length_append]; show u.length + 1 ≤ _; omega⟩, .str (S u), rfl, .str (S [c]), rfl, _, _, rfl, rfl, fits, rfl, _, rfl, ?_⟩
                by_cases hcut : cut (u ++ [c]) = u ++ [c]
                · refine iteDT (by rw [hcut, ← esc]) ?_
                  refine ⟨.ref lo, rfl, .inl ⟨rfl, _, .inl (.inl el5)⟩, .str (S u), rfl, .str (S [c]), rfl, _, _, rfl, rfl, fits, lo, _, _, rfl, rfl, el5, ?_, ?_⟩
                  · rw [vs_len, List.length_append]
                    exact Nat.lt_of_le_of_lt (show xs.length + es.length ≤ 1000 by omega) (by decide)
                  · refine ⟨_, rfl, same_mut sm5 nlo0, by rw [upd_ne fne]; exact ef5, by rw [upd_ne rne]; exact er5, ?_⟩
                    rw [if_pos hcut, upd_same, esc, vs_snoc, List.append_assoc]
                · refine iteDF (fun z => hcut ?_) ?_
                  · have := V.str.inj z
                    have z2 : S (cut (u ++ [c])) = S (u ++ [c]) := this.trans esc
                    exact s_inj z2
                  · rw [if_neg hcut, List.append_nil]
                    exact ⟨_, rfl, sm5, ef5, er5, el5⟩
            · refine .inl ⟨by show 3 ≤ t; omega, ?_⟩
              have t3 : t = 3 := by omega
              subst t3
              exact ⟨_, _, rfl, sm5, ef5, er5, el5⟩
        · refine .inl ⟨⟨_, .inl (.inl er4), by rw [vs_len]; omega⟩, ?_⟩
          have et : (lv i).take j = lv i := List.take_of_length_le (by omega)
          rw [et] at el4
          have el5 : H4 lo = some (.lst (Vs (lv (i + 1)))) := el4
          have l1 := (lv_few (i + 1) (by omega)).1
          refine ⟨.ref fl, rfl, .ref lo, rfl, fl, lo, Vs (allW i), Vs (lv (i + 1)), rfl, rfl, ef4, el5, ?_, fun p np => ?_⟩
          · rw [vs_len, vs_len]
            exact Nat.le_trans (show (allW i).length + (lv (i + 1)).length ≤ 10000 by omega) (by decide)
          · have sp : Same H4 (upd H4 p (.lst (Vs (allW i) ++ Vs (lv (i + 1))))) := same_new np
            refine ⟨.ref lo, rfl, some (.int (0 + (i : Nat))), some (.ref lo), x5, x6, p, lo, rfl, Same.to sm4 sp, none_of sm4 np, ?_, sp _ _ el5⟩
            rw [upd_same]
            rw [show allW (i + 1) = allW i ++ lv (i + 1) from rfl]
            unfold Vs
            rw [List.map_append]
    · refine .inl ⟨by show 6 ≤ i; omega, ?_⟩
      have i6 : i = 6 := by omega
      subst i6
      exact ⟨.ref fl, rfl, q fl H3 sm nf ef⟩
end
end K6

namespace K6
open PySem PySem.Spec PyProof.Rows L2 Nr Nw
theorem flat_fw {L : List Nat} (h : Alt L) : Fw (flat L) := by
  have := fw_cut (flat_wd L)
  rw [cut_flat h] at this
  exact this
/-- a word done so many times, or its back -/
def pwr (u : List Nat) (z : Int) : List Nat := if 0 ≤ z then rep z.toNat u else rep (-z).toNat u.reverse
theorem pwr_nat (u : List Nat) (k : Nat) : pwr u (k : Int) = rep k u := by
  unfold pwr
  rw [if_pos (by omega), Int.toNat_natCast]
theorem pwr_neg (u : List Nat) {k : Nat} (h : 0 < k) : pwr u (-(k : Int)) = rep k u.reverse := by
  unfold pwr
  rw [if_neg (by omega), Int.neg_neg, Int.toNat_natCast]
theorem ints_eq : ∀ (a b : List Nat), PyData.eqvAll (a.map fun (n : Nat) => PyData.int (n : Int)) (b.map fun (n : Nat) => PyData.int (n : Int)) = decide (a = b)
  | [], [] => by unfold PyData.eqvAll; exact (decide_eq_true rfl).symm
  | [], y :: s => by unfold PyData.eqvAll; exact (decide_eq_false (by simp)).symm
  | x :: r, [] => by unfold PyData.eqvAll; exact (decide_eq_false (by simp)).symm
  | x :: r, y :: s => by
    rw [List.map_cons, List.map_cons]
    unfold PyData.eqvAll PyData.eqv
    rw [ints_eq r s]
    by_cases h : x = y
    · subst h
      by_cases h2 : r = s
      · subst h2; simp
      · rw [decide_eq_false h2, decide_eq_false (fun z => h2 (List.cons.inj z).2), Bool.and_false]
    · have : ((x : Int) == (y : Int)) = false := beq_false_of_ne (by omega)
      rw [this, decide_eq_false (fun z => h (List.cons.inj z).1)]
      rfl
theorem strs_eq : ∀ (a b : List (List Nat)), PyData.eqvAll (a.map fun p => PyData.str (S p)) (b.map fun p => PyData.str (S p)) = decide (a = b)
  | [], [] => by unfold PyData.eqvAll; exact (decide_eq_true rfl).symm
  | [], y :: s => by unfold PyData.eqvAll; exact (decide_eq_false (by simp)).symm
  | x :: r, [] => by unfold PyData.eqvAll; exact (decide_eq_false (by simp)).symm
  | x :: r, y :: s => by
    rw [List.map_cons, List.map_cons]
    unfold PyData.eqvAll PyData.eqv
    rw [strs_eq r s]
    by_cases h : x = y
    · subst h
      by_cases h2 : r = s
      · subst h2; simp
      · rw [decide_eq_false h2, decide_eq_false (fun z => h2 (List.cons.inj z).2), Bool.and_false]
    · have : (S x == S y) = false := beq_false_of_ne fun z => h (s_inj z)
      rw [this, decide_eq_false (fun z => h (List.cons.inj z).1)]
      rfl
theorem dpAll_vi {K : PySem.W.Frag} {H : Hp} : ∀ cs : List Nat, DpAll K H (Vi cs) (cs.map fun (n : Nat) => PyData.int (n : Int))
  | [] => .nil
  | c :: r => .cons (.int _) (dpAll_vi r)
theorem shaped_vi (cs : List Nat) : SeqAt.shaped (.list (cs.map fun (n : Nat) => PyData.int (n : Int))) = true := by
  have := shaped_ints (cs.map fun (n : Nat) => (n : Int))
  rw [List.map_map] at this
  exact this
theorem lay_strs : ∀ ps : List (List Nat), (∀ p ∈ ps, Wd p) → PyData.canLayAll0 (ps.map fun p => PyData.str (S p)) = true ∧ PyData.depthAll (ps.map fun p => PyData.str (S p)) = 0
  | [], _ => ⟨by rfl, by rfl⟩
  | p :: r, h => by
    have ih := lay_strs r fun q hq => h q (List.mem_cons_of_mem _ hq)
    have hp := h p List.mem_cons_self
    refine ⟨?_, ?_⟩
    · rw [List.map_cons]
      unfold PyData.canLayAll0
      rw [ih.1, Bool.and_true]
      unfold PyData.canLay0 PyData.strOk
      show p.toArray.all (· < 0x110000) = true
      rw [List.all_toArray, List.all_eq_true]
      intro c hc
      rcases hp c hc with z | z | z <;> subst z <;> rfl
    · rw [List.map_cons]
      unfold PyData.depthAll
      rw [ih.2]
      rfl
theorem shaped_strs {ps : List (List Nat)} (h : ∀ p ∈ ps, Wd p) : SeqAt.shaped (.list (ps.map fun p => PyData.str (S p))) = true := by
  unfold SeqAt.shaped PyData.canLay0 PyData.depth
  rw [(lay_strs ps h).1, (lay_strs ps h).2]
  decide
theorem vi_rep (cs : List Nat) (k : Nat) : (List.replicate k (Vi cs)).flatten = Vi (rep k cs) := by
  unfold Vi rep
  rw [List.map_flatten, List.map_replicate]
theorem pv_rep (cs : List Nat) (k : Nat) : (List.replicate k (PV cs)).flatten = PV (rep k cs) := by
  unfold PV Vs rep
  rw [List.map_flatten, List.map_replicate, List.map_flatten, List.map_replicate]
theorem cutv_upto {cs : List V} {b : Nat} (hb : b ≤ cs.length) : cutV cs none (some (b : Int)) = cs.take b := by
  unfold cutV
  have h2 : HT.sIx cs.length cs.length (some (b : Int)) = b := (HT.sIx_nat _ _ b).trans (Nat.min_eq_left hb)
  have h1 : HT.sIx cs.length 0 none = 0 := rfl
  rw [h1, h2]
  rfl
section
variable {P : Program} {w : World} {K : PySem.W.Frag} {mg : Str → Option Value} {base : Heap}
def spIsMirL : Sp := fun vs H Q _ => ∃ u : List Nat, vs = [.str (S u)] ∧ Wd u ∧ u.length ≤ 1000 ∧ Q (.bl (decide (u ≠ []) && decide (cut (u ++ u) = []))) H
theorem ok_isMirL (T : Txt w K mg) : Ok P w K mg base 2 "_law_is_mirror" ["word"] spIsMirL := by
  refine ok_of T.fLawIsMirror fun f fd F => ?_
  refine F.ok scLawIsMirror (fun vs H Q E h => ?_) (fun cdv A outer s H vs Q E hr h => ?_)
  · obtain ⟨u, rfl, _⟩ := h
    rfl
  · obtain ⟨u, rfl, hu, hz, q⟩ := h
    refine ⟨_, pss_one (ps_ret (pe_and (pe_cmpR (op_ne) (pv 0) (pe_str) (nomark _)) (pe_one (pe_cmpR (op_eq) (pe_callO (ok_cut T) hr (by decide) (by rfl) (pa_cons (pe_op op_add_str (pv 0) (pv 0)) (pa_nil))) (pe_str) (nomark _))))), ?_⟩
    refine ⟨.str (S u), rfl, rfl, _, rfl, ?_⟩
    have hs : (V.str (S u) = V.str (S [])) ↔ u = [] := ⟨fun z => s_inj (V.str.inj z), fun z => by rw [z]⟩
    have fits : (S u).length + (S u).length ≤ sizeLine := Nat.le_trans (show u.length + u.length ≤ 10000 by omega) (by decide)
    by_cases e : u = []
    · have hf : (decide (u ≠ []) && decide (cut (u ++ u) = [])) = false := by rw [decide_eq_false (fun z => z e)]; rfl
      rw [hf] at q
      have e1 : (!decide (V.str (S u) = V.str (S []))) = false := by rw [decide_eq_true (hs.mpr e)]; rfl
      show if (!decide (V.str (S u) = V.str (S []))) = true then _ else _
      rw [e1]
      exact iteF q
    · have e1 : (!decide (V.str (S u) = V.str (S []))) = true := by rw [decide_eq_false fun z => e (hs.mp z)]; rfl
      show if (!decide (V.str (S u) = V.str (S []))) = true then _ else _
      rw [e1]
      refine iteT ⟨.str (S u), rfl, .str (S u), rfl, S u, S u, rfl, rfl, fits, u ++ u, congrArg (fun z => [V.str z]) (s_app u u), ⟨wd_append.mpr ⟨hu, hu⟩, by rw [List.length_append]; omega⟩, rfl, ?_⟩
      have e2 : decide (V.str (S (cut (u ++ u))) = V.str (S [])) = (decide (u ≠ []) && decide (cut (u ++ u) = [])) := by
        rw [decide_eq_true e, Bool.true_and]
        by_cases c : cut (u ++ u) = []
        · rw [decide_eq_true c, c]
          exact decide_eq_true rfl
        · rw [decide_eq_false c]
          exact decide_eq_false fun z => c (s_inj (V.str.inj z))
      show Q (.bl (decide (V.str (S (cut (u ++ u))) = V.str (S [])))) H
      rw [e2]
      exact q
def spNeedCodes : Sp := fun vs H Q _ => ∃ u : List Nat, vs = [.str (S u)] ∧ Wd u ∧ u.length ≤ 1000 ∧ ∀ (H' : Hp) (p : Addr), Same H H' → H p = none → H' p = some (.lst (Vi (codesOf u).reverse)) → Q (.ref p) H'
theorem ok_needCodes (T : Txt w K mg) : Ok P w K mg base 3 "need_codes" ["word"] spNeedCodes := by
  refine ok_of T.fNeedCodes fun f fd F => ?_
  obtain ⟨tM, gM⟩ := T.most
  refine F.ok scNeedCodes (fun vs H Q E h => ?_) (fun cdv A outer s H vs Q E hr h => ?_)
  · obtain ⟨u, rfl, _⟩ := h
    rfl
  · obtain ⟨u, rfl, hw, hz, q⟩ := h
    refine ⟨_, pss_cons (ps_set (i := 1) scNeedCodes.nd rfl (.inl rfl) (pe_callO (ok_coded T) hr (by decide) (by rfl) (pa_cons (pv 0) (pa_nil))))
         (pss_cons (ps_if (pt_cmpR (op_gt) (pe_callB call_len_str (by rfl) T.nlen PySem.boot_len (pa_cons (pe_callO (ok_spelled T) hr (by decide) (by rfl) (pa_cons (pv 1) (pa_nil))) (pa_nil))) (pe_glob (v := .int 9000) rfl gM ⟨_, rfl⟩) (nomark _)) (pss_one (ps_never)) (pss_nil))
         (pss_one (ps_ret (pv 1)))), ?_⟩
    have cl := codes_len _ u rfl
    refine ⟨.str (S u), rfl, u, rfl, ⟨hw, by omega⟩, fun H1 p s1 np ep => ?_⟩
    refine ⟨.ref p, rfl, p, codesOf u, rfl, .inl (.inl ep), codes_alt hw, by omega, fun H2 s2 => ?_⟩
    have e : S (spell (codesOf u)).reverse = S (cut u) := by rw [cut_codes hw]
    rw [e]
    have lc := cut_len _ u rfl hw
    refine ⟨S (cut u), rfl, Nat.le_trans lc (Nat.le_trans hz (by decide)), _, _, rfl, rfl, _, rfl, ?_⟩
    refine iteDF (by show ¬ ((9000 : Int) < ((cut u).length : Nat)); omega) ?_
    exact ⟨.ref p, rfl, q H2 p (Same.to s1 s2) np (s2 _ _ ep)⟩
/-! ### least_of_ring -/
def spIsWord : Sp := fun vs H Q _ => ∃ u : List Nat, vs = [.str (S u)] ∧ Fw u ∧ u.length ≤ 20000 ∧ ∀ H', Same H H' → Q (.bl true) H'
theorem ok_isWordL (T : Txt w K mg) : Ok P w K mg base 2 "_law_is_word" ["value"] spIsWord := by
  refine ok_of T.fLawIsWord fun f fd F => ?_
  refine F.ok scLawIsWord (fun vs H Q E h => ?_) (fun cdv A outer s H vs Q E hr h => ?_)
  · obtain ⟨u, rfl, _⟩ := h
    rfl
  · obtain ⟨u, rfl, hf, hz, q⟩ := h
    refine ⟨_, pss_cons (ps_if (PW.pt (pw_or (pt_not (pt_val (pe_callB call_isi (by rfl) T.nisinstance (by decide +kernel) (pa_cons (pv 0) (pa_cons (pe_bltn (v := .ty "str") (by rfl) T.nstr (by decide +kernel) rfl) pa_nil))))) (pw_or1 (pt_cmpR (op_neD hr.units) (pe_lc (own := [("sign", 1)]) (g := gName 1) (tt := _) (by rfl) scLawIsWord.nd (pi_str (pv 0)) (blkOk_by (N := ["value", "sign"]) (sc := defScope sLawIsWord) (by decide +kernel)) (fun _ _ _ _ _ => pg_name (i := 1) scLawIsWord.nd rfl (.inl rfl)) (fun _ _ _ _ _ => pts_one (pt_cmpR op_notIn_sign (pv 1) pe_str (by rfl))) (fun _ _ _ _ _ => pe_int)) (pe_lst (pa_nil)) (nomark _))))) (pss_one (ps_ret (pe_bl))) (pss_nil))
         (pss_one (ps_ret (pe_cmpR (op_eq) (pe_callO (ok_cut T) hr (by decide) (by rfl) (pa_cons (pv 0) (pa_nil))) (pv 0) (nomark _)))), ?_⟩
    refine ⟨.str (S u), rfl, .str (S u), .ty "str", .type "str", .type "str", true, rfl, .ty "str", .base (.str _), kit_ty (by decide +kernel), true, rfl, iteF ?_⟩
    refine ⟨.str (S u), rfl, S u, rfl, fun D nD => ⟨fun i m H' => i + m = u.length ∧ H' = upd H D (.lst []), ⟨u.length, by omega, rfl⟩, ?_⟩⟩
    rintro i m H' ⟨em, rfl⟩
    by_cases hi : i < u.length
    · refine .inr ⟨hi, fun H' => H' = upd H D (.lst []), fun H' e => ⟨m - 1, by omega, by omega, e⟩, ?_⟩
      rintro x H' ⟨rfl, c, hc, rfl⟩
      have e : u[i]? = some c := by
        have e0 : (S u).cps[i]? = u[i]? := List.getElem?_toArray
        rw [← e0]
        exact hc
      have hsg : Sg c := hf.wd c (List.mem_of_getElem? e)
      refine ⟨rfl, .str ⟨#[c]⟩, rfl, c, "012", rfl, rfl, _, rfl, ?_⟩
      have : (!decide (c ∈ ("012" : Str).cps.toList)) = false := by rcases hsg with z | z | z <;> subst z <;> decide
      rw [this]
      exact iteF rfl
    · refine .inl ⟨by show u.length ≤ i; omega, Nat.zero_le _, fun p np => ?_⟩
      have s1 := same_new (o := .lst []) nD
      have s2 := Same.to s1 (same_new (o := .lst []) np)
      refine ⟨.list [], .list [], .lst (.inl (.inl (same_new np _ _ upd_same))) .nil, .lst (.inl (.inl upd_same)) .nil, rfl, rfl, _, rfl, ?_⟩
      have : (!PyData.eqv (.list []) (.list [])) = false := by
        unfold PyData.eqv
        unfold PyData.eqvAll
        rfl
      rw [this]
      refine iteF ⟨.str (S u), rfl, u, rfl, ⟨hf.wd, hz⟩, .str (S u), rfl, rfl, ?_⟩
      rw [cut_of_fw hf, decide_eq_true rfl]
      exact q _ s2
def spPowered : Sp := fun vs H Q _ => ∃ (u : List Nat) (z : Int), vs = [.str (S u), .int z] ∧ Wd u ∧ u.length ≤ 500 ∧ -30 ≤ z ∧ z ≤ 30 ∧ Q (.str (S (cut (pwr u z)))) H
theorem mul_s (u : List Nat) (k : Nat) : Txt.mul (S u) (k : Int) = S (rep k u) := mul_list u k
theorem ok_powered (T : Txt w K mg) : Ok P w K mg base 2 "_law_powered" ["word", "times"] spPowered := by
  refine ok_of T.fLawPowered fun f fd F => ?_
  refine F.ok scLawPowered (fun vs H Q E h => ?_) (fun cdv A outer s H vs Q E hr h => ?_)
  · obtain ⟨u, z, rfl, _⟩ := h
    rfl
  · obtain ⟨u, z, rfl, hu, lu, z0, z1, q⟩ := h
    refine ⟨_, pss_one (ps_ret (pe_ifExp (pt_cmpR (op_ge) (pv 1) (pe_int) (nomark _)) (pe_callO (ok_cut T) hr (by decide) (by rfl) (pa_cons (pe_op op_mulS (pv 0) (pv 1)) (pa_nil))) (pe_callO (ok_cut T) hr (by decide) (by rfl) (pa_cons (pe_op op_mulS (pe_revS (pv 0)) (pe_op op_sub (pe_int) (pv 1))) (pa_nil))))), ?_⟩
    refine ⟨.int z, rfl, _, _, rfl, rfl, _, rfl, ?_⟩
    by_cases h0 : 0 ≤ z
    · obtain ⟨k, rfl⟩ := Int.eq_ofNat_of_zero_le h0
      have k30 : k ≤ 30 := by omega
      have lk : u.length * k ≤ 500 * 30 := Nat.mul_le_mul lu k30
      refine iteDT (by omega) ⟨.str (S u), rfl, .int (k : Int), rfl, S u, k, rfl, rfl, Nat.le_trans (show u.length * k ≤ _ from lk) (by decide), by omega, ?_⟩
      rw [mul_s]
      refine ⟨rep k u, rfl, ⟨rep_wd hu k, by rw [rep_len, Nat.mul_comm]; omega⟩, ?_⟩
      rw [pwr_nat] at q
      exact q
    · obtain ⟨k, hk⟩ := Int.eq_ofNat_of_zero_le (show 0 ≤ -z by omega)
      have ez : z = -(k : Int) := by omega
      subst ez
      have k30 : k ≤ 30 := by omega
      have lk : u.length * k ≤ 500 * 30 := Nat.mul_le_mul lu k30
      refine iteDF (by omega) ⟨.str (S u), rfl, S u, rfl, Nat.le_trans (show u.length ≤ 500 from lu) (by decide), .int (-(k : Int)), rfl, _, _, rfl, rfl, S u.reverse, k, rfl, ?_, Nat.le_trans (show u.reverse.length * k ≤ _ by rw [List.length_reverse]; exact lk) (by decide), by omega, ?_⟩
      · exact congrArg V.int (by omega)
      rw [mul_s]
      refine ⟨rep k u.reverse, rfl, ⟨rep_wd (wd_rev.mpr hu) k, by rw [rep_len, List.length_reverse, Nat.mul_comm]; omega⟩, ?_⟩
      rw [pwr_neg u (by omega)] at q
      exact q
/-- the least length whose beginning is the whole row when done over -/
def spPeriod (K : PySem.W.Frag) : Sp := fun vs H Q _ => ∃ (l : Addr) (cs : List Nat), vs = [.ref l] ∧ SqL K H l (Vi cs) ∧ cs ≠ [] ∧ cs.length ≤ 1000 ∧ ∀ (d : Nat) (H' : Hp), LeastPer cs d → Same H H' → Q (.int (d : Int)) H'
theorem ok_period (T : Txt w K mg) : Ok P w K mg base 2 "least_period" ["row"] (spPeriod K) := by
  refine ok_of T.fLeastPeriod fun f fd F => ?_
  refine F.ok scLeastPeriod (fun vs H Q E h => ?_) (fun cdv A outer s H vs Q E hr h => ?_)
  · obtain ⟨l, cs, rfl, _⟩ := h
    rfl
  · obtain ⟨l, cs, rfl, hS, hne, hz, q⟩ := h
    refine ⟨_, pss_cons (ps_for PassesOwn.never rfl (pi_range2 (by rfl) T.nrange (pa_cons (pe_int) (pa_cons (pe_op op_add (pe_callB call_len_seq (by rfl) T.nlen PySem.boot_len (pa_cons (pv 0) (pa_nil))) (pe_int)) (pa_nil)))) (pg_name (i := 1) scLeastPeriod.nd rfl (.inl rfl)) (pss_one (ps_if (PW.pt (pw_and (pt_cmpR (op_eq) (pe_op op_modN (pe_callB call_len_seq (by rfl) T.nlen PySem.boot_len (pa_cons (pv 0) (pa_nil))) (pv 1)) (pe_int) (nomark _)) (pw_and1 (pt_cmpR (op_eqD hr.units) (pe_op op_rep (pe_slice sl_list (pv 0) po_none (po_some (pv 1))) (pe_op op_fdiv (pe_callB call_len_seq (by rfl) T.nlen PySem.boot_len (pa_cons (pv 0) (pa_nil))) (pv 1))) (pv 0) (nomark _))))) (pss_one (ps_ret (pv 1))) (pss_nil))))
         (pss_one (ps_ret (pe_int))), ?_⟩
    have fit : ∀ z : Nat, z ≤ 10000 → z ≤ sizeLine := fun z hz => Nat.le_trans hz (by decide)
    have l0 : 0 < cs.length := List.length_pos_iff.mpr hne
    refine ⟨.ref l, rfl, l, Vi cs, rfl, .inl hS, _, _, rfl, rfl, 1, ((cs.length : Nat) : Int) + 1, by rw [vi_len], ⟨by decide, by decide, by omega, by omega⟩, ?_⟩
    have en : ((((cs.length : Nat) : Int) + 1) - 1).toNat = cs.length := by omega
    rw [en]
    refine for_range (lo := 1) (n := cs.length) (fun i σ H3 => ∃ y1, σ = [some (.ref l), y1] ∧ Same H H3 ∧ ∀ e, e < i + 1 → ¬ IsPer cs e) ⟨none, rfl, Same.refl _, fun e he h => by have := h.1; omega⟩ (fun i σ H3 hi h => ?_) (fun σ H3 h => ?_)
    · obtain ⟨y1, rfl, sm, hN⟩ := h
      have hl := sm.seq hS
      have ei : (1 : Int) + (i : Int) = ((i + 1 : Nat) : Int) := by omega
      rw [ei]
      refine ⟨.ref l, rfl, l, Vi cs, rfl, .inl hl, .int ((i + 1 : Nat) : Int), rfl, _, _, rfl, rfl, by omega, rfl, _, rfl, ?_⟩
      rw [vi_len]
      have em : ((cs.length : Nat) : Int).fmod ((i + 1 : Nat) : Int) = ((cs.length % (i + 1) : Nat) : Int) := by
        rw [Int.fmod_eq_emod_of_nonneg _ (by omega)]
        omega
      by_cases hm : cs.length % (i + 1) = 0
      · refine iteDT (congrArg V.int (em.trans (by rw [hm]; rfl))) ?_
        refine ⟨.ref l, rfl, .int ((i + 1 : Nat) : Int), rfl, ((i + 1 : Nat) : Int), rfl, l, Vi cs, rfl, hl, fun p1 np1 => ?_⟩
        have ec : cutV (Vi cs) none (some ((i + 1 : Nat) : Int)) = Vi (cs.take (i + 1)) := by
          rw [cutv_upto (by rw [vi_len]; omega)]
          unfold Vi
          rw [List.map_take]
        rw [ec]
        have s1 := Same.to sm (same_new (o := .lst (Vi (cs.take (i + 1)))) np1)
        have h1 : (upd H3 p1 (.lst (Vi (cs.take (i + 1))))) p1 = some (.lst (Vi (cs.take (i + 1)))) := upd_same
        generalize upd H3 p1 (.lst (Vi (cs.take (i + 1)))) = H4 at s1 h1 ⊢
        have tl : (cs.take (i + 1)).length = i + 1 := by rw [List.length_take]; omega
        have eq2 : (cs.length : Int) / ((i + 1 : Nat) : Int) = ((cs.length / (i + 1) : Nat) : Int) := by omega
        refine ⟨.ref l, rfl, l, Vi cs, rfl, .inl (s1.seq hS), .int ((i + 1 : Nat) : Int), rfl, _, _, rfl, rfl, ⟨by omega, by omega⟩, p1, ((Vi cs).length : Int) / ((i + 1 : Nat) : Int), _, rfl, rfl, h1, ?_, ?_, ?_, fun p2 np2 => ?_⟩
        · rw [vi_len, eq2]; exact Int.le_trans (by decide) (Int.natCast_nonneg _)
        · rw [vi_len, eq2]
          have : cs.length / (i + 1) ≤ cs.length := Nat.div_le_self _ _
          omega
        · rw [vi_len, vi_len, tl, eq2, Int.toNat_natCast]
          exact fit _ (by have := Nat.mul_div_le cs.length (i + 1); omega)
        · rw [vi_len, eq2, Int.toNat_natCast, vi_rep]
          have s2 := Same.to s1 (same_new (o := .lst (Vi (rep (cs.length / (i + 1)) (cs.take (i + 1))))) np2)
          refine ⟨.ref l, rfl, _, _, .lst (.inl (.inl upd_same)) (dpAll_vi _), .lst (s2.seq hS) (dpAll_vi _), shaped_vi _, shaped_vi _, _, rfl, ?_⟩
          have ee : PyData.eqv (.list ((rep (cs.length / (i + 1)) (cs.take (i + 1))).map fun (n : Nat) => PyData.int (n : Int))) (.list (cs.map fun (n : Nat) => PyData.int (n : Int))) = decide (rep (cs.length / (i + 1)) (cs.take (i + 1)) = cs) := by
            unfold PyData.eqv
            exact ints_eq _ _
          rw [ee]
          by_cases hr2 : rep (cs.length / (i + 1)) (cs.take (i + 1)) = cs
          · exact iteDT hr2 ⟨_, rfl, q (i + 1) _ ⟨⟨by omega, hm, hr2⟩, fun e he => hN e he⟩ s2⟩
          · refine iteDF hr2 ⟨_, rfl, s2, fun e he => ?_⟩
            by_cases hE : e < i + 1
            · exact hN e hE
            · have e1 : e = i + 1 := by omega
              rw [e1]
              exact fun z => hr2 z.2.2
      · refine iteDF (fun z => hm (by have z2 : ((cs.length : Nat) : Int).fmod ((i + 1 : Nat) : Int) = 0 := V.int.inj z; rw [em] at z2; omega)) (iteF ?_)
        refine ⟨_, rfl, sm, fun e he => ?_⟩
        by_cases hE : e < i + 1
        · exact hN e hE
        · have e1 : e = i + 1 := by omega
          rw [e1]
          exact fun z => hm z.2.1
    · obtain ⟨y1, rfl, sm, hN⟩ := h
      exact absurd ⟨l0, Nat.mod_self _, by rw [Nat.div_self l0, List.take_length, rep_one]⟩ (hN cs.length (by omega))
theorem pw_inj {a b : Nat} (ha : Cd a) (hb : Cd b) (h : pw a = pw b) : a = b := by
  rcases ha with e | e | e | e <;> rcases hb with f | f | f | f <;> subst e <;> subst f <;> first | rfl | exact absurd h (by decide)
theorem map_pw_inj : ∀ {A B : List Nat}, (∀ c ∈ A, Cd c) → (∀ c ∈ B, Cd c) → A.map pw = B.map pw → A = B
  | [], [], _, _, _ => rfl
  | [], _ :: _, _, _, h => by cases h
  | _ :: _, [], _, _, h => by cases h
  | a :: r, b :: s, ha, hb, h => by
    rw [List.map_cons, List.map_cons] at h
    have h1 := (List.cons.inj h).1
    have h2 := (List.cons.inj h).2
    rw [pw_inj (ha a List.mem_cons_self) (hb b List.mem_cons_self) h1, map_pw_inj (fun c hc => ha c (List.mem_cons_of_mem _ hc)) (fun c hc => hb c (List.mem_cons_of_mem _ hc)) h2]
structure Times (L : List Nat) (b : Nat) : Prop where
  one : 1 ≤ b
  is : b = 1 ∨ ∃ d, IsPer L d ∧ b = L.length / d
  most : ∀ d, d < L.length → IsPer L d → L.length / d ≤ b
def spTimes : Sp := fun vs H Q _ => ∃ u : List Nat, vs = [.str (S u)] ∧ Fw u ∧ u.length ≤ 100 ∧ ∀ (L y : List Nat) (b : Nat) (H' : Hp), RingC u L y → Times L b → Same H H' → Q (.int (b : Int)) H'
theorem ok_times (T : Txt w K mg) : Ok P w K mg base 3 "_law_root_times" ["short"] spTimes := by
  refine ok_of T.fLawRootTimes fun f fd F => ?_
  refine F.ok scLawRootTimes (fun vs H Q E h => ?_) (fun cdv A outer s H vs Q E hr h => ?_)
  · obtain ⟨u, rfl, _⟩ := h
    rfl
  · obtain ⟨u, rfl, hf, hz, q⟩ := h
    refine ⟨_, pss_cons (ps_set (i := 1) scLawRootTimes.nd rfl (.inl rfl) (pe_ix (r := rIxT K) ix_tup (pe_callO (ok_ring T) hr (by decide) (by rfl) (pa_cons (pv 0) (pa_nil))) (pe_int) (fun _ _ => rfl)))
         (pss_cons (ps_set (i := 2) scLawRootTimes.nd rfl (.inl rfl) (pe_int))
         (pss_cons (ps_for PassesOwn.never rfl (pi_range2 (by rfl) T.nrange (pa_cons (pe_int) (pa_cons (pe_callB call_len_seq (by rfl) T.nlen PySem.boot_len (pa_cons (pv 1) (pa_nil))) (pa_nil)))) (pg_name (i := 3) scLawRootTimes.nd rfl (.inl rfl)) (pss_one (ps_if (PW.pt (pw_and (pt_cmpR (op_eq) (pe_op op_modN (pe_callB call_len_seq (by rfl) T.nlen PySem.boot_len (pa_cons (pv 1) (pa_nil))) (pv 3)) (pe_int) (nomark _)) (pw_and1 (pt_cmpR (op_eqD hr.units) (pv 1) (pe_op op_rep (pe_slice sl_list (pv 1) po_none (po_some (pv 3))) (pe_op op_fdiv (pe_callB call_len_seq (by rfl) T.nlen PySem.boot_len (pa_cons (pv 1) (pa_nil))) (pv 3))) (nomark _))))) (pss_one (ps_set (i := 2) scLawRootTimes.nd rfl (.inl rfl) (pe_callB (call_max2 rfl) (by rfl) T.nmax (by decide +kernel) (pa_cons (pv 2) (pa_cons (pe_op op_fdiv (pe_callB call_len_seq (by rfl) T.nlen PySem.boot_len (pa_cons (pv 1) (pa_nil))) (pv 3)) (pa_nil)))))) (pss_nil))))
         (pss_one (ps_ret (pv 2))))), ?_⟩
    have fit : ∀ z : Nat, z ≤ 10000 → z ≤ sizeLine := fun z hz => Nat.le_trans hz (by decide)
    refine ⟨.str (S u), rfl, u, rfl, hf, hz, fun L y p0 l H1 s0 np0 nl0 el0 ep0 hR => ?_⟩
    have hll := hR.ll
    refine ⟨p0, _, _, .ref l, rfl, rfl, .inl (.inl ep0), atI_nat (j := 0) rfl, ?_⟩
    refine ⟨.ref l, rfl, l, PV L, rfl, .inl (.inl (.inl el0)), 1, ((L.length : Nat) : Int), by rw [pv_len], ⟨by decide, by decide, by omega, by omega⟩, ?_⟩
    have en : (((L.length : Nat) : Int) - 1).toNat = L.length - 1 := by omega
    rw [en]
    refine for_range (lo := 1) (n := L.length - 1) (fun i σ H3 => ∃ (b : Nat) (y3 : Option V), σ = [some (.str (S u)), some (.ref l), some (.int (b : Int)), y3] ∧ Same H H3 ∧ H3 l = some (.lst (PV L)) ∧ 1 ≤ b ∧ (b = 1 ∨ ∃ d, IsPer L d ∧ b = L.length / d) ∧ ∀ d, d < i + 1 → IsPer L d → L.length / d ≤ b) ⟨1, none, rfl, s0, el0, Nat.le_refl _, .inl rfl, fun e he h => by have := h.1; omega⟩ (fun i σ H3 hi h => ?_) (fun σ H3 h => ?_)
    · obtain ⟨b, y3, rfl, sm, el, b1, hb, hN⟩ := h
      have ei : (1 : Int) + (i : Int) = ((i + 1 : Nat) : Int) := by omega
      rw [ei]
      refine ⟨.ref l, rfl, l, PV L, rfl, .inl (.inl (.inl el)), .int ((i + 1 : Nat) : Int), rfl, _, _, rfl, rfl, by omega, rfl, _, rfl, ?_⟩
      rw [pv_len]
      have em : ((L.length : Nat) : Int).fmod ((i + 1 : Nat) : Int) = ((L.length % (i + 1) : Nat) : Int) := by
        rw [Int.fmod_eq_emod_of_nonneg _ (by omega)]
        omega
      have eq2 : (L.length : Int) / ((i + 1 : Nat) : Int) = ((L.length / (i + 1) : Nat) : Int) := by omega
      have keep : ¬ IsPer L (i + 1) → ∀ d, d < i + 1 + 1 → IsPer L d → L.length / d ≤ b := fun hn d hd hp => by
        by_cases hE : d < i + 1
        · exact hN d hE hp
        · have e1 : d = i + 1 := by omega
          rw [e1] at hp
          exact absurd hp hn
      by_cases hm : L.length % (i + 1) = 0
      · refine iteDT (congrArg V.int (em.trans (by rw [hm]; rfl))) ?_
        refine ⟨.ref l, rfl, .ref l, rfl, .int ((i + 1 : Nat) : Int), rfl, ((i + 1 : Nat) : Int), rfl, l, PV L, rfl, .inl (.inl el), fun p1 np1 => ?_⟩
        have ec : cutV (PV L) none (some ((i + 1 : Nat) : Int)) = PV (L.take (i + 1)) := by
          rw [cutv_upto (by rw [pv_len]; omega)]
          unfold PV Vs
          rw [List.map_take, List.map_take]
        rw [ec]
        have s1 := Same.to sm (same_new (o := .lst (PV (L.take (i + 1)))) np1)
        have h1 : (upd H3 p1 (.lst (PV (L.take (i + 1))))) p1 = some (.lst (PV (L.take (i + 1)))) := upd_same
        have el1 : (upd H3 p1 (.lst (PV (L.take (i + 1))))) l = some (.lst (PV L)) := same_new np1 _ _ el
        generalize upd H3 p1 (.lst (PV (L.take (i + 1)))) = H4 at s1 h1 el1 ⊢
        have tl : (L.take (i + 1)).length = i + 1 := by rw [List.length_take]; omega
        refine ⟨.ref l, rfl, l, PV L, rfl, .inl (.inl (.inl el1)), .int ((i + 1 : Nat) : Int), rfl, _, _, rfl, rfl, ⟨by omega, by omega⟩, p1, ((PV L).length : Int) / ((i + 1 : Nat) : Int), _, rfl, rfl, h1, ?_, ?_, ?_, fun p2 np2 => ?_⟩
        · rw [pv_len, eq2]; exact Int.le_trans (by decide) (Int.natCast_nonneg _)
        · rw [pv_len, eq2]
          have : L.length / (i + 1) ≤ L.length := Nat.div_le_self _ _
          omega
        · rw [pv_len, pv_len, tl, eq2, Int.toNat_natCast]
          exact fit _ (by have := Nat.mul_div_le L.length (i + 1); omega)
        · rw [pv_len, eq2, Int.toNat_natCast, pv_rep]
          have s2 := Same.to s1 (same_new (o := .lst (PV (rep (L.length / (i + 1)) (L.take (i + 1))))) np2)
          have el2 : (upd H4 p2 (.lst (PV (rep (L.length / (i + 1)) (L.take (i + 1)))))) l = some (.lst (PV L)) := same_new np2 _ _ el1
          have cdL : ∀ c ∈ L, Cd c := alt_cd hR.alt
          have cdR : ∀ c ∈ rep (L.length / (i + 1)) (L.take (i + 1)), Cd c := fun c hc => by
            unfold rep at hc
            obtain ⟨x, hx, hc2⟩ := List.mem_flatten.mp hc
            rw [List.eq_of_mem_replicate hx] at hc2
            exact cdL c (List.mem_of_mem_take hc2)
          have wdp : ∀ M : List Nat, ∀ p ∈ M.map pw, Wd p := fun M p hp => by
            obtain ⟨c, _, e⟩ := List.mem_map.mp hp
            rw [← e]
            exact pw_wd c
          refine ⟨_, _, .lst (.inl (.inl el2)) (dpAll_strs _), .lst (.inl (.inl upd_same)) (dpAll_strs _), shaped_strs (wdp L), shaped_strs (wdp _), _, rfl, ?_⟩
          have ee : PyData.eqv (.list ((L.map pw).map fun p => PyData.str (S p))) (.list (((rep (L.length / (i + 1)) (L.take (i + 1))).map pw).map fun p => PyData.str (S p))) = decide (L.map pw = (rep (L.length / (i + 1)) (L.take (i + 1))).map pw) := by
            unfold PyData.eqv
            exact strs_eq _ _
          rw [ee]
          generalize upd H4 p2 (.lst (PV (rep (L.length / (i + 1)) (L.take (i + 1))))) = H5 at s2 el2 ⊢
          by_cases hr2 : L.map pw = (rep (L.length / (i + 1)) (L.take (i + 1))).map pw
          · refine iteDT hr2 ?_
            have hp : IsPer L (i + 1) := ⟨by omega, hm, (map_pw_inj cdL cdR hr2).symm⟩
            refine ⟨.int (b : Int), rfl, .ref l, rfl, l, PV L, rfl, .inl (.inl (.inl el2)), .int ((i + 1 : Nat) : Int), rfl, _, _, rfl, rfl, ⟨by omega, by omega⟩, _, _, rfl, ?_⟩
            rw [pv_len, eq2]
            by_cases hx : b < L.length / (i + 1)
            · rw [if_pos (by omega)]
              refine ⟨_, _, rfl, s2, el2, by omega, .inr ⟨i + 1, hp, rfl⟩, fun d hd hq => ?_⟩
              by_cases hE : d < i + 1
              · have := hN d hE hq
                omega
              · have e1 : d = i + 1 := by omega
                rw [e1]
                exact Nat.le_refl _
            · rw [if_neg (by omega)]
              refine ⟨_, _, rfl, s2, el2, b1, hb, fun d hd hq => ?_⟩
              by_cases hE : d < i + 1
              · exact hN d hE hq
              · have e1 : d = i + 1 := by omega
                rw [e1]
                omega
          · exact iteDF hr2 ⟨_, _, rfl, s2, el2, b1, hb, keep fun z => hr2 (by rw [z.2.2])⟩
      · refine iteDF (fun z => hm (by have z2 : ((L.length : Nat) : Int).fmod ((i + 1 : Nat) : Int) = 0 := V.int.inj z; rw [em] at z2; omega)) (iteF ?_)
        exact ⟨_, _, rfl, sm, el, b1, hb, keep fun z => hm z.2.1⟩
    · obtain ⟨b, y3, rfl, sm, el, b1, hb, hN⟩ := h
      exact ⟨_, rfl, q L y b H3 hR ⟨b1, hb, fun d hd hp => hN d (by omega) hp⟩ sm⟩
/-! ### powers of a word -/
def add6 (ws : List (List Nat)) (x : List Nat) : List (List Nat) := if x.length ≤ 6 ∧ x ∉ ws then ws ++ [x] else ws
def pws (u : List Nat) : Nat → List (List Nat)
  | 0 => []
  | i + 1 => add6 (add6 (pws u i) (cut (pwr u (i : Int)))) (cut (pwr u (0 - (i : Int))))
theorem mem_add6 {ws : List (List Nat)} {x y : List Nat} : y ∈ add6 ws x ↔ y ∈ ws ∨ (y = x ∧ x.length ≤ 6) := by
  unfold add6
  split
  · next h =>
    rw [List.mem_append, List.mem_singleton]
    exact ⟨fun z => z.elim .inl fun e => .inr ⟨e, h.1⟩, fun z => z.elim .inl fun e => .inr e.1⟩
  · next h =>
    refine ⟨.inl, fun z => z.elim id fun e => ?_⟩
    by_cases hx : x ∈ ws
    · rw [e.1]; exact hx
    · exact absurd ⟨e.2, hx⟩ h
theorem add6_nodup {ws : List (List Nat)} {x : List Nat} (h : ws.Nodup) : (add6 ws x).Nodup := by
  unfold add6
  split
  · next c =>
    exact List.nodup_append.mpr ⟨h, List.nodup_cons.mpr ⟨by simp, List.nodup_nil⟩, fun a ha b hb z => c.2 (by rw [← List.mem_singleton.mp hb, ← z]; exact ha)⟩
  · exact h
theorem add6_len (ws : List (List Nat)) (x : List Nat) : (add6 ws x).length ≤ ws.length + 1 := by
  unfold add6
  split
  · simp
  · omega
theorem pws_nodup (u : List Nat) : ∀ i, (pws u i).Nodup
  | 0 => List.nodup_nil
  | i + 1 => add6_nodup (add6_nodup (pws_nodup u i))
theorem pws_len (u : List Nat) : ∀ i, (pws u i).length ≤ 2 * i
  | 0 => Nat.le_refl _
  | i + 1 => by
    have h := pws_len u i
    have h1 := add6_len (pws u i) (cut (pwr u (i : Int)))
    have h2 := add6_len (add6 (pws u i) (cut (pwr u (i : Int)))) (cut (pwr u (0 - (i : Int))))
    show (add6 (add6 (pws u i) (cut (pwr u (i : Int)))) (cut (pwr u (0 - (i : Int))))).length ≤ _
    omega
theorem pwr_back (u : List Nat) (i : Nat) : pwr u (0 - (i : Int)) = rep i u.reverse := by
  by_cases h : i = 0
  · subst h
    rfl
  · have : (0 : Int) - (i : Int) = -(i : Int) := by omega
    rw [this, pwr_neg u (by omega)]
theorem mem_pws {u x : List Nat} : ∀ {i : Nat}, x ∈ pws u i ↔ x.length ≤ 6 ∧ ∃ t, t < i ∧ (x = cut (rep t u) ∨ x = cut (rep t u.reverse))
  | 0 => ⟨(fun h => by cases h), fun ⟨_, t, h, _⟩ => absurd h (Nat.not_lt_zero _)⟩
  | i + 1 => by
    show x ∈ add6 (add6 (pws u i) (cut (pwr u (i : Int)))) (cut (pwr u (0 - (i : Int)))) ↔ _
    rw [mem_add6, mem_add6, mem_pws, pwr_nat, pwr_back]
    constructor
    · rintro ((⟨h, t, ht, e⟩ | ⟨e, h⟩) | ⟨e, h⟩)
      · exact ⟨h, t, by omega, e⟩
      · exact ⟨by rw [e]; exact h, i, by omega, .inl e⟩
      · exact ⟨by rw [e]; exact h, i, by omega, .inr e⟩
    · rintro ⟨h, t, ht, e⟩
      by_cases hE : t < i
      · exact .inl (.inl ⟨h, t, hE, e⟩)
      · have e1 : t = i := by omega
        rw [e1] at e
        rcases e with e | e
        · exact .inl (.inr ⟨e, by rw [← e]; exact h⟩)
        · exact .inr ⟨e, by rw [← e]; exact h⟩
theorem inV_strs (x : List Nat) : ∀ ws : List (List Nat), inV (V.str (S x)) (Vs ws) = decide (x ∈ ws)
  | [] => rfl
  | y :: r => by
    have ih := inV_strs x r
    unfold inV at ih ⊢
    show (eqV (V.str (S y)) (V.str (S x)) || (Vs r).any fun y => eqV y (V.str (S x))) = _
    rw [ih]
    have e : eqV (V.str (S y)) (V.str (S x)) = decide (x = y) := by
      show (S y == S x) = _
      by_cases h : x = y
      · subst h
        rw [decide_eq_true rfl]
        exact beq_self_eq_true _
      · rw [decide_eq_false h]
        exact beq_false_of_ne fun z => h (s_inj z).symm
    rw [e]
    by_cases h : x = y
    · have hm : x ∈ y :: r := h ▸ List.mem_cons_self
      rw [decide_eq_true h, decide_eq_true hm]
      rfl
    · by_cases h2 : x ∈ r
      · rw [decide_eq_true h2, decide_eq_true (List.mem_cons_of_mem _ h2), Bool.or_true]
      · rw [decide_eq_false h, decide_eq_false h2, decide_eq_false (fun z => (List.mem_cons.mp z).elim h h2)]
        rfl
theorem flat_vs (ws : List (List Nat)) : (Vs ws).all flatV = true := by
  unfold Vs
  rw [List.all_map, List.all_eq_true]
  intro x _
  rfl
def spPowers : Sp := fun vs H Q _ => ∃ u : List Nat, vs = [.str (S u)] ∧ Wd u ∧ u.length ≤ 500 ∧ ∀ (p : Addr) (H' : Hp), Same H H' → H p = none → H' p = some (.lst (Vs (pws u 7))) → Q (.ref p) H'
theorem ok_powers (T : Txt w K mg) : Ok P w K mg base 3 "_law_powers" ["word"] spPowers := by
  refine ok_of T.fLawPowers fun f fd F => ?_
  refine F.ok scLawPowers (fun vs H Q E h => ?_) (fun cdv A outer s H vs Q E hr h => ?_)
  · obtain ⟨u, rfl, _⟩ := h
    rfl
  · obtain ⟨u, rfl, hu, hz, q⟩ := h
    refine ⟨_, pss_cons (ps_set (i := 1) scLawPowers.nd rfl (.inl rfl) (pe_lst (pa_nil)))
         (pss_cons (ps_for PassesOwn.never rfl (pi_range1 (by rfl) T.nrange (pa_cons (pe_int) (pa_nil))) (pg_name (i := 2) scLawPowers.nd rfl (.inl rfl)) (pss_one (ps_for PassesOwn.never rfl (pi_list (pe_lst (pa_cons (pe_callO (ok_powered T) hr (by decide) (by rfl) (pa_cons (pv 0) (pa_cons (pv 2) (pa_nil)))) (pa_cons (pe_callO (ok_powered T) hr (by decide) (by rfl) (pa_cons (pv 0) (pa_cons (pe_op op_sub (pe_int) (pv 2)) (pa_nil)))) (pa_nil))))) (pg_name (i := 3) scLawPowers.nd rfl (.inl rfl)) (pss_one (ps_if (PW.pt (pw_and (pt_cmpR (op_le) (pe_callB call_len_str (by rfl) T.nlen PySem.boot_len (pa_cons (pv 3) (pa_nil))) (pe_int) (nomark _)) (pw_and1 (pt_cmpR op_notIn_seq (pv 3) (pv 1) (by rfl))))) (pss_one (ps_expr (pe_bm PySem.F.plainAttrs_list PySem.F.slot_list_append PySem.F.type_list_append mt_append (pv 1) (pa_cons (pv 3) (pa_nil))))) (pss_nil))))))
         (pss_one (ps_ret (pv 1)))), ?_⟩
    have fit : ∀ z : Nat, z ≤ 100000 → z ≤ sizeLine := fun z hz => Nat.le_trans hz (by decide)
    refine ⟨Nat.zero_le _, fun l nl => ?_⟩
    refine ⟨7, rfl, by decide, by decide, ?_⟩
    refine for_range (lo := 0) (n := 7) (fun i σ H3 => ∃ y2 y3, σ = [some (.str (S u)), some (.ref l), y2, y3] ∧ Same H H3 ∧ H3 l = some (.lst (Vs (pws u i)))) ⟨none, none, rfl, same_new nl, upd_same⟩ (fun i σ H3 hi h => ?_) (fun σ H3 h => ?_)
    · obtain ⟨y2, y3, rfl, sm, el⟩ := h
      have ei : (0 : Int) + (i : Int) = (i : Int) := by omega
      rw [ei]
      refine ⟨.str (S u), rfl, .int (i : Int), rfl, u, (i : Int), rfl, hu, hz, by omega, by omega, .str (S u), rfl, .int (i : Int), rfl, _, _, rfl, rfl, u, 0 - (i : Int), rfl, hu, hz, by omega, by omega, by show 2 ≤ sizeLine; decide, fun p1 np1 => ?_⟩
      have s1 := Same.to sm (same_new (o := .lst [.str (S (cut (pwr u (i : Int)))), .str (S (cut (pwr u (0 - (i : Int)))))]) np1)
      have e1 : (upd H3 p1 (.lst [.str (S (cut (pwr u (i : Int)))), .str (S (cut (pwr u (0 - (i : Int)))))])) p1 = some (.lst (Vs [cut (pwr u (i : Int)), cut (pwr u (0 - (i : Int)))])) := upd_same
      have el1 : (upd H3 p1 (.lst [.str (S (cut (pwr u (i : Int)))), .str (S (cut (pwr u (0 - (i : Int)))))])) l = some (.lst (Vs (pws u i))) := same_new np1 _ _ el
      have ne : l ≠ p1 := fun e => by rw [e] at el; rw [np1] at el; cases el
      generalize upd H3 p1 (.lst [.str (S (cut (pwr u (i : Int)))), .str (S (cut (pwr u (0 - (i : Int)))))]) = H4 at s1 e1 el1 ⊢
      have lens : ∀ x ∈ [cut (pwr u (i : Int)), cut (pwr u (0 - (i : Int)))], x.length ≤ 100000 := by
        have lc : ∀ k, k < 7 → ∀ v : List Nat, Wd v → v.length ≤ 500 → (cut (rep k v)).length ≤ 100000 := fun k hk v hv lv => by
          have := cut_len _ _ rfl (rep_wd hv k)
          rw [rep_len] at this
          have : k * v.length ≤ 7 * 500 := Nat.mul_le_mul (by omega) lv
          omega
        intro x hx
        rcases List.mem_cons.mp hx with e | e
        · rw [e, pwr_nat]
          exact lc i hi u hu hz
        · rw [List.mem_singleton.mp e, pwr_back]
          exact lc i hi _ (wd_rev.mpr hu) (by rw [List.length_reverse]; exact hz)
      have fin : pws u (i + 1) = [cut (pwr u (i : Int)), cut (pwr u (0 - (i : Int)))].foldl add6 (pws u i) := rfl
      have few : ∀ j, (([cut (pwr u (i : Int)), cut (pwr u (0 - (i : Int)))].take j).foldl add6 (pws u i)).length ≤ 1000 := fun j => by
        have h0 := pws_len u i
        have h1 := add6_len (pws u i) (cut (pwr u (i : Int)))
        have h2 := add6_len (add6 (pws u i) (cut (pwr u (i : Int)))) (cut (pwr u (0 - (i : Int))))
        match j with
        | 0 => show (pws u i).length ≤ _; omega
        | 1 => show (add6 (pws u i) (cut (pwr u (i : Int)))).length ≤ _; omega
        | j + 2 =>
          have : ([cut (pwr u (i : Int)), cut (pwr u (0 - (i : Int)))].take (j + 2)) = [cut (pwr u (i : Int)), cut (pwr u (0 - (i : Int)))] := List.take_of_length_le (by simp)
          rw [this]
          show (add6 (add6 (pws u i) (cut (pwr u (i : Int)))) (cut (pwr u (0 - (i : Int))))).length ≤ _
          omega
      generalize [cut (pwr u (i : Int)), cut (pwr u (0 - (i : Int)))] = xs at e1 lens fin few
      refine ⟨p1, rfl, ⟨Vs xs, .inl (.inl e1)⟩, ?_⟩
      refine for_list (K := K) (xs := Vs xs) (fun j σ H2 => ∃ y3, σ = [some (.str (S u)), some (.ref l), some (.int (i : Int)), y3] ∧ Same H H2 ∧ H2 p1 = some (.lst (Vs xs)) ∧ H2 l = some (.lst (Vs ((xs.take j).foldl add6 (pws u i)))))
        ⟨y3, rfl, s1, e1, el1⟩ (fun j σ H2 hj h => ?_) (fun j x σ H2 hx h => ?_) (fun σ H2 h => ?_)
      · obtain ⟨_, _, _, e, _⟩ := h
        exact .inl (.inl e)
      · obtain ⟨z3, rfl, sm2, e2, el2⟩ := h
        obtain ⟨v, hv, rfl⟩ : ∃ v, xs[j]? = some v ∧ x = .str (S v) := by
          unfold Vs at hx
          rw [List.getElem?_map] at hx
          cases e : xs[j]? with
          | none => rw [e] at hx; cases hx
          | some v => rw [e] at hx; exact ⟨v, rfl, (Option.some.inj hx).symm⟩
        have lv := lens v (List.mem_of_getElem? hv)
        have step : (xs.take (j + 1)).foldl add6 (pws u i) = add6 ((xs.take j).foldl add6 (pws u i)) v := by
          rw [List.take_succ, hv]
          show List.foldl add6 _ (_ ++ [v]) = _
          rw [List.foldl_append]
          rfl
        have fj := few j
        rw [step]
        generalize (xs.take j).foldl add6 (pws u i) = ws at el2 fj ⊢
        refine ⟨.str (S v), rfl, S v, rfl, fit _ lv, _, _, rfl, rfl, _, rfl, ?_⟩
        by_cases h6 : v.length ≤ 6
        · refine iteDT (show ((S v).length : Int) ≤ 6 from by show ((v.length : Nat) : Int) ≤ 6; omega) ?_
          refine ⟨.str (S v), rfl, .ref l, rfl, l, Vs ws, rfl, .inl (.inl (.inl el2)), rfl, flat_vs ws, _, rfl, ?_⟩
          rw [inV_strs]
          by_cases hin : v ∈ ws
          · rw [decide_eq_true hin]
            refine iteF ⟨_, rfl, sm2, e2, ?_⟩
            rw [el2]
            unfold add6
            rw [if_neg fun z => z.2 hin]
          · rw [decide_eq_false hin]
            refine iteT ⟨.ref l, rfl, .inl ⟨rfl, _, .inl (.inl el2)⟩, .str (S v), rfl, l, _, _, rfl, rfl, el2, ?_, ?_⟩
            · rw [vs_len]
              exact Nat.lt_of_le_of_lt fj (by decide)
            · refine ⟨_, rfl, same_mut sm2 nl, by rw [upd_ne (fun e => ne e.symm)]; exact e2, ?_⟩
              rw [upd_same]
              unfold add6
              rw [if_pos ⟨h6, hin⟩, vs_snoc]
        · refine iteDF (show ¬ ((S v).length : Int) ≤ 6 from by show ¬ ((v.length : Nat) : Int) ≤ 6; omega) (iteF ⟨_, rfl, sm2, e2, ?_⟩)
          rw [el2]
          unfold add6
          rw [if_neg fun z => h6 z.1]
      · obtain ⟨z3, rfl, sm2, e2, el2⟩ := h
        refine ⟨_, _, rfl, sm2, ?_⟩
        rw [vs_len, List.take_length, ← fin] at el2
        exact el2
    · obtain ⟨y2, y3, rfl, sm, el⟩ := h
      exact ⟨.ref l, rfl, q l H3 sm nl el⟩
end
end K6

namespace K6
open PySem PySem.Spec PyProof.Rows L2 Nr Nw
theorem E2.symm {u v : List Nat} (h : E2 u v) : E2 v u := fun s hs => (h s hs).symm
theorem cut_e2 {u : List Nat} (h : Wd u) : E2 (cut u) u := e2_of (cut_wd h) h (cut_cut h)
theorem Root.zero {u m ρ A t : List Nat} {k j : Nat} (R : Root u m ρ A t k) (h : E2 (rep j t) []) : j = 0 := by
  by_cases j0 : j = 0
  · exact j0
  · have hc := conj_rep R.wm (flat_wd A) R.wt R.et j
    rw [← flat_rep] at hc
    have pj := prs_rep (root_prs R.pr R.Ane R.hk R.eA) j
    have lj : (rep j A).length = j * A.length := rep_len j A
    have lA : 0 < A.length := List.length_pos_iff.mpr R.Ane
    have pos : 0 < j * A.length := Nat.mul_pos (by omega) lA
    have ne : rep j A ≠ [] := fun z => by rw [z] at lj; simp at lj; omega
    have h1 := conj_long pj ne R.wm (rep_wd R.wt j) hc
    rw [cut_of h] at h1
    have : (cut []).length = 0 := rfl
    omega
theorem Root.inj' {u m ρ A t : List Nat} {k a b : Nat} (R : Root u m ρ A t k) (ab : a ≤ b) (h : E2 (rep b t) (rep a t)) : a = b := by
  have wa := rep_wd R.wt a
  have e : rep b t = rep a t ++ rep (b - a) t := by rw [← rep_add]; congr 1; omega
  rw [e] at h
  have h1 := E2.app (wd_rev.mpr wa) (E2.id (rep a t).reverse) h
  have h2 := h1.trans (E2.home' wa)
  rw [← List.append_assoc] at h2
  have h3 := E2.app (wd_append.mpr ⟨wd_rev.mpr wa, wa⟩) (E2.home' wa) (E2.id (rep (b - a) t))
  rw [List.nil_append] at h3
  have := R.zero (h3.symm.trans h2)
  omega
theorem Root.inj {u m ρ A t : List Nat} {k a b : Nat} (R : Root u m ρ A t k) (h : E2 (rep a t) (rep b t)) : a = b := by
  rcases Nat.le_total a b with c | c
  · exact R.inj' c h.symm
  · exact (R.inj' c h).symm
theorem rep_e2 {x y : List Nat} (hx : Wd x) (h : E2 x y) : ∀ k, E2 (rep k x) (rep k y)
  | 0 => E2.id _
  | k + 1 => by
    rw [rep_succ, rep_succ]
    exact E2.app hx h (rep_e2 hx h k)
theorem Root.same {u m m' ρ A t t' : List Nat} {k : Nat} (R : Root u m ρ A t k) (R' : Root u m' ρ A t' k) (ft : Fw t) (ft' : Fw t') : t = t' := by
  have hk := R.hk
  have cm : Cm u t' := R'.comm_of R'.wt (j := 1) (.inl (by rw [rep_one]; exact E2.id _))
  obtain ⟨j, h⟩ := R.comm R'.wt cm
  have e0 : E2 (rep k t') (rep k t) := R'.pow.trans R.pow.symm
  rcases h with h | h
  · have e1 := rep_e2 (rep_wd R.wt j) h k
    rw [rep_mul] at e1
    have e2 := R.inj (e1.trans e0)
    have j1 : j = 1 := by
      rcases j with _ | _ | j
      · omega
      · rfl
      · have : k * (j + 1 + 1) = k * j + k + k := by rw [Nat.mul_add, Nat.mul_add, Nat.mul_one]
        omega
    rw [j1, rep_one] at h
    have := cut_of h
    rw [cut_of_fw ft, cut_of_fw ft'] at this
    exact this
  · have e1 := rep_e2 (rep_wd (wd_rev.mpr R.wt) j) h k
    rw [rep_mul] at e1
    have e2 := e1.trans e0
    have w := rep_wd R.wt (k * j)
    have e3 := E2.app w (E2.id (rep (k * j) t)) e2
    rw [← rep_rev, ← rep_add] at e3
    have := R.zero (e3.symm.trans (E2.home w))
    omega
theorem least_uniq {ρ : List Nat} {d e : Nat} (h : LeastPer ρ d) (k : LeastPer ρ e) : d = e := by
  rcases Nat.lt_trichotomy d e with c | c | c
  · exact absurd h.per (k.least d c)
  · exact c
  · exact absurd k.per (h.least e c)
/-- a word's root -/
inductive RC (u t : List Nat) (k : Nat) : Prop
  | non (h : cut u = []) (e : t = []) (e1 : k = 1) : RC u t k
  | mir (X : List Nat) (c : Nat) (M : Mir u X c) (e : t = cut u) (e1 : k = 1) (lx : (flat X).length ≤ 200) : RC u t k
  | root (m ρ A : List Nat) (d : Nat) (R : Root u m ρ A t k) (g : Rg (codesOf u).reverse ρ) (hd : LeastPer ρ d) (hA : A = ρ.take d) (hk : k = ρ.length / d) (ft : Fw t) (lt : t.length ≤ 500) : RC u t k
theorem unw_word {u mv rg : List Nat} (hu : Wd u) (h : Unw (codesOf u).reverse mv rg) : E2 ((flat mv).reverse ++ flat rg ++ flat mv) u := by
  refine h.eq.trans ?_
  rw [flat_eq, List.reverse_reverse, ← cut_codes hu]
  exact cut_e2 hu
theorem cut_flat_codes {u : List Nat} (hu : Wd u) : cut u = flat (codesOf u).reverse := by
  rw [flat_eq, List.reverse_reverse, ← cut_codes hu]
theorem pal_nil {X : List Nat} (h : Alt (X.reverse ++ X)) : X = [] := by
  cases X with
  | nil => rfl
  | cons a r =>
    exact absurd rfl ((alt_app.mp h).2.2 a a (by rw [List.getLast?_reverse]; rfl) rfl)
theorem unw_mir {u X : List Nat} {c : Nat} (hu : Wd u) (h : (codesOf u).reverse = X.reverse ++ [c] ++ X) : Mir u X c :=
  ⟨hu, by rw [← h]; exact alt_rev (codes_alt hu), by rw [cut_flat_codes hu, h]⟩
theorem unw_root {u mv rg : List Nat} {d : Nat} (hu : Wd u) (h : Unw (codesOf u).reverse mv rg) (h2 : 2 ≤ rg.length) (hd : LeastPer rg d) :
    Root u (flat mv) rg (rg.take d) (cut (cut (cut (flat mv).reverse ++ flat (rg.take d)) ++ flat mv)) (rg.length / d) := by
  have ne : rg ≠ [] := fun z => by rw [z] at h2; simp at h2
  obtain ⟨a1, a2, a3, a4, a5⟩ := least_root ne hd
  have pr : Prs rg := by
    rcases rg_ok h.rr (alt_rev (codes_alt hu)) with ⟨c, _, z⟩ | z
    · rw [z] at h2; simp at h2
    · exact z
  have w1 := flat_wd mv
  have w2 := flat_wd (rg.take d)
  have e : cut (cut (cut (flat mv).reverse ++ flat (rg.take d)) ++ flat mv) = cut ((flat mv).reverse ++ flat (rg.take d) ++ flat mv) := by
    rw [cut_app_l (wd_append.mpr ⟨cut_wd (wd_rev.mpr w1), w2⟩)]
    rw [List.append_assoc, cut_app_l (wd_rev.mpr w1), ← List.append_assoc]
  have wall : Wd ((flat mv).reverse ++ flat (rg.take d) ++ flat mv) := wd_append.mpr ⟨wd_append.mpr ⟨wd_rev.mpr w1, w2⟩, w1⟩
  rw [e]
  exact ⟨hu, w1, unw_word hu h, pr, ne, a3, a4, a1, a5, cut_wd wall, (cut_e2 wall).symm⟩
section
variable {P : Program} {w : World} {K : PySem.W.Frag} {mg : Str → Option Value} {base : Heap}
def spRoot : Sp := fun vs H Q _ => ∃ u : List Nat, vs = [.str (S u)] ∧ Wd u ∧ u.length ≤ 40 ∧ ∀ (t : List Nat) (k : Nat) (p : Addr) (H' : Hp), RC u t k → Same H H' → H p = none → H' p = some (.tup [.str (S t), .int (k : Int)]) → Q (.ref p) H'
theorem ok_root (T : Txt w K mg) : Ok P w K mg base 4 "root" ["word"] spRoot := by
  refine ok_of T.fRoot fun f fd F => ?_
  refine F.ok scRoot (fun vs H Q E h => ?_) (fun cdv A outer s H vs Q E hr h => ?_)
  · obtain ⟨u, rfl, _⟩ := h
    rfl
  · obtain ⟨u, rfl, hu, hz, q⟩ := h
    refine ⟨_, pss_cons (ps_set (i := 1) scRoot.nd rfl (.inl rfl) (pe_callO (ok_needCodes T) hr (by decide) (by rfl) (pa_cons (pe_callO (ok_need T) hr (by decide) (by rfl) (pa_cons (pv 0) (pa_nil))) (pa_nil))))
         (pss_cons (ps_asg (pe_callO (ok_unwound T) hr (by decide) (by rfl) (pa_cons (pv 1) (pa_nil))) (pg_tup rfl (pgs_cons (pg_name (i := 5) scRoot.nd rfl (.inl rfl)) (pgs_cons (pg_name (i := 6) scRoot.nd rfl (.inl rfl)) (pgs_nil)))))
         (pss_cons (ps_if (pt_cmpR (op_lt) (pe_callB call_len_seq (by rfl) T.nlen PySem.boot_len (pa_cons (pv 6) (pa_nil))) (pe_int) (nomark _)) (pss_one (ps_ret (pe_tup (pa_cons (pe_callO (ok_spelled T) hr (by decide) (by rfl) (pa_cons (pv 1) (pa_nil))) (pa_cons (pe_int) (pa_nil)))))) (pss_nil))
         (pss_cons (ps_set (i := 2) scRoot.nd rfl (.inl rfl) (pe_callO (ok_period T) hr (by decide) (by rfl) (pa_cons (pv 6) (pa_nil))))
         (pss_cons (ps_set (i := 3) scRoot.nd rfl (.inl rfl) (pe_callO (ok_spelled T) hr (by decide) (by rfl) (pa_cons (pv 5) (pa_nil))))
         (pss_cons (ps_set (i := 4) scRoot.nd rfl (.inl rfl) (pe_callO (ok_joined T) hr (by decide) (by rfl) (pa_cons (pe_callO (ok_joined T) hr (by decide) (by rfl) (pa_cons (pe_callO (ok_backText T) hr (by decide) (by rfl) (pa_cons (pv 3) (pa_nil))) (pa_cons (pe_callO (ok_spelled T) hr (by decide) (by rfl) (pa_cons (pe_slice sl_list (pv 6) po_none (po_some (pv 2))) (pa_nil))) (pa_nil)))) (pa_cons (pv 3) (pa_nil)))))
         (pss_one (ps_ret (pe_tup (pa_cons (pv 4) (pa_cons (pe_op op_fdiv (pe_callB call_len_seq (by rfl) T.nlen PySem.boot_len (pa_cons (pv 6) (pa_nil))) (pv 2)) (pa_nil))))))))))), ?_⟩
    refine ⟨.str (S u), rfl, u, rfl, hu, fun H1 s1 => ⟨u, rfl, hu, by omega, fun H2 l s2 nl el => ?_⟩⟩
    have sA := Same.to s1 s2
    have nl0 := none_of s1 nl
    have al : Alt (codesOf u).reverse := alt_rev (codes_alt hu)
    have lc := codes_len _ u rfl
    have lcr : (codesOf u).reverse.length ≤ 40 := by rw [List.length_reverse]; omega
    refine ⟨.ref l, rfl, l, _, rfl, .inl (.inl el), al, by omega, fun mv rg p0 a b H3 hU s3 np0 na nb ea eb ep0 => ?_⟩
    have lm := hU.lm
    have lr := hU.lr
    have fm := flat_len mv
    have fr := flat_len rg
    refine ⟨p0, _, rfl, .inl (.inl ep0), rfl, _, _, rfl, _, _, rfl, rfl, ?_⟩
    refine ⟨.ref b, rfl, b, _, rfl, .inl (.inl (.inl eb)), _, _, rfl, rfl, _, rfl, ?_⟩
    rw [vi_len]
    have sB := Same.to sA s3
    by_cases h2 : rg.length < 2
    · refine iteDT (by omega) ?_
      refine ⟨.ref l, rfl, l, codesOf u, rfl, .inl (.inl (s3 _ _ el)), codes_alt hu, by omega, fun H4 s4 => ?_⟩
      have ew : (spell (codesOf u)).reverse = cut u := (cut_codes hu).symm
      rw [ew]
      refine ⟨by show 2 ≤ sizeLine; decide, fun p1 np1 => ?_⟩
      have sC := Same.to sB s4
      refine q (cut u) 1 p1 _ ?_ (Same.to sC (same_new np1)) (none_of sC np1) upd_same
      have hs := hU.sh h2
      match rg, h2 with
      | [], _ =>
        have e0 : mv = [] := pal_nil (by rw [hs] at al; simpa using al)
        have e1 : cut u = [] := by rw [cut_flat_codes hu, hs, e0]; rfl
        exact .non e1 e1 rfl
      | [c], _ => exact .mir mv c (unw_mir hu hs) rfl rfl (by omega)
      | _ :: _ :: _, h => exact absurd h (by simp)
    · refine iteDF (by omega) ?_
      have ne : rg ≠ [] := fun z => by rw [z] at h2; simp at h2
      refine ⟨.ref b, rfl, b, rg, rfl, .inl (.inl eb), ne, by omega, fun d H4 hd s4 => ?_⟩
      obtain ⟨a1, a2, a3, a4, a5⟩ := least_root ne hd
      have d1 := hd.per.1
      have dl : d ≤ rg.length := by
        have := congrArg List.length (List.take_append_drop d rg)
        rw [List.length_append, a2] at this
        omega
      refine ⟨.ref a, rfl, a, mv.reverse, rfl, .inl (.inl (by rw [List.reverse_reverse]; exact s4 _ _ ea)), alt_rev hU.am, by rw [List.length_reverse]; omega, fun H5 s5 => ?_⟩
      rw [← flat_eq]
      have fmv := flat_fw hU.am
      have aA : Alt (rg.take d) := (alt_app.mp (by rw [List.take_append_drop]; exact hU.ar : Alt (rg.take d ++ rg.drop d))).1
      have fA := flat_len (rg.take d)
      refine ⟨.str (S (flat mv)), rfl, flat mv, rfl, fmv, by omega, ?_⟩
      have eb5 := s5 _ _ (s4 _ _ eb)
      refine ⟨.ref b, rfl, .int (d : Int), rfl, (d : Int), rfl, b, Vi rg, rfl, .inl (.inl eb5), fun p1 np1 => ?_⟩
      have ec : cutV (Vi rg) none (some (d : Int)) = Vi (rg.take d) := by
        rw [cutv_upto (by rw [vi_len]; omega)]
        unfold Vi
        rw [List.map_take]
      rw [ec]
      have s6 := same_new (o := .lst (Vi (rg.take d))) np1
      refine ⟨p1, (rg.take d).reverse, rfl, .inl (.inl (by rw [List.reverse_reverse]; exact upd_same)), alt_rev aA, by rw [List.length_reverse]; omega, fun H6 s7 => ?_⟩
      rw [← flat_eq]
      have w1 := flat_wd mv
      have w2 := flat_wd (rg.take d)
      have wc : Wd (cut (flat mv).reverse) := cut_wd (wd_rev.mpr w1)
      have l1 := cut_len _ _ rfl (wd_rev.mpr w1)
      rw [List.length_reverse] at l1
      have wc2 : Wd (cut (flat mv).reverse ++ flat (rg.take d)) := wd_append.mpr ⟨wc, w2⟩
      have l2 := cut_len _ _ rfl wc2
      rw [List.length_append] at l2
      have wc3 : Wd (cut (cut (flat mv).reverse ++ flat (rg.take d)) ++ flat mv) := wd_append.mpr ⟨cut_wd wc2, w1⟩
      have l3 := cut_len _ _ rfl wc3
      rw [List.length_append] at l3
      refine ⟨_, _, rfl, ⟨fw_cut (wd_rev.mpr w1), by omega⟩, ⟨flat_fw aA, by omega⟩, .str (S (flat mv)), rfl, _, _, rfl, ⟨fw_cut wc2, by omega⟩, ⟨fmv, by omega⟩, ?_⟩
      have s8 := Same.to s5 (Same.to s6 s7)
      have eb8 := s7 _ _ (s6 _ _ eb5)
      refine ⟨.str (S (cut (cut (cut (flat mv).reverse ++ flat (rg.take d)) ++ flat mv))), rfl, .ref b, rfl, b, _, rfl, .inl (.inl (.inl eb8)), .int (d : Int), rfl, _, _, rfl, rfl, ⟨by omega, by omega⟩, ?_⟩
      refine ⟨by show 2 ≤ sizeLine; decide, fun p2 np2 => ?_⟩
      have sC := Same.to sB (Same.to s4 s8)
      rw [vi_len] at *
      have eq2 : (rg.length : Int) / (d : Int) = ((rg.length / d : Nat) : Int) := by omega
      refine q _ (rg.length / d) p2 _ (.root (flat mv) rg (rg.take d) d (unw_root hu hU (by omega) hd) hU.rr hd rfl rfl (fw_cut wc3) (by omega)) (Same.to sC (same_new np2)) (none_of sC np2) ?_
      rw [upd_same]
      dsimp only
      rw [eq2]
theorem least_of {P : Nat → Prop} : ∀ n : Nat, P n → ∃ d, P d ∧ ∀ e, e < d → ¬ P e := fun n => Nat.strongRecOn n fun n ih h => by
  by_cases c : ∃ e, e < n ∧ P e
  · obtain ⟨e, he, hp⟩ := c
    exact ih e he hp
  · exact ⟨n, h, fun e he hp => c ⟨e, he, hp⟩⟩
theorem least_ex {ρ : List Nat} (h : ρ ≠ []) : ∃ d, LeastPer ρ d := by
  have l0 := List.length_pos_iff.mpr h
  obtain ⟨d, a, b⟩ := least_of (P := IsPer ρ) ρ.length ⟨l0, Nat.mod_self _, by rw [Nat.div_self l0, List.take_length, rep_one]⟩
  exact ⟨d, a, b⟩
/-! ### what commutes with a word -/
def oth (X : List Nat) (a : Nat) : List Nat := flat (X.reverse ++ [a] ++ X)
structure Few (u : List Nat) (ts : List (List Nat)) (X : List Nat) (c : Nat) : Prop where
  m : Mir u X c
  ts : (c = 4 ∧ ts = [[], cut u]) ∨ (c ≠ 4 ∧ ts = [] :: ([1, 2, 3] : List Nat).map (oth X))
  lx : (flat X).length ≤ 100
def spCom : Sp := fun vs H Q _ => ∃ u : List Nat, vs = [.str (S u)] ∧ Wd u ∧ u.length ≤ 40 ∧
  (∀ (p q : Addr) (H' : Hp), cut u = [] → Same H H' → H p = none → H' p = some (.tup [.str "all", .ref q]) → H' q = some (.tup []) → Q (.ref p) H') ∧
  (∀ (t : List Nat) (k : Nat) (p q : Addr) (H' : Hp), cut u ≠ [] → cut (u ++ u) ≠ [] → RC u t k → Same H H' → H p = none → H' p = some (.tup [.str "powers", .ref q]) → H' q = some (.tup [.str (S t)]) → Q (.ref p) H') ∧
  ∀ (ts : List (List Nat)) (X : List Nat) (c : Nat) (p q : Addr) (H' : Hp), Few u ts X c → Same H H' → H p = none → H' p = some (.tup [.str "few", .ref q]) → H' q = some (.tup (Vs ts)) → Q (.ref p) H'
theorem signs_at {c : Nat} (h : Cd c) : atI [V.str (S []), .str (S [48]), .str (S [50]), .str (S [48, 50]), .str (S [49])] ((c : Nat) : Int) = some (.str (S (pw c))) := by
  refine atI_nat ?_
  rcases h with e | e | e | e <;> subst e <;> rfl
theorem ok_com (T : Txt w K mg) : Ok P w K mg base 5 "commuting" ["word"] spCom := by
  refine ok_of T.fCommuting fun f fd F => ?_
  obtain ⟨aS, gS, hS⟩ := T.signs
  refine F.ok scCommuting (fun vs H Q E h => ?_) (fun cdv A outer s H vs Q E hr h => ?_)
  · obtain ⟨u, rfl, _⟩ := h
    rfl
  · obtain ⟨u, rfl, hu, hz, qa, qp, qf⟩ := h
    refine ⟨_, pss_cons (ps_set (i := 1) scCommuting.nd rfl (.inl rfl) (pe_callO (ok_needCodes T) hr (by decide) (by rfl) (pa_cons (pe_callO (ok_need T) hr (by decide) (by rfl) (pa_cons (pv 0) (pa_nil))) (pa_nil))))
         (pss_cons (ps_asg (pe_callO (ok_unwound T) hr (by decide) (by rfl) (pa_cons (pv 1) (pa_nil))) (pg_tup rfl (pgs_cons (pg_name (i := 4) scCommuting.nd rfl (.inl rfl)) (pgs_cons (pg_name (i := 5) scCommuting.nd rfl (.inl rfl)) (pgs_nil)))))
         (pss_cons (ps_if (pt_not (pt_truth (pv 5) (by intro _; rfl))) (pss_one (ps_ret (pe_tup (pa_cons (pe_str) (pa_cons (pe_tup (pa_nil)) (pa_nil)))))) (pss_nil))
         (pss_cons (ps_if (pt_cmpR (op_gt) (pe_callB call_len_seq (by rfl) T.nlen PySem.boot_len (pa_cons (pv 5) (pa_nil))) (pe_int) (nomark _)) (pss_one (ps_ret (pe_tup (pa_cons (pe_str) (pa_cons (pe_tup (pa_cons (pe_ix (r := rIxT K) ix_tup (pe_callO (ok_root T) hr (by decide) (by rfl) (pa_cons (pv 0) (pa_nil))) (pe_int) (fun _ _ => rfl)) (pa_nil))) (pa_nil)))))) (pss_nil))
         (pss_cons (ps_set (i := 2) scCommuting.nd rfl (.inl rfl) (pe_callO (ok_spelled T) hr (by decide) (by rfl) (pa_cons (pv 1) (pa_nil))))
         (pss_cons (ps_if (pt_cmpR (op_eq) (pe_ix (r := rIxT K) ix_tup (pe_glob (v := .ref aS) rfl gS rfl) (pe_ix (r := rIxL K) ix_list (pv 5) (pe_int) (fun _ _ => rfl)) (fun _ _ => rfl)) (pe_str) (nomark _)) (pss_one (ps_ret (pe_tup (pa_cons (pe_str) (pa_cons (pe_tup (pa_cons (pe_str) (pa_cons (pv 2) (pa_nil)))) (pa_nil)))))) (pss_nil))
         (pss_cons (ps_set (i := 3) scCommuting.nd rfl (.inr rfl) (pe_callO (ok_spelled T) hr (by decide) (by rfl) (pa_cons (pv 4) (pa_nil))))
         (pss_one (ps_ret (pe_tup (pa_cons (pe_str) (pa_cons (pe_op op_catT (pe_tup (pa_cons (pe_str) (pa_nil))) (pe_callTy call_tuple_of (by rfl) T.ntuple (by decide +kernel) (pa_cons (pe_lc (own := [("sign", 6)]) (g := gName 6) (tt := tYes) (by rfl) scCommuting.nd (pi_tup (pe_tup (pa_cons (pe_str) (pa_cons (pe_str) (pa_cons (pe_str) (pa_nil)))))) (blkOk_by (N := ["word", "codes", "told", "tail", "mover", "ring", "sign"]) (sc := defScope sCommuting) (by decide +kernel)) (fun _ _ _ _ _ => pg_name (i := 6) scCommuting.nd rfl (.inl rfl)) (fun _ _ _ _ _ => pts_nil) (fun _ _ _ _ _ => pe_op op_add_str (pe_op op_add_str (pe_callO (ok_backText T) hr (by decide) (by rfl) (pa_cons (pv 3) (pa_nil))) (pv 6)) (pv 3))) (pa_nil)))) (pa_nil)))))))))))), ?_⟩
    refine ⟨.str (S u), rfl, u, rfl, hu, fun H1 s1 => ⟨u, rfl, hu, by omega, fun H2 l s2 nl el => ?_⟩⟩
    have sA := Same.to s1 s2
    have al : Alt (codesOf u).reverse := alt_rev (codes_alt hu)
    have lc := codes_len _ u rfl
    have lcr : (codesOf u).reverse.length ≤ 40 := by rw [List.length_reverse]; omega
    refine ⟨.ref l, rfl, l, _, rfl, .inl (.inl el), al, by omega, fun mv rg p0 a b H3 hU s3 np0 na nb ea eb ep0 => ?_⟩
    have lm := hU.lm
    have lr := hU.lr
    have fm := flat_len mv
    refine ⟨p0, _, rfl, .inl (.inl ep0), rfl, _, _, rfl, _, _, rfl, rfl, ?_⟩
    have sB := Same.to sA s3
    have fit : ∀ z : Nat, z ≤ 10000 → z ≤ sizeLine := fun z hz => Nat.le_trans hz (by decide)
    match rg, hU, eb with
    | [], hU, eb =>
      refine ⟨.ref b, rfl, false, .inl ⟨[], .inl (.inl eb), rfl⟩, iteT ?_⟩
      have hs := hU.sh (by decide)
      have e0 : mv = [] := pal_nil (by rw [hs] at al; simpa using al)
      have e1 : cut u = [] := by rw [cut_flat_codes hu, hs, e0]; rfl
      refine ⟨Nat.zero_le _, fun q1 nq1 => ⟨by show 2 ≤ sizeLine; decide, fun p1 np1 => ?_⟩⟩
      have s4 := Same.to sB (same_new (o := .tup []) nq1)
      exact qa p1 q1 _ e1 (Same.to s4 (same_new np1)) (none_of s4 np1) upd_same (same_new np1 _ _ upd_same)
    | [c], hU, eb =>
      refine ⟨.ref b, rfl, true, .inl ⟨Vi [c], .inl (.inl eb), rfl⟩, iteF ?_⟩
      have hs := hU.sh (by simp)
      have hM : Mir u mv c := unw_mir hu hs
      obtain ⟨cc, aX⟩ := mir_parts hM.al
      refine ⟨.ref b, rfl, b, Vi [c], rfl, .inl (.inl (.inl eb)), _, _, rfl, rfl, _, rfl, ?_⟩
      refine iteDF (show ¬ (1 : Int) < ((Vi [c]).length : Int) from by rw [vi_len]; simp) ?_
      refine ⟨.ref l, rfl, l, codesOf u, rfl, .inl (.inl (s3 _ _ el)), codes_alt hu, by omega, fun H4 s4 => ?_⟩
      have ew : (spell (codesOf u)).reverse = cut u := (cut_codes hu).symm
      rw [ew]
      have eb4 := s4 _ _ eb
      have sC := Same.to sB s4
      refine ⟨.ref b, rfl, b, _, _, .int (c : Int), rfl, rfl, .inl (.inl eb4), atI_nat (j := 0) rfl, aS, _, _, .str (S (pw c)), rfl, rfl, hS _, signs_at cc, rfl, _, rfl, ?_⟩
      by_cases c4 : c = 4
      · refine iteDT (by rw [c4]; rfl) ?_
        refine ⟨.str (S (cut u)), rfl, by show 2 ≤ sizeLine; decide, fun q1 nq1 => ⟨by show 2 ≤ sizeLine; decide, fun p1 np1 => ?_⟩⟩
        have s5 := Same.to sC (same_new (o := .tup [.str (S []), .str (S (cut u))]) nq1)
        exact qf [[], cut u] mv c p1 q1 _ ⟨hM, .inl ⟨c4, rfl⟩, by omega⟩ (Same.to s5 (same_new np1)) (none_of s5 np1) upd_same (same_new np1 _ _ upd_same)
      · refine iteDF (fun z => c4 (pw_inj cc (.inr (.inr (.inr rfl))) (s_inj (V.str.inj z)))) ?_
        have ea4 := s4 _ _ ea
        refine ⟨.ref a, rfl, a, mv.reverse, rfl, .inl (.inl (by rw [List.reverse_reverse]; exact ea4)), alt_rev aX, by rw [List.length_reverse]; omega, fun H5 s5 => ?_⟩
        rw [← flat_eq]
        have fmv := flat_fw aX
        have sD := Same.to sC s5
        refine ⟨by show 1 ≤ sizeLine; decide, fun q0 nq0 => ?_⟩
        have s6 := Same.to sD (same_new (o := .tup [.str (S [])]) nq0)
        have e6 : (upd H5 q0 (.tup [.str (S [])])) q0 = some (.tup [.str (S [])]) := upd_same
        refine ⟨by show 3 ≤ sizeLine; decide, fun qi nqi => ?_⟩
        have s7 := Same.to s6 (same_new (o := .tup (Vs (([1, 2, 3] : List Nat).map pw))) nqi)
        have e7 := same_new (o := .tup (Vs (([1, 2, 3] : List Nat).map pw))) nqi _ _ e6
        have f7 : (upd (upd H5 q0 (.tup [.str (S [])])) qi (.tup (Vs (([1, 2, 3] : List Nat).map pw)))) qi = some (.tup (Vs (([1, 2, 3] : List Nat).map pw))) := upd_same
        refine ⟨qi, rfl, ⟨_, .inl (.inl f7)⟩, fun D nD => ?_⟩
        have nD0 := none_of s7 nD
        have s8 := Same.to s7 (same_new (o := .lst []) nD)
        refine lc_tup (K := K) (xs := Vs (([1, 2, 3] : List Nat).map pw)) (fun i H' => Same H H' ∧ H' q0 = some (.tup [.str (S [])]) ∧ H' qi = some (.tup (Vs (([1, 2, 3] : List Nat).map pw))) ∧ H' D = some (.lst (Vs ((([1, 2, 3] : List Nat).take i).map (oth mv)))))
          ⟨s8, same_new nD _ _ e7, same_new nD _ _ f7, upd_same⟩ (fun i H' hi h => .inl (.inl h.2.2.1)) (fun i x H' hx h => ?_) (fun H' h => ?_)
        · obtain ⟨sm, h0, h1, h2⟩ := h
          obtain ⟨o, ho, rfl⟩ : ∃ o, ([1, 2, 3] : List Nat)[i]? = some o ∧ x = .str (S (pw o)) := by
            unfold Vs at hx
            rw [List.getElem?_map, List.getElem?_map] at hx
            cases e : ([1, 2, 3] : List Nat)[i]? with
            | none => rw [e] at hx; cases hx
            | some v => rw [e] at hx; exact ⟨v, rfl, (Option.some.inj hx).symm⟩
          have co : Cd o := by
            have := List.mem_of_getElem? ho
            simp only [List.mem_cons, List.not_mem_nil, or_false] at this
            rcases this with e | e | e <;> subst e <;> decide
          have i3 : i < 3 := by
            obtain ⟨h, _⟩ := List.getElem?_eq_some_iff.mp ho
            exact h
          have lp := (pw_len co).1
          have l1 := cut_len _ _ rfl (wd_rev.mpr (flat_wd mv))
          rw [List.length_reverse] at l1
          refine ⟨rfl, yes (iteT ?_)⟩
          refine ⟨.str (S (flat mv)), rfl, flat mv, rfl, fmv, by omega, .str (S (pw o)), rfl, _, _, rfl, rfl, fit _ (show (cut (flat mv).reverse).length + (pw o).length ≤ _ by omega), .str (S (flat mv)), rfl, _, _, rfl, rfl, ?_, ?_⟩
          · rw [s_app]
            exact fit _ (show (cut (flat mv).reverse ++ pw o).length + (flat mv).length ≤ _ by rw [List.length_append]; omega)
          · rw [s_app, s_app]
            have eo : cut (flat mv).reverse ++ pw o ++ flat mv = oth mv o := by
              unfold oth
              rw [cut_flat_rev aX, flat_app, flat_app]
              show _ = flat mv.reverse ++ (pw o ++ []) ++ flat mv
              rw [List.append_nil]
            rw [eo]
            refine ⟨_, h2, ?_, same_mut sm nD0, ?_, ?_, ?_⟩
            · rw [vs_len, List.length_map, List.length_take]
              exact Nat.lt_of_le_of_lt (show min i _ ≤ 10 by omega) (by decide)
            · rw [upd_ne (fun e => by rw [e] at h0; rw [h2] at h0; cases h0)]
              exact h0
            · rw [upd_ne (fun e => by rw [e] at h1; rw [h2] at h1; cases h1)]
              exact h1
            · rw [upd_same, vs_snoc, List.take_succ, ho, List.map_append]
              rfl
        · obtain ⟨sm, h0, h1, h2⟩ := h
          rw [vs_len, List.length_map, List.take_length] at h2
          refine ⟨D, _, rfl, .inl ⟨.inl (.inl h2), fun qt nqt => ?_⟩⟩
          have s9 := Same.to sm (same_new (o := .tup (Vs (([1, 2, 3] : List Nat).map (oth mv)))) nqt)
          have g0 := same_new (o := .tup (Vs (([1, 2, 3] : List Nat).map (oth mv)))) nqt _ _ h0
          refine ⟨q0, qt, _, _, rfl, rfl, .inl (.inl g0), .inl (.inl upd_same), by simp, by show 1 + 3 ≤ sizeLine; decide, fun z => absurd z (by unfold Vs; simp), fun _ q1 nq1 => ⟨by show 2 ≤ sizeLine; decide, fun p1 np1 => ?_⟩⟩
          have s10 := Same.to s9 (same_new (o := .tup ([.str (S [])] ++ Vs (([1, 2, 3] : List Nat).map (oth mv)))) nq1)
          exact qf ([] :: ([1, 2, 3] : List Nat).map (oth mv)) mv c p1 q1 _ ⟨hM, .inr ⟨c4, rfl⟩, by omega⟩ (Same.to s10 (same_new np1)) (none_of s10 np1) upd_same (same_new np1 _ _ upd_same)
    | x :: y :: r, hU, eb =>
      refine ⟨.ref b, rfl, true, .inl ⟨Vi (x :: y :: r), .inl (.inl eb), rfl⟩, iteF ?_⟩
      refine ⟨.ref b, rfl, b, Vi (x :: y :: r), rfl, .inl (.inl (.inl eb)), _, _, rfl, rfl, _, rfl, ?_⟩
      refine iteDT (show (1 : Int) < ((Vi (x :: y :: r)).length : Int) from by rw [vi_len]; simp; omega) ?_
      refine ⟨.str (S u), rfl, u, rfl, hu, hz, fun t k p1 H4 hRC s4 np1 ep1 => ?_⟩
      have sC := Same.to sB s4
      refine ⟨p1, _, _, .str (S t), rfl, rfl, .inl (.inl ep1), atI_nat (j := 0) rfl, by show 1 ≤ sizeLine; decide, fun q1 nq1 => ⟨by show 2 ≤ sizeLine; decide, fun p2 np2 => ?_⟩⟩
      have s5 := Same.to sC (same_new (o := .tup [.str (S t)]) nq1)
      obtain ⟨d, hd⟩ := least_ex (ρ := x :: y :: r) (by simp)
      have nm := (unw_root hu hU (by simp) hd).not_mir
      refine qp t k p2 q1 _ nm.1 nm.2 hRC (Same.to s5 (same_new np2)) (none_of s5 np2) upd_same (same_new np2 _ _ upd_same)
end
end K6

namespace K6
open PySem PySem.Spec PyProof.Rows L2 Nr Nw
theorem ps_mid {X : Cx} {st : Stmt} {t : TS} (h : PS X st t) : PS X st (fun D σ H => ∃ J : L2.St → Hp → Prop, t { D with nx := J } σ H ∧ ∀ σ' H', J σ' H' → D.nx σ' H') := ⟨fun pins s σ H D I ⟨J, h1, h2⟩ => thn (h.run pins s σ H { D with nx := J } I h1) fun f s1 q => match f, q with
  | .next, ⟨σ', H', I', q⟩ => ⟨σ', H', I', h2 _ _ q⟩
  | .brk, q => q
  | .cont, q => q
  | .ret _, q => q⟩
/-! ### the ring of a mirror -/
theorem rg_mir : ∀ (n : Nat) {X : List Nat} {c : Nat}, X.length = n → Alt (X.reverse ++ [c] ++ X) → Rg (X.reverse ++ [c] ++ X) [c]
  | 0, X, c, h, _ => by
    rw [List.length_eq_zero_iff.mp h]
    exact .one c
  | n + 1, X, c, h, al => by
    have ne : X ≠ [] := fun z => by rw [z] at h; cases h
    obtain ⟨Y, a, rfl⟩ : ∃ Y a, X = Y ++ [a] := ⟨X.dropLast, X.getLast ne, (List.dropLast_concat_getLast ne).symm⟩
    have e : (Y ++ [a]).reverse ++ [c] ++ (Y ++ [a]) = a :: ((Y.reverse ++ [c] ++ Y) ++ [a]) := by simp
    rw [e] at al ⊢
    have am : Alt (Y.reverse ++ [c] ++ Y) := (alt_app.mp (show Alt ([a] ++ ((Y.reverse ++ [c] ++ Y) ++ [a])) from al)).2.1 |> fun z => (alt_app.mp z).1
    exact .strip a _ _ (mid_ne al) (rg_mir n (by simpa using h) am)
theorem lr_rg {L σ : List Nat} (h : Lr L) (k : Rg L σ) : ∃ a M, L = a :: (M ++ [4]) ∧ σ = M ++ [4, a] := by
  obtain ⟨a, M, e, a4, _⟩ := h.split
  have rf : Rg L (M ++ [4, a]) := by
    have := Rg.fin a M 4 a4
    rw [fnr_4 a4] at this
    rw [e]
    exact this
  exact ⟨a, M, e, rg_fun k rf⟩
theorem short_rg {L σ : List Nat} (h : L.length < 2) (k : Rg L σ) : σ = L := by
  match L, h with
  | [], _ => exact rg_fun k .nil
  | [c], _ => exact rg_fun k (.one c)
  | _ :: _ :: _, h => exact absurd h (by simp)
/-- what a word's ring has, its conjugates' rings have -/
theorem cq_back {P : List Nat → Prop} (hP : ∀ ρ σ, Tn ρ σ → P ρ → P σ) {u L y : List Nat} (hu : Wd u) (hR : RingC (cut u) L y) (h : Cq P u) : ∃ σ, Rg L σ ∧ P σ := by
  have e := hR.eq.trans (cut_e2 hu)
  have h1 := conj_out hR.wd (flat_wd L) hu e
  have h2 : Cq P (flat L) := cq_moved hP (y := y.reverse) hu (wd_rev.mpr hR.wd) (flat_wd L) (by rw [List.reverse_reverse]; exact h1) h
  obtain ⟨σ, r, p⟩ := h2
  rw [codes_flat hR.alt, List.reverse_reverse] at r
  exact ⟨σ, r, p⟩
theorem cq_on {P : List Nat → Prop} (hP : ∀ ρ σ, Tn ρ σ → P ρ → P σ) {u L y σ : List Nat} (hu : Wd u) (hR : RingC (cut u) L y) (hr : Rg L σ) (h : P σ) : Cq P u := by
  have e := hR.eq.trans (cut_e2 hu)
  refine cq_moved hP (flat_wd L) hR.wd hu e ⟨σ, ?_, h⟩
  rw [codes_flat hR.alt, List.reverse_reverse]
  exact hr
theorem mir_ring {u X L y : List Nat} {c : Nat} (hu : Wd u) (M : Mir u X c) (hR : RingC (cut u) L y) : L = [c] := by
  have hc : (codesOf u).reverse = X.reverse ++ [c] ++ X := by
    have h1 := M.cu
    rw [cut_flat_codes hu] at h1
    have h2 := congrArg codesOf h1
    rw [codes_flat (alt_rev (codes_alt hu)), codes_flat M.al] at h2
    have := congrArg List.reverse h2
    rw [List.reverse_reverse, List.reverse_reverse] at this
    exact this
  have cq : Cq (fun ρ => ρ = [c]) u := ⟨[c], by rw [hc]; exact rg_mir _ rfl M.al, rfl⟩
  have hP : ∀ ρ σ, Tn ρ σ → ρ = [c] → σ = [c] := by
    intro ρ σ t e
    cases t with
    | id => exact e
    | on b r => exact absurd (congrArg List.length e) (by simp)
    | back b r => exact absurd (congrArg List.length e) (by simp)
  obtain ⟨σ, r, e⟩ := cq_back hP hu hR cq
  rcases hR.sh with h | h
  · exact (short_rg h r).symm.trans e
  · obtain ⟨a, N, _, e2⟩ := lr_rg h r
    rw [e2] at e
    exact absurd (congrArg List.length e) (by simp)
theorem rot_rep {k a b : Nat} {M : List Nat} : (∃ A, a :: (M ++ [b]) = rep k A) ↔ ∃ A, M ++ [b, a] = rep k A := by
  constructor
  · rintro ⟨A, e⟩
    obtain ⟨B, e2, _⟩ := per_turn (X := [a]) (Y := M ++ [b]) e
    exact ⟨B, by rw [← e2]; simp⟩
  · rintro ⟨A, e⟩
    obtain ⟨B, e2, _⟩ := per_turn (X := M ++ [b]) (Y := [a]) (by rw [← e]; simp)
    exact ⟨B, by rw [← e2]; simp⟩
theorem root_times {u t m ρ A L y : List Nat} {k d b : Nat} (R : Root u m ρ A t k) (g : Rg (codesOf u).reverse ρ) (hd : LeastPer ρ d) (hk : k = ρ.length / d) (hR : RingC (cut u) L y) (hT : Times L b) : b = k := by
  have hu := R.wu
  obtain ⟨σ, r, len⟩ := cq_back (P := fun s => s.length = ρ.length) (fun _ _ t e => (tn_len t).trans e) hu hR ⟨ρ, g, rfl⟩
  have l2 : 2 ≤ ρ.length := by
    obtain ⟨c, q, er, _⟩ := prs_head R.pr R.ne
    rw [er]; simp
  rcases hR.sh with h | h
  · have := short_rg h r
    rw [this] at len
    omega
  · obtain ⟨a, M, eL, eS⟩ := lr_rg h r
    have lL : L.length = ρ.length := by rw [← len, eS, eL]; simp
    -- the same powers
    have back : ∀ j, (∃ z, ρ = rep j z) → ∃ z, L = rep j z := fun j hj => by
      obtain ⟨σ', r', p'⟩ := cq_back (P := fun s => ∃ z, s = rep j z) (fun _ _ t e => tn_rep t e) hu hR ⟨ρ, g, hj⟩
      have := rg_fun r' r
      rw [this, eS] at p'
      rw [eL]
      exact rot_rep.mpr p'
    have on : ∀ j, (∃ z, L = rep j z) → ∃ z, ρ = rep j z := fun j hj => by
      rw [eL] at hj
      obtain ⟨ρ', g', p'⟩ := cq_on (P := fun s => ∃ z, s = rep j z) (fun _ _ t e => tn_rep t e) hu hR r (by rw [eS]; exact rot_rep.mp hj)
      rw [rg_fun g' g] at p'
      exact p'
    have most : ∀ j, (∃ z, L = rep j z) → j ≤ k := fun j hj => by
      obtain ⟨z, e⟩ := on j hj
      rw [hk]
      exact least_most R.ne hd e
    apply Nat.le_antisymm
    · rcases hT.is with e | ⟨d', hp, e⟩
      · rw [e]; exact R.hk
      · exact most b ⟨_, by rw [e]; exact hp.2.2.symm⟩
    · obtain ⟨z, e⟩ := back k ⟨A, R.eA⟩
      have zne : z ≠ [] := fun q => by
        rw [q, rep_nil] at e
        rw [e] at lL
        simp at lL
        omega
      have hp := isPer_of zne R.hk e
      have ll : L.length = k * z.length := by rw [e, rep_len]
      have zl := List.length_pos_iff.mpr zne
      by_cases c : z.length < L.length
      · have := hT.most _ c hp
        rw [ll, Nat.mul_div_cancel _ zl] at this
        exact this
      · have : k * z.length ≤ 1 * z.length := by omega
        have k1 : k ≤ 1 := Nat.le_of_mul_le_mul_right this zl
        have := hT.one
        omega
/-! ### what is told -/
structure RCf (u t : List Nat) (k : Nat) : Prop where
  ft : Fw t
  lt : t.length ≤ 500
  k1 : 1 ≤ k
  lk : k ≤ 30
  pow : cut (rep k t) = cut u
theorem RC.facts {u t : List Nat} {k : Nat} (hu : Wd u) (lu : u.length ≤ 30) (h : RC u t k) : RCf u t k := by
  have lc := cut_len _ u rfl hu
  cases h with
  | non h e e1 =>
    subst e
    subst e1
    exact ⟨trivial, by decide, by decide, by decide, by rw [h]; rfl⟩
  | mir X c M e e1 lx =>
    subst e
    subst e1
    exact ⟨fw_cut hu, by omega, by decide, by decide, by rw [rep_one, cut_cut hu]⟩
  | root m ρ A d R g hd hA hk ft lt =>
    refine ⟨ft, lt, R.hk, ?_, cut_of R.pow⟩
    have := conj_long R.pr R.ne R.wm R.wu R.eu
    have := Nat.div_le_self ρ.length d
    omega
theorem rc_same {u t t' m ρ A : List Nat} {k k' d : Nat} (R : Root u m ρ A t k) (g : Rg (codesOf u).reverse ρ) (hd : LeastPer ρ d) (hA : A = ρ.take d) (hk : k = ρ.length / d) (ft : Fw t) (h : RC u t' k') : t' = t := by
  obtain ⟨n1, n2⟩ := R.not_mir
  cases h with
  | non h e e1 => exact absurd h n1
  | mir X c M e e1 lx => exact absurd M.is_mir.2 n2
  | root m' ρ' A' d' R' g' hd' hA' hk' ft' lt' =>
    have e1 := rg_fun g' g
    subst e1
    have e2 := least_uniq hd' hd
    subst e2
    subst hA
    subst hA'
    subst hk
    subst hk'
    exact R'.same R ft' ft
/-! ### all words that commute -/
def own (u : List Nat) : List (List Nat) := (allW 6).filter fun o => decide (cut (cut u ++ o) = cut (o ++ cut u))
theorem cm_cut {u o : List Nat} (hu : Wd u) (ho : Wd o) : cut (cut u ++ o) = cut (o ++ cut u) ↔ Cm u o := by
  rw [cut_app_l hu, cut_app_r ho hu]
  exact Iff.rfl
theorem mem_own {u o : List Nat} (hu : Wd u) : o ∈ own u ↔ Fw o ∧ o.length ≤ 6 ∧ Cm u o := by
  unfold own
  rw [List.mem_filter, mem_allW]
  constructor
  · rintro ⟨⟨a, b⟩, c⟩
    exact ⟨a, b, (cm_cut hu a.wd).mp (of_decide_eq_true c)⟩
  · rintro ⟨a, b, c⟩
    exact ⟨⟨a, b⟩, decide_eq_true ((cm_cut hu a.wd).mpr c)⟩
theorem own_nodup (u : List Nat) : (own u).Nodup := allW_nodup.filter _
theorem own_all {u : List Nat} (hu : Wd u) (h : cut u = []) : own u = allW 6 := by
  refine List.filter_eq_self.mpr fun o ho => ?_
  rw [h]
  exact decide_eq_true (by simp)
theorem own_root {u m ρ A t : List Nat} {k : Nat} (R : Root u m ρ A t k) : (own u).Perm (pws t 7) := by
  refine (List.perm_ext_iff_of_nodup (own_nodup u) (pws_nodup t 7)).mpr fun o => ?_
  rw [mem_own R.wu, mem_pws]
  constructor
  · rintro ⟨fo, lo, cm⟩
    refine ⟨lo, ?_⟩
    obtain ⟨j, h⟩ := R.comm fo.wd cm
    have eo := cut_of_fw fo
    rcases h with h | h
    · have e := cut_of h
      rw [eo] at e
      exact ⟨j, Nat.lt_succ_of_le (R.few (by rw [e]; exact lo)), .inl e.symm⟩
    · have e := cut_of h
      rw [eo] at e
      exact ⟨j, Nat.lt_succ_of_le (R.few' (by rw [e]; exact lo)), .inr e.symm⟩
  · rintro ⟨lo, j, _, h⟩
    rcases h with e | e
    · have w := rep_wd R.wt j
      rw [e]
      rw [e] at lo
      exact ⟨fw_cut w, lo, R.comm_of (cut_wd w) (j := j) (.inl (cut_e2 w).symm)⟩
    · have w := rep_wd (wd_rev.mpr R.wt) j
      rw [e]
      rw [e] at lo
      exact ⟨fw_cut w, lo, R.comm_of (cut_wd w) (j := j) (.inr (cut_e2 w).symm)⟩
/-! ### few -/
theorem oth_fw {X : List Nat} {a : Nat} (h : Alt (X.reverse ++ [a] ++ X)) : Fw (oth X a) := flat_fw h
theorem oth_len (X : List Nat) (a : Nat) : (oth X a).length = 2 * (flat X).length + (pw a).length := by
  unfold oth
  have e : (flat X.reverse).length = (flat X).length := by
    have h : ∀ L : List Nat, (flat L.reverse).length = (flat L).length := by
      intro L
      induction L with
      | nil => rfl
      | cons c r ih =>
        have one : flat [c] = pw c := List.append_nil _
        rw [List.reverse_cons, flat_app, one, flat_cons, List.length_append, List.length_append, ih]
        omega
    exact h X
  rw [flat_app, flat_app, List.length_append, List.length_append, e]
  show _ + (pw a ++ []).length + _ = _
  rw [List.append_nil]
  omega
theorem oth_eq (X : List Nat) (a : Nat) : oth X a = flat X.reverse ++ (pw a ++ flat X) := by
  unfold oth
  rw [flat_app, flat_app, List.append_assoc]
  show _ ++ ((pw a ++ []) ++ _) = _
  rw [List.append_nil]
structure FewF (u : List Nat) (ts : List (List Nat)) : Prop where
  fw : ∀ o ∈ ts, Fw o ∧ o.length ≤ 300 ∧ Cm u o
  all : ∀ o, Fw o → o.length ≤ 6 → Cm u o → o ∈ ts
  up : ∀ i a b, ts[i]? = some a → ts[i + 1]? = some b → ahead a b = true
  nd : ts.Nodup
  len : ts.length = 2 ∨ ts.length = 4
theorem ahead_lt {a b : List Nat} (h : a.length < b.length) : ahead a b = true := by
  unfold ahead ltP
  rw [if_neg (by omega)]
  exact decide_eq_true (by omega)
theorem ahead_same {a b : List Nat} (h : a.length = b.length) (ne : a ≠ b) (lt : a < b) : ahead a b = true := by
  unfold ahead ltP
  rw [if_pos (by omega), if_neg (fun z => ne (s_inj z))]
  exact decide_eq_true lt
theorem lt_mid (P : List Nat) {a b : Nat} (Q R : List Nat) (h : a < b) : P ++ a :: Q < P ++ b :: R := by
  induction P with
  | nil => exact List.Lex.rel h
  | cons c r ih => exact List.Lex.cons ih
theorem Few.facts {u X : List Nat} {ts : List (List Nat)} {c : Nat} (hu : Wd u) (lu : u.length ≤ 30) (F : Few u ts X c) : FewF u ts := by
  obtain ⟨M, hts, lx⟩ := F
  obtain ⟨cc, aX⟩ := mir_parts M.al
  have lc := cut_len _ u rfl hu
  have cm0 : Cm u [] := by unfold Cm; rw [List.append_nil]; rfl
  have ncu := M.is_mir.1
  have pos : 0 < (cut u).length := List.length_pos_iff.mpr ncu
  rcases hts with ⟨c4, rfl⟩ | ⟨c4, rfl⟩
  · refine ⟨fun o ho => ?_, fun o fo lo cm => ?_, fun i a b ha hb => ?_, ?_, .inl rfl⟩
    · rcases List.mem_cons.mp ho with e | e
      · rw [e]
        exact ⟨trivial, by decide, cm0⟩
      · rw [List.mem_singleton.mp e]
        exact ⟨fw_cut hu, by omega, M.comm_of cc rfl M.cu⟩
    · have eo := cut_of_fw fo
      rcases M.comm fo.wd cm with h | ⟨_, h⟩ | ⟨h, _⟩
      · rw [eo] at h
        rw [h]
        exact List.mem_cons_self
      · rw [eo] at h
        rw [h]
        exact List.mem_cons_of_mem _ List.mem_cons_self
      · exact absurd c4 h
    · match i with
      | 0 =>
        cases ha
        cases hb
        exact ahead_lt pos
      | 1 => cases hb
      | i + 2 => cases hb
    · exact List.nodup_cons.mpr ⟨fun z => ncu (List.mem_singleton.mp z).symm, List.nodup_cons.mpr ⟨by simp, List.nodup_nil⟩⟩
  · have ty : ∀ a, a ≠ 4 → Ty a = Ty c := fun a ha => (decide_eq_false ha).trans (decide_eq_false c4).symm
    have l1 := oth_len X 1
    have l2 := oth_len X 2
    have l3 := oth_len X 3
    have p1 : (pw 1).length = 1 := rfl
    have p2 : (pw 2).length = 1 := rfl
    have p3 : (pw 3).length = 2 := rfl
    have d12 : oth X 1 < oth X 2 := by
      rw [oth_eq, oth_eq]
      exact lt_mid _ _ _ (by decide : 48 < 50)
    have ne12 : oth X 1 ≠ oth X 2 := fun z => by rw [z] at d12; exact absurd d12 (List.lt_irrefl _)
    have good : ∀ a, a = 1 ∨ a = 2 ∨ a = 3 → Fw (oth X a) ∧ (oth X a).length ≤ 300 ∧ Cm u (oth X a) := fun a ha => by
      have ca : Cd a := by rcases ha with e | e | e <;> subst e <;> decide
      have a4 : a ≠ 4 := by rcases ha with e | e | e <;> subst e <;> decide
      refine ⟨oth_fw (mir_other M.al ca (ty a a4)), ?_, M.comm_of ca (ty a a4) rfl⟩
      have := oth_len X a
      have := (pw_len ca).1
      omega
    refine ⟨fun o ho => ?_, fun o fo lo cm => ?_, fun i a b ha hb => ?_, ?_, .inr rfl⟩
    · rcases List.mem_cons.mp ho with e | e
      · rw [e]
        exact ⟨trivial, by decide, cm0⟩
      · obtain ⟨a, ha, e2⟩ := List.mem_map.mp e
        rw [← e2]
        refine good a ?_
        simp only [List.mem_cons, List.not_mem_nil, or_false] at ha
        exact ha
    · have eo := cut_of_fw fo
      rcases M.comm fo.wd cm with h | ⟨h, _⟩ | ⟨_, a, a4, ca, h⟩
      · rw [eo] at h
        rw [h]
        exact List.mem_cons_self
      · exact absurd h c4
      · rw [eo] at h
        rw [h]
        refine List.mem_cons_of_mem _ (List.mem_map.mpr ⟨a, ?_, rfl⟩)
        rcases ca with e | e | e | e
        · subst e; decide
        · subst e; decide
        · subst e; decide
        · exact absurd e a4
    · match i with
      | 0 =>
        cases ha
        cases hb
        exact ahead_lt (by show 0 < (oth X 1).length; omega)
      | 1 =>
        cases ha
        cases hb
        exact ahead_same (by omega) ne12 d12
      | 2 =>
        cases ha
        cases hb
        exact ahead_lt (by omega)
      | 3 => cases hb
      | i + 4 => cases hb
    · show ([[], oth X 1, oth X 2, oth X 3] : List (List Nat)).Nodup
      have n0 : ∀ a, a = 1 ∨ a = 2 ∨ a = 3 → [] ≠ oth X a := fun a ha z => by
        have := congrArg List.length z
        rcases ha with e | e | e <;> subst e <;> simp at this <;> omega
      have n13 : oth X 1 ≠ oth X 3 := fun z => by have := congrArg List.length z; omega
      have n23 : oth X 2 ≠ oth X 3 := fun z => by have := congrArg List.length z; omega
      simp only [List.nodup_cons, List.mem_cons, List.not_mem_nil, or_false, not_or, not_false_eq_true, and_true, List.nodup_nil]
      exact ⟨⟨n0 1 (.inl rfl), n0 2 (.inr (.inl rfl)), n0 3 (.inr (.inr rfl))⟩, ⟨ne12, n13⟩, n23⟩
theorem own_few {u : List Nat} {ts : List (List Nat)} (hu : Wd u) (F : FewF u ts) : (own u).Perm (ts.filter fun o => decide (o.length ≤ 6)) := by
  refine (List.perm_ext_iff_of_nodup (own_nodup u) (F.nd.filter _)).mpr fun o => ?_
  rw [mem_own hu, List.mem_filter]
  constructor
  · rintro ⟨a, b, c⟩
    exact ⟨F.all o a b c, decide_eq_true b⟩
  · rintro ⟨a, b⟩
    obtain ⟨f, _, c⟩ := F.fw o a
    exact ⟨f, of_decide_eq_true b, c⟩
/-! ### sorted texts -/
theorem sorted_same {A B : List (List Nat)} (h : A.Perm B) {ys zs : List Str} (hy : ys.Perm (A.map S)) (hz : zs.Perm (B.map S)) (sy : sortedS ys = true) (sz : sortedS zs = true) : ys = zs :=
  sorted_uniq ((hy.trans (h.map S)).trans hz.symm) sy sz
theorem strs_refl : ∀ ys : List Str, PyData.eqvAll (ys.map PyData.str) (ys.map PyData.str) = true
  | [] => by unfold PyData.eqvAll; rfl
  | x :: r => by
    rw [List.map_cons]
    unfold PyData.eqvAll PyData.eqv
    rw [strs_refl r, beq_self_eq_true]
    rfl
theorem lay_ys : ∀ ys : List Str, (∀ y ∈ ys, PyData.strOk y = true) → PyData.canLayAll0 (ys.map PyData.str) = true ∧ PyData.depthAll (ys.map PyData.str) = 0
  | [], _ => ⟨by rfl, by rfl⟩
  | p :: r, h => by
    have ih := lay_ys r fun q hq => h q (List.mem_cons_of_mem _ hq)
    refine ⟨?_, ?_⟩
    · rw [List.map_cons]
      unfold PyData.canLayAll0
      rw [ih.1, Bool.and_true]
      unfold PyData.canLay0
      exact h p List.mem_cons_self
    · rw [List.map_cons]
      unfold PyData.depthAll
      rw [ih.2]
      rfl
theorem shaped_ys {A : List (List Nat)} {ys : List Str} (hA : ∀ o ∈ A, Wd o) (hy : ys.Perm (A.map S)) : SeqAt.shaped (.list (ys.map PyData.str)) = true := by
  have ok : ∀ y ∈ ys, PyData.strOk y = true := fun y h => by
    obtain ⟨o, ho, e⟩ := List.mem_map.mp (hy.mem_iff.mp h)
    rw [← e]
    unfold PyData.strOk
    show o.toArray.all (· < 0x110000) = true
    rw [List.all_toArray, List.all_eq_true]
    intro c hc
    rcases hA o ho c hc with z | z | z <;> subst z <;> rfl
  unfold SeqAt.shaped PyData.canLay0 PyData.depth
  rw [(lay_ys ys ok).1, (lay_ys ys ok).2]
  decide
end K6

namespace K6
open PySem PySem.Spec PyProof.Rows L2 Nr Nw
def isS (u : List Nat) : Bool := decide (cut u ≠ []) && !(decide (cut u ≠ []) && decide (cut (cut u ++ cut u) = []))
theorem isS_nil {u : List Nat} (h : cut u = []) : isS u = false := by
  unfold isS
  rw [decide_eq_false (fun z => z h)]
  rfl
theorem isS_mir {u : List Nat} (hu : Wd u) (h : cut (u ++ u) = []) : isS u = false := by
  unfold isS
  rw [cut_app hu hu, decide_eq_true h]
  by_cases c : cut u = []
  · rw [decide_eq_false (fun z => z c)]
    rfl
  · rw [decide_eq_true c]
    rfl
theorem isS_some {u : List Nat} (hu : Wd u) (h0 : cut u ≠ []) (h : cut (u ++ u) ≠ []) : isS u = true := by
  unfold isS
  rw [cut_app hu hu, decide_eq_false h, decide_eq_true h0]
  rfl
theorem short_all {t : List Nat} (ht : Wd t) : (S t).cps.toList.all (fun c => decide (c < 16 ^ 8)) = true := by
  rw [List.all_eq_true]
  intro c hc
  rcases ht c hc with z | z | z <;> subst z <;> decide
theorem shows_all : Shows (.tuple [.str "all", .tuple []]) := by
  refine ⟨by decide +kernel, by decide +kernel, by decide +kernel, PyData.shown_fits (B := 13) (by decide) (by decide) (by decide +kernel) (by decide +kernel)⟩
theorem shows_pow {t : List Nat} (ht : Wd t) (lt : t.length ≤ 500) : Shows (.tuple [.str "powers", .tuple [.str (S t)]]) := by
  refine ⟨?_, ?_, ?_, PyData.shown_fits (B := 13) (by decide) (by decide) ?_ ?_⟩
  · simp only [PyData.showable, PyData.showableAll]; rfl
  · simp only [PyData.hasDict, PyData.hasDictAll]; rfl
  · simp only [PyData.depth, PyData.depthAll]; decide
  · simp only [PyData.leavesShort, PyData.leavesShortAll]
    rw [short_all ht]
    decide +kernel
  · simp only [PyData.weight, PyData.weightAll]
    have e : (S t).cps.size = t.length := rfl
    rw [e]
    have e2 : ("powers" : Str).cps.size = 6 := by decide +kernel
    rw [e2]
    omega
theorem n2 : (!decide (V.int ((2 : Nat) : Int) = V.int 2)) = false := by
  have e : V.int ((2 : Nat) : Int) = V.int 2 := rfl
  rw [decide_eq_true e]
  rfl
theorem not_ne {x y : V} (h : x = y) : (!decide (x = y)) = false := by rw [decide_eq_true h]; rfl
section
variable {P : Program} {w : World} {K : PySem.W.Frag} {mg : Str → Option Value} {base : Heap}
def spLkI : Sp := fun vs H Q _ => ∃ k : Nat, vs = [.int (k : Int), .int (k : Int)] ∧ k ≤ 1000 ∧ Q (.bl true) H
theorem ok_lkI (T : Txt w K mg) : OkG P w K mg base 1 "_law_like" ["got", "due"] spLkI := by
  obtain ⟨f, fd, h1, F, h3⟩ := T.fLawLike
  refine ⟨f, fd, h1, F.kp, h3, ?_⟩
  refine Nr.Fun.okG F scLawLike (fun vs H Q E h => ?_) (fun cdv A outer s H vs Q E hg hr h => ?_)
  · obtain ⟨k, rfl, _⟩ := h
    rfl
  · obtain ⟨k, rfl, lk, q⟩ := h
    refine ⟨_, pss_one (ps_ret (pe_cmpR op_eq (pe_callB SkE.call_repr_int (by rfl) T.nrepr (by decide +kernel) (pa_cons (pv 0) pa_nil)) (pe_callB SkE.call_repr_int (by rfl) T.nrepr (by decide +kernel) (pa_cons (pv 1) pa_nil)) (nomark _))), ?_⟩
    have small : ((k : Nat) : Int).natAbs.log2 < 1920 := by
      rw [Int.natAbs_natCast]
      have : k.log2 ≤ k := Nat.log2_le_self k
      omega
    refine ⟨.int (k : Int), rfl, (k : Int), rfl, small, .int (k : Int), rfl, (k : Int), rfl, small, rfl, ?_⟩
    rw [decide_eq_true rfl]
    exact q
def spLaw (K : PySem.W.Frag) : Sp := fun vs H Q _ => ∃ (a : Addr) (ns : List Int), vs = [.ref a] ∧ SqL K H a (ns.map V.int) ∧ ns.length ≤ 63 ∧ ∀ H', Q (.bl true) H'
theorem law_fn (T : Txt w K mg) {f : Addr} {fd : FuncData} (F : Fun K "law" "law" sLaw f fd) : FnG P w K mg base CX0 7 f fd ["script"] (spLaw K) := by
  refine Nr.Fun.okG F scLaw (fun vs H Q E h => ?_) (fun cdv A outer s H vs Q E hg hr h => ?_)
  · obtain ⟨a, ns, rfl, _⟩ := h
    rfl
  · obtain ⟨a, ns, rfl, hS, hz, q⟩ := h
    refine ⟨_, pss_cons (ps_set (i := 1) scLaw.nd rfl (.inl rfl) (pe_callO (ok_begun T) hr (by decide) (by rfl) (pa_cons (pv 0) (pa_nil))))
         (pss_cons (ps_for PassesOwn.never rfl (pi_range1 (by rfl) T.nrange (pa_cons (pe_int) (pa_nil))) (pg_name (i := 2) scLaw.nd rfl (.inl rfl)) (pss_cons (ps_par (i := 9) (j := 10) (by rfl) scLaw.nd rfl rfl (by decide) rfl rfl (pa_cons (pe_callO (ok_word T) hr (by decide) (by rfl) (pa_cons (pv 1) (pa_cons (pe_int) (pa_nil)))) (pa_cons (pe_callO (ok_word T) hr (by decide) (by rfl) (pa_cons (pv 1) (pa_cons (pe_int) (pa_nil)))) (pa_nil))) (by rfl))
         (pss_cons (ps_set (i := 3) scLaw.nd rfl (.inl rfl) (pe_op op_add_str (pe_op op_add_str (pe_revS (pv 10)) (pe_op op_mulS (pv 9) (pe_op op_add (pe_int) (pe_callO (ok_draw T) hr (by decide) (by rfl) (pa_cons (pv 1) (pa_cons (pe_int) (pa_nil))))))) (pv 10)))
         (pss_cons (ps_set (i := 4) scLaw.nd rfl (.inr rfl) (pe_callO (ok_cut T) hr (by decide) (by rfl) (pa_cons (pv 3) (pa_nil))))
         (pss_cons (ps_mid (ps_set (i := 5) scLaw.nd rfl (.inl rfl) (pe_and (pe_cmpR (op_ne) (pv 4) (pe_str) (nomark _)) (pe_one (pe_not (pe_callO (ok_isMirL T) hr (by decide) (by rfl) (pa_cons (pv 4) (pa_nil))))))))
         (pss_cons (ps_set (i := 6) scLaw.nd rfl (.inl rfl) (pe_callO (ok_root T) hr (by decide) (by rfl) (pa_cons (pv 3) (pa_nil))))
         (pss_cons (ps_if (PW.pt (pw_or (pt_not (pt_val (pe_callB call_isi (by rfl) T.nisinstance (by decide +kernel) (pa_cons (pv 6) (pa_cons (pe_bltn (v := .ty "tuple") (by rfl) T.ntuple (by decide +kernel) rfl) pa_nil))))) (pw_or (pt_cmpR (op_ne) (pe_callB call_len_seq (by rfl) T.nlen PySem.boot_len (pa_cons (pv 6) (pa_nil))) (pe_int) (nomark _)) (pw_or1 (pt_not (pt_val (pe_callO (ok_isWordL T) hr (by decide) (by rfl) (pa_cons (pe_ix (r := rIxT K) ix_tup (pv 6) (pe_int) (fun _ _ => rfl)) (pa_nil))))))))) (pss_one (ps_ret (pe_bl))) (pss_nil))
         (pss_cons (ps_mid (ps_if (pt_not (pt_val (pe_callOG (ok_lkI T) hg hr (by decide) (by rfl) (pa_cons (pe_ix (r := rIxT K) ix_tup (pv 6) (pe_int) (fun _ _ => rfl)) (pa_cons (pe_ifExp (pt_val (pv 5)) (pe_callO (ok_times T) hr (by decide) (by rfl) (pa_cons (pv 4) (pa_nil))) (pe_int)) (pa_nil)))))) (pss_one (ps_ret (pe_bl))) (pss_nil)))
         (pss_cons (ps_if (pt_cmpR (op_ne) (pe_callO (ok_powered T) hr (by decide) (by rfl) (pa_cons (pe_ix (r := rIxT K) ix_tup (pv 6) (pe_int) (fun _ _ => rfl)) (pa_cons (pe_ix (r := rIxT K) ix_tup (pv 6) (pe_int) (fun _ _ => rfl)) (pa_nil)))) (pv 4) (nomark _)) (pss_one (ps_ret (pe_bl))) (pss_nil))
         (pss_cons (ps_setLc (i := 7) (own := [("other", 11)]) (g := gName 11) (tt := _) (te := _) (by rfl) scLaw.nd rfl rfl (sw_true rfl rfl (by rfl) (by rfl)) (pi_list (pe_callO (ok_allX T) hr (by decide) (by rfl) (pa_cons (pe_int) (pa_nil)))) (blkOk_by (N := ["script", "m", "turn", "word", "short", "is_some", "told", "own", "answer", "plain", "mover", "other", "many", "rows", "one", "n"]) (sc := defScope sLaw) (by decide +kernel)) (fun _ _ _ _ _ => pg_name (i := 11) scLaw.nd rfl (.inl rfl)) (fun _ _ _ _ _ => pts_one (pt_cmpR (op_eq) (pe_callO (ok_cut T) hr (by decide) (by rfl) (pa_cons (pe_op op_add_str (pv 4) (pv 11)) (pa_nil))) (pe_callO (ok_cut T) hr (by decide) (by rfl) (pa_cons (pe_op op_add_str (pv 11) (pv 4)) (pa_nil))) (nomark _))) (fun _ _ _ _ _ => pv 11))
         (pss_cons (ps_set (i := 8) scLaw.nd rfl (.inl rfl) (pe_callO (ok_com T) hr (by decide) (by rfl) (pa_cons (pv 3) (pa_nil))))
         (pss_cons (ps_if (PW.pt (pw_or (pt_not (pt_val (pe_callB call_isi (by rfl) T.nisinstance (by decide +kernel) (pa_cons (pv 8) (pa_cons (pe_bltn (v := .ty "tuple") (by rfl) T.ntuple (by decide +kernel) rfl) pa_nil))))) (pw_or1 (pt_cmpR (op_ne) (pe_callB call_len_seq (by rfl) T.nlen PySem.boot_len (pa_cons (pv 8) (pa_nil))) (pe_int) (nomark _))))) (pss_one (ps_ret (pe_bl))) (pss_nil))
         (pss_one (ps_if (pt_cmpR (op_eq) (pv 4) (pe_str) (nomark _)) (pss_one (ps_if (PW.pt (pw_or (pt_not (pt_val (pe_callOG (ok_lk T) hg hr (by decide) (by rfl) (pa_cons (pv 8) (pa_cons (pe_tup (pa_cons (pe_str) (pa_cons (pe_tup (pa_nil)) (pa_nil)))) (pa_nil)))))) (pw_or1 (pt_cmpR (op_ne) (pe_callB call_len_seq (by rfl) T.nlen PySem.boot_len (pa_cons (pv 7) (pa_nil))) (pe_int) (nomark _))))) (pss_one (ps_ret (pe_bl))) (pss_nil))) (pss_one (ps_if (pt_val (pv 5)) (pss_cons (ps_if (pt_not (pt_val (pe_callOG (ok_lk T) hg hr (by decide) (by rfl) (pa_cons (pv 8) (pa_cons (pe_tup (pa_cons (pe_str) (pa_cons (pe_tup (pa_cons (pe_ix (r := rIxT K) ix_tup (pv 6) (pe_int) (fun _ _ => rfl)) (pa_nil))) (pa_nil)))) (pa_nil)))))) (pss_one (ps_ret (pe_bl))) (pss_nil))
         (pss_one (ps_if (pt_cmpR (op_neD hr.units) (pe_callB cr_sortedS (by rfl) T.nsorted (by decide +kernel) (pa_cons (pv 7) (pa_nil))) (pe_callB cr_sortedS (by rfl) T.nsorted (by decide +kernel) (pa_cons (pe_callO (ok_powers T) hr (by decide) (by rfl) (pa_cons (pe_ix (r := rIxT K) ix_tup (pv 6) (pe_int) (fun _ _ => rfl)) (pa_nil))) (pa_nil))) (nomark _)) (pss_one (ps_ret (pe_bl))) (pss_nil)))) (pss_cons (ps_if (PW.pt (pw_or (pt_cmpR (op_ne) (pe_ix (r := rIxT K) ix_tup (pv 8) (pe_int) (fun _ _ => rfl)) (pe_str) (nomark _)) (pw_or1 (pt_not (pt_val (pe_callB call_isi (by rfl) T.nisinstance (by decide +kernel) (pa_cons (pe_ix (r := rIxT K) ix_tup (pv 8) (pe_int) (fun _ _ => rfl)) (pa_cons (pe_bltn (v := .ty "tuple") (by rfl) T.ntuple (by decide +kernel) rfl) pa_nil)))))))) (pss_one (ps_ret (pe_bl))) (pss_nil))
         (pss_cons (ps_if (pt_cmpR (op_neD hr.units) (pe_lc (own := [("one", 14)]) (g := gName 14) (tt := _) (by rfl) scLaw.nd (pi_tup (pe_ix (r := rIxT K) ix_tup (pv 8) (pe_int) (fun _ _ => rfl))) (blkOk_by (N := ["script", "m", "turn", "word", "short", "is_some", "told", "own", "answer", "plain", "mover", "other", "many", "rows", "one", "n"]) (sc := defScope sLaw) (by decide +kernel)) (fun _ _ _ _ _ => pg_name (i := 14) scLaw.nd rfl (.inl rfl)) (fun _ _ _ _ _ => pts_one (PW.pt (pw_or (pt_not (pt_val (pe_callO (ok_isWordL T) hr (by decide) (by rfl) (pa_cons (pv 14) (pa_nil))))) (pw_or1 (pt_cmpR (op_ne) (pe_callO (ok_cut T) hr (by decide) (by rfl) (pa_cons (pe_op op_add_str (pv 4) (pv 14)) (pa_nil))) (pe_callO (ok_cut T) hr (by decide) (by rfl) (pa_cons (pe_op op_add_str (pv 14) (pv 4)) (pa_nil))) (nomark _)))))) (fun _ _ _ _ _ => pe_int)) (pe_lst (pa_nil)) (nomark _)) (pss_one (ps_ret (pe_bl))) (pss_nil))
         (pss_cons (ps_mid (ps_set (i := 12) scLaw.nd rfl (.inl rfl) (pe_ifExp (pt_cmpR (op_eqD hr.units) (pe_ix (r := rIxT K) ix_tup (pe_callO (ok_ring T) hr (by decide) (by rfl) (pa_cons (pv 4) (pa_nil))) (pe_int) (fun _ _ => rfl)) (pe_lst (pa_cons (pe_str) (pa_nil))) (nomark _)) (pe_int) (pe_int))))
         (pss_cons (ps_set (i := 13) scLaw.nd rfl (.inr rfl) (pe_lc (own := [("one", 14)]) (g := gName 14) (tt := tYes) (by rfl) scLaw.nd (pi_tup (pe_ix (r := rIxT K) ix_tup (pv 8) (pe_int) (fun _ _ => rfl))) (blkOk_by (N := ["script", "m", "turn", "word", "short", "is_some", "told", "own", "answer", "plain", "mover", "other", "many", "rows", "one", "n"]) (sc := defScope sLaw) (by decide +kernel)) (fun _ _ _ _ _ => pg_name (i := 14) scLaw.nd rfl (.inl rfl)) (fun _ _ _ _ _ => pts_nil) (fun _ _ _ _ _ => pe_tup (pa_cons (pe_callB call_len_str (by rfl) T.nlen PySem.boot_len (pa_cons (pv 14) (pa_nil))) (pa_cons (pv 14) (pa_nil))))))
         (pss_cons (ps_if (PW.pt (pw_or (pt_cmpR (op_ne) (pe_callB call_len_seq (by rfl) T.nlen PySem.boot_len (pa_cons (pv 13) (pa_nil))) (pv 12) (nomark _)) (pw_or1 (pt_cmpR (op_neD hr.units) (pe_lc (own := [("n", 15)]) (g := gName 15) (tt := _) (by rfl) scLaw.nd (pi_range1 (by rfl) T.nrange (pa_cons (pe_op op_sub (pv 12) (pe_int)) (pa_nil))) (blkOk_by (N := ["script", "m", "turn", "word", "short", "is_some", "told", "own", "answer", "plain", "mover", "other", "many", "rows", "one", "n"]) (sc := defScope sLaw) (by decide +kernel)) (fun _ _ _ _ _ => pg_name (i := 15) scLaw.nd rfl (.inl rfl)) (fun _ _ _ _ _ => pts_one (pt_not (pt_cmpR (show OpR _ (compareOp .Lt) (rLtP K) from op_ltP hr.units0) (pe_ix (r := rIxL K) ix_list (pv 13) (pv 15) (fun _ _ => rfl)) (pe_ix (r := rIxL K) ix_list (pv 13) (pe_op op_add (pv 15) (pe_int)) (fun _ _ => rfl)) (nomark _)))) (fun _ _ _ _ _ => pe_int)) (pe_lst (pa_nil)) (nomark _))))) (pss_one (ps_ret (pe_bl))) (pss_nil))
         (pss_one (ps_if (pt_cmpR (op_neD hr.units) (pe_callB cr_sortedS (by rfl) T.nsorted (by decide +kernel) (pa_cons (pv 7) (pa_nil))) (pe_callB cr_sortedS (by rfl) T.nsorted (by decide +kernel) (pa_cons (pe_lc (own := [("one", 14)]) (g := gName 14) (tt := _) (by rfl) scLaw.nd (pi_tup (pe_ix (r := rIxT K) ix_tup (pv 8) (pe_int) (fun _ _ => rfl))) (blkOk_by (N := ["script", "m", "turn", "word", "short", "is_some", "told", "own", "answer", "plain", "mover", "other", "many", "rows", "one", "n"]) (sc := defScope sLaw) (by decide +kernel)) (fun _ _ _ _ _ => pg_name (i := 14) scLaw.nd rfl (.inl rfl)) (fun _ _ _ _ _ => pts_one (pt_cmpR (op_le) (pe_callB call_len_str (by rfl) T.nlen PySem.boot_len (pa_cons (pv 14) (pa_nil))) (pe_int) (nomark _))) (fun _ _ _ _ _ => pv 14)) (pa_nil))) (nomark _)) (pss_one (ps_ret (pe_bl))) (pss_nil))))))))))))))))))))))))
         (pss_one (ps_ret (pe_bl)))), ?_⟩
    have fit : ∀ z : Nat, z ≤ 10000 → z ≤ sizeLine := fun z hz => Nat.le_trans hz (by decide)
    refine ⟨.ref a, rfl, a, ns, rfl, hS, hz, fun m lc lg H1 s1 nm nlc nlg M1 => ?_⟩
    refine ⟨2, rfl, by decide, by decide, ?_⟩
    refine for_range (lo := 0) (n := 2) (fun i σ H' => ∃ y2 y3 y4 y5 y6 y7 y8 y9 y10 y11 y12 y13 y14 y15 : Option V, σ = [some (.ref a), some (.ref m), y2, y3, y4, y5, y6, y7, y8, y9, y10, y11, y12, y13, y14, y15] ∧ MS H' m lc lg (11 * i))
      ⟨none, none, none, none, none, none, none, none, none, none, none, none, none, none, rfl, M1⟩ (fun i σ H2 hi h => ?_) (fun σ H2 h => q H2)
    obtain ⟨y2, y3, y4, y5, y6, y7, y8, y9, y10, y11, y12, y13, y14, y15, rfl, M2⟩ := h
    refine ⟨.ref m, rfl, m, lc, lg, _, 4, rfl, M2, by decide, by omega, fun pl H3 wp lp M3 _ => ⟨.ref m, rfl, m, lc, lg, _, 4, rfl, M3, by decide, by omega, fun mo H4 wm lm M4 _ => ⟨_, _, rfl, ?_⟩⟩⟩
    refine ⟨.str (S mo), rfl, S mo, rfl, fit _ (show mo.length ≤ _ by omega), .str (S pl), rfl, .ref m, rfl, m, lc, lg, _, 4, rfl, ⟨by decide, by decide⟩, M4, by omega, fun d H5 hd M5 _ => ?_⟩
    have hd4 : d < 4 := by omega
    have lr : pl.length * (1 + d) ≤ 4 * 4 := Nat.mul_le_mul lp (by omega)
    refine ⟨_, _, rfl, rfl, S pl, 1 + d, rfl, congrArg V.int (by omega), Nat.le_trans (show pl.length * (1 + d) ≤ _ from lr) (by decide), by omega, ?_⟩
    rw [mul_s]
    have lrp : (rep (1 + d) pl).length ≤ 16 := by rw [rep_len, Nat.mul_comm]; omega
    refine ⟨S mo.reverse, S (rep (1 + d) pl), rfl, rfl, fit _ (show mo.reverse.length + (rep (1 + d) pl).length ≤ _ by rw [List.length_reverse]; omega), .str (S mo), rfl, S mo.reverse ++ S (rep (1 + d) pl), S mo, rfl, rfl, ?_, ?_⟩
    · rw [s_app]
      exact fit _ (show (mo.reverse ++ rep (1 + d) pl).length + mo.length ≤ _ by rw [List.length_append, List.length_reverse]; omega)
    rw [s_app, s_app]
    have wu : Wd (mo.reverse ++ rep (1 + d) pl ++ mo) := wd_append.mpr ⟨wd_append.mpr ⟨wd_rev.mpr wm, rep_wd wp _⟩, wm⟩
    have lu : (mo.reverse ++ rep (1 + d) pl ++ mo).length ≤ 24 := by rw [List.length_append, List.length_append, List.length_reverse]; omega
    generalize mo.reverse ++ rep (1 + d) pl ++ mo = u at wu lu ⊢
    have wcu := cut_wd wu
    have lcu := cut_len _ u rfl wu
    refine ⟨.str (S u), rfl, u, rfl, ⟨wu, by omega⟩, ?_⟩
    -- is_some
    refine ⟨fun σ' H' => H' = H5 ∧ σ' = [some (.ref a), some (.ref m), some (.int (0 + (i : Int))), some (.str (S u)), some (.str (S (cut u))), some (.bl (isS u)), y6, y7, y8, some (.str (S pl)), some (.str (S mo)), y11, y12, y13, y14, y15], ?_, ?_⟩
    · refine ⟨.str (S (cut u)), rfl, rfl, _, rfl, ?_⟩
      have hs : (V.str (S (cut u)) = V.str (S [])) ↔ cut u = [] := ⟨fun z => s_inj (V.str.inj z), fun z => by rw [z]⟩
      by_cases e : cut u = []
      · have e1 : (!decide (V.str (S (cut u)) = V.str (S []))) = false := not_ne (hs.mpr e)
        show if (!decide (V.str (S (cut u)) = V.str (S []))) = true then _ else _
        rw [e1]
        refine iteF ?_
        rw [← isS_nil e]
        exact ⟨rfl, rfl⟩
      · have e1 : (!decide (V.str (S (cut u)) = V.str (S []))) = true := by rw [decide_eq_false fun z => e (hs.mp z)]; rfl
        show if (!decide (V.str (S (cut u)) = V.str (S []))) = true then _ else _
        rw [e1]
        refine iteT ⟨.str (S (cut u)), rfl, cut u, rfl, wcu, by omega, _, rfl, ?_⟩
        have e2 : (!(decide (cut u ≠ []) && decide (cut (cut u ++ cut u) = []))) = isS u := by
          unfold isS
          rw [decide_eq_true e, Bool.true_and, Bool.true_and]
        rw [e2]
        exact ⟨rfl, rfl⟩
    rintro σ' H' ⟨rfl, rfl⟩
    refine ⟨.str (S u), rfl, u, rfl, wu, by omega, fun t k p1 H6 hRC s6 np1 ep1 => ?_⟩
    have fc := hRC.facts wu (by omega)
    have M6 := M5.same s6
    refine ⟨.ref p1, rfl, .ref p1, .ty "tuple", .type "tuple", .type "tuple", true, rfl, .ty "tuple", .base (.tup ep1), kit_ty (by decide +kernel), true, rfl, iteF ?_⟩
    refine ⟨.ref p1, rfl, p1, _, rfl, .inr (.inl (.inl ep1)), rfl, _, rfl, ?_⟩
    show if (!decide (V.int ((2 : Nat) : Int) = V.int 2)) = true then _ else _
    rw [n2]
    refine iteF ⟨.ref p1, rfl, p1, _, _, .str (S t), rfl, rfl, .inl (.inl ep1), atI_nat (j := 0) rfl, t, rfl, fc.ft, by have := fc.lt; omega, fun H7 s7 => ⟨true, rfl, iteF ?_⟩⟩
    have M7 := M6.same s7
    have e7 := s7 _ _ ep1
    -- how often
    refine ⟨fun σ' H' => σ' = [some (.ref a), some (.ref m), some (.int (0 + (i : Int))), some (.str (S u)), some (.str (S (cut u))), some (.bl (isS u)), some (.ref p1), y7, y8, some (.str (S pl)), some (.str (S mo)), y11, y12, y13, y14, y15] ∧ Same H7 H', ?_, ?_⟩
    · refine ⟨.ref p1, rfl, p1, _, _, .int (k : Int), rfl, rfl, .inl (.inl e7), atI_nat (j := 1) rfl, .bl (isS u), rfl, isS u, rfl, ?_⟩
      have k30 := fc.lk
      cases hRC with
      | non h e e1 =>
        rw [isS_nil h]
        refine iteF ⟨1, ?_, by decide, true, rfl, iteF ⟨rfl, Same.id _⟩⟩
        rw [e1]
        rfl
      | mir X c M e e1 lx =>
        rw [isS_mir wu M.is_mir.2]
        refine iteF ⟨1, ?_, by decide, true, rfl, iteF ⟨rfl, Same.id _⟩⟩
        rw [e1]
        rfl
      | root m' ρ A' d' R g' hd' hA hk ft lt =>
        obtain ⟨n1, n2'⟩ := R.not_mir
        rw [isS_some wu n1 n2']
        refine iteT ⟨.str (S (cut u)), rfl, cut u, rfl, fw_cut wu, by omega, fun L y b H8 hR hT s8 => ?_⟩
        have eb := root_times R g' hd' hk hR hT
        subst eb
        exact ⟨b, rfl, by omega, true, rfl, iteF ⟨rfl, s8⟩⟩
    rintro σ' H8 ⟨rfl, s8⟩
    have M8 := M7.same s8
    have e8 := s8 _ _ e7
    refine ⟨.ref p1, rfl, p1, _, _, .str (S t), rfl, rfl, .inl (.inl e8), atI_nat (j := 0) rfl, .ref p1, rfl, p1, _, _, .int (k : Int), rfl, rfl, .inl (.inl e8), atI_nat (j := 1) rfl, t, (k : Int), rfl, fc.ft.wd, fc.lt, by omega, by have := fc.lk; omega, .str (S (cut u)), rfl, rfl, _, rfl, ?_⟩
    rw [pwr_nat, fc.pow]
    show if (!decide (V.str (S (cut u)) = V.str (S (cut u)))) = true then _ else _
    rw [not_ne rfl]
    refine iteF ?_
    -- own
    refine ⟨rfl, fun pA HA sA npA epA => ⟨pA, rfl, ⟨Vs (allW 6), .inl (.inl epA)⟩, fun D nD => ?_⟩⟩
    have MA := M8.same sA
    have eA := sA _ _ e8
    have nD0 := none_of sA nD
    refine lc_list (K := K) (xs := Vs (allW 6)) (fun j H' => Same HA H' ∧ H' D = some (.lst (Vs (((allW 6).take j).filter fun o => decide (cut (cut u ++ o) = cut (o ++ cut u))))))
      ⟨same_new nD, upd_same⟩ (fun j H' hj h => .inl (.inl (h.1 _ _ epA))) (fun j x H' hx h => ?_) (fun H9 h => ?_)
    · obtain ⟨sm, hD⟩ := h
      obtain ⟨o, ho, rfl⟩ : ∃ o, (allW 6)[j]? = some o ∧ x = .str (S o) := by
        unfold Vs at hx
        rw [List.getElem?_map] at hx
        cases e : (allW 6)[j]? with
        | none => rw [e] at hx; cases hx
        | some v => rw [e] at hx; exact ⟨v, rfl, (Option.some.inj hx).symm⟩
      obtain ⟨fo, lo⟩ := mem_allW.mp (List.mem_of_getElem? ho)
      have hj : j < 85 := by
        obtain ⟨h, _⟩ := List.getElem?_eq_some_iff.mp ho
        rw [allW_len] at h
        exact h
      have lt : ((((allW 6).take j).filter fun o => decide (cut (cut u ++ o) = cut (o ++ cut u)))).length ≤ 85 := Nat.le_trans (List.length_filter_le _ _) (by rw [List.length_take]; omega)
      have step : (((allW 6).take (j + 1)).filter fun o => decide (cut (cut u ++ o) = cut (o ++ cut u))) = (((allW 6).take j).filter fun o => decide (cut (cut u ++ o) = cut (o ++ cut u))) ++ (if cut (cut u ++ o) = cut (o ++ cut u) then [o] else []) := by
        rw [List.take_succ, ho, List.filter_append]
        congr 1
        by_cases c : cut (cut u ++ o) = cut (o ++ cut u)
        · simp [List.filter_cons, c]
        · simp [List.filter_cons, c]
      rw [step]
      generalize ((allW 6).take j).filter (fun o => decide (cut (cut u ++ o) = cut (o ++ cut u))) = ws at hD lt ⊢
      have w1 : Wd (cut u ++ o) := wd_append.mpr ⟨wcu, fo.wd⟩
      have w2 : Wd (o ++ cut u) := wd_append.mpr ⟨fo.wd, wcu⟩
      refine ⟨rfl, .str (S (cut u)), rfl, .str (S o), rfl, _, _, rfl, rfl, fit _ (show (cut u).length + o.length ≤ _ by omega), cut u ++ o, congrArg (fun z => [V.str z]) (s_app _ _), ⟨w1, by rw [List.length_append]; omega⟩, .str (S o), rfl, .str (S (cut u)), rfl, _, _, rfl, rfl, fit _ (show o.length + (cut u).length ≤ _ by omega), o ++ cut u, congrArg (fun z => [V.str z]) (s_app _ _), ⟨w2, by rw [List.length_append]; omega⟩, rfl, _, rfl, ?_⟩
      by_cases c : cut (cut u ++ o) = cut (o ++ cut u)
      · refine iteDT (by rw [c]) ⟨.str (S o), rfl, _, hD, ?_, ?_⟩
        · rw [vs_len]
          exact Nat.lt_of_le_of_lt lt (by decide)
        · refine ⟨same_mut sm nD, ?_⟩
          rw [upd_same, if_pos c, vs_snoc]
      · refine iteDF (fun z => c (s_inj (V.str.inj z))) ⟨sm, ?_⟩
        rw [if_neg c, List.append_nil]
        exact hD
    obtain ⟨s9, eD⟩ := h
    rw [vs_len, List.take_length] at eD
    have eD' : H9 D = some (.lst (Vs (own u))) := eD
    clear eD
    have M9 := MA.same s9
    have e9 := s9 _ _ eA
    clear M1 M2 M3 M4 M5 M6 M7 M8 MA e7 e8 eA ep1
    have olen : (own u).length ≤ 85 := by rw [← allW_len]; exact List.length_filter_le _ _
    refine ⟨.str (S u), rfl, u, rfl, wu, by omega, ?_, ?_, ?_⟩
    · -- all
      intro pc qc HC hcu sC npc epc eqc
      have MC := M9.same sC
      have eDC := sC _ _ eD'
      refine ⟨.ref pc, rfl, .ref pc, .ty "tuple", .type "tuple", .type "tuple", true, rfl, .ty "tuple", .base (.tup epc), kit_ty (by decide +kernel), true, rfl, iteF ?_⟩
      refine ⟨.ref pc, rfl, pc, _, rfl, .inr (.inl (.inl epc)), rfl, _, rfl, ?_⟩
      show if (!decide (V.int ((2 : Nat) : Int) = V.int 2)) = true then _ else _
      rw [n2]
      refine iteF ⟨.str (S (cut u)), rfl, rfl, _, rfl, iteDT (show V.str (S (cut u)) = V.str (S []) from by rw [hcu]) ?_⟩
      refine ⟨.ref pc, rfl, Nat.zero_le _, fun q1 nq1 => ⟨by show 2 ≤ sizeLine; decide, fun p2 np2 => ?_⟩⟩
      have g1 := same_new (o := .tup []) nq1
      have g2 := same_new (o := .tup [.str "all", .ref q1]) np2
      have gg := Same.to g1 g2
      have f2 : (upd (upd HC q1 (.tup [])) p2 (.tup [.str "all", .ref q1])) p2 = some (.tup [.str "all", .ref q1]) := upd_same
      have f1 : (upd (upd HC q1 (.tup [])) p2 (.tup [.str "all", .ref q1])) q1 = some (.tup []) := g2 _ _ upd_same
      generalize upd (upd HC q1 (.tup [])) p2 (.tup [.str "all", .ref q1]) = HE at gg f1 f2 ⊢
      refine .inl ⟨pc, p2, _, rfl, .tup (.inl (.inl (gg _ _ epc))) (.cons (.str _) (.cons (.tup (.inl (.inl (gg _ _ eqc))) .nil) .nil)), .tup (.inl (.inl f2)) (.cons (.str _) (.cons (.tup (.inl (.inl f1)) .nil) .nil)), shows_all, true, rfl, iteF ?_⟩
      refine ⟨.ref D, rfl, D, Vs (own u), rfl, .inl (.inl (.inl (gg _ _ eDC))), rfl, _, rfl, ?_⟩
      show if (!decide (V.int ((Vs (own u)).length : Int) = V.int 85)) = true then _ else _
      rw [not_ne (by rw [vs_len, own_all wu hcu, allW_len]; rfl)]
      exact iteF ⟨_, _, _, _, _, _, _, _, _, _, _, _, _, _, rfl, (MC.same gg).le (by omega)⟩
    · -- powers
      intro t' k' pc qc HC n1 n2' hRC' sC npc epc eqc
      cases hRC with
      | non h e e1 => exact absurd h n1
      | mir X c M e e1 lx => exact absurd M.is_mir.2 n2'
      | root m' ρ A' d' R g' hd' hA hk ft lt =>
      have et := rc_same R g' hd' hA hk ft hRC'
      subst et
      have MC := M9.same sC
      have eDC := sC _ _ eD'
      have eC := sC _ _ e9
      refine ⟨.ref pc, rfl, .ref pc, .ty "tuple", .type "tuple", .type "tuple", true, rfl, .ty "tuple", .base (.tup epc), kit_ty (by decide +kernel), true, rfl, iteF ?_⟩
      refine ⟨.ref pc, rfl, pc, _, rfl, .inr (.inl (.inl epc)), rfl, _, rfl, ?_⟩
      show if (!decide (V.int ((2 : Nat) : Int) = V.int 2)) = true then _ else _
      rw [n2]
      refine iteF ⟨.str (S (cut u)), rfl, rfl, _, rfl, iteDF (fun z => n1 (s_inj (V.str.inj z))) ?_⟩
      refine ⟨.bl (isS u), rfl, isS u, rfl, ?_⟩
      rw [isS_some wu n1 n2']
      refine iteT ?_
      refine ⟨.ref pc, rfl, .ref p1, rfl, p1, _, _, .str (S t'), rfl, rfl, .inl (.inl eC), atI_nat (j := 0) rfl, by show 1 ≤ sizeLine; decide, fun q1 nq1 => ⟨by show 2 ≤ sizeLine; decide, fun p2 np2 => ?_⟩⟩
      have g1 := same_new (o := .tup [.str (S t')]) nq1
      have g2 := same_new (o := .tup [.str "powers", .ref q1]) np2
      have gg := Same.to g1 g2
      have f2 : (upd (upd HC q1 (.tup [.str (S t')])) p2 (.tup [.str "powers", .ref q1])) p2 = some (.tup [.str "powers", .ref q1]) := upd_same
      have f1 : (upd (upd HC q1 (.tup [.str (S t')])) p2 (.tup [.str "powers", .ref q1])) q1 = some (.tup [.str (S t')]) := g2 _ _ upd_same
      generalize upd (upd HC q1 (.tup [.str (S t')])) p2 (.tup [.str "powers", .ref q1]) = HE at gg f1 f2 ⊢
      refine .inl ⟨pc, p2, _, rfl, .tup (.inl (.inl (gg _ _ epc))) (.cons (.str _) (.cons (.tup (.inl (.inl (gg _ _ eqc))) (.cons (.str _) .nil)) .nil)), .tup (.inl (.inl f2)) (.cons (.str _) (.cons (.tup (.inl (.inl f1)) (.cons (.str _) .nil)) .nil)), shows_pow ft.wd lt, true, rfl, iteF ?_⟩
      have pp := own_root R
      have pl7 := pws_len t' 7
      have plen := pp.length_eq
      have eDE := gg _ _ eDC
      have eE := gg _ _ eC
      refine ⟨.ref D, rfl, D, (own u).map S, rfl, .inl (.inl (by rw [eDE]; unfold Vs; rw [List.map_map]; rfl)), by rw [List.length_map]; omega, fun ys r1 hy sy nr1 => ?_⟩
      have g3 := same_new (o := .lst (ys.map V.str)) nr1
      have f3 : (upd HE r1 (.lst (ys.map V.str))) r1 = some (.lst (ys.map V.str)) := upd_same
      generalize upd HE r1 (.lst (ys.map V.str)) = HF at g3 f3 ⊢
      refine ⟨.ref p1, rfl, p1, _, _, .str (S t'), rfl, rfl, .inl (.inl (g3 _ _ eE)), atI_nat (j := 0) rfl, t', rfl, ft.wd, lt, fun r2 HG g4 nr2 er2 => ?_⟩
      refine ⟨r2, (pws t' 7).map S, rfl, .inl (.inl (by rw [er2]; unfold Vs; rw [List.map_map]; rfl)), by rw [List.length_map]; omega, fun zs r3 hz' sz nr3 => ?_⟩
      have g5 := same_new (o := .lst (zs.map V.str)) nr3
      have f5 : (upd HG r3 (.lst (zs.map V.str))) r3 = some (.lst (zs.map V.str)) := upd_same
      generalize upd HG r3 (.lst (zs.map V.str)) = HI at g5 f5 ⊢
      have ey := sorted_same pp hy hz' sy sz
      have wA : ∀ o ∈ own u, Wd o := fun o ho => ((mem_own wu).mp ho).1.wd
      have wB : ∀ o ∈ pws t' 7, Wd o := fun o ho => wA o (pp.mem_iff.mpr ho)
      refine ⟨_, _, .lst (.inl (.inl (g5 _ _ (g4 _ _ f3)))) (dp_strs ys), .lst (.inl (.inl f5)) (dp_strs zs), shaped_ys wA hy, shaped_ys wB hz', _, rfl, ?_⟩
      have ee : (!PyData.eqv (.list (ys.map PyData.str)) (.list (zs.map PyData.str))) = false := by
        unfold PyData.eqv
        rw [ey, strs_refl]
        rfl
      rw [ee]
      exact iteF ⟨_, _, _, _, _, _, _, _, _, _, _, _, _, _, rfl, (MC.same (Same.to gg (Same.to g3 (Same.to g4 g5)))).le (by omega)⟩
    · -- few
      intro ts X c pc qc HC hF sC npc epc eqc
      have FF := hF.facts wu (by omega)
      have hM := hF.m
      have MC := M9.same sC
      have eDC := sC _ _ eD'
      have lts : ts.length ≤ 4 := by rcases FF.len with h | h <;> omega
      refine ⟨.ref pc, rfl, .ref pc, .ty "tuple", .type "tuple", .type "tuple", true, rfl, .ty "tuple", .base (.tup epc), kit_ty (by decide +kernel), true, rfl, iteF ?_⟩
      refine ⟨.ref pc, rfl, pc, _, rfl, .inr (.inl (.inl epc)), rfl, _, rfl, ?_⟩
      show if (!decide (V.int ((2 : Nat) : Int) = V.int 2)) = true then _ else _
      rw [n2]
      refine iteF ⟨.str (S (cut u)), rfl, rfl, _, rfl, iteDF (fun z => hM.is_mir.1 (s_inj (V.str.inj z))) ?_⟩
      refine ⟨.bl (isS u), rfl, isS u, rfl, ?_⟩
      rw [isS_mir wu hM.is_mir.2]
      refine iteF ?_
      refine ⟨.ref pc, rfl, pc, _, _, .str "few", rfl, rfl, .inl (.inl epc), atI_nat (j := 0) rfl, rfl, _, rfl, ?_⟩
      show if (!decide (V.str "few" = V.str "few")) = true then _ else _
      rw [not_ne rfl]
      refine iteF ⟨.ref pc, rfl, pc, _, _, .ref qc, rfl, rfl, .inl (.inl epc), atI_nat (j := 1) rfl, .ref qc, .ty "tuple", .type "tuple", .type "tuple", true, rfl, .ty "tuple", .base (.tup eqc), kit_ty (by decide +kernel), true, rfl, iteF ?_⟩
      have item : ∀ {j : Nat} {x : V}, (Vs ts)[j]? = some x → ∃ o, ts[j]? = some o ∧ x = .str (S o) ∧ Fw o ∧ o.length ≤ 300 ∧ Cm u o := fun {j x} hx => by
        unfold Vs at hx
        rw [List.getElem?_map] at hx
        cases e : ts[j]? with
        | none => rw [e] at hx; cases hx
        | some v =>
          rw [e] at hx
          obtain ⟨f1, f2, f3⟩ := FF.fw v (List.mem_of_getElem? e)
          exact ⟨v, rfl, (Option.some.inj hx).symm, f1, f2, f3⟩
      -- each one is a word and commutes
      refine ⟨.ref pc, rfl, pc, _, _, .ref qc, rfl, rfl, .inl (.inl epc), atI_nat (j := 1) rfl, qc, rfl, ⟨_, .inl (.inl eqc)⟩, fun D1 nD1 => ?_⟩
      refine lc_tup (K := K) (xs := Vs ts) (fun j H' => Same HC H' ∧ H' D1 = some (.lst [])) ⟨same_new nD1, upd_same⟩ (fun j H' hj h => .inl (.inl (h.1 _ _ eqc))) (fun j x H' hx h => ?_) (fun H10 h => ?_)
      · obtain ⟨sm, hD⟩ := h
        obtain ⟨o, ho, rfl, fo, lo, cm⟩ := item hx
        have w1 : Wd (cut u ++ o) := wd_append.mpr ⟨wcu, fo.wd⟩
        have w2 : Wd (o ++ cut u) := wd_append.mpr ⟨fo.wd, wcu⟩
        refine ⟨rfl, .str (S o), rfl, o, rfl, fo, by omega, fun H'' s' => ⟨true, rfl, iteF ?_⟩⟩
        refine ⟨.str (S (cut u)), rfl, .str (S o), rfl, _, _, rfl, rfl, fit _ (show (cut u).length + o.length ≤ _ by omega), cut u ++ o, congrArg (fun z => [V.str z]) (s_app _ _), ⟨w1, by rw [List.length_append]; omega⟩, .str (S o), rfl, .str (S (cut u)), rfl, _, _, rfl, rfl, fit _ (show o.length + (cut u).length ≤ _ by omega), o ++ cut u, congrArg (fun z => [V.str z]) (s_app _ _), ⟨w2, by rw [List.length_append]; omega⟩, rfl, _, rfl, ?_⟩
        show if (!decide (V.str (S (cut (cut u ++ o))) = V.str (S (cut (o ++ cut u))))) = true then _ else _
        rw [not_ne (by rw [(cm_cut wu fo.wd).mpr cm])]
        exact iteF ⟨Same.to sm s', s' _ _ hD⟩
      obtain ⟨s10, h10⟩ := h
      refine ⟨Nat.zero_le _, fun b1 nb1 => ?_⟩
      have g11 := same_new (o := .lst []) nb1
      refine ⟨.list [], .list [], .lst (.inl (.inl (g11 _ _ h10))) .nil, .lst (.inl (.inl upd_same)) .nil, rfl, rfl, _, rfl, ?_⟩
      have nil_eq : (!PyData.eqv (.list []) (.list [])) = false := by
        unfold PyData.eqv
        unfold PyData.eqvAll
        rfl
      rw [nil_eq]
      refine iteF ?_
      have s11 := Same.to s10 g11
      generalize upd H10 b1 (.lst []) = H11 at s11 ⊢
      clear s10 h10 g11 nb1 nD1
      -- how many
      refine ⟨fun σ' H' => σ' = [some (.ref a), some (.ref m), some (.int (0 + (i : Int))), some (.str (S u)), some (.str (S (cut u))), some (.bl false), some (.ref p1), some (.ref D), some (.ref pc), some (.str (S pl)), some (.str (S mo)), y11, some (.int (ts.length : Int)), y13, y14, y15] ∧ Same H11 H', ?_, ?_⟩
      · refine ⟨.str (S (cut u)), rfl, cut u, rfl, fw_cut wu, by omega, fun L y p2 q2 H12 s12 np2 nq2 eq2 ep2 hR => ⟨p2, _, _, .ref q2, rfl, rfl, .inl (.inl ep2), atI_nat (j := 0) rfl, by show 1 ≤ sizeLine; decide, fun b2 nb2 => ?_⟩⟩
        have eL := mir_ring wu hM hR
        subst eL
        have g13 := same_new (o := .lst (Vs [[49]])) nb2
        have wdp : ∀ p ∈ [c].map pw, Wd p := fun p hp => by
          obtain ⟨z, _, e⟩ := List.mem_map.mp hp
          rw [← e]
          exact pw_wd z
        have wdq : ∀ p ∈ ([[49]] : List (List Nat)), Wd p := fun p hp => by
          rw [List.mem_singleton.mp hp]
          exact fun z hz => by rw [List.mem_singleton.mp hz]; exact .inr (.inl rfl)
        refine ⟨_, _, .lst (.inl (.inl (g13 _ _ eq2))) (dpAll_strs ([c].map pw)), .lst (.inl (.inl upd_same)) (dpAll_strs [[49]]), shaped_strs wdp, shaped_strs wdq, _, rfl, ?_⟩
        have ee : PyData.eqv (.list (([c].map pw).map fun p => PyData.str (S p))) (.list (([[49]] : List (List Nat)).map fun p => PyData.str (S p))) = decide ([c].map pw = [[49]]) := by
          unfold PyData.eqv
          exact strs_eq _ _
        rw [ee]
        obtain ⟨cc, _⟩ := mir_parts hM.al
        rcases hF.ts with ⟨c4, ets⟩ | ⟨c4, ets⟩
        · refine iteDT (by rw [c4]; rfl) ⟨?_, Same.to s12 g13⟩
          rw [ets]
          rfl
        · refine iteDF (fun z => c4 (pw_inj cc (.inr (.inr (.inr rfl))) (List.cons.inj z).1)) ⟨?_, Same.to s12 g13⟩
          rw [ets]
          rfl
      rintro σ' H12 ⟨rfl, s12⟩
      have s13 := Same.to s11 s12
      have epc2 := s13 _ _ epc
      have eqc2 := s13 _ _ eqc
      -- rows
      refine ⟨.ref pc, rfl, pc, _, _, .ref qc, rfl, rfl, .inl (.inl epc2), atI_nat (j := 1) rfl, qc, rfl, ⟨_, .inl (.inl eqc2)⟩, fun D2 nD2 => ?_⟩
      refine lc_tup (K := K) (xs := Vs ts) (fun j H' => Same H12 H' ∧ ∃ rs : List Addr, rs.length = j ∧ H' D2 = some (.lst (rs.map V.ref)) ∧ ∀ (n : Nat) (r : Addr) (o : List Nat), rs[n]? = some r → ts[n]? = some o → H' r = some (.tup [.int (o.length : Int), .str (S o)]))
        ⟨same_new nD2, [], rfl, upd_same, fun n r o h => by cases h⟩ (fun j H' hj h => .inl (.inl (h.1 _ _ eqc2))) (fun j x H' hx h => ?_) (fun H14 h => ?_)
      · obtain ⟨sm, rs, lrs, hD, hr2⟩ := h
        obtain ⟨o, ho, rfl, fo, lo, cm⟩ := item hx
        have hj : j < ts.length := (List.getElem?_eq_some_iff.mp ho).1
        refine ⟨rfl, yes (iteT ?_)⟩
        refine ⟨.str (S o), rfl, S o, rfl, fit _ (show o.length ≤ _ by omega), .str (S o), rfl, by show 2 ≤ sizeLine; decide, fun r nr => ?_⟩
        have g := same_new (o := .tup [.int (o.length : Int), .str (S o)]) nr
        have er : (upd H' r (.tup [.int (o.length : Int), .str (S o)])) r = some (.tup [.int (o.length : Int), .str (S o)]) := upd_same
        have ne : D2 ≠ r := ne_of_none hD nr
        refine ⟨_, g _ _ hD, ?_, same_mut (Same.to sm g) nD2, rs ++ [r], ?_, ?_, ?_⟩
        · rw [List.length_map, lrs]
          exact Nat.lt_of_lt_of_le hj (fit _ (by omega))
        · rw [List.length_append, lrs]; rfl
        · rw [upd_same, List.map_append]; rfl
        · intro n r' o' h1 h2
          by_cases hn : n < rs.length
          · rw [List.getElem?_append_left hn] at h1
            have e1 := hr2 n r' o' h1 h2
            have ne2 : r' ≠ D2 := fun z => by rw [z] at e1; rw [hD] at e1; cases e1
            rw [upd_ne ne2]
            exact g _ _ e1
          · have hn2 := (List.getElem?_eq_some_iff.mp h1).1
            rw [List.length_append] at hn2
            have en : n = rs.length := by
              have : ([r] : List Addr).length = 1 := rfl
              omega
            subst en
            rw [List.getElem?_append_right (Nat.le_refl _), Nat.sub_self] at h1
            have e1 : r = r' := Option.some.inj h1
            subst e1
            rw [lrs, ho] at h2
            have e2 : o = o' := Option.some.inj h2
            subst e2
            rw [upd_ne (fun z => ne z.symm)]
            exact er
      obtain ⟨s14, rs, lrs, eR, hrs⟩ := h
      rw [vs_len] at lrs
      have s15 := Same.to s13 s14
      refine ⟨.ref D2, rfl, D2, rs.map V.ref, rfl, .inl (.inl (.inl eR)), .int (ts.length : Int), rfl, rfl, _, rfl, ?_⟩
      show if (!decide (V.int ((rs.map V.ref).length : Int) = V.int (ts.length : Int))) = true then _ else _
      rw [not_ne (by rw [List.length_map, lrs])]
      refine iteF ⟨.int (ts.length : Int), rfl, _, _, rfl, rfl, (ts.length : Int) - 1, rfl, by omega, by omega, fun D3 nD3 => ?_⟩
      have en : ((ts.length : Int) - 1).toNat = ts.length - 1 := by omega
      rw [en]
      refine lc_range (lo := 0) (n := ts.length - 1) (fun j H' => Same H14 H' ∧ H' D3 = some (.lst [])) ⟨same_new nD3, upd_same⟩ (fun j H' hj h => ?_) (fun H16 h => ?_)
      · obtain ⟨sm, hD⟩ := h
        have eR2 := sm _ _ eR
        have ga : ∃ oa, ts[j]? = some oa := ⟨_, List.getElem?_eq_getElem (show j < ts.length by omega)⟩
        have gb : ∃ ob, ts[j + 1]? = some ob := ⟨_, List.getElem?_eq_getElem (show j + 1 < ts.length by omega)⟩
        have ra : ∃ r, rs[j]? = some r := ⟨_, List.getElem?_eq_getElem (show j < rs.length by omega)⟩
        have rb : ∃ r, rs[j + 1]? = some r := ⟨_, List.getElem?_eq_getElem (show j + 1 < rs.length by omega)⟩
        obtain ⟨oa, ga⟩ := ga
        obtain ⟨ob, gb⟩ := gb
        obtain ⟨ra, ha⟩ := ra
        obtain ⟨rb, hb⟩ := rb
        have ia : (rs.map V.ref)[j]? = some (.ref ra) := by rw [List.getElem?_map, ha]; rfl
        have ib : (rs.map V.ref)[j + 1]? = some (.ref rb) := by rw [List.getElem?_map, hb]; rfl
        have e0 : (0 : Int) + (j : Int) = (j : Int) := by omega
        rw [e0]
        refine ⟨rfl, .ref D2, rfl, .int (j : Int), rfl, D2, _, _, .ref ra, rfl, rfl, .inl (.inl eR2), atI_nat ia, .ref D2, rfl, .int (j : Int), rfl, _, _, rfl, rfl, D2, _, ((j + 1 : Nat) : Int), .ref rb, rfl, rfl, .inl (.inl eR2), atI_nat ib, ra, rb, _, _, S oa, S ob, rfl, rfl, .inl (.inl (sm _ _ (hrs j ra oa ha ga))), .inl (.inl (sm _ _ (hrs (j + 1) rb ob hb gb))), _, rfl, ?_⟩
        have up : ltP (oa.length : Int) (S oa) (ob.length : Int) (S ob) = true := FF.up j oa ob ga gb
        rw [up]
        exact iteF ⟨sm, hD⟩
      obtain ⟨s16, h16⟩ := h
      refine ⟨Nat.zero_le _, fun b3 nb3 => ?_⟩
      have g17 := same_new (o := .lst []) nb3
      refine ⟨.list [], .list [], .lst (.inl (.inl (g17 _ _ h16))) .nil, .lst (.inl (.inl upd_same)) .nil, rfl, rfl, _, rfl, ?_⟩
      rw [nil_eq]
      refine iteF ?_
      have s17 := Same.to s15 (Same.to s16 g17)
      generalize upd H16 b3 (.lst []) = HE at s17 ⊢
      clear s16 h16 g17 nb3 nD3 s15 s14 hrs eR nD2
      -- the same words
      have pp := own_few wu FF
      have plen := pp.length_eq
      have fl : (ts.filter fun o => decide (o.length ≤ 6)).length ≤ 4 := Nat.le_trans (List.length_filter_le _ _) lts
      have eDE := s17 _ _ eDC
      refine ⟨.ref D, rfl, D, (own u).map S, rfl, .inl (.inl (by rw [eDE]; unfold Vs; rw [List.map_map]; rfl)), by rw [List.length_map]; omega, fun ys r1 hy sy nr1 => ?_⟩
      have g3 := same_new (o := .lst (ys.map V.str)) nr1
      have f3 : (upd HE r1 (.lst (ys.map V.str))) r1 = some (.lst (ys.map V.str)) := upd_same
      generalize upd HE r1 (.lst (ys.map V.str)) = HF at g3 f3 ⊢
      have s18 := Same.to s17 g3
      have epc3 := s18 _ _ epc
      have eqc3 := s18 _ _ eqc
      refine ⟨.ref pc, rfl, pc, _, _, .ref qc, rfl, rfl, .inl (.inl epc3), atI_nat (j := 1) rfl, qc, rfl, ⟨_, .inl (.inl eqc3)⟩, fun D4 nD4 => ?_⟩
      refine lc_tup (K := K) (xs := Vs ts) (fun j H' => Same HF H' ∧ H' D4 = some (.lst (Vs ((ts.take j).filter fun o => decide (o.length ≤ 6)))))
        ⟨same_new nD4, upd_same⟩ (fun j H' hj h => .inl (.inl (h.1 _ _ eqc3))) (fun j x H' hx h => ?_) (fun HG h => ?_)
      · obtain ⟨sm, hD⟩ := h
        obtain ⟨o, ho, rfl, fo, lo, cm⟩ := item hx
        have hj : j < ts.length := (List.getElem?_eq_some_iff.mp ho).1
        have lt : ((ts.take j).filter fun o => decide (o.length ≤ 6)).length ≤ 85 := Nat.le_trans (List.length_filter_le _ _) (by rw [List.length_take]; omega)
        have step : ((ts.take (j + 1)).filter fun o => decide (o.length ≤ 6)) = ((ts.take j).filter fun o => decide (o.length ≤ 6)) ++ (if o.length ≤ 6 then [o] else []) := by
          rw [List.take_succ, ho, List.filter_append]
          congr 1
          by_cases c : o.length ≤ 6
          · simp [List.filter_cons, c]
          · simp [List.filter_cons, c]
        rw [step]
        generalize (ts.take j).filter (fun o => decide (o.length ≤ 6)) = ws at hD lt ⊢
        refine ⟨rfl, .str (S o), rfl, S o, rfl, fit _ (show o.length ≤ _ by omega), _, _, rfl, rfl, _, rfl, ?_⟩
        by_cases c : o.length ≤ 6
        · refine iteDT (show ((S o).length : Int) ≤ 6 from by show ((o.length : Nat) : Int) ≤ 6; omega) ⟨.str (S o), rfl, _, hD, ?_, ?_⟩
          · rw [vs_len]
            exact Nat.lt_of_le_of_lt lt (by decide)
          · refine ⟨same_mut sm nD4, ?_⟩
            rw [upd_same, if_pos c, vs_snoc]
        · refine iteDF (show ¬ ((S o).length : Int) ≤ 6 from by show ¬ ((o.length : Nat) : Int) ≤ 6; omega) ⟨sm, ?_⟩
          rw [if_neg c, List.append_nil]
          exact hD
      obtain ⟨g4, er2⟩ := h
      rw [vs_len, List.take_length] at er2
      refine ⟨D4, (ts.filter fun o => decide (o.length ≤ 6)).map S, rfl, .inl (.inl (by rw [er2]; unfold Vs; rw [List.map_map]; rfl)), by rw [List.length_map]; omega, fun zs r3 hz' sz nr3 => ?_⟩
      have g5 := same_new (o := .lst (zs.map V.str)) nr3
      have f5 : (upd HG r3 (.lst (zs.map V.str))) r3 = some (.lst (zs.map V.str)) := upd_same
      generalize upd HG r3 (.lst (zs.map V.str)) = HI at g5 f5 ⊢
      have ey := sorted_same pp hy hz' sy sz
      have wA : ∀ o ∈ own u, Wd o := fun o ho => ((mem_own wu).mp ho).1.wd
      have wB : ∀ o ∈ (ts.filter fun o => decide (o.length ≤ 6)), Wd o := fun o ho => wA o (pp.mem_iff.mpr ho)
      refine ⟨_, _, .lst (.inl (.inl (g5 _ _ (g4 _ _ f3)))) (dp_strs ys), .lst (.inl (.inl f5)) (dp_strs zs), shaped_ys wA hy, shaped_ys wB hz', _, rfl, ?_⟩
      have ee : (!PyData.eqv (.list (ys.map PyData.str)) (.list (zs.map PyData.str))) = false := by
        unfold PyData.eqv
        rw [ey, strs_refl]
        rfl
      rw [ee]
      exact iteF ⟨_, _, _, _, _, _, _, _, _, _, _, _, _, _, rfl, (MC.same (Same.to s18 (Same.to g4 g5))).le (by omega)⟩
end
end K6

namespace K6
open PySem PySem.Spec PyProof.Rows L2 Nr Nw
/-- a def's facts, read off the head -/
structure Def (K : PySem.W.Frag) (x : String) (st : Stmt) (f : Addr) : Prop where
  at_ : PySem.W.nsIn K mainGlobals x = some (some (.ref f))
  ob : ∃ (oc : Value) (od : Option Addr) (kV doc pm : Value) (an : Option Addr) (cdv ct : Value) (osl : Array (Option Value)), K.lookup f = some ⟨oc, od, .func (PySem.W.fnOf x x (defArgs st) (defBody st) (defScope st) .none kV doc pm an cdv ct), osl⟩ ∧ PySem.W.codeIn K cdv x = true
  kp : PySem.W.keepIn K (.ref f) = true
theorem Def.has {K : PySem.W.Frag} {h : Heap} {mg : Str → Option Value} (X : K.In h) (G : h.Ns mainGlobals mg) {x : String} {st : Stmt} {f : Addr} {ps : List Str} (D : Def K x st f)
    (b : ∀ (kV doc pm : Value) (an : Option Addr) (cdv ct : Value) (us : List Value), us.length = ps.length → bindArgs (PySem.W.fnOf x x (defArgs st) (defBody st) (defScope st) .none kV doc pm an cdv ct) ⟨us, []⟩ = pure (ps.zip us)) : Has K mg x st ps := by
  obtain ⟨a, ⟨oc, od, kV, doc, pm, an, cdv, ct, osl, l, c⟩, k⟩ := D
  have F : Fun K x x st f (PySem.W.fnOf x x (defArgs st) (defBody st) (defScope st) .none kV doc pm an cdv ct) := ⟨⟨oc, od, kV, doc, pm, an, cdv, ct, osl, rfl, l, c⟩, k⟩
  exact ⟨f, _, PySem.W.mg_of X G a, F, F.binds b⟩
theorem def_mk {K : PySem.W.Frag} {x : String} {st : Stmt} {f : Addr} {oc : Value} {od : Option Addr} {kV doc pm : Value} {an : Option Addr} {cdv ct : Value} {osl : Array (Option Value)} (a : PySem.W.nsIn K mainGlobals x = some (some (.ref f)))
    (l : K.lookup f = some ⟨oc, od, .func (PySem.W.fnOf x x (defArgs st) (defBody st) (defScope st) .none kV doc pm an cdv ct), osl⟩) (c : PySem.W.codeIn K cdv x = true) (k : PySem.W.keepIn K (.ref f) = true) : Def K x st f :=
  ⟨a, ⟨oc, od, kV, doc, pm, an, cdv, ct, osl, l, c⟩, k⟩

theorem txt_mk {w : World} {K : PySem.W.Frag} {h : Heap} {mg : Str → Option Value} (X : K.In h) (G : h.Ns mainGlobals mg)
    {f0 : Addr} (d0 : Def K "put_code" sPutCode f0)
    {f1 : Addr} (d1 : Def K "coded" sCoded f1)
    {f2 : Addr} (d2 : Def K "spelled_out" sSpelledOut f2)
    {f3 : Addr} (d3 : Def K "back_text" sBackText f3)
    {f4 : Addr} (d4 : Def K "last_syllable" sLastSyllable f4)
    {f5 : Addr} (d5 : Def K "first_syllable" sFirstSyllable f5)
    {f6 : Addr} (d6 : Def K "joined_text" sJoinedText f6)
    {f7 : Addr} (d7 : Def K "unwound" sUnwound f7)
    {f8 : Addr} (d8 : Def K "strange_place" sStrangePlace f8)
    {f9 : Addr} (d9 : Def K "need_word" sNeedWord f9)
    {f10 : Addr} (d10 : Def K "need_codes" sNeedCodes f10)
    {f11 : Addr} (d11 : Def K "least_period" sLeastPeriod f11)
    {f12 : Addr} (d12 : Def K "root" sRoot f12)
    {f13 : Addr} (d13 : Def K "commuting" sCommuting f13)
    {f14 : Addr} (d14 : Def K "_law_mixed" sLawMixed f14)
    {f15 : Addr} (d15 : Def K "_law_folded" sLawFolded f15)
    {f16 : Addr} (d16 : Def K "_law_draw" sLawDraw f16)
    {f17 : Addr} (d17 : Def K "_law_begun" sLawBegun f17)
    {f18 : Addr} (d18 : Def K "_law_like" sLawLike f18)
    {f19 : Addr} (d19 : Def K "_law_cut" sLawCut f19)
    {f20 : Addr} (d20 : Def K "_law_word" sLawWord f20)
    {f21 : Addr} (d21 : Def K "_law_is_mirror" sLawIsMirror f21)
    {f22 : Addr} (d22 : Def K "_law_all_words" sLawAllWords f22)
    {f23 : Addr} (d23 : Def K "_law_pieces" sLawPieces f23)
    {f24 : Addr} (d24 : Def K "_law_ring" sLawRing f24)
    {f25 : Addr} (d25 : Def K "_law_powered" sLawPowered f25)
    {f26 : Addr} (d26 : Def K "_law_is_word" sLawIsWord f26)
    {f27 : Addr} (d27 : Def K "_law_root_times" sLawRootTimes f27)
    {f28 : Addr} (d28 : Def K "_law_powers" sLawPowers f28)
    {f29 : Addr} (d29 : Def K "law" sLaw f29)
    {tO : Tok} (cO : PySem.W.nsIn K mainGlobals "ONE" = some (some (.int 4 tO))) {tM : Tok} (cM : PySem.W.nsIn K mainGlobals "MOST_SIGNS" = some (some (.int 9000 tM)))
    {aS : Addr} (cS : PySem.W.nsIn K mainGlobals "SIGNS" = some (some (.ref aS))) {os : Obj} {its : Array Value} {ns : Nat} (lS : K.lookup aS = some os) (lS2 : os.cls = .type "tuple") (lS3 : os.data = .seq its ns) (lS4 : its.size ≤ sizeLine) (lS5 : Vals [.str (S []), .str (S [48]), .str (S [50]), .str (S [48, 50]), .str (S [49])] its.toList)
    {aC : Addr} (cC : PySem.W.nsIn K mainGlobals "CODES" = some (some (.ref aC))) {es : Array DictEntry} {nd : Nat} (lC : K.lookup aC = some ⟨.type "dict", none, .dict es nd, #[]⟩) (kC : PySem.W.KeysLit w.params es.toList)
    {u0 : Tok} (e0 : PySem.W.nsIn K aC "0" = some (some (.int 1 u0)))
    {u1 : Tok} (e1 : PySem.W.nsIn K aC "1" = some (some (.int 4 u1)))
    {u2 : Tok} (e2 : PySem.W.nsIn K aC "2" = some (some (.int 2 u2)))
    {u3 : Tok} (e3 : PySem.W.nsIn K aC "02" = some (some (.int 3 u3)))
    {u4 : Tok} (e4 : PySem.W.nsIn K aC "" = some (some (.int 0 u4)))
    (zlen : PySem.W.nsIn K mainGlobals "len" = some none) (zisinstance : PySem.W.nsIn K mainGlobals "isinstance" = some none) (zstr : PySem.W.nsIn K mainGlobals "str" = some none) (zenumerate : PySem.W.nsIn K mainGlobals "enumerate" = some none) (zrange : PySem.W.nsIn K mainGlobals "range" = some none) (zint : PySem.W.nsIn K mainGlobals "int" = some none) (zrepr : PySem.W.nsIn K mainGlobals "repr" = some none) (ztuple : PySem.W.nsIn K mainGlobals "tuple" = some none) (zlist : PySem.W.nsIn K mainGlobals "list" = some none) (zbool : PySem.W.nsIn K mainGlobals "bool" = some none) (zmax : PySem.W.nsIn K mainGlobals "max" = some none) (zsorted : PySem.W.nsIn K mainGlobals "sorted" = some none) : Txt w K mg where
  one := ⟨_, PySem.W.mg_of X G cO⟩
  signs := ⟨aS, PySem.W.mg_of X G cS, fun H => .inr ⟨_, its, _, lS, lS2, lS3, lS4, lS5⟩⟩
  codes := ⟨aC, PySem.W.mg_of X G cC, ⟨es, nd, _, lC, kC, e0, ⟨_, rfl⟩⟩, ⟨es, nd, _, lC, kC, e1, ⟨_, rfl⟩⟩, ⟨es, nd, _, lC, kC, e2, ⟨_, rfl⟩⟩, ⟨es, nd, _, lC, kC, e3, ⟨_, rfl⟩⟩, ⟨es, nd, _, lC, kC, e4, ⟨_, rfl⟩⟩⟩
  most := ⟨_, PySem.W.mg_of X G cM⟩
  nlen := PySem.W.mg_none_of X G zlen
  nisinstance := PySem.W.mg_none_of X G zisinstance
  nstr := PySem.W.mg_none_of X G zstr
  nenumerate := PySem.W.mg_none_of X G zenumerate
  nrange := PySem.W.mg_none_of X G zrange
  nint := PySem.W.mg_none_of X G zint
  nrepr := PySem.W.mg_none_of X G zrepr
  ntuple := PySem.W.mg_none_of X G ztuple
  nlist := PySem.W.mg_none_of X G zlist
  nbool := PySem.W.mg_none_of X G zbool
  nmax := PySem.W.mg_none_of X G zmax
  nsorted := PySem.W.mg_none_of X G zsorted
  fPutCode := d0.has X G fun _ _ _ _ _ _ us hl => match us, hl with | [_, _], _ => rfl
  fCoded := d1.has X G fun _ _ _ _ _ _ us hl => match us, hl with | [_], _ => rfl
  fSpelledOut := d2.has X G fun _ _ _ _ _ _ us hl => match us, hl with | [_], _ => rfl
  fBackText := d3.has X G fun _ _ _ _ _ _ us hl => match us, hl with | [_], _ => rfl
  fLastSyllable := d4.has X G fun _ _ _ _ _ _ us hl => match us, hl with | [_, _], _ => rfl
  fFirstSyllable := d5.has X G fun _ _ _ _ _ _ us hl => match us, hl with | [_, _], _ => rfl
  fJoinedText := d6.has X G fun _ _ _ _ _ _ us hl => match us, hl with | [_, _], _ => rfl
  fUnwound := d7.has X G fun _ _ _ _ _ _ us hl => match us, hl with | [_], _ => rfl
  fStrangePlace := d8.has X G fun _ _ _ _ _ _ us hl => match us, hl with | [_], _ => rfl
  fNeedWord := d9.has X G fun _ _ _ _ _ _ us hl => match us, hl with | [_], _ => rfl
  fNeedCodes := d10.has X G fun _ _ _ _ _ _ us hl => match us, hl with | [_], _ => rfl
  fLeastPeriod := d11.has X G fun _ _ _ _ _ _ us hl => match us, hl with | [_], _ => rfl
  fRoot := d12.has X G fun _ _ _ _ _ _ us hl => match us, hl with | [_], _ => rfl
  fCommuting := d13.has X G fun _ _ _ _ _ _ us hl => match us, hl with | [_], _ => rfl
  fLawMixed := d14.has X G fun _ _ _ _ _ _ us hl => match us, hl with | [_, _], _ => rfl
  fLawFolded := d15.has X G fun _ _ _ _ _ _ us hl => match us, hl with | [_], _ => rfl
  fLawDraw := d16.has X G fun _ _ _ _ _ _ us hl => match us, hl with | [_, _], _ => rfl
  fLawBegun := d17.has X G fun _ _ _ _ _ _ us hl => match us, hl with | [_], _ => rfl
  fLawLike := d18.has X G fun _ _ _ _ _ _ us hl => match us, hl with | [_, _], _ => rfl
  fLawCut := d19.has X G fun _ _ _ _ _ _ us hl => match us, hl with | [_], _ => rfl
  fLawWord := d20.has X G fun _ _ _ _ _ _ us hl => match us, hl with | [_, _], _ => rfl
  fLawIsMirror := d21.has X G fun _ _ _ _ _ _ us hl => match us, hl with | [_], _ => rfl
  fLawAllWords := d22.has X G fun _ _ _ _ _ _ us hl => match us, hl with | [_], _ => rfl
  fLawPieces := d23.has X G fun _ _ _ _ _ _ us hl => match us, hl with | [_], _ => rfl
  fLawRing := d24.has X G fun _ _ _ _ _ _ us hl => match us, hl with | [_], _ => rfl
  fLawPowered := d25.has X G fun _ _ _ _ _ _ us hl => match us, hl with | [_, _], _ => rfl
  fLawIsWord := d26.has X G fun _ _ _ _ _ _ us hl => match us, hl with | [_], _ => rfl
  fLawRootTimes := d27.has X G fun _ _ _ _ _ _ us hl => match us, hl with | [_], _ => rfl
  fLawPowers := d28.has X G fun _ _ _ _ _ _ us hl => match us, hl with | [_], _ => rfl
  fLaw := d29.has X G fun _ _ _ _ _ _ us hl => match us, hl with | [_], _ => rfl
end K6

namespace K6
open PySem PySem.Spec PyProof.Rows L2 Nr Nw
theorem end_mk {l : PySem.W.OpenLaw} {w : World} {K : PySem.W.Frag} {h : Heap} {mg : Str → Option Value} {fa : Addr} (X : K.In h) (G : h.Ns mainGlobals mg) (hfa : mg "law" = some (.ref fa)) (T : Txt w K mg) :
    ∃ fd : FuncData, (∀ (s : Shared) (v : Value), BindsTo s fd ⟨[v], []⟩ [("script", v)]) ∧ ∀ base : Heap, K.In base → base.Ns mainGlobals mg → FnG l.prog w K mg base CX0 7 fa fd ["script"] (spLaw K) := by
  obtain ⟨f, fd, h1, F, h3⟩ := T.fLaw
  have e := h1.symm.trans hfa
  cases e
  obtain ⟨oc, od, kV, doc, pm, an, cdv, ct, osl, efd, lk, hcd⟩ := F.ex
  refine ⟨fd, fun s v => .of_eq ?_, fun base _ _ => law_fn T F⟩
  rw [efd]
  rfl
end K6
open PySem PySem.W PyProof.Rows
set_option maxHeartbeats 0 in
theorem PySem.Challenge.cw_netsredrawn_k06_whole_roots_and_what_com_holds : PySem.Challenge.rw_netsredrawn_k06_whole_roots_and_what_com.Holds := by
  w_on; o_law; k_head; (case hw => w_witness2)
  k_fill
  refine Nr.walk_ofG (l := PySem.Challenge.rw_netsredrawn_k06_whole_roots_and_what_com) (n := 63) (k := 7) (x := "script") (CX := fun _ => L2.CX0) (sp := fun w => K6.spLaw _) rfl (by decide) rfl ⟨rfl, by decide, by decide⟩ (fun w h Y => PySem.W.kIn_of Y) ?F (fun _ _ a ns hl _ _ hS => ⟨a, ns, rfl, hS, hl, fun _ => rfl⟩) (fun _ _ _ _ _ h => h)
  case F =>
    intro w mg fa h KX G hmg
    refine K6.end_mk KX G hmg ?T
    refine' K6.txt_mk KX G ?d0 ?d1 ?d2 ?d3 ?d4 ?d5 ?d6 ?d7 ?d8 ?d9 ?d10 ?d11 ?d12 ?d13 ?d14 ?d15 ?d16 ?d17 ?d18 ?d19 ?d20 ?d21 ?d22 ?d23 ?d24 ?d25 ?d26 ?d27 ?d28 ?d29 ?cO ?cM ?cS ?lS ?lS2 ?lS3 ?lS4 ?lS5 ?cC ?lC ?kC ?e0 ?e1 ?e2 ?e3 ?e4 ?zlen ?zisinstance ?zstr ?zenumerate ?zrange ?zint ?zrepr ?ztuple ?zlist ?zbool ?zmax ?zsorted
    case d0 => (refine' K6.def_mk ?a ?l ?c ?k; (case a => k_is); (case l => k_is); (case c => k_is); (case k => k_is))
    case d1 => (refine' K6.def_mk ?a ?l ?c ?k; (case a => k_is); (case l => k_is); (case c => k_is); (case k => k_is))
    case d2 => (refine' K6.def_mk ?a ?l ?c ?k; (case a => k_is); (case l => k_is); (case c => k_is); (case k => k_is))
    case d3 => (refine' K6.def_mk ?a ?l ?c ?k; (case a => k_is); (case l => k_is); (case c => k_is); (case k => k_is))
    case d4 => (refine' K6.def_mk ?a ?l ?c ?k; (case a => k_is); (case l => k_is); (case c => k_is); (case k => k_is))
    case d5 => (refine' K6.def_mk ?a ?l ?c ?k; (case a => k_is); (case l => k_is); (case c => k_is); (case k => k_is))
    case d6 => (refine' K6.def_mk ?a ?l ?c ?k; (case a => k_is); (case l => k_is); (case c => k_is); (case k => k_is))
    case d7 => (refine' K6.def_mk ?a ?l ?c ?k; (case a => k_is); (case l => k_is); (case c => k_is); (case k => k_is))
    case d8 => (refine' K6.def_mk ?a ?l ?c ?k; (case a => k_is); (case l => k_is); (case c => k_is); (case k => k_is))
    case d9 => (refine' K6.def_mk ?a ?l ?c ?k; (case a => k_is); (case l => k_is); (case c => k_is); (case k => k_is))
    case d10 => (refine' K6.def_mk ?a ?l ?c ?k; (case a => k_is); (case l => k_is); (case c => k_is); (case k => k_is))
    case d11 => (refine' K6.def_mk ?a ?l ?c ?k; (case a => k_is); (case l => k_is); (case c => k_is); (case k => k_is))
    case d12 => (refine' K6.def_mk ?a ?l ?c ?k; (case a => k_is); (case l => k_is); (case c => k_is); (case k => k_is))
    case d13 => (refine' K6.def_mk ?a ?l ?c ?k; (case a => k_is); (case l => k_is); (case c => k_is); (case k => k_is))
    case d14 => (refine' K6.def_mk ?a ?l ?c ?k; (case a => k_is); (case l => k_is); (case c => k_is); (case k => k_is))
    case d15 => (refine' K6.def_mk ?a ?l ?c ?k; (case a => k_is); (case l => k_is); (case c => k_is); (case k => k_is))
    case d16 => (refine' K6.def_mk ?a ?l ?c ?k; (case a => k_is); (case l => k_is); (case c => k_is); (case k => k_is))
    case d17 => (refine' K6.def_mk ?a ?l ?c ?k; (case a => k_is); (case l => k_is); (case c => k_is); (case k => k_is))
    case d18 => (refine' K6.def_mk ?a ?l ?c ?k; (case a => k_is); (case l => k_is); (case c => k_is); (case k => k_is))
    case d19 => (refine' K6.def_mk ?a ?l ?c ?k; (case a => k_is); (case l => k_is); (case c => k_is); (case k => k_is))
    case d20 => (refine' K6.def_mk ?a ?l ?c ?k; (case a => k_is); (case l => k_is); (case c => k_is); (case k => k_is))
    case d21 => (refine' K6.def_mk ?a ?l ?c ?k; (case a => k_is); (case l => k_is); (case c => k_is); (case k => k_is))
    case d22 => (refine' K6.def_mk ?a ?l ?c ?k; (case a => k_is); (case l => k_is); (case c => k_is); (case k => k_is))
    case d23 => (refine' K6.def_mk ?a ?l ?c ?k; (case a => k_is); (case l => k_is); (case c => k_is); (case k => k_is))
    case d24 => (refine' K6.def_mk ?a ?l ?c ?k; (case a => k_is); (case l => k_is); (case c => k_is); (case k => k_is))
    case d25 => (refine' K6.def_mk ?a ?l ?c ?k; (case a => k_is); (case l => k_is); (case c => k_is); (case k => k_is))
    case d26 => (refine' K6.def_mk ?a ?l ?c ?k; (case a => k_is); (case l => k_is); (case c => k_is); (case k => k_is))
    case d27 => (refine' K6.def_mk ?a ?l ?c ?k; (case a => k_is); (case l => k_is); (case c => k_is); (case k => k_is))
    case d28 => (refine' K6.def_mk ?a ?l ?c ?k; (case a => k_is); (case l => k_is); (case c => k_is); (case k => k_is))
    case d29 => (refine' K6.def_mk ?a ?l ?c ?k; (case a => k_is); (case l => k_is); (case c => k_is); (case k => k_is))
    case cO => k_is
    case cM => k_is
    case cS => k_is
    case lS => k_is
    case lS2 => rfl
    case lS3 => rfl
    case lS4 => decide
    case lS5 => exact .cons ⟨_, rfl⟩ (.cons ⟨_, rfl⟩ (.cons ⟨_, rfl⟩ (.cons ⟨_, rfl⟩ (.cons ⟨_, rfl⟩ .nil))))
    case cC => k_is
    case lC => k_is
    case kC => exact ⟨⟨_, _, rfl, rfl⟩, ⟨_, _, rfl, rfl⟩, ⟨_, _, rfl, rfl⟩, ⟨_, _, rfl, rfl⟩, ⟨_, _, rfl, rfl⟩, trivial⟩
    case e0 => k_is
    case e1 => k_is
    case e2 => k_is
    case e3 => k_is
    case e4 => k_is
    case zlen => k_is
    case zisinstance => k_is
    case zstr => k_is
    case zenumerate => k_is
    case zrange => k_is
    case zint => k_is
    case zrepr => k_is
    case ztuple => k_is
    case zlist => k_is
    case zbool => k_is
    case zmax => k_is
    case zsorted => k_is
