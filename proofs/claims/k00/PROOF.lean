import PyProof.Rows.All
import Wide.All
import OpenK.AllK
import Wide.FinOn
import HandS.ForMost
import HandS.Wide
import HandS.Gcd
import HandS.Style
import HandS.NoneIn
import HandS.EndBits
import HandS.Evl
import KE.KExcIs
import KE.KExcInit
import HandS.ExcInit
import HandS.ExcOwn
import HandS.ExcValue
import HandS.IsInst
import HandS.Conv
import PySem.Challenge.RW_figureclaims_k00_errors
set_option Elab.async false
set_option linter.all false
set_option maxRecDepth 100000
namespace Kx
open PySem PySem.Spec PyProof.Rows L2

/-! ### defs that show values: what they promise holds where no repr is under way -/
/-- the promise of a def, kept where nothing is being shown around the call -/
structure FnG (P : Program) (w : World) (K : PySem.W.Frag) (mg : Str → Option Value) (base : Heap) (CX : CXT)
    (k : Nat) (f : Addr) (fd : FuncData) (ps : List Str) (sp : Sp) : Prop where
  size : ∀ vs H Q E, sp vs H Q E → vs.length = ps.length
  go : ∀ (A : Around) (outer : List Env) (s : Shared) (H : Hp) (args : Args) (us : List Value) (vs : List V) (Q : VK) (E : XK),
    A.guards = some [] → Room k A → Env0 P w K mg base A outer s H → BindsTo s fd args (ps.zip us) → Vals vs us → sp vs H Q E →
    codeAny (model P w) A (.call (.ref f) args) (CR CX outer P w H s Q E) s

section
variable {P : Program} {w : World} {K : PySem.W.Frag} {mg : Str → Option Value} {base : Heap} {CX : CXT} {k : Nat} {f : Addr} {fd : FuncData} {ps : List Str} {sp : Sp}

theorem FnG.of (F : FnOk P w K mg base CX k f fd ps sp) : FnG P w K mg base CX k f fd ps sp :=
  ⟨F.len, fun A outer s H args us vs Q E _ => F.run A outer s H args us vs Q E⟩

theorem FnG.up {j : Nat} (F : FnG P w K mg base CX j f fd ps sp) (h : j ≤ k) : FnG P w K mg base CX k f fd ps sp :=
  ⟨F.size, fun A outer s H args us vs Q E hg hr => F.go A outer s H args us vs Q E hg (hr.mono h)⟩

/-- a def of the text, by its body, in a place where nothing is being shown -/
theorem okG {x qual : Str} {st : Stmt} {N : List Str} (F : L2.Fun K x qual st f fd) (S : FnScope N ps (defScope st))
    (len : ∀ vs H Q E, sp vs H Q E → vs.length = ps.length)
    (hbody : ∀ (cdv : Value) (A : Around) (outer : List Env) (s : Shared) (H : Hp) (vs : List V) (Q : VK) (E : XK),
      (A.deeper (envOfC qual (defScope st) s.heap.objs.size f cdv)).guards = some [] →
      Room k (A.deeper (envOfC qual (defScope st) s.heap.objs.size f cdv)) → sp vs H Q E →
      ∃ t, PSs (cxOf CX P w K mg base N qual (defScope st) f cdv A outer s H E).nox (defBody st) t ∧
        t { nx := fun _ H' => Q .non H', rt := Q } (start N vs) H) :
    FnG P w K mg base CX (k + 1) f fd ps sp := by
  obtain ⟨oc, od, kV, doc, pm, an, cdv, ct, osl, rfl, lk, hcd⟩ := F.ex
  refine ⟨len, ?_⟩
  intro A outer s H args us vs Q E hg hr e0 hb r hsp
  have inH : K.In s.heap := e0.mod.kin.keeps fun b o e => (e0.bs b o e).1
  have noL : s.heap.NoLimit := e0.mod.nolimit.keeps fun b o e => (e0.bs b o e).1
  have hks : ∀ y ∈ ps.zip us, (defScope st).names.lookup y.1 = some .local ∨
      ((defScope st).names.lookup y.1 = some .cell ∧ ((cellsFrom (s.heap.objs.size + 1) (defScope st).names []).lookup y.1).isSome = true) := by
    rintro ⟨n, v⟩ hy
    rcases S.par n (List.of_mem_zip hy).1 with q | q
    · exact Or.inl q
    · exact Or.inr ⟨q, PySem.W.cellsFrom_some _ _ _ (Or.inl q)⟩
  refine codeAny_call_function hr.depth (inH _ _ lk) rfl S.co S.gen rfl (PySem.W.codeRec_of inH hcd) (hb _ _ _ _ ?_)
  refine wpAny_newFunctionEnv_cells S.kind hks fun env he s1 x => ?_
  subst he
  refine ⟨noL.keeps x.toInCall.keep, codeAny_func ?_⟩
  obtain ⟨t, ht, hq⟩ := hbody cdv A outer s H vs Q E hg (hr.deeper _) hsp
  have I := inv_start (CX := CX) (P := P) (E := E) S hr.hd e0 (len _ _ _ _ hsp) r x
  refine wpAny_mono (ht.nox.run [] s1 (start N vs) H _ I hq) (fun fl s' hs => ?_) (fun e s' hs => hs)
  have out : ∀ {σ' : L2.St} {H' : Hp} {v : V} {u : Value},
      Inv (cxOf CX P w K mg base N qual (defScope st) f cdv A outer s H E) [] σ' H' s' → RelV v u → Q v H' → CE outer P w H s Q u s' := by
    intro σ' H' v u J rv q
    exact ⟨v, H', J.os, J.bare, J.base, J.hok, rv, q⟩
  match fl, hs with
  | .ret u, ⟨v, σ', H', J, rv, q⟩ => exact out J rv q
  | .next, ⟨σ', H', J, q⟩ => exact out (v := V.non) (u := Value.none) J rfl q
  | .brk, ⟨_, _, _, q⟩ => exact q.elim
  | .cont, ⟨_, _, _, q⟩ => exact q.elim
end

section
variable {X : Cx} {CX : CXT} {k : Nat} {f : Addr} {fd : FuncData} {ps : List Str} {sp : Sp} {dvs : List V} {ds : List Value} {E : XK} {x : Str} {p pos : Pos} {e : Expr} {es : List Expr} {t : TA}

/-- f(..), f a def of which FnG is known -/
theorem pe_callG (hG : X.A.guards = some []) (F : FnG X.prog X.w X.K X.mg X.base CX k f fd ps sp) (hr : Room k X.A) (hg : Gl X x) (hm : X.mg x = some (.ref f))
    (hk : PySem.W.keepIn X.K (.ref f) = true) (hb : Binds X.K fd ps ds) (hd : Vals dvs ds) (hx : Passes CX X E) (ha : PA X (e :: es) t)
    (hdb : (x == ("__debug__" : Str)) = false := by decide) (he : starEach (e :: es) X.env = (false, eval e X.env) :: starEach es X.env := by rfl)
    (hpl : (backTo pos (starEach es X.env)).any (·.1) = false := by rfl) : PE X (.Call (.Name x p) (e :: es) [] pos) (tCall sp dvs E t) := by
  constructor
  intro pins s σ H Q I h
  refine wpAny_Call_Name_kw (ld_glob I hg hm ?_ hdb)
  refine PySem.W.callWith_K (h₀ := X.base) I.ok.mod.kin hk (thn (ha.run pos pins s σ H _ I h) ?_) he hpl
  rintro us s1 ⟨vs, H1, I1, r, q⟩
  refine ⟨I1.kIn, ?_⟩
  have r2 : Vals (vs ++ dvs) (us ++ ds) := r.append hd
  have hl : (us ++ ds).length = ps.length := r2.length.symm.trans (F.size _ _ _ _ q)
  refine wpAny_call (codeAny_mono (F.go X.A X.stack s1 H1 ⟨us, []⟩ (us ++ ds) (vs ++ dvs) Q E hG hr I1.env0 (hb s1 us I1.kIn hl) r2 q) ?_)
  intro r s' hq
  match r, hq with
  | .error e, hq => exact hx pins σ H1 s1 e s' I1 hq
  | .ok (.ret u), hq => exact I1.after hq
  | .ok .next, hq => exact False.elim hq
  | .ok .brk, hq => exact False.elim hq
  | .ok .cont, hq => exact False.elim hq
end

/-! ### a def by its name -/
/-- the module's name x is a def that keeps the promise sp -/
structure Def (P : Program) (w : World) (K : PySem.W.Frag) (mg : Str → Option Value) (base : Heap) (k : Nat) (x : Str) (ps : List Str) (sp : Sp) : Prop where
  ex : ∃ f fd, FnOk P w K mg base CX0 k f fd ps sp ∧ PySem.W.keepIn K (.ref f) = true ∧ Binds K fd ps [] ∧ mg x = some (.ref f)
theorem Def.of {P : Program} {w : World} {K : PySem.W.Frag} {mg : Str → Option Value} {base : Heap} {k : Nat} {x qual : Str} {st : Stmt} {f : Addr} {fd : FuncData} {ps : List Str} {sp : Sp}
    (F : L2.Fun K x qual st f fd) (G : FnOk P w K mg base CX0 k f fd ps sp) (b : Binds K fd ps []) (m : mg x = some (.ref f)) : Def P w K mg base k x ps sp := ⟨f, fd, G, F.kp, b, m⟩
theorem pe_callD {X : Cx} {k : Nat} {x : Str} {ps : List Str} {sp : Sp} {e : Expr} {es : List Expr} {t : TA} {p pos : Pos} (D : Def X.prog X.w X.K X.mg X.base k x ps sp) (hr : Room k X.A) (hg : Gl X x) (ha : PA X (e :: es) t)
    (hdb : (x == ("__debug__" : Str)) = false := by decide) (he : starEach (e :: es) X.env = (false, eval e X.env) :: starEach es X.env := by rfl)
    (hpl : (backTo pos (starEach es X.env)).any (·.1) = false := by rfl) : PE X (.Call (.Name x p) (e :: es) [] pos) (tCall sp [] E0 t) := by
  obtain ⟨f, fd, G, kp, b, m⟩ := D.ex
  exact pe_call G hr hg m kp b .nil pass0 ha hdb he hpl

/-! ### how long the text of data is -/
mutual
/-- what the text of data is at most, its ints below 2 ^ 1920 in size -/
def cost : PyData → Nat
  | .none => 4
  | .bool _ => 5
  | .int _ => 1921
  | .str x => 10 * x.cps.size + 20
  | .list xs => costAll xs + 3
  | .tuple xs => costAll xs + 3
  | .dict _ => 0
def costAll : List PyData → Nat
  | [] => 0
  | x :: xs => cost x + 2 + costAll xs
end
mutual
theorem shown_cost : ∀ d : PyData, d.canLay0 = true → d.showable = true → d.shown.length ≤ cost d
  | .none, _, _ => by
    show (PyData.shown .none).length ≤ 4
    exact Nat.le_of_eq rfl
  | .bool b, _, _ => by
    show (PyData.shown (.bool b)).length ≤ 5
    cases b <;> decide
  | .int i, _, h => by
    have h1 : i.natAbs.log2 < 1920 := by simpa only [PyData.showable, decide_eq_true_eq] using h
    have h2 := int_text_length_le (k := 1920) (by decide) h1
    show (Str.ofString (toString i)).length ≤ cost (.int i)
    rw [PySem.ofString_length]
    simp only [cost]
    exact h2
  | .str x, h, _ => by
    have h1 : PyData.leavesShort 8 (.str x) = true := PyData.leavesShort_of_canLay0 8 (.str x) h rfl
    have h2 := PyData.shown_le 8 (by decide) (.str x) h1
    simp only [PyData.weight] at h2
    simp only [cost]
    omega
  | .list xs, h, g => by
    have h1 := shown_costAll xs (by simpa only [PyData.canLay0] using h) (by simpa only [PyData.showable] using g)
    have h2 := listText_len_le (PyData.shownAll xs)
    have h3 := PyData.shownAll_length xs
    simp only [PyData.shown, cost]
    omega
  | .tuple xs, h, g => by
    have h1 := shown_costAll xs (by simpa only [PyData.canLay0] using h) (by simpa only [PyData.showable] using g)
    have h2 := tupleText_len_le (PyData.shownAll xs)
    have h3 := PyData.shownAll_length xs
    simp only [PyData.shown, cost]
    omega
  | .dict _, h, _ => by simp [PyData.canLay0] at h
theorem shown_costAll : ∀ xs : List PyData, PyData.canLayAll0 xs = true → PyData.showableAll xs = true → ((PyData.shownAll xs).map (·.length)).sum + 2 * xs.length ≤ costAll xs
  | [], _, _ => by simp [PyData.shownAll, costAll]
  | x :: xs, h, g => by
    have h' : x.canLay0 = true ∧ PyData.canLayAll0 xs = true := by simpa only [PyData.canLayAll0, Bool.and_eq_true] using h
    have g' : x.showable = true ∧ PyData.showableAll xs = true := by simpa only [PyData.showableAll, Bool.and_eq_true] using g
    have h1 := shown_cost x h'.1 g'.1
    have h2 := shown_costAll xs h'.2 g'.2
    simp only [PyData.shownAll, costAll, List.map_cons, List.sum_cons, List.length_cons]
    omega
end

/-! ### repr of data -/
section
variable {X : Cx}
/-- repr(x), x data of any depth: the text that the data shows -/
def rShow (K : PySem.W.Frag) : List V → Hp → VK → Prop := fun xs H Q => ∃ (p : Addr) (d : PyData), xs = [.ref p] ∧ Dp K H (.ref p) d ∧
  SeqAt.shaped d = true ∧ d.showable = true ∧ d.shown.length ≤ sizeLine ∧ Q (.str d.shown) H
theorem call_show (hG : X.A.guards = some []) (hu : X.A.units + 66 < cLine) : CallR X (.builtin "repr") (rShow X.K) := by
  intro pins s σ H xs us Q I r h
  obtain ⟨p, d, rfl, hd, sd, hs, hz, q⟩ := h
  obtain ⟨u, rfl, ru⟩ := vals1 r
  cases ru
  obtain ⟨as, rd⟩ := Dp.reads I d (.ref p) (.ref p) hd rfl
  have hdp := SeqAt.depth_of_shaped sd
  have nd : d.hasDict = false := PyData.hasDict_of_canLay d (SeqAt.canLay_of_shaped sd)
  refine repr_of_reads' rd hs (PyData.noDict_hsm nd) hG (by omega) (fun b o e => e) (fun h' u' tk k => ?_) hz
  exact ⟨.str d.shown, H, I.kept k, ⟨_, rfl⟩, q⟩

/-- // of ints, the divisor not 0 and below 2 ^ 9000 in size -/
def CDivG (_ j : Int) : Prop := j ≠ 0 ∧ j.natAbs.log2 < 9000
theorem op_fdivG : OpR X (binaryOp .FloorDiv) (rI CDivG fun i j => .int (i.fdiv j)) :=
  opI fun _ _ _ _ _ _ _ hc q => floordiv_int hc.1 q (.inl (PyProof.noPylong_of_log2 hc.2))
end

/-! ### the end of a law's row, from FnG -/
theorem law_callG {P : Program} {w : World} {K : PySem.W.Frag} {mg mb : Str → Option Value} {CX : CXT} {k : Nat} {fa a : Addr} {fd : FuncData} {x : Str} {sp : Sp} {s₁ : Shared} {vs : List Value} {ns : List Int}
    (inH : K.In s₁.heap) (hns : s₁.heap.Ns mainGlobals mg) (hb : s₁.heap.Ns builtinsNs mb) (hbb : ∀ x : Str, x ≠ "__name__" → mb x = bootBuiltins x)
    (hlim : s₁.heap.NoLimit) (hg : s₁.gens = #[]) (ha : s₁.heap.get? a = some { cls := .type "list", data := .seq vs.toArray }) (hi : IntsAre vs ns)
    (hl : ns.length ≤ sizeLine) (hr : Room k callerA)
    (F : ∀ base : Heap, K.In base → base.Ns mainGlobals mg → FnG P w K mg base CX k fa fd [x] sp)
    (hbind : ∀ (s : Shared) (u : Value), BindsTo s fd ⟨[u], []⟩ [(x, u)])
    (hsp : ∀ H : Hp, Only H → SqL K H a (ns.map V.int) → sp [.ref a] H (fun v _ => v = .bl true) fun _ _ _ => False)
    (hCX : ∀ H e s', CX [] H s₁ (fun _ _ _ => False) e s' → False) :
    codeAny (model P w) callerA (.call (.ref fa) ⟨[.ref a], []⟩)
      (fun r s' => r = .ok (.ret (.bool true)) ∧ OldK s₁.heap s'.heap ∧ s'.os = s₁.os ∧ AllBare s'.gens) s₁ := by
  have rv := vals_ints hi
  have lenV := hi.length
  have main : ∀ H : Hp, Only H → SqL K H a (ns.map V.int) → HOk P w H s₁.heap → (∀ b, H b ≠ none → b = a) → (H a ≠ none → K.lookup a = none) →
      codeAny (model P w) callerA (.call (.ref fa) ⟨[.ref a], []⟩)
        (fun r s' => r = .ok (.ret (.bool true)) ∧ OldK s₁.heap s'.heap ∧ s'.os = s₁.os ∧ AllBare s'.gens) s₁ := by
    intro H hO hS hok hA hK
    have none_of : ∀ {b : Addr}, b ≠ a → H b = none := fun {b} ne => by
      cases q : H b with
      | none => rfl
      | some u => exact absurd (hA b (by rw [q]; exact Option.some_ne_none u)) ne
    have notA : ∀ {b : Addr} {o : Obj} {es : Array DictEntry} {ep : Nat}, s₁.heap.get? b = some o → o.data = .dict es ep → H b = none := by
      intro b o es ep e d
      refine none_of fun z => ?_
      rw [z, ha] at e
      cases e
      exact nomatch (show Data.seq vs.toArray _ = Data.dict es ep from d)
    have nsK : ∀ {b : Addr} {m : Str → Option Value}, s₁.heap.Ns b m → (hidT s₁.heap H).Ns b m := by
      rintro b m ⟨o, es, ep, e, d, r⟩
      exact ⟨o, es, ep, hidT_get e (notA e d), d, r⟩
    have inB : K.In (hidT s₁.heap H) := by
      intro b o e
      refine hidT_get (inH b o e) ?_
      cases q : H b with
      | none => rfl
      | some u =>
        have z : b = a := hA b (by rw [q]; exact Option.some_ne_none u)
        rw [z] at e q
        rw [hK (by rw [q]; exact Option.some_ne_none u)] at e
        cases e
    have hM : Mod K mg (hidT s₁.heap H) := ⟨inB, nsK hns, ⟨mb, nsK hb, hbb⟩, let ⟨mc, h1, h2⟩ := hlim; ⟨mc, nsK h1, h2⟩⟩
    have e0 : Env0 P w K mg (hidT s₁.heap H) callerA [] s₁ H :=
      ⟨rfl, hM, fun b o e => of_hidT e, Nat.le_of_eq (hidT_size _ _), trivial, (fun b hb => absurd (show b ∈ ([] : List Addr) from hb) (by simp)), hok, AllBare.of_eq hg⟩
    refine codeAny_mono ((F _ inB (nsK hns)).go callerA [] s₁ H ⟨[.ref a], []⟩ [.ref a] [.ref a] _ _ rfl hr e0 (hbind s₁ (.ref a)) (.cons rfl .nil) (hsp H hO hS)) ?_
    intro r s' h
    match r, h with
    | .error e, h => exact (hCX H e s' h).elim
    | .ok .next, h => exact False.elim h
    | .ok .brk, h => exact False.elim h
    | .ok .cont, h => exact False.elim h
    | .ok (.ret u), ⟨v, H', os, bare, un, hok', r', q⟩ =>
      obtain rfl : v = .bl true := q
      obtain rfl : u = Value.bool true := r'
      refine ⟨rfl, OldK.of_keep ?_, os, bare⟩
      intro b o e
      rcases hO b with z | ⟨ob, xs, z⟩
      · exact un.keep b o e z (fun z => absurd (show b ∈ ([] : List Addr) from z) (by simp)) (by simp)
      · obtain ⟨e1, _⟩ := hok b _ z
        obtain ⟨e2, _⟩ := hok' b _ (un.frzs b ob _ z)
        rw [e] at e1
        cases e1
        exact e2
  cases hk : K.lookup a with
  | some o =>
    have e := inH a o hk
    rw [ha] at e
    cases e
    have lv : vs.length = ns.length := lenV
    refine main (fun _ => none) (fun _ => Or.inl rfl) (Or.inr ⟨_, vs.toArray, _, hk, rfl, rfl, rfl, by rw [List.size_toArray, lv]; exact hl, by simpa using rv⟩) ?_ (fun b z => absurd rfl z) (fun z => absurd rfl z)
    intro b u z
    exact nomatch (show (none : Option HO) = some u from z)
  | none =>
    refine main (fun b => if b = a then some (.frz { cls := .type "list", data := .seq vs.toArray } (.lst (ns.map V.int))) else none) ?_ (Or.inl (Or.inr ⟨_, if_pos rfl⟩)) ?_ ?_ (fun _ => hk)
    · intro b
      by_cases hb : b = a
      · exact Or.inr ⟨_, _, if_pos hb⟩
      · exact Or.inl (if_neg hb)
    · intro b u z
      by_cases hb : b = a
      · have z' := (if_pos hb).symm.trans z
        cases z'
        rw [hb]
        exact ⟨ha, by rw [List.length_map]; exact hl, vs, _, rv, ha⟩
      · exact nomatch (if_neg hb).symm.trans z
    · intro b z
      by_cases hb : b = a
      · exact hb
      · exact absurd (if_neg hb) z

theorem walk_G {l : PySem.W.OpenLaw} {n k : Nat} {q : Program} {loose : List Str} {XP : (Str → Option Value) → Heap → Prop} {YP : World → Heap → Prop} {d : DefRec} {K : Params → PySem.W.Frag} {CX : World → CXT} {sp : World → Sp} {x : Str}
    (hn : l.most = some n) (hn2 : n ≤ sizeLine) (hdf : d.params.defaults = []) (hr : Room k callerA) (hY : ∀ (w : World) (h : Heap), YP w h → (K w.params).In h)
    (F : ∀ (w : World) (mg : Str → Option Value) (fa : Addr) (h : Heap), (K w.params).In h → h.Ns mainGlobals mg → mg d.name = some (.ref fa) →
      ∃ fd : FuncData, (∀ (s : Shared) (u : Value), BindsTo s fd ⟨[u], []⟩ [(x, u)]) ∧
        ∀ base : Heap, (K w.params).In base → base.Ns mainGlobals mg → FnG l.prog w (K w.params) mg base (CX w) k fa fd [x] (sp w))
    (hsp : ∀ (w : World) (H : Hp) (a : Addr) (ns : List Int), ns.length ≤ n → (∀ z ∈ ns, Builtin.Int.intBits z ≤ 1048576) → Only H →
      SqL (K w.params) H a (ns.map V.int) → sp w [.ref a] H (fun v _ => v = .bl true) fun _ _ _ => False)
    (hCX : ∀ (w : World) (H : Hp) (s : Shared) (e : Value) (s' : Shared), CX w [] H s (fun _ _ _ => False) e s' → False) :
    PySem.W.WalkO q loose XP YP l.row.toRowW d [] (fun f vs => PySem.call f vs) := by
  refine Att.attach_callB hn hdf ?_
  intro w s₀ s₁ mg mb fa o pm cd doc a vs ns G Y ho hd hcd hmg hobj hints hlen hbits hg
  have inH := hY w _ Y
  obtain ⟨fd, hb, hF⟩ := F w mg fa _ inH G.T.g hmg
  exact law_callG inH G.T.g G.T.b G.T.builtins G.T.nolimit hg hobj hints (Nat.le_trans hlen hn2) hr hF hb
    (fun H hO hS => hsp w H a ns hlen hbits hO hS) (fun H e s' => hCX w H s₁ e s')
end Kx
namespace Kx
open PySem PySem.Spec PyProof.Rows L2

/-! ### heaps -/
theorem same_new {H : Hp} {p : Addr} {o : HO} (h : H p = none) : Same H (upd H p o) := fun b x e => by
  rw [upd_ne (ne_of_none e h)]
  exact e
/-- all that was tracked, but the two at d and l, is as it was -/
def But (d l : Addr) (H H' : Hp) : Prop := ∀ b o, H b = some o → b ≠ d → b ≠ l → H' b = some o
theorem But.refl {d l : Addr} {H : Hp} : But d l H H := fun _ _ e _ _ => e
theorem But.trans {d l : Addr} {H H1 H2 : Hp} (a : But d l H H1) (b : But d l H1 H2) : But d l H H2 := fun c o e n1 n2 => b c o (a c o e n1 n2) n1 n2
theorem But.of {d l : Addr} {H H' : Hp} (s : Same H H') : But d l H H' := fun b o e _ _ => s b o e
theorem But.d {d l : Addr} {H : Hp} {o : HO} : But d l H (upd H d o) := fun b x e n _ => by rw [upd_ne n]; exact e
theorem But.l {d l : Addr} {H : Hp} {o : HO} : But d l H (upd H l o) := fun b x e _ n => by rw [upd_ne n]; exact e
theorem But.new {d l p : Addr} {H : Hp} {o : HO} (h : H p = none) : But d l H (upd H p o) := But.of (same_new h)

theorem tup_same {K : PySem.W.Frag} {H H' : Hp} {a : Addr} {xs : List V} (e : Same H H') (h : SqT K H a xs) : SqT K H' a xs := by
  rcases h with (h | ⟨o, h⟩) | h
  · exact .inl (.inl (e _ _ h))
  · exact .inl (.inr ⟨o, e _ _ h⟩)
  · exact .inr h
mutual
/-- data stays what it is where all stays -/
theorem dp_same {K : PySem.W.Frag} {H H' : Hp} (s : Same H H') : ∀ {v : V} {d : PyData}, Dp K H v d → Dp K H' v d
  | _, _, .non => .non
  | _, _, .bl b => .bl b
  | _, _, .int i => .int i
  | _, _, .str x => .str x
  | _, _, .lst h a => .lst (s.seq h) (dp_sameAll s a)
  | _, _, .tup h a => .tup (tup_same s h) (dp_sameAll s a)
theorem dp_sameAll {K : PySem.W.Frag} {H H' : Hp} (s : Same H H') : ∀ {vs : List V} {ds : List PyData}, DpAll K H vs ds → DpAll K H' vs ds
  | _, _, .nil => .nil
  | _, _, .cons h a => .cons (dp_same s h) (dp_sameAll s a)
end
/-! ### the source of drawn numbers -/
abbrev kCells : Key := Sum.inr "cells"
abbrev kLeft : Key := Sum.inr "left"
abbrev kMixed : Key := Sum.inr "mixed"
abbrev kTurn : Key := Sum.inr "turn"
def srcD (l : Addr) (a m t : Int) : List (Key × V) := [(kCells, .ref l), (kLeft, .int a), (kMixed, .int m), (kTurn, .int t)]
theorem n_cl : ¬ kCells = kLeft := by decide +kernel
theorem s_cl : ¬ Str.ofString "cells" = Str.ofString "left" := by decide +kernel
theorem r_cl : ¬ Str.ofString "left" = Str.ofString "cells" := by decide +kernel
theorem n_cm : ¬ kCells = kMixed := by decide +kernel
theorem s_cm : ¬ Str.ofString "cells" = Str.ofString "mixed" := by decide +kernel
theorem r_cm : ¬ Str.ofString "mixed" = Str.ofString "cells" := by decide +kernel
theorem n_ct : ¬ kCells = kTurn := by decide +kernel
theorem s_ct : ¬ Str.ofString "cells" = Str.ofString "turn" := by decide +kernel
theorem r_ct : ¬ Str.ofString "turn" = Str.ofString "cells" := by decide +kernel
theorem n_lm : ¬ kLeft = kMixed := by decide +kernel
theorem s_lm : ¬ Str.ofString "left" = Str.ofString "mixed" := by decide +kernel
theorem r_lm : ¬ Str.ofString "mixed" = Str.ofString "left" := by decide +kernel
theorem n_lt : ¬ kLeft = kTurn := by decide +kernel
theorem s_lt : ¬ Str.ofString "left" = Str.ofString "turn" := by decide +kernel
theorem r_lt : ¬ Str.ofString "turn" = Str.ofString "left" := by decide +kernel
theorem n_mt : ¬ kMixed = kTurn := by decide +kernel
theorem s_mt : ¬ Str.ofString "mixed" = Str.ofString "turn" := by decide +kernel
theorem r_mt : ¬ Str.ofString "turn" = Str.ofString "mixed" := by decide +kernel
section
variable {l : Addr} {a m t y : Int}
theorem src_cells : valV (srcD l a m t) kCells = some (.ref l) := valV_pos rfl
theorem src_left : valV (srcD l a m t) kLeft = some (.int a) := (valV_neg n_cl).trans (valV_pos rfl)
theorem src_mixed : valV (srcD l a m t) kMixed = some (.int m) := (valV_neg n_cm).trans ((valV_neg n_lm).trans (valV_pos rfl))
theorem src_turn : valV (srcD l a m t) kTurn = some (.int t) := (valV_neg n_ct).trans ((valV_neg n_lt).trans ((valV_neg n_mt).trans (valV_pos rfl)))
theorem put_left : putK (srcD l a m t) kLeft (.int y) = srcD l y m t := by
  simp [putK, srcD, s_cl, s_cm, s_ct, s_lm, s_lt, s_mt, r_cl, r_cm, r_ct, r_lm, r_lt, r_mt]
theorem put_mixed : putK (srcD l a m t) kMixed (.int y) = srcD l a y t := by
  simp [putK, srcD, s_cl, s_cm, s_ct, s_lm, s_lt, s_mt, r_cl, r_cm, r_ct, r_lm, r_lt, r_mt]
theorem put_turn : putK (srcD l a m t) kTurn (.int y) = srcD l a m y := by
  simp [putK, srcD, s_cl, s_cm, s_ct, s_lm, s_lt, s_mt, r_cl, r_cm, r_ct, r_lm, r_lt, r_mt]
theorem src_made : mergeK [] (srcD l a m t) = srcD l a m t := by
  simp [mergeK, srcD, putK, s_cl, s_cm, s_ct, s_lm, s_lt, s_mt, r_cl, r_cm, r_ct, r_lm, r_lt, r_mt]
theorem src_len : (srcD l a m t).length = 4 := rfl
end

structure Src (H : Hp) (d l : Addr) (cs : List Int) (a m t : Int) : Prop where
  dc : H d = some (.dK (srcD l a m t))
  ls : H l = some (.lst (cs.map V.int))
  c0 : ∀ c ∈ cs, 0 ≤ c
  few : cs.length ≤ 63
  a0 : 0 ≤ a
  m0 : 0 ≤ m
  t0 : 0 ≤ t
/-- a source stands at d, its cells at l -/
def SrcAt (H : Hp) (d l : Addr) : Prop := ∃ cs a m t, Src H d l cs a m t
theorem Src.ne {H : Hp} {d l : Addr} {cs : List Int} {a m t : Int} (S : Src H d l cs a m t) : d ≠ l := ne_of S.dc S.ls (by intro z; cases z)
theorem SrcAt.ne {H : Hp} {d l : Addr} (S : SrcAt H d l) : d ≠ l := let ⟨_, _, _, _, S⟩ := S; S.ne
theorem SrcAt.same {H H' : Hp} {d l : Addr} (S : SrcAt H d l) (s : Same H H') : SrcAt H' d l :=
  let ⟨cs, a, m, t, S⟩ := S; ⟨cs, a, m, t, s _ _ S.dc, s _ _ S.ls, S.c0, S.few, S.a0, S.m0, S.t0⟩
theorem SrcAt.nd {H : Hp} {d l p : Addr} (S : SrcAt H d l) (h : H p = none) : p ≠ d ∧ p ≠ l :=
  let ⟨_, _, _, _, S⟩ := S; ⟨(ne_of_none S.dc h).symm, (ne_of_none S.ls h).symm⟩
/-- a tuple is neither part of the source -/
theorem SrcAt.nt {H : Hp} {d l p : Addr} {xs : List V} (S : SrcAt H d l) (h : H p = some (.tup xs)) : p ≠ d ∧ p ≠ l :=
  let ⟨_, _, _, _, S⟩ := S; ⟨ne_of h S.dc (by intro z; cases z), ne_of h S.ls (by intro z; cases z)⟩

/-! ### the promises -/
def spSource (K : PySem.W.Frag) : Sp := fun vs H Q _ => ∃ (b : Addr) (ns : List Int), vs = [.ref b] ∧ SqL K H b (ns.map V.int) ∧ ns.length ≤ 63 ∧
  (∀ z ∈ ns, Builtin.Int.intBits z ≤ 1048576) ∧ ∀ d l H', H d = none → H l = none → Same H H' → SrcAt H' d l → Q (.ref d) H'
def spPick : Sp := fun vs H Q _ => ∃ (d l : Addr) (n : Int), vs = [.ref d, .int n] ∧ SrcAt H d l ∧ n < 1073741824 ∧
  ∀ r H', 0 ≤ r → (r < n ∨ n < 2 ∧ r = 0) → SrcAt H' d l → But d l H H' → Q (.int r) H'
/-- some[pick]: one of the list's items -/
def spOf (K : PySem.W.Frag) : Sp := fun vs H Q _ => ∃ (d l p : Addr) (xs : List V), vs = [.ref d, .ref p] ∧ SrcAt H d l ∧ SqL K H p xs ∧ p ≠ d ∧ p ≠ l ∧ 0 < xs.length ∧ xs.length < 1000000 ∧
  ∀ v H', v ∈ xs → SrcAt H' d l → But d l H H' → Q v H'

theorem seq_but {K : PySem.W.Frag} {H H' : Hp} {d l a : Addr} {xs : List V} (e : But d l H H') (n1 : a ≠ d) (n2 : a ≠ l) (h : SqL K H a xs) : SqL K H' a xs := by
  rcases h with (h | ⟨o, h⟩) | h
  · exact .inl (.inl (e _ _ h n1 n2))
  · exact .inl (.inr ⟨o, e _ _ h n1 n2⟩)
  · exact .inr h
theorem tup_but {K : PySem.W.Frag} {H H' : Hp} {d l a : Addr} {xs : List V} (S : SrcAt H d l) (e : But d l H H') (h : H a = some (.tup xs)) : H' a = some (.tup xs) :=
  e _ _ h (S.nt h).1 (S.nt h).2

theorem snoc_of {α : Type} {l : List α} (h : 0 < l.length) : ∃ l' z, l = l' ++ [z] := by
  have ne : l ≠ [] := fun e => by rw [e] at h; exact Nat.lt_irrefl _ h
  exact ⟨l.dropLast, l.getLast ne, (List.dropLast_concat_getLast ne).symm⟩
theorem fmod_nn (a : Int) {b : Int} (h : 0 < b) : 0 ≤ a.fmod b := by
  rw [Int.fmod_eq_emod_of_nonneg _ (by omega)]
  exact Int.emod_nonneg _ (by omega)
theorem fmod_lt (a : Int) {b : Int} (h : 0 < b) : a.fmod b < b := by
  rw [Int.fmod_eq_emod_of_nonneg _ (by omega)]
  exact Int.emod_lt_of_pos _ h
theorem int_of' {ns : List Int} {i : Nat} {y : V} (h : (ns.map V.int)[i]? = some y) : ∃ z, y = V.int z ∧ ns[i]? = some z := by
  rw [List.getElem?_map] at h
  cases e : ns[i]? with
  | none => rw [e] at h; cases h
  | some z => rw [e] at h; exact ⟨z, (Option.some.inj h).symm, rfl⟩
theorem int_of {ns : List Int} {i : Nat} {y : V} (h : (ns.map V.int)[i]? = some y) : ∃ z, y = V.int z := let ⟨z, e, _⟩ := int_of' h; ⟨z, e⟩
theorem rev_ints (ns : List Int) : (((ns.map fun z => if z < 0 then -z else z).reverse).map V.int) = (ns.map fun z => V.int (if z < 0 then -z else z)).reverse := by
  rw [List.map_reverse, List.map_map]
  rfl
end Kx
namespace Kx
open PySem PySem.Spec PyProof.Rows L2
/-! ### exceptions of own classes as values, over any built-in base -/
/-- what the written part says of such a class: C over the built-in base whose own chain is tl -/
structure ExK (K : PySem.W.Frag) (C : Addr) (B newId initId : String) (tl : List Value) : Prop where
  fb : ExcBaseFacts B newId initId tl
  cls : ∃ nm q N bs bm sn sub ab col dd k0 k1 k2 k3 k5, K.lookup C = some (excClassObj nm q C N bs bm true sn sub ab col dd k0 k1 k2 k3 k5 newId) ∧ PySem.W.excTail tl bm = true
  sa : PySem.W.findIn K (.ref C) "__setattr__" = some (some (.builtin "object.__setattr__"))
  kC : PySem.W.keepIn K (.ref C) = true
  ga : PySem.W.findIn K (.ref C) "__getattribute__" = some (some (.builtin "BaseException.__getattribute__"))
  gt : PySem.W.findIn K (.ref C) "__getattr__" = some none
  su : PySem.W.subIn K (.ref C) (.type "BaseException") = some true
  ca : PySem.W.findIn K (.ref C) "__class__" = some (some (.builtin "object.__class__"))
  cn : PySem.W.specialIn K (.builtin "object.__class__") "__get__" = some (some (.builtin "getset_descriptor.__get__"))
  ct : PySem.W.takesIn K (.builtin "object.__class__") = some true
  cm : PySem.W.mroIn K C (.type "object") = some true

section
open PySem.W PySem.Calls PySem.HandSPX Builtin Builtin.ObjectAttr
variable {prog : Program} {w : World} {A : Around} {E : Value → Shared → Prop} {R : Result → Shared → Prop} {hp : Heap} {g : Array GenState} {d : Drawn} {t : Nat} {os : OsState}
/-- the first attribute of an exception, over any base -/
theorem osa_any {K : Frag} {B : String} {tl : List Value} {name : Str} {tk : Tok} {v : Value} {x C : Addr} {fv : Array Value} {cd : ClassData} (SF : PySem.StoreFacts B tl "object.__setattr__" "object")
    (inH : K.In hp) (hx : hp.get? x = some { cls := .ref C, data := .fields fv }) (hcd : clsIn K C = some cd) (hm : excTail tl cd.mro = true) (hne : cd.mro.isEmpty = false) (hob : cd.mro.contains (.type "object") = true)
    (hh : cd.hasDict = true) (ha : findIn K (.ref C) name = some none)
    (hq : ∀ h' tk' dx, (∀ b o, b ≠ x → hp.get? b = some o → h'.get? b = some o) → hp.objs.size ≤ dx → dx ≠ x →
      h'.get? x = some { cls := .ref C, dict := some dx, data := .fields fv } → h'.Ns1 dx (fun y => if y = name then some v else none) → R (.ok (.ret .none)) ⟨h', g, d, tk', os⟩) :
    codeAny (model prog w) A (.call (.builtin "object.__setattr__") ⟨[.ref x, .str name tk, v], []⟩) R ⟨hp, g, d, t, os⟩ := by
  have I : InstAt hp x { cls := .ref C, data := .fields fv } C none := ⟨hx, rfl, rfl, trivial⟩
  have SO := PySem.F.store_object
  have xNew : x ≠ hp.objs.size := Nat.ne_of_lt (Heap.lt_size hx)
  have isObj : Looks (model prog w) hp (isInstance (.ref x) (.type "object")) true :=
    I.type.andThen (looks_mroIn inH (by unfold mroIn; rw [hcd, Option.bind_some, if_neg (by rw [hne]; decide), hob]))
  refine codeAny_call_builtin SO.slot.plain SO.entry (@check_slot (model prog w) _ _ ⟨hp, g, d, t, os⟩ "object.__setattr__" "object" "__setattr__" (.ref x)
    [.str name tk, v] [] _ SO.kind SO.split isObj (SO.args (.ref x) (.str name tk) v) ?_)
  have look1 : Looks (model prog w) hp (mroOf (.ref C)) cd.mro := (looks_clsIn inH hcd).andThen .now
  have look2 : Looks (model prog w) hp (storeTaker? none) none := .now
  have look3 : Looks (model prog w) hp (classData C) cd := looks_clsIn inH hcd
  rw [osa_eq, refuse_eq]
  refine wpAny_bind (wpAny_bind (I.type.at (wpAny_bind (look1.at ?_))))
  rw [excTail_pass _ (SF.passes _) _ hm]
  refine wpAny_pure (wpAny_bind (I.type.at (wpAny_bind ((looks_findIn inH ha).at (wpAny_bind (look2.at ?_))))))
  show wpAny _ _ (storeInOwnDict (.ref x) (.ref C) (.str name tk) name v false) _ _ _
  obtain ⟨nm, bs, mro, ns, qn, hd, sn, sb, ab, col, del⟩ := cd
  dsimp only at hh
  subst hh
  unfold storeInOwnDict ownDictForStores
  repeat (first | with_reducible refine store_in_new ?_ ?_ | with_reducible refine wpAny_loadPart_at hx ?_ | with_reducible refine look3.at ?_ | wp_step)
  · exact ⟨_, #[], _, (Heap.get?_update_ne _ _ _ _ xNew.symm).trans (Heap.get?_push_at rfl rfl), rfl, fun e he => absurd he (by simp), fun _ => rfl⟩
  · intro h' tk' hn' hs
    have hx' : (hp.push { cls := .type "dict", data := .dict #[] }).get? x = some { cls := .ref C, data := .fields fv } := Heap.get?_push_of_some _ hx
    refine hq h' tk' hp.objs.size ?_ (Nat.le_refl _) xNew.symm ((hs.2 x xNew).trans (Heap.get?_update_self _ hx' rfl)) hn'
    intro b o hb ho
    exact (hs.2 b (Nat.ne_of_lt (Heap.lt_size ho))).trans ((Heap.get?_update_ne _ _ _ _ hb).trans (Heap.get?_push_of_some _ ho))
end
section
variable {X : Cx} {pins : List (Addr × Obj)} {σ : L2.St} {H : Hp} {s : Shared} {a C dx : Addr} {f : Str} {y : V} {u : Value} {fs : List (Str × V)} {B newId initId : String} {tl : List Value}
/-- self.f = y, the first attribute -/
theorem ost_any {Q : Unit → Shared → Prop} {E : Value → Shared → Prop} {A : Around} (SF : PySem.StoreFacts B tl "object.__setattr__" "object") (hto : tl.contains (.type "object") = true) (T : ExK X.K C B newId initId tl)
    (I : Inv X pins σ H s) (e : H a = some (exo a C none)) (hno : PySem.W.findIn X.K (.ref C) f = some none) (ry : RelV y u)
    (h : ∀ dx s', H dx = none → dx ≠ a → Inv X pins σ (upd (upd H dx (exd dx [(f, y)])) a (exo a C (some dx))) s' → Q () s') : wpAny (model X.prog X.w) A (setAttr (.ref a) f u) Q E s := by
  obtain ⟨nm, q, N, bs, bm, sn, sub, ab, col, dd, k0, k1, k2, k3, k5, hC, hbm⟩ := T.cls
  have hcl : PySem.W.clsIn X.K C = some { name := nm, bases := bs, mro := .ref C :: bm, ns := N, qualname := q, hasDict := true, slotNames := sn, subclasses := sub, abstract := ab, collection := col, hasDel := false } := by
    unfold PySem.W.clsIn
    rw [hC]
    all_goals rfl
  obtain ⟨t1, ho⟩ := exo_at I.hok e
  obtain ⟨hp, g, d, t, os⟩ := s
  have hall : PySem.W.excTail tl (.ref C :: bm) = true := hbm
  refine PySem.W.set_plain I.kIn (ox := { cls := .ref C, dict := none, data := .fields #[.ref t1, .none, .none, .none, .bool false, .none] }) (od := none) ⟨ho, rfl, rfl, trivial⟩ T.sa ?_
  refine osa_any SF I.kIn ho hcl hall rfl ((PySem.W.excTail_contains "object" _ hall).trans hto) rfl hno (fun h' tk' dx k dn dne hx hn => ?_)
  have hnd : H dx = none := I.hok.fresh dn
  have nd : ∀ {b : Addr} {o : Obj}, hp.get? b = some o → b ≠ dx := fun {b o} q => Nat.ne_of_lt (Nat.lt_of_lt_of_le (Heap.lt_size q) dn)
  have na : ∀ {b : Addr}, H b = none → b ≠ a := fun {b} n z => by
    rw [z, e] at n
    cases n
  have U : Un X.fs [] H (upd (upd H dx (exd dx [(f, y)])) a (exo a C (some dx))) hp h' := by
    constructor
    · exact fun b o q n _ _ => k b o (na n) q
    · exact fun b o q n _ _ => ⟨o.slots, k b o (na n) q⟩
    · intro b o q n _
      rw [upd_ne (na n), upd_ne (nd q)]
      exact n
    · intro b o q _
      by_cases hb : b = a
      · exact ⟨_, by rw [hb]; exact hx⟩
      · exact ⟨o, k b o hb q⟩
    · intro b xs q
      rw [upd_ne (at_ne e q exo_tup), upd_ne (ne_of_none q hnd)]
      exact q
    · intro b o v q
      rw [upd_ne (at_ne e q exo_frz), upd_ne (ne_of_none q hnd)]
      exact q
    · intro b ps q
      exact ⟨#[], by rw [upd_ne (at_ne e q exo_tbl), upd_ne (ne_of_none q hnd), q]; simp⟩
  refine h dx _ hnd dne (I.un (t' := tk') U ?_)
  intro b o q
  by_cases hb : b = a
  · subst hb
    rw [upd_same] at q
    cases q
    exact exo_ok hx
  rw [upd_ne hb] at q
  by_cases hd : b = dx
  · subst hd
    rw [upd_same] at q
    cases q
    exact exd_ok hn (relO_put (fs := []) ry fun g => True.intro)
  rw [upd_ne hd] at q
  refine (I.hok b o q).stay ?_ ?_ ?_
  · intro c v hc z
    refine k c v ?_ z
    rcases hc with hc | hc
    · rw [hc]
      exact hb
    · exact at_ne e hc exo_own
  · intro c hc
    rw [upd_ne (at_ne e hc exo_own), upd_ne (ne_of_none hc hnd)]
    exact hc
  · intro c xs hc
    rw [upd_ne (at_ne e hc exo_tup), upd_ne (ne_of_none hc hnd)]
    exact hc

/-- self.f = e in an __init__, the first one -/
def tOstK (C : Addr) (f : Str) (to te : TE) : TS := fun D σ H => te σ H fun y H1 => to σ H1 fun x H2 => ∃ a : Addr, x = .ref a ∧ H2 a = some (exo a C none) ∧
  ∀ dx, H2 dx = none → dx ≠ a → D.nx σ (upd (upd H2 dx (exd dx [(f, y)])) a (exo a C (some dx)))
theorem ps_ostK {o e : Expr} {to te : TE} {p' pos : Pos} (SF : PySem.StoreFacts B tl "object.__setattr__" "object") (hto : tl.contains (.type "object") = true) (T : ExK X.K C B newId initId tl) (hno : PySem.W.findIn X.K (.ref C) f = some none)
    (ho : PE X o to) (he : PE X e te) (hs : swapsWith e (some (.Attribute o f p')) pos.line X.env = pure false := by rfl) : PS X (.Assign [.Attribute o f p'] e pos) (tOstK C f to te) := by
  constructor
  intro pins s σ H D I h
  refine plainObj_wpAny_Assign_Attribute (thn (he.run pins s σ H _ I h) fun v s1 ⟨y, H1, I1, r1, q1⟩ => thn (ho.run pins s1 σ H1 _ I1 q1) fun u s2 ⟨x, H2, I2, r2, a, ex, ea, q⟩ => ?_) hs
  subst ex
  obtain rfl : u = Value.ref a := r2
  exact ost_any SF hto T I2 ea hno r1 fun dx s' n ne J => ⟨σ, _, J, q dx n ne⟩

/-- C(e, ..) as a value, C's own __init__ keeping sp -/
def tMkV (C : Addr) (sp : Sp) (ta : TA) : TE := fun σ H Q => ta σ H fun vs H1 => vs.length ≤ 1000 ∧ ∀ a, H1 a = none → sp (.ref a :: vs) (upd H1 a (exo a C none)) (fun v H2 => v = .non ∧ Q (.ref a) H2) E0
theorem pe_mkV {x : Str} {fI : Addr} {k : Nat} {fd : FuncData} {ps : List Str} {sp : Sp} {e : Expr} {es : List Expr} {ta : TA} {p pos : Pos} (T : ExK X.K C B newId initId tl) (iC : PySem.W.findIn X.K (.ref C) "__init__" = some (some (.ref fI)))
    (tI : PySem.W.typeIn X.K (.ref fI) = some (.type "function")) (F1 : FnOk X.prog X.w X.K X.mg X.base CX0 k fI fd ps sp) (hr : Room (k + 1) X.A) (hb : Binds X.K fd ps []) (hg : Gl X x) (hm : X.mg x = some (.ref C)) (ha : PA X (e :: es) ta)
    (hdb : (x == ("__debug__" : Str)) = false := by decide) (he : starEach (e :: es) X.env = (false, eval e X.env) :: starEach es X.env := by rfl)
    (hpl : (backTo pos (starEach es X.env)).any (·.1) = false := by rfl) : PE X (.Call (.Name x p) (e :: es) [] pos) (tMkV C sp ta) := by
  constructor
  intro pins s σ H Q I h
  obtain ⟨nm, q, N, bs, bm, sn, sub, ab, col, dd, k0, k1, k2, k3, k5, hC, hbm⟩ := T.cls
  refine wpAny_Call_Name_kw (ld_glob I hg hm ?_ hdb)
  refine PySem.W.callWith_K (h₀ := X.base) I.ok.mod.kin T.kC (thn (ha.run pos pins s σ H _ I h) ?_) he hpl
  rintro us s1 ⟨vs, H1, I1, r1, hz, q1⟩
  refine ⟨I1.kIn, ?_⟩
  show wpAny _ _ (call (.ref C) us) _ _ _
  obtain ⟨hp, g, dr, tk, os⟩ := s1
  have hsz : hp.objs.size ≤ hp.objs.size + 1 := Nat.le_succ _
  have hq := q1 (hp.objs.size + 1) (I1.hok.fresh hsz)
  have kk : ∀ b o, hp.get? b = some o → ((hp.push (PySem.W.kdv_tup us)).push (PySem.HandSPX.excO C hp.objs.size)).get? b = some o := fun b o e => Heap.get?_push_of_some _ (Heap.get?_push_of_some _ e)
  have hget : ((hp.push (PySem.W.kdv_tup us)).push (PySem.HandSPX.excO C hp.objs.size)).get? (hp.objs.size + 1) = some (PySem.HandSPX.excO C hp.objs.size) := by heap_get
  have I2 : Inv X pins σ (upd H1 (hp.objs.size + 1) (exo (hp.objs.size + 1) C none)) ⟨(hp.push (PySem.W.kdv_tup us)).push (PySem.HandSPX.excO C hp.objs.size), g, dr, tk, os⟩ :=
    I1.laid (t' := tk) (a := hp.objs.size + 1) (o := exo (hp.objs.size + 1) C none) (h' := (hp.push (PySem.W.kdv_tup us)).push (PySem.HandSPX.excO C hp.objs.size)) kk hsz (exo_ok hget)
  have r2 : Vals (V.ref (hp.objs.size + 1) :: vs) (Value.ref (hp.objs.size + 1) :: us) := .cons rfl r1
  have hl : (Value.ref (hp.objs.size + 1) :: us ++ []).length = ps.length := by
    rw [List.append_nil]
    exact r2.length.symm.trans (F1.len _ _ _ _ hq)
  have hus : us.length ≤ sizeLine := by
    rw [← Paired.length r1, sizeLine_eq]
    omega
  refine wpAny_call (PySem.HandSPX.call_own T.fb (fun Y => PySem.W.excTail_contains Y bm hbm) (I1.kIn _ _ hC) (PySem.W.looks_findIn I1.kIn iC) (fun self => PySem.W.bind_fn I1.kIn self tI) hus ?_)
  have hbind := hb ⟨(hp.push (PySem.W.kdv_tup us)).push (PySem.HandSPX.excO C hp.objs.size), g, dr, tk, os⟩ (Value.ref (hp.objs.size + 1) :: us) I2.kIn hl
  rw [List.append_nil] at hbind
  refine codeAny_mono (F1.run _ X.stack _ _ ⟨Value.ref (hp.objs.size + 1) :: us, []⟩ (Value.ref (hp.objs.size + 1) :: us) _ _ E0 (hr.make C us []) (I2.env0.make C us []) hbind r2 hq) ?_
  intro r s' hq'
  match r, hq' with
  | .error er, hq' => exact hq'.elim
  | .ok .next, hq' => exact False.elim hq'
  | .ok .brk, hq' => exact False.elim hq'
  | .ok .cont, hq' => exact False.elim hq'
  | .ok (.ret u), hq' =>
    obtain ⟨v, H3, I3, rv, ev, q3⟩ := I2.after hq'
    subst ev
    exact ⟨rv, V.ref (hp.objs.size + 1), H3, I3, rfl, q3⟩

/-- C() as a value, C without an __init__ of its own -/
theorem pe_mkV0 {x : Str} {p pos : Pos} (T : ExK X.K C B newId initId tl) (q : PySem.W.excIn X.K C tl newId = true) (hg : Gl X x) (hm : X.mg x = some (.ref C)) (hdb : (x == ("__debug__" : Str)) = false := by decide) :
    PE X (.Call (.Name x p) [] [] pos) (fun _ H Q => ∀ a, H a = none → Q (.ref a) (upd H a (exo a C none))) := by
  constructor
  intro pins s σ H Q I h
  refine wpAny_Call_Name_kw (ld_glob I hg hm ?_ hdb)
  refine PySem.W.callWith_K0 I.kIn T.kC ?_
  show wpAny _ _ (call (.ref C) []) _ _ _
  obtain ⟨bm, N, nm, qn, bs, hdct, sn, sub, ab, col, dd, k0, k1, k2, k3, k5, mN, hC, hN, hni, OT⟩ := exc_obj I.kIn q
  refine wpAny_call_exc_subT T.fb OT hC hN hni (fun h' a hm => ?_) (by show 0 ≤ sizeLine; exact Nat.zero_le _)
  have hn : H a = none := I.hok.gone hm.new
  obtain ⟨t, ht, _, _⟩ := hm.there
  exact ⟨.ref a, upd H a (exo a C none), I.laidN hm.keeps hm.new hn (exo_ok ht), rfl, h a hn⟩

/-- e.f, e such an exception -/
theorem pe_fldK {e : Expr} {te : TE} {pos : Pos} {n : Str} (he : PE X e te)
    (hb : attributeBase e n X.env (eval e X.env) = eval e X.env := by rfl) :
    PE X (.Attribute e n pos) (fun σ H Q => te σ H fun x H1 => ∃ (a C dx : Addr) (fs : List (Str × V)) (v : V) (B newId initId : String) (tl : List Value), x = .ref a ∧ ExK X.K C B newId initId tl ∧ PySem.W.findIn X.K (.ref C) n = some none ∧
      PySem.W.hasDictIn X.K C = true ∧ H1 a = some (exo a C (some dx)) ∧ H1 dx = some (exd dx fs) ∧ fs.lookup n = some v ∧ Q v H1) := by
  constructor
  intro pins s σ H Q I h
  refine attr_of hb (thn (he.run pins s σ H _ I h) ?_)
  rintro u s1 ⟨x, H1, I1, rx, a, C, dx, fs, v, B, newId, initId, tl, ex, T, hno, hdC, ea, ed, l, q⟩
  subst ex
  obtain rfl : u = Value.ref a := rx
  obtain ⟨t1, ho⟩ := exo_at I1.hok ea
  obtain ⟨mA, hns, hr⟩ := exd_at I1.hok ed
  obtain ⟨od, ho2, hl⟩ := lookIn_ns hns
  obtain ⟨u, hu, ru⟩ := RelO.some_of (v := v) (o := mA n) (by rw [← l]; exact hr n)
  have J : PySem.W.InstAt s1.heap a { cls := .ref C, dict := some dx, data := .fields #[.ref t1, .none, .none, .none, .bool false, .none] } C (some od) := ⟨ho, rfl, rfl, ho2⟩
  exact PySem.HandSPX.exc_get I1.kIn J T.ga T.gt T.su (PySem.W.findObj_own hdC hno rfl (by rw [hl, hu])) (handed_of ru) ⟨v, H1, I1.tok _, ru, q⟩

/-- isinstance(e, c), e such an exception -/
def rIsK (K : PySem.W.Frag) : List V → Hp → VK → Prop := fun xs H Q => ∃ (a C : Addr) (d : Option Addr) (c : V) (u : Value) (b : Bool) (B newId initId : String) (tl : List Value), xs = [.ref a, c] ∧ ClsV c u ∧ ExK K C B newId initId tl ∧
  H a = some (exo a C d) ∧ (∀ dx, d = some dx → ∃ fs, H dx = some (exd dx fs)) ∧ PySem.W.kitOne K (.ref C) u = some b ∧ Q (.bl b) H
theorem inst_any {hp : Heap} {x C t1 : Addr} {d : Option Addr} (ho : hp.get? x = some ({ cls := .ref C, dict := d, data := .fields #[.ref t1, .none, .none, .none, .bool false, .none] } : Obj)) (hd : ∀ dx, d = some dx → ∃ o, hp.get? dx = some o) :
    ∃ od, PySem.W.InstAt hp x { cls := .ref C, dict := d, data := .fields #[.ref t1, .none, .none, .none, .bool false, .none] } C od := by
  cases d with
  | none => exact ⟨none, ho, rfl, rfl, trivial⟩
  | some dx =>
    obtain ⟨o, e⟩ := hd dx rfl
    exact ⟨some o, ho, rfl, rfl, e⟩
theorem ExK.isCls {K : PySem.W.Frag} (T : ExK K C B newId initId tl) : (PySem.W.clsIn K C).isSome = true := by
  obtain ⟨nm, q, N, bs, bm, sn, sub, ab, col, dd, k0, k1, k2, k3, k5, hC, hbm⟩ := T.cls
  unfold PySem.W.clsIn
  rw [hC]
  all_goals rfl
theorem exd_obj {H : Hp} {h : Heap} {P : Program} {w : World} (hok : HOk P w H h) {dx : Addr} {fs : List (Str × V)} (e : H dx = some (exd dx fs)) : ∃ o, h.get? dx = some o := by
  obtain ⟨mA, ⟨o, es, ep, ho, _⟩, _⟩ := exd_at hok e
  exact ⟨o, ho⟩
theorem call_isK : CallR X (.builtin "isinstance") (rIsK X.K) := by
  intro pins s σ H xs us Q I r h
  obtain ⟨a, C, d, c, cv, b, B, newId, initId, tl, rfl, hc, T, ea, hd, e, q⟩ := h
  obtain ⟨u1, u2, rfl, r1, r2⟩ := vals2 r
  have e2 := hc.eq r2
  subst e2
  cases r1
  obtain ⟨t1, ho⟩ := exo_at I.hok ea
  obtain ⟨od, J⟩ := inst_any ho fun dx z => let ⟨fs, y⟩ := hd dx z; exd_obj I.hok y
  exact PySem.W.kia_one (PySem.W.kitx_exc T.isCls T.ga T.gt T.su T.ca T.cn T.ct T.cm) I.kIn J e (fun z => nomatch z) fun tk => ⟨.bl b, H, I.tok tk, rfl, q⟩
/-- isinstance(e, (c1, c2)) -/
def rIsKT (K : PySem.W.Frag) : List V → Hp → VK → Prop := fun xs H Q => ∃ (a C tp : Addr) (d : Option Addr) (cs : List V) (us : List Value) (b : Bool) (B newId initId : String) (tl : List Value), xs = [.ref a, .ref tp] ∧ H tp = some (.tup cs) ∧ Paired ClsV cs us ∧ ExK K C B newId initId tl ∧
  H a = some (exo a C d) ∧ (∀ dx, d = some dx → ∃ fs, H dx = some (exd dx fs)) ∧ PySem.W.kitAny K (.ref C) us = some b ∧ Q (.bl b) H
theorem call_isKT : CallR X (.builtin "isinstance") (rIsKT X.K) := by
  intro pins s σ H xs us Q I r h
  obtain ⟨a, C, tp, d, cs, ws, b, B, newId, initId, tl, rfl, hT, hc, T, ea, hd, e, q⟩ := h
  obtain ⟨u1, u2, rfl, r1, r2⟩ := vals2 r
  cases (show u2 = Value.ref tp from r2)
  cases r1
  obtain ⟨t1, ho⟩ := exo_at I.hok ea
  obtain ⟨od, J⟩ := inst_any ho fun dx z => let ⟨fs, y⟩ := hd dx z; exd_obj I.hok y
  have tt : ObjOk X.prog X.w H s.heap tp (.tup cs) := I.hok tp _ hT
  obtain ⟨_, its, rv, o, h1, h2, n, h3⟩ := tt
  have e3 := ClsV.all hc rv
  subst e3
  obtain ⟨oc, od2, dt, sl⟩ := o
  simp only at h2 h3
  subst h2 h3
  exact PySem.W.kia_tup (PySem.W.kitx_exc T.isCls T.ga T.gt T.su T.ca T.cn T.ct T.cm) I.kIn J h1 e (fun z => nomatch z) fun tk => ⟨.bl b, H, I.tok tk, rfl, q⟩
/-- whether one class is another one's, from what the written part says -/
theorem kit_own {K : PySem.W.Frag} {C D : Addr} {b : Bool} (hne : C ≠ D) (hD : (PySem.W.clsIn K D).isSome = true) (tD : PySem.W.typeIn K (.ref D) = some (.type "type")) (h : PySem.W.subIn K (.ref C) (.ref D) = some b) : PySem.W.kitOne K (.ref C) (.ref D) = some b := by
  unfold PySem.W.kitOne
  rw [if_neg (by simpa using hne)]
  show (if ((PySem.W.clsIn K D).isSome && PySem.W.typeIn K (.ref D) == some (.type "type")) = true then PySem.W.subIn K (.ref C) (.ref D) else none) = some b
  rw [hD, tD, if_pos (by decide)]
  exact h
theorem kit_self {K : PySem.W.Frag} {C : Addr} : PySem.W.kitOne K (.ref C) (.ref C) = some true := by
  unfold PySem.W.kitOne
  rw [if_pos (by simp)]
theorem kit_blt {K : PySem.W.Frag} {C : Addr} {T : String} {b : Bool} (hm : PySem.W.kitMeta T = true) (h : PySem.W.subIn K (.ref C) (.type T) = some b) : PySem.W.kitOne K (.ref C) (.type T) = some b := by
  unfold PySem.W.kitOne
  rw [if_neg (by simp)]
  show (if PySem.W.kitMeta T = true then PySem.W.subIn K (.ref C) (.type T) else none) = some b
  rw [if_pos hm]
  exact h
end

/-! ### repr of data with dicts -/
mutual
/-- data that stands tracked: none, bools, ints, texts, lists, tuples, dicts -/
inductive Dr (H : Hp) : V → PyData → Prop
  | non : Dr H .non .none
  | bl (b : Bool) : Dr H (.bl b) (.bool b)
  | int (i : Int) : Dr H (.int i) (.int i)
  | str (x : Str) : Dr H (.str x) (.str x)
  | lst {a : Addr} {xs : List V} {ds : List PyData} : H a = some (.lst xs) → DrAll H xs ds → Dr H (.ref a) (.list ds)
  | tup {a : Addr} {xs : List V} {ds : List PyData} : H a = some (.tup xs) → DrAll H xs ds → Dr H (.ref a) (.tuple ds)
  | dct {a : Addr} {kvs : List (L2.Key × V)} {ps : List (PyData × PyData)} : H a = some (.dK kvs) → DrAll H (kvs.map fun p => kV p.1) (ps.map (·.1)) → DrAll H (kvs.map (·.2)) (ps.map (·.2)) → Dr H (.ref a) (.dict ps)
inductive DrAll (H : Hp) : List V → List PyData → Prop
  | nil : DrAll H [] []
  | cons {v : V} {vs : List V} {d : PyData} {ds : List PyData} : Dr H v d → DrAll H vs ds → DrAll H (v :: vs) (d :: ds)
end
mutual
theorem Dr.same {H H' : Hp} (s : Same H H') : ∀ {v : V} {d : PyData}, Dr H v d → Dr H' v d
  | _, _, .non => .non
  | _, _, .bl b => .bl b
  | _, _, .int i => .int i
  | _, _, .str x => .str x
  | _, _, .lst h a => .lst (s _ _ h) (DrAll.same s a)
  | _, _, .tup h a => .tup (s _ _ h) (DrAll.same s a)
  | _, _, .dct h a b => .dct (s _ _ h) (DrAll.same s a) (DrAll.same s b)
theorem DrAll.same {H H' : Hp} (s : Same H H') : ∀ {vs : List V} {ds : List PyData}, DrAll H vs ds → DrAll H' vs ds
  | _, _, .nil => .nil
  | _, _, .cons h a => .cons (Dr.same s h) (DrAll.same s a)
end
theorem vals_fst {P : Program} {w : World} : ∀ {es : List DictEntry} {kvs : List (L2.Key × Value)}, Pairs (mixKind P w) es kvs → Vals (kvs.map fun p => kV p.1) (es.map (·.key))
  | _, _, .nil => .nil
  | e :: es, kv :: kvs, .cons hk hv t => by
    refine Paired.cons ?_ (vals_fst t)
    have hk' : keyIs kv.1 e.key = true := hk
    show RelV (kV kv.1) e.key
    rcases keyIs_shape hk' with ⟨i, u, e1, e2⟩ | ⟨x, u, e1, e2⟩
    · rw [e1, e2]
      exact ⟨u, rfl⟩
    · rw [e1, e2]
      exact ⟨u, rfl⟩
theorem pairs_snd {P : Program} {w : World} : ∀ {es : List DictEntry} {kvs : List (L2.Key × Value)}, Pairs (mixKind P w) es kvs → es.map (·.val) = kvs.map (·.2)
  | _, _, .nil => rfl
  | _, _, .cons hk hv t => by
    rw [List.map_cons, List.map_cons, hv, pairs_snd t]
theorem kv_fst : ∀ {kvs : List (L2.Key × V)} {us : List (L2.Key × Value)}, KV kvs us → (kvs.map fun p => kV p.1) = (us.map fun p => kV p.1)
  | _, _, .nil => rfl
  | _, _, .cons h t => by
    rw [List.map_cons, List.map_cons, h.1, kv_fst t]
theorem kv_snd : ∀ {kvs : List (L2.Key × V)} {us : List (L2.Key × Value)}, KV kvs us → Vals (kvs.map (·.2)) (us.map (·.2))
  | _, _, .nil => .nil
  | _, _, .cons h t => .cons h.2 (kv_snd t)
section
variable {X : Cx} {pins : List (Addr × Obj)} {σ : L2.St} {H : Hp} {s : Shared}
/-- what is known of a value's text -/
def Shows (P : Program) (w : World) (h : Heap) (u : Value) (d : PyData) : Prop := ∃ as, Reads h u d as ∧ ∃ bs, ReadAtMost h d.depth bs ∧ ReprK P w bs h d.depth u d.shown
def ShowsAll (P : Program) (w : World) (h : Heap) (us : List Value) (ds : List PyData) : Prop :=
  ∃ as, ReadsAll h us ds as ∧ ∃ bs, ReadAtMost h (PyData.depthAll ds) bs ∧ ReprAllK P w bs h (PyData.depthAll ds) us (PyData.shownAll ds)
theorem shows_leaf {P : Program} {w : World} {h : Heap} {u : Value} {d : PyData} {as : List Addr} (r : Reads h u d as) (i : ReprIs P w u d.shown) : Shows P w h u d := ⟨as, r, [], (fun _ z => nomatch z), ReprK.of_is i _ _ _⟩
theorem shows_all (I : Inv X pins σ H s) {m : Nat} (ih : ∀ (d : PyData) (v : V) (u : Value), d.depth ≤ m → Dr H v d → RelV v u → d.showable = true → d.shown.length ≤ sizeLine → Shows X.prog X.w s.heap u d) :
    ∀ (ds : List PyData) (vs : List V) (us : List Value), PyData.depthAll ds ≤ m → DrAll H vs ds → Vals vs us → PyData.showableAll ds = true → (∀ t ∈ PyData.shownAll ds, t.length ≤ sizeLine) → ShowsAll X.prog X.w s.heap us ds
  | [], _, _, _, h, r, _, _ => by
    cases h
    cases r
    refine ⟨_, ReadsAll.nil, [], (fun _ z => nomatch z), ?_⟩
    simp only [PyData.shownAll]
    exact .nil
  | d :: ds, _, _, hm, h, r, hs, hz => by
    simp only [PyData.depthAll] at hm
    have hs' : d.showable = true ∧ PyData.showableAll ds = true := by simpa only [PyData.showableAll, Bool.and_eq_true] using hs
    simp only [PyData.shownAll] at hz
    cases h with
    | cons h1 h2 =>
      cases r with
      | cons r1 r2 =>
        obtain ⟨as, q1, b1, n1, k1⟩ := ih d _ _ (by omega) h1 r1 hs'.1 (hz _ (List.mem_cons_self ..))
        obtain ⟨bs, q2, b2, n2, k2⟩ := shows_all I ih ds _ _ (by omega) h2 r2 hs'.2 (fun t ht => hz t (List.mem_cons_of_mem _ ht))
        refine ⟨_, ReadsAll.cons q1 q2, b1 ++ b2, ?_, ?_⟩
        · simp only [PyData.depthAll]
          exact (n1.mono (Nat.le_max_left _ _)).append (n2.mono (Nat.le_max_right _ _))
        · simp only [PyData.depthAll, PyData.shownAll]
          exact .cons ((k1.more fun b z => List.mem_append_left _ z).level_le (Nat.le_max_left _ _)) (k2.more_le (fun b z => List.mem_append_right _ z) (Nat.le_max_right _ _))
theorem Dr.shows (I : Inv X pins σ H s) : ∀ (m : Nat) (d : PyData) (v : V) (u : Value), d.depth ≤ m → Dr H v d → RelV v u → d.showable = true → d.shown.length ≤ sizeLine → Shows X.prog X.w s.heap u d := by
  have leaf : ∀ (d : PyData) (v : V) (u : Value), Dr H v d → RelV v u → d.showable = true → d.shown.length ≤ sizeLine → d.depth = 0 → Shows X.prog X.w s.heap u d := by
    intro d v u h r hs hz h0
    cases h with
    | non => cases r; exact shows_leaf Reads.none (by simp only [PyData.shown]; exact ReprIs.none)
    | bl b => cases r; exact shows_leaf (Reads.bool b) (by simp only [PyData.shown]; exact ReprIs.bool b)
    | int i => obtain ⟨t, rfl⟩ := r; exact shows_leaf (Reads.int i t) (by simp only [PyData.shown]; exact ReprIs.int t (by simpa [PyData.showable] using hs))
    | str x => obtain ⟨t, rfl⟩ := r; exact shows_leaf (Reads.str x t) (by simp only [PyData.shown]; exact ReprIs.str x t (by simpa only [PyData.shown] using hz))
    | lst hs ha => simp only [PyData.depth] at h0; omega
    | tup hs ha => simp only [PyData.depth] at h0; omega
    | dct hs ha hb => simp only [PyData.depth] at h0; omega
  intro m
  induction m with
  | zero => exact fun d v u hm h r hs hz => leaf d v u h r hs hz (Nat.le_zero.mp hm)
  | succ m ih =>
    intro d v u hm h r hs hz
    cases h with
    | non => exact leaf _ _ _ .non r hs hz (by simp only [PyData.depth])
    | bl b => exact leaf _ _ _ (.bl b) r hs hz (by simp only [PyData.depth])
    | int i => exact leaf _ _ _ (.int i) r hs hz (by simp only [PyData.depth])
    | str x => exact leaf _ _ _ (.str x) r hs hz (by simp only [PyData.depth])
    | @lst a xs ds hh ha =>
      simp only [PyData.depth] at hm
      cases r
      have hz' : (listText (PyData.shownAll ds)).length ≤ sizeLine := by simpa only [PyData.shown] using hz
      obtain ⟨its, rv, ⟨o, n, ho, hc, _, hd⟩, _⟩ := I.list (SqL.of hh)
      obtain ⟨as, hr, bs, hb, hk⟩ := shows_all I ih ds _ its (by omega) ha rv (by simpa only [PyData.showable] using hs) (fun t ht => Nat.le_trans (listText_mem_le ht) hz')
      have rd : Reads s.heap (.ref a) (.list ds) _ := .list ho hc hd hr
      have hna : a ∉ bs := not_mem_of_deeper rd (by simp only [PyData.depth]; omega) hb
      refine ⟨_, rd, a :: bs, ReadAtMost.cons rd (by simp only [PyData.depth]; omega) hb, ?_⟩
      simp only [PyData.depth, PyData.shown]
      cases its with
      | nil =>
        cases hr
        simp only [PyData.shownAll, listText_nil]
        exact ReprK.listEmpty ho hc hd
      | cons x l => exact ReprK.list ho hc hd hna (by simpa using hk.length_eq) (fun i y e => hk.item i y (by simpa using e))
    | @tup a xs ds hh ha =>
      simp only [PyData.depth] at hm
      cases r
      have hz' : (tupleText (PyData.shownAll ds)).length ≤ sizeLine := by simpa only [PyData.shown] using hz
      obtain ⟨its, rv, ⟨o, ho, hc, n, hd⟩, _⟩ := I.tuple (SqT.of hh)
      obtain ⟨as, hr, bs, hb, hk⟩ := shows_all I ih ds _ its (by omega) ha rv (by simpa only [PyData.showable] using hs) (fun t ht => Nat.le_trans (tupleText_mem_le ht) hz')
      have rd : Reads s.heap (.ref a) (.tuple ds) _ := .tuple ho hc hd hr
      have hna : a ∉ bs := not_mem_of_deeper rd (by simp only [PyData.depth]; omega) hb
      refine ⟨_, rd, a :: bs, ReadAtMost.cons rd (by simp only [PyData.depth]; omega) hb, ?_⟩
      simp only [PyData.depth, PyData.shown]
      exact ReprK.tuple ho hc hd hna hk
    | @dct a kvs ps hh hk hv =>
      simp only [PyData.depth] at hm
      have d1 := PyData.depthAll_keys_le ps
      have d2 := PyData.depthAll_vals_le ps
      cases r
      have hz' : (dictText (PyData.shownKv ps)).length ≤ sizeLine := by simpa only [PyData.shown] using hz
      obtain ⟨hs1, hs2⟩ := PyData.showableKv_split ps (by simpa only [PyData.showable] using hs)
      have oo : ObjOk X.prog X.w H s.heap a (.dK kvs) := I.hok a _ hh
      obtain ⟨_, hsys, us, ku, o, es, ep, ho, hx, hd, _, hp, _⟩ := oo
      have q1 := vals_fst hp
      rw [← kv_fst ku] at q1
      have q2 := kv_snd ku
      rw [← pairs_snd hp] at q2
      obtain ⟨as, r1, b1, n1, k1⟩ := shows_all I ih (ps.map (·.1)) _ _ (by omega) hk q1 hs1 (fun t ht => let ⟨p, hp, hl⟩ := PyData.shownKv_key_le ps t ht; Nat.le_trans hl (Nat.le_trans (dictText_mem_le hp) hz'))
      obtain ⟨bs, r2, b2, n2, k2⟩ := shows_all I ih (ps.map (·.2)) _ _ (by omega) hv q2 hs2 (fun t ht => let ⟨p, hp, hl⟩ := PyData.shownKv_val_le ps t ht; Nat.le_trans hl (Nat.le_trans (dictText_mem_le hp) hz'))
      have rd : Reads s.heap (.ref a) (.dict ps) _ := .dict ho hx.1 hd r1 r2
      have hb : ReadAtMost s.heap (PyData.depthKv ps) (b1 ++ b2) := (n1.mono d1).append (n2.mono d2)
      have hna : a ∉ b1 ++ b2 := not_mem_of_deeper rd (by simp only [PyData.depth]; omega) hb
      refine ⟨_, rd, a :: (b1 ++ b2), ReadAtMost.cons rd (by simp only [PyData.depth]; omega) hb, ?_⟩
      simp only [PyData.depth, PyData.shown, PyData.shownKv_eq]
      exact ReprK.dict ho hx.1 hd hsys hna (ReprEntriesK.of_two es.toList _ _ (k1.more_le (fun b z => List.mem_append_left _ z) d1) (k2.more_le (fun b z => List.mem_append_right _ z) d2))
/-- repr(x), x a list of such data -/
def rShowD : List V → Hp → VK → Prop := fun xs H Q => ∃ (p : Addr) (ds : List PyData), xs = [.ref p] ∧ Dr H (.ref p) (.list ds) ∧ (PyData.list ds).depth ≤ 64 ∧ (PyData.list ds).showable = true ∧ (PyData.list ds).shown.length ≤ sizeLine ∧ Q (.str (PyData.list ds).shown) H
theorem call_showD (hG : X.A.guards = some []) (hu : X.A.units + 66 < cLine) : CallR X (.builtin "repr") rShowD := by
  intro pins s σ H xs us Q I r h
  obtain ⟨p, ds, rfl, hd, sd, hs, hz, q⟩ := h
  obtain ⟨u, rfl, ru⟩ := vals1 r
  cases ru
  have hz' : (listText (PyData.shownAll ds)).length ≤ sizeLine := by simpa only [PyData.shown] using hz
  simp only [PyData.depth] at sd
  simp only [PyData.shown] at q
  cases hd with
  | @lst _ xs _ hh ha =>
    obtain ⟨its, rv, ⟨o, n, ho, hc, _, hd⟩, _⟩ := I.list (SqL.of hh)
    obtain ⟨as, hr, bs, hb, hk⟩ := shows_all I (Dr.shows I _) ds _ its (Nat.le_refl _) ha rv (by simpa only [PyData.showable] using hs) (fun t ht => Nat.le_trans (listText_mem_le ht) hz')
    have rd : Reads s.heap (.ref p) (.list ds) _ := .list ho hc hd hr
    have hna : p ∉ bs := not_mem_of_deeper rd (by simp only [PyData.depth]; omega) hb
    refine call_repr_slot (by omega) ⟨o, ho, hc⟩ PySem.F.slot_list_repr.toG ?_
    cases its with
    | nil =>
      cases hr
      simp only [PyData.shownAll, listText_nil] at q
      exact call_list_repr_empty ⟨o, ho, hc⟩ ho hd ⟨_, _, rfl, ⟨.str _, H, I.tok _, ⟨_, rfl⟩, q⟩⟩
    | cons x l =>
      refine call_list_reprK ho hc hd hna (by simpa using hk.length_eq) (fun i y e => hk.item i y (by simpa using e)) hG (fun b _ => Clear.nil b) ?_ (fun b o e => e) (fun h' u' tk k => ?_) hz'
      · show X.A.units + 1 + _ < cLine
        omega
      · exact ⟨_, _, rfl, ⟨.str _, H, I.kept k, ⟨_, rfl⟩, q⟩⟩
end
end Kx
namespace Kx
open PySem PySem.Spec PyProof.Rows L2
def topS (i : Nat) : Stmt := PySem.Challenge.pw_figureclaims_k00_errors.main.body.getD i (.Pass ⟨0, 0, 0, 0⟩)
abbrev sSource : Stmt := topS 12
abbrev sPick : Stmt := topS 13
/-- the built-in names that are read -/
structure Blt (mg : Str → Option Value) : Prop where
  abs : mg "abs" = none
  int : mg "int" = none
  len : mg "len" = none
  max : mg "max" = none
section
variable {P : Program} {w : World} {K : PySem.W.Frag} {mg : Str → Option Value} {base : Heap} {f : Addr} {fd : FuncData}

theorem scSource : FnScope ["script", "mixed", "cell"] ["script"] (defScope sSource) := ⟨rfl, rfl, rfl, by decide +kernel, rfl, by decide +kernel, by decide +kernel⟩
theorem ok_source (F : L2.Fun K "_law_source" "_law_source" sSource f fd) (T : Blt mg) : FnOk P w K mg base CX0 1 f fd ["script"] (spSource K) := by
  refine F.ok scSource (fun vs H Q E h => ?_) (fun cdv A outer s H vs Q E hr h => ?_)
  · obtain ⟨b, ns, rfl, _⟩ := h
    rfl
  · obtain ⟨b, ns, rfl, hS, hl, hz, k⟩ := h
    refine ⟨_, pss_cons (ps_set (i := 1) scSource.nd rfl (.inl rfl) pe_int)
      (pss_cons (ps_for PassesOwn.never rfl (pi_list (pv 0)) (pg_name (i := 2) scSource.nd rfl (.inl rfl))
        (pss_one (ps_set (i := 1) scSource.nd rfl (.inl rfl) (pe_op op_mod (pe_callTy call_int1 (by rfl) T.int (by decide +kernel)
          (pa_cons (pe_op op_add (pe_op op_add (pe_op op_mul (pv 1) pe_int) (pe_op op_mul (pv 2) pe_int)) pe_int) pa_nil)) pe_int))))
      (pss_one (ps_ret (pe_disp (pps_cons pe_str (pe_revL (pe_lc (own := [("cell", 2)]) (g := gName 2) rfl scSource.nd (pi_list (pv 0))
          (blkOk_by (N := ["script", "mixed", "cell"]) (sc := defScope sSource) (by decide +kernel)) (fun _ _ _ _ _ => pg_name (i := 2) scSource.nd rfl (.inl rfl))
          (fun _ _ _ _ _ => pts_nil) (fun _ _ _ _ _ => pe_callB call_abs (by rfl) T.abs (by decide +kernel) (pa_cons (pv 2) pa_nil))))
        (pps_cons pe_str pe_int (pps_cons pe_str (pv 1) (pps_cons pe_str pe_int pps_nil)))) (by rfl) (by rfl) (fun z => by cases z) (by decide))))), ?_⟩
    refine ⟨_, rfl, b, rfl, ⟨_, hS⟩, for_list (K := K) (a := b) (xs := ns.map V.int) (fun i σ H1 => ∃ (m : Int) (v : Option V), σ = [some (.ref b), some (.int m), v] ∧ H1 = H ∧ 0 ≤ m)
      ⟨11, none, rfl, rfl, by decide⟩ (fun i σ H1 _ ⟨_, _, _, e, _⟩ => by rw [e]; exact hS) ?_ ?_⟩
    · rintro i y σ H1 hi ⟨m, v, rfl, rfl, hm⟩
      obtain ⟨z, rfl⟩ := int_of hi
      refine ⟨_, rfl, _, _, rfl, rfl, .inr ⟨by decide, by decide⟩, _, rfl, _, _, rfl, rfl, .inr ⟨by decide, by decide⟩, _, _, rfl, rfl, _, _, rfl, rfl,
        .inl ⟨_, rfl, _, _, rfl, rfl, (by show (0 : Int) < 2147483629; decide), ?_⟩⟩
      exact ⟨_, _, rfl, rfl, Int.emod_nonneg _ (by decide)⟩
    · rintro σ H1 ⟨m, v, rfl, rfl, hm⟩
      intro p hp
      have s1 : Same H1 (upd H1 p (.dK [])) := same_new hp
      refine ⟨_, rfl, b, rfl, ⟨_, s1.seq hS⟩, fun D hD => lc_list (K := K) (a := b) (xs := ns.map V.int)
        (fun i H2 => H2 = upd (upd H1 p (.dK [])) D (.lst ((ns.take i).map fun z => V.int (if z < 0 then -z else z)))) rfl ?_ ?_ ?_⟩
      · rintro i H2 _ rfl
        exact (same_new hD).seq (s1.seq hS)
      · rintro i x H2 hx rfl
        obtain ⟨z, rfl, hz2⟩ := int_of' hx
        refine ⟨rfl, _, rfl, z, rfl, _, upd_same, ?_, ?_⟩
        · rw [List.length_map, List.length_take]
          exact Nat.lt_of_le_of_lt (Nat.min_le_right _ _) (small1000 (by omega))
        · rw [upd_upd, List.take_add_one, hz2, List.map_append]
          rfl
      · rintro H2 rfl
        rw [List.length_map, List.take_length]
        refine ⟨D, _, rfl, SqL.of upd_same, fun l hL => ?_⟩
        have nDp : D ≠ p := fun e => by
          rw [e, upd_same] at hD
          cases hD
        have nlD : l ≠ D := fun e => by
          rw [e, upd_same] at hL
          cases hL
        rw [upd_ne nlD] at hL
        have nlp : l ≠ p := fun e => by
          rw [e, upd_same] at hL
          cases hL
        rw [upd_ne nlp] at hL
        rw [upd_ne nDp] at hD
        refine ⟨_, rfl, ?_, srcD l 1 m 0, rfl, (by show 4 ≤ 15; decide), ?_⟩
        · rw [upd_ne nlp.symm, upd_ne nDp.symm, upd_same]
        rw [src_made]
        refine k p l _ hp hL ?_ ⟨_, 1, m, 0, upd_same, by rw [upd_ne nlp, upd_same, ← rev_ints], ?_, ?_, by decide, hm, by decide⟩
        · intro c o e
          rw [upd_ne (ne_of_none e hp), upd_ne (ne_of_none e hL), upd_ne (ne_of_none e hD), upd_ne (ne_of_none e hp)]
          exact e
        · intro c hc
          obtain ⟨z, _, rfl⟩ := List.mem_map.mp (List.mem_reverse.mp hc)
          show (0 : Int) ≤ if z < 0 then -z else z
          split <;> omega
        · rw [List.length_reverse, List.length_map]
          exact hl

theorem scPick : FnScope ["source", "many", "left", "mixed"] ["source", "many"] (defScope sPick) := ⟨rfl, rfl, rfl, by decide +kernel, rfl, by decide +kernel, by decide +kernel⟩
theorem ok_pick (F : L2.Fun K "_law_pick" "_law_pick" sPick f fd) (T : Blt mg) : FnOk P w K mg base CX0 1 f fd ["source", "many"] spPick := by
  refine F.ok scPick (fun vs H Q E h => ?_) (fun cdv A outer s H vs Q E hr h => ?_)
  · obtain ⟨d, l, n, rfl, _⟩ := h
    rfl
  · obtain ⟨d, l, n, rfl, ⟨cs0, a0, m0, t0, S0⟩, hn, k⟩ := h
    have hu := hu_of hr
    refine ⟨_, Evl.pss_cut (ps_while PassesOwn.never (PW.pt (pw_and (pt_cmpR op_gt (pv 1) pe_int (nomark _)) (pw_and (pt_cmpR op_lt (pe_dget hu (pv 0) pe_str (fun _ _ => rfl)) pe_int (nomark _))
          (pw_and1 (pt_cmpR op_gt (pe_callB call_len_seq (by rfl) T.len PySem.boot_len (pa_cons (pe_dget hu (pv 0) pe_str (fun _ _ => rfl)) pa_nil)) pe_int (nomark _))))))
        (pss_one (ps_dput hu (pv 0) pe_str (pe_bm0 PySem.F.plainAttrs_list PySem.F.slot_list_pop PySem.F.type_list_pop mt_pop (pe_dget hu (pv 0) pe_str (fun _ _ => rfl))) rfl)))
      (pss_cons (ps_set (i := 2) scPick.nd rfl (.inl rfl) (pe_dget hu (pv 0) pe_str (fun _ _ => rfl)))
      (pss_cons (ps_if (PW.pt (pw_or (pt_cmpR op_lt (pv 1) pe_int (nomark _)) (pw_or1 (pt_cmpR op_gt (pv 2) pe_int (nomark _)))))
        (pss_cons (ps_dput hu (pv 0) pe_str (pe_op op_fdivN (pv 2) (pe_callB (call_max2 rfl) (by rfl) T.max (by decide +kernel) (pa_cons pe_int (pa_cons (pv 1) pa_nil)))) rfl)
        (pss_one (ps_ret (pe_op op_modN (pe_callTy call_int1 (by rfl) T.int (by decide +kernel) (pa_cons (pv 2) pa_nil)) (pe_callB (call_max2 rfl) (by rfl) T.max (by decide +kernel) (pa_cons pe_int (pa_cons (pv 1) pa_nil)))))))
        pss_nil)
      (pss_cons (ps_dput hu (pv 0) pe_str (pe_op op_add (pe_dget hu (pv 0) pe_str (fun _ _ => rfl)) pe_int) rfl)
      (pss_cons (ps_set (i := 3) scPick.nd rfl (.inl rfl) (pe_op op_mod (pe_callTy call_int1 (by rfl) T.int (by decide +kernel) (pa_cons (pe_op op_add (pe_dget hu (pv 0) pe_str (fun _ _ => rfl))
        (pe_op op_mul (pe_dget hu (pv 0) pe_str (fun _ _ => rfl)) pe_int)) pa_nil)) pe_int))
      (pss_cons (ps_set (i := 3) scPick.nd rfl (.inl rfl) (pe_op op_mod (pe_callTy call_int1 (by rfl) T.int (by decide +kernel) (pa_cons (pe_op op_add (pe_op op_mul (pv 3) (pv 3))
        (pe_op op_mul (pe_dget hu (pv 0) pe_str (fun _ _ => rfl)) pe_int)) pa_nil)) pe_int))
      (pss_cons (ps_dput hu (pv 0) pe_str (pv 3) rfl)
      (pss_one (ps_ret (pe_op op_mod (pe_callTy call_int1 (by rfl) T.int (by decide +kernel) (pa_cons (pe_op op_fdiv (pv 3) pe_int) pa_nil)) (pv 1)))))))))), ?_⟩
    refine ⟨fun σ H1 => σ = [some (.ref d), some (.int n), none, none] ∧ But d l H H1 ∧ SrcAt H1 d l,
      ⟨fun m σ H1 => σ = [some (.ref d), some (.int n), none, none] ∧ But d l H H1 ∧ ∃ cs a b c, Src H1 d l cs a b c ∧ cs.length = m, ⟨_, rfl, But.refl, cs0, a0, m0, t0, S0, rfl⟩, ?_⟩, ?_⟩
    · rintro m σ H1 ⟨rfl, B1, cs, a, b, c, S, hm⟩
      have hdl : d ≠ l := S.ne
      have e1 : DGet H1 d (.str "cells") (some (.ref l)) := by rw [← src_cells (a := a) (m := b) (t := c)]; exact DGet.k (k := kCells) S.dc
      have e2 : DGet H1 d (.str "left") (some (.int a)) := by rw [← src_left (l := l) (m := b) (t := c)]; exact DGet.k (k := kLeft) S.dc
      have stop : [some (V.ref d), some (V.int n), none, none] = [some (V.ref d), some (V.int n), none, none] ∧ But d l H H1 ∧ SrcAt H1 d l := ⟨rfl, B1, cs, a, b, c, S⟩
      refine ⟨_, rfl, _, _, rfl, rfl, _, rfl, ite2 (fun h1 => ?_) (fun h1 => iteF stop)⟩
      refine ⟨_, rfl, d, _, rfl, e2, _, _, rfl, rfl, _, rfl, ite2 (fun h2 => ?_) (fun h2 => iteF stop)⟩
      refine ⟨_, rfl, d, _, rfl, e1, l, _, rfl, .inl (SqL.of S.ls), _, _, rfl, rfl, _, rfl, ite2 (fun h3 => ?_) (fun h3 => stop)⟩
      have h4 : 0 < cs.length := by
        have q := of_decide_eq_true h3
        rw [List.length_map] at q
        omega
      obtain ⟨cs', z, rfl⟩ := snoc_of h4
      have hy : ((cs' ++ [z]).map V.int)[((cs' ++ [z]).map V.int).length - 1]? = some (.int z) := by simp
      have hq : ((cs' ++ [z]).map V.int).dropLast = cs'.map V.int := by simp
      refine ⟨fun σ' H' => ∃ m', m' < m ∧ σ' = [some (.ref d), some (.int n), none, none] ∧ But d l H H' ∧ ∃ cs a b c, Src H' d l cs a b c ∧ cs.length = m',
        fun σ' H' q => q, _, rfl, d, _, rfl, e1, .inl ⟨rfl, _, SqL.of S.ls⟩, l, _, .int z, rfl, rfl, S.ls, hy, _, rfl, d, _, rfl, DPut.k (k := kLeft) (Eq.trans (upd_ne hdl) S.dc) (by show 4 < sizeLine; decide), ?_⟩
      refine ⟨cs'.length, by rw [← hm, List.length_append]; exact Nat.lt_succ_self _, rfl, B1.trans (But.l.trans But.d), cs', z, b, c, ⟨?_, ?_, fun x hx => S.c0 x (List.mem_append_left _ hx), ?_, S.c0 z (by simp), S.m0, S.t0⟩, rfl⟩
      · rw [upd_same, put_left]
      · rw [upd_ne hdl.symm, upd_same, hq]
      · have := S.few
        rw [List.length_append] at this
        omega
    · rintro σ H1 ⟨rfl, B1, cs, a, b, c, S⟩
      have hdl : d ≠ l := S.ne
      have e2 : DGet H1 d (.str "left") (some (.int a)) := by rw [← src_left (l := l) (m := b) (t := c)]; exact DGet.k (k := kLeft) S.dc
      have e3 : DGet H1 d (.str "turn") (some (.int c)) := by rw [← src_turn (l := l) (m := b) (a := a)]; exact DGet.k (k := kTurn) S.dc
      have hM : ∀ M : Int, M = (if n > 1 then n else 1) → M ≠ 0 ∧ M.natAbs < 1073741824 ∧ 0 < M := fun M e => by
        rw [e]
        split <;> omega
      have put1 : DPut H1 d (.str "left") (.int (a.fdiv (if n > 1 then n else 1))) (upd H1 d (.dK (srcD l (a.fdiv (if n > 1 then n else 1)) b c))) := by
        rw [← put_left (l := l) (a := a) (m := b) (t := c)]
        exact DPut.k (k := kLeft) S.dc (by show 4 < sizeLine; decide)
      have fin1 : Q (.int (a.fmod (if n > 1 then n else 1))) (upd H1 d (.dK (srcD l (a.fdiv (if n > 1 then n else 1)) b c))) := by
        obtain ⟨h1, h2, h3⟩ := hM _ rfl
        refine k _ _ (fmod_nn _ h3) ?_ ⟨cs, _, b, c, upd_same, Eq.trans (upd_ne hdl.symm) S.ls, S.c0, S.few, ?_, S.m0, S.t0⟩ (B1.trans But.d)
        · by_cases c2 : n > 1
          · rw [if_pos c2]
            exact .inl (fmod_lt _ (by omega))
          · rw [if_neg c2]
            exact .inr ⟨by omega, by have q1 := fmod_lt a (show (0 : Int) < 1 by decide); have q2 := fmod_nn a (show (0 : Int) < 1 by decide); omega⟩
        · rw [Int.fdiv_eq_ediv_of_nonneg _ (by omega)]
          exact Int.ediv_nonneg S.a0 (by omega)
      refine ⟨_, rfl, d, _, rfl, e2, _, rfl, _, _, rfl, rfl, _, rfl, ite2 (fun h1 => ?_) (fun h1 => ⟨_, rfl, _, _, rfl, rfl, _, rfl, ite2 (fun h2 => ?_) (fun h2 => ?_)⟩)⟩
      · exact ⟨_, rfl, _, rfl, _, _, rfl, _, _, rfl, rfl, ⟨(hM _ rfl).1, (hM _ rfl).2.1⟩, _, rfl, d, _, rfl, put1, _, rfl, .inl ⟨_, rfl, _, rfl, _, _, rfl, _, _, rfl, rfl, (hM _ rfl).1, fin1⟩⟩
      · exact ⟨_, rfl, _, rfl, _, _, rfl, _, _, rfl, rfl, ⟨(hM _ rfl).1, (hM _ rfl).2.1⟩, _, rfl, d, _, rfl, put1, _, rfl, .inl ⟨_, rfl, _, rfl, _, _, rfl, _, _, rfl, rfl, (hM _ rfl).1, fin1⟩⟩
      · have n2 : ¬ n < 2 := fun z => h1 (decide_eq_true z)
        have S2 : Src (upd H1 d (.dK (srcD l a b (c + 1)))) d l cs a b (c + 1) := ⟨upd_same, Eq.trans (upd_ne hdl.symm) S.ls, S.c0, S.few, S.a0, S.m0, by have := S.t0; omega⟩
        have put2 : DPut H1 d (.str "turn") (.int (c + 1)) (upd H1 d (.dK (srcD l a b (c + 1)))) := by
          rw [← put_turn (l := l) (a := a) (m := b) (t := c)]
          exact DPut.k (k := kTurn) S.dc (by show 4 < sizeLine; decide)
        have e4 : DGet (upd H1 d (.dK (srcD l a b (c + 1)))) d (.str "mixed") (some (.int b)) := by rw [← src_mixed (l := l) (a := a) (t := c + 1)]; exact DGet.k (k := kMixed) S2.dc
        have e5 : DGet (upd H1 d (.dK (srcD l a b (c + 1)))) d (.str "turn") (some (.int (c + 1))) := by rw [← src_turn (l := l) (m := b) (a := a)]; exact DGet.k (k := kTurn) S2.dc
        refine ⟨_, rfl, d, _, rfl, e3, _, _, rfl, rfl, _, rfl, d, _, rfl, put2, _, rfl, d, _, rfl, e4, _, rfl, d, _, rfl, e5, _, _, rfl, rfl, .inr ⟨by decide, by decide⟩, _, _, rfl, rfl, .inl ⟨_, rfl, _, _, rfl, rfl, (by show (0 : Int) < 998244353; decide), ?_⟩⟩
        have x0 : (0 : Int) ≤ (b + (c + 1) * 104729) % 998244353 := Int.emod_nonneg _ (by decide)
        have x1 : (b + (c + 1) * 104729) % 998244353 < 998244353 := Int.emod_lt_of_pos _ (by decide)
        refine ⟨_, rfl, _, rfl, _, _, rfl, rfl, .inl ⟨by omega, by omega⟩, _, rfl, d, _, rfl, e5, _, _, rfl, rfl, .inr ⟨by decide, by decide⟩, _, _, rfl, rfl, .inl ⟨_, rfl, _, _, rfl, rfl, (by show (0 : Int) < 2147483647; decide), ?_⟩⟩
        have put3 : ∀ y : Int, DPut (upd H1 d (.dK (srcD l a b (c + 1)))) d (.str "mixed") (.int y) (upd (upd H1 d (.dK (srcD l a b (c + 1)))) d (.dK (srcD l a y (c + 1)))) := fun y => by
          rw [← put_mixed (l := l) (a := a) (m := b) (t := c + 1)]
          exact DPut.k (k := kMixed) S2.dc (by show 4 < sizeLine; decide)
        refine ⟨_, rfl, _, rfl, d, _, rfl, put3 _, _, rfl, _, _, rfl, rfl, ⟨by decide, by decide⟩, .inl ⟨_, rfl, _, rfl, _, _, rfl, rfl, (by show 0 < n; omega), ?_⟩⟩
        refine k _ _ (Int.emod_nonneg _ (by omega)) (.inl (Int.emod_lt_of_pos _ (by omega))) ⟨cs, a, _, c + 1, upd_same, Eq.trans (upd_ne hdl.symm) S2.ls, S.c0, S.few, S.a0, Int.emod_nonneg _ (by decide), S2.t0⟩ (B1.trans (But.d.trans But.d))
end
end Kx
namespace Kx
open PySem PySem.Spec PyProof.Rows L2
section
variable {X : Cx}
theorem op_mulS : OpR X (binaryOp .Mult) (fun x y H Q => ∃ (a : Str) (n : Int), x = .str a ∧ y = .int n ∧ PySem.MulOk a n ∧ Q (.str (PySem.Txt.mul a n)) H) := by
  intro pins s σ H x y v u Q I rx ry h
  obtain ⟨a, n, rfl, rfl, hm, q⟩ := h
  obtain ⟨t, rfl⟩ := rx
  obtain ⟨t', rfl⟩ := ry
  exact PySem.SB.mul hm fun t'' k => ⟨.str _, H, I.tok k, ⟨_, rfl⟩, q⟩
end
abbrev sKinds : Stmt := topS 14
abbrev sBases : Stmt := topS 15
abbrev sEvery : Stmt := topS 16
abbrev sKept : Stmt := topS 17
abbrev sLaw : Stmt := topS 18
abbrev sI (i : Nat) : Stmt := inClass (topS i) 0

/-- where the eight classes stand -/
structure Cls (K : PySem.W.Frag) (mg : Str → Option Value) (c : Nat → Addr) (cf cn : Addr) : Prop where
  ve : ∀ i, i < 7 → ExK K (c i) "ValueError" "ValueError.__new__" "ValueError.__init__" [.type "ValueError", .type "Exception", .type "BaseException", .type "object"]
  le : ExK K (c 7) "LookupError" "LookupError.__new__" "LookupError.__init__" [.type "LookupError", .type "Exception", .type "BaseException", .type "object"]
  hd : ∀ i, i < 8 → PySem.W.hasDictIn K (c i) = true
  m0 : mg "BadText" = some (.ref (c 0))
  m1 : mg "BadTree" = some (.ref (c 1))
  m2 : mg "TooGreat" = some (.ref (c 2))
  m3 : mg "NotBuilt" = some (.ref (c 3))
  m4 : mg "BadAct" = some (.ref (c 4))
  m5 : mg "BadAsk" = some (.ref (c 5))
  m6 : mg "NothingDone" = some (.ref (c 6))
  m7 : mg "UnknownName" = some (.ref (c 7))
  mf : mg "FigureError" = some (.ref cf)
  mn : mg "NameMissing" = some (.ref cn)
  x2 : PySem.W.excIn K (c 2) [.type "ValueError", .type "Exception", .type "BaseException", .type "object"] "ValueError.__new__" = true
  x6 : PySem.W.excIn K (c 6) [.type "ValueError", .type "Exception", .type "BaseException", .type "object"] "ValueError.__new__" = true
  kk : ∀ i j, i < 8 → j < 8 → PySem.W.kitOne K (.ref (c i)) (.ref (c j)) = some (decide (i = j))
  kf : ∀ i, i < 8 → PySem.W.kitOne K (.ref (c i)) (.ref cf) = some (decide (i < 7))
  kn : ∀ i, i < 8 → PySem.W.kitOne K (.ref (c i)) (.ref cn) = some (decide (i = 7))
  kv : ∀ i, i < 8 → PySem.W.kitOne K (.ref (c i)) (.type "ValueError") = some (decide (i < 7))
  kl : ∀ i, i < 8 → PySem.W.kitOne K (.ref (c i)) (.type "LookupError") = some (decide (i = 7))
  k2 : ∀ i, i < 8 → PySem.W.kitOne K (.ref (c i)) (.type "KeyError") = some false
  k3 : ∀ i, i < 8 → PySem.W.kitOne K (.ref (c i)) (.type "IndexError") = some false
theorem Cls.ex {K : PySem.W.Frag} {mg : Str → Option Value} {c : Nat → Addr} {cf cn : Addr} (T : Cls K mg c cf cn) {i : Nat} (h : i < 8) : ∃ B newId initId tl, ExK K (c i) B newId initId tl := by
  by_cases h7 : i < 7
  · exact ⟨_, _, _, _, T.ve i h7⟩
  · have e : i = 7 := by omega
    rw [e]
    exact ⟨_, _, _, _, T.le⟩
/-- an exception of the class C stands at e, with one attribute or none -/
def ExAt (H : Hp) (C : Addr) (e : Addr) : Option (Str × V) → Prop
  | none => H e = some (exo e C none)
  | some p => ∃ dx, H e = some (exo e C (some dx)) ∧ H dx = some (exd dx [p])
theorem ExAt.same {H H' : Hp} {C e : Addr} {p : Option (Str × V)} (x : ExAt H C e p) (s : Same H H') : ExAt H' C e p := by
  cases p with
  | none => exact s _ _ x
  | some p =>
    obtain ⟨dx, h1, h2⟩ := x
    exact ⟨dx, s _ _ h1, s _ _ h2⟩
theorem ExAt.raw {H : Hp} {C e : Addr} {p : Option (Str × V)} (x : ExAt H C e p) : ∃ d, H e = some (exo e C d) ∧ ∀ dx, d = some dx → ∃ fs, H dx = some (exd dx fs) := by
  cases p with
  | none => exact ⟨none, x, fun dx z => by cases z⟩
  | some p =>
    obtain ⟨dx, h1, h2⟩ := x
    exact ⟨some dx, h1, fun dy z => by cases z; exact ⟨_, h2⟩⟩

/-! ### promises -/
/-- __init__ that stores its argument -/
def spIni (C : Addr) (fld : Str) : Sp := fun vs H Q _ => ∃ (a : Addr) (v : V), vs = [.ref a, v] ∧ H a = some (exo a C none) ∧ ∀ dx, H dx = none → dx ≠ a → Q .non (upd (upd H dx (exd dx [(fld, v)])) a (exo a C (some dx)))
def spIniT (K : PySem.W.Frag) (C : Addr) : Sp := fun vs H Q _ => ∃ (a p : Addr) (xs : List V), vs = [.ref a, .ref p] ∧ H a = some (exo a C none) ∧ (H p = some (.lst xs) ∨ H p = some (.tup xs)) ∧
  ∀ (t dx : Addr) (H' : Hp), (∀ b o, H b = some o → b ≠ a → H' b = some o) → H' t = some (.tup xs) → H' a = some (exo a C (some dx)) → H' dx = some (exd dx [("path", .ref t)]) → Q .non H'
def kindsV (i : Nat) : List V := [.bl (decide (i = 0)), .bl (decide (i = 1)), .bl (decide (i = 2)), .bl (decide (i = 3)), .bl (decide (i = 4)), .bl (decide (i = 5)), .bl (decide (i = 6)), .bl (decide (i = 7))]
def basesV (i : Nat) : List V := [.bl (decide (i < 7)), .bl (decide (i < 7)), .bl (decide (i = 7)), .bl (decide (i = 7)), .bl false]
def spAsk (c : Nat → Addr) (out : Nat → List V) : Sp := fun vs H Q _ => ∃ (e : Addr) (i : Nat) (p : Option (Str × V)), vs = [.ref e] ∧ i < 8 ∧ ExAt H (c i) e p ∧ ∀ l H', Same H H' → H' l = some (.lst (out i)) → Q (.ref l) H'

section
variable {P : Program} {w : World} {K : PySem.W.Frag} {mg : Str → Option Value} {base : Heap} {f : Addr} {fd : FuncData} {c : Nat → Addr} {cf cn C : Addr} {B newId initId : String} {tl : List Value}
theorem scI2 : FnScope ["self", "place"] ["self", "place"] (defScope (sI 2)) := ⟨rfl, rfl, rfl, by decide +kernel, rfl, by decide +kernel, by decide +kernel⟩
theorem scI3 : FnScope ["self", "path"] ["self", "path"] (defScope (sI 3)) := ⟨rfl, rfl, rfl, by decide +kernel, rfl, by decide +kernel, by decide +kernel⟩
theorem scI5 : FnScope ["self", "step"] ["self", "step"] (defScope (sI 5)) := ⟨rfl, rfl, rfl, by decide +kernel, rfl, by decide +kernel, by decide +kernel⟩
theorem scI6 : FnScope ["self", "word"] ["self", "word"] (defScope (sI 6)) := ⟨rfl, rfl, rfl, by decide +kernel, rfl, by decide +kernel, by decide +kernel⟩
theorem scI7 : FnScope ["self", "word"] ["self", "word"] (defScope (sI 7)) := ⟨rfl, rfl, rfl, by decide +kernel, rfl, by decide +kernel, by decide +kernel⟩
theorem scI10 : FnScope ["self", "name"] ["self", "name"] (defScope (sI 10)) := ⟨rfl, rfl, rfl, by decide +kernel, rfl, by decide +kernel, by decide +kernel⟩
theorem ok_i2 (F : L2.Fun K "__init__" "BadText.__init__" (sI 2) f fd) (T : ExK K C "ValueError" "ValueError.__new__" "ValueError.__init__" [.type "ValueError", .type "Exception", .type "BaseException", .type "object"])
    (hno : PySem.W.findIn K (.ref C) "place" = some none) : FnOk P w K mg base CX0 1 f fd ["self", "place"] (spIni C "place") := by
  refine F.ok scI2 (fun vs H Q E h => ?_) (fun cdv A outer s H vs Q E hr h => ?_)
  · obtain ⟨a, v, rfl, _⟩ := h
    rfl
  · obtain ⟨a, v, rfl, ha, k⟩ := h
    refine ⟨_, pss_one (ps_ostK PySem.F.store_ValueError (by decide) T hno (pv 0) (pv 1)), ?_⟩
    exact ⟨_, rfl, _, rfl, a, rfl, ha, k⟩
theorem ok_i5 (F : L2.Fun K "__init__" "NotBuilt.__init__" (sI 5) f fd) (T : ExK K C "ValueError" "ValueError.__new__" "ValueError.__init__" [.type "ValueError", .type "Exception", .type "BaseException", .type "object"])
    (hno : PySem.W.findIn K (.ref C) "step" = some none) : FnOk P w K mg base CX0 1 f fd ["self", "step"] (spIni C "step") := by
  refine F.ok scI5 (fun vs H Q E h => ?_) (fun cdv A outer s H vs Q E hr h => ?_)
  · obtain ⟨a, v, rfl, _⟩ := h
    rfl
  · obtain ⟨a, v, rfl, ha, k⟩ := h
    refine ⟨_, pss_one (ps_ostK PySem.F.store_ValueError (by decide) T hno (pv 0) (pv 1)), ?_⟩
    exact ⟨_, rfl, _, rfl, a, rfl, ha, k⟩
theorem ok_i6 (F : L2.Fun K "__init__" "BadAct.__init__" (sI 6) f fd) (T : ExK K C "ValueError" "ValueError.__new__" "ValueError.__init__" [.type "ValueError", .type "Exception", .type "BaseException", .type "object"])
    (hno : PySem.W.findIn K (.ref C) "word" = some none) : FnOk P w K mg base CX0 1 f fd ["self", "word"] (spIni C "word") := by
  refine F.ok scI6 (fun vs H Q E h => ?_) (fun cdv A outer s H vs Q E hr h => ?_)
  · obtain ⟨a, v, rfl, _⟩ := h
    rfl
  · obtain ⟨a, v, rfl, ha, k⟩ := h
    refine ⟨_, pss_one (ps_ostK PySem.F.store_ValueError (by decide) T hno (pv 0) (pv 1)), ?_⟩
    exact ⟨_, rfl, _, rfl, a, rfl, ha, k⟩
theorem ok_i7 (F : L2.Fun K "__init__" "BadAsk.__init__" (sI 7) f fd) (T : ExK K C "ValueError" "ValueError.__new__" "ValueError.__init__" [.type "ValueError", .type "Exception", .type "BaseException", .type "object"])
    (hno : PySem.W.findIn K (.ref C) "word" = some none) : FnOk P w K mg base CX0 1 f fd ["self", "word"] (spIni C "word") := by
  refine F.ok scI7 (fun vs H Q E h => ?_) (fun cdv A outer s H vs Q E hr h => ?_)
  · obtain ⟨a, v, rfl, _⟩ := h
    rfl
  · obtain ⟨a, v, rfl, ha, k⟩ := h
    refine ⟨_, pss_one (ps_ostK PySem.F.store_ValueError (by decide) T hno (pv 0) (pv 1)), ?_⟩
    exact ⟨_, rfl, _, rfl, a, rfl, ha, k⟩
theorem ok_i10 (F : L2.Fun K "__init__" "UnknownName.__init__" (sI 10) f fd) (T : ExK K C "LookupError" "LookupError.__new__" "LookupError.__init__" [.type "LookupError", .type "Exception", .type "BaseException", .type "object"])
    (hno : PySem.W.findIn K (.ref C) "name" = some none) : FnOk P w K mg base CX0 1 f fd ["self", "name"] (spIni C "name") := by
  refine F.ok scI10 (fun vs H Q E h => ?_) (fun cdv A outer s H vs Q E hr h => ?_)
  · obtain ⟨a, v, rfl, _⟩ := h
    rfl
  · obtain ⟨a, v, rfl, ha, k⟩ := h
    refine ⟨_, pss_one (ps_ostK PySem.F.store_LookupError (by decide) T hno (pv 0) (pv 1)), ?_⟩
    exact ⟨_, rfl, _, rfl, a, rfl, ha, k⟩
theorem ok_i3 (F : L2.Fun K "__init__" "BadTree.__init__" (sI 3) f fd) (T : ExK K C "ValueError" "ValueError.__new__" "ValueError.__init__" [.type "ValueError", .type "Exception", .type "BaseException", .type "object"])
    (hno : PySem.W.findIn K (.ref C) "path" = some none) (mT : mg "tuple" = none) : FnOk P w K mg base CX0 1 f fd ["self", "path"] (spIniT K C) := by
  refine F.ok scI3 (fun vs H Q E h => ?_) (fun cdv A outer s H vs Q E hr h => ?_)
  · obtain ⟨a, p, xs, rfl, _⟩ := h
    rfl
  · obtain ⟨a, p, xs, rfl, ha, hp, k⟩ := h
    refine ⟨_, pss_one (ps_ostK PySem.F.store_ValueError (by decide) T hno (pv 0) (pe_callTy call_tuple_of (by rfl) mT (by decide +kernel) (pa_cons (pv 1) pa_nil))), ?_⟩
    rcases hp with hp | hp
    · refine ⟨_, rfl, p, xs, rfl, .inl ⟨SqL.of hp, fun t ht => ?_⟩⟩
      have nat : a ≠ t := ne_of_none ha ht
      refine ⟨_, rfl, a, rfl, Eq.trans (upd_ne nat) ha, fun dx hdx ndx => ?_⟩
      have ntd : t ≠ dx := fun z => by
        rw [← z, upd_same] at hdx
        cases hdx
      refine k t dx _ (fun b o e nb => ?_) ?_ upd_same ?_
      · rw [upd_ne nb, upd_ne (fun z => by rw [z] at e; rw [upd_ne (fun y => ntd y.symm)] at hdx; rw [e] at hdx; cases hdx), upd_ne (ne_of_none e ht)]
        exact e
      · rw [upd_ne nat.symm, upd_ne ntd, upd_same]
      · rw [upd_ne ndx, upd_same]
    · refine ⟨_, rfl, p, xs, rfl, .inr ⟨SqT.of hp, ?_⟩⟩
      refine ⟨_, rfl, a, rfl, ha, fun dx hdx ndx => ?_⟩
      refine k p dx _ (fun b o e nb => ?_) ?_ upd_same ?_
      · rw [upd_ne nb, upd_ne (ne_of_none e hdx)]
        exact e
      · have npa : p ≠ a := fun z => by
          rw [z, ha] at hp
          exact exo_tup (Option.some.inj hp)
        rw [upd_ne npa, upd_ne (ne_of_none hp hdx)]
        exact hp
      · rw [upd_ne ndx, upd_same]
end
end Kx
namespace Kx
open PySem PySem.Spec PyProof.Rows L2
section
variable {P : Program} {w : World} {K : PySem.W.Frag} {mg : Str → Option Value} {base : Heap} {f : Addr} {fd : FuncData} {c : Nat → Addr} {cf cn : Addr}
theorem lt_size {n : Nat} (h : n ≤ 1000) : n ≤ sizeLine := Nat.le_of_lt (small1000 h)
theorem scKinds : FnScope ["e", "found"] ["e"] (defScope sKinds) := ⟨rfl, rfl, rfl, by decide +kernel, rfl, by decide +kernel, by decide +kernel⟩
theorem ok_kinds (F : L2.Fun K "_law_kinds" "_law_kinds" sKinds f fd) (T : Cls K mg c cf cn) (isi : mg "isinstance" = none) : FnOk P w K mg base CX0 1 f fd ["e"] (spAsk c kindsV) := by
  have sc := scKinds
  refine F.ok sc (fun vs H Q E h => ?_) (fun cdv A outer s H vs Q E hr h => ?_)
  · obtain ⟨_, _, _, rfl, _⟩ := h
    rfl
  · obtain ⟨e, i, p, rfl, hi, he, k⟩ := h
    obtain ⟨B, newId, initId, tl, hx⟩ := T.ex hi
    refine ⟨_, pss_cons (ps_set (i := 1) sc.nd rfl (.inl rfl) (pe_lst (pa_cons (pe_callB call_isK (by rfl) isi (by decide +kernel) (pa_cons (pv 0) (pa_cons (pe_glob (v := .ref (c 0)) rfl T.m0 rfl) pa_nil))) (pa_cons (pe_callB call_isK (by rfl) isi (by decide +kernel) (pa_cons (pv 0) (pa_cons (pe_glob (v := .ref (c 1)) rfl T.m1 rfl) pa_nil))) (pa_cons (pe_callB call_isK (by rfl) isi (by decide +kernel) (pa_cons (pv 0) (pa_cons (pe_glob (v := .ref (c 2)) rfl T.m2 rfl) pa_nil))) pa_nil)))))
      (pss_cons (ps_set (i := 1) sc.nd rfl (.inl rfl) (pe_op op_cat (pv 1) (pe_lst (pa_cons (pe_callB call_isK (by rfl) isi (by decide +kernel) (pa_cons (pv 0) (pa_cons (pe_glob (v := .ref (c 3)) rfl T.m3 rfl) pa_nil))) (pa_cons (pe_callB call_isK (by rfl) isi (by decide +kernel) (pa_cons (pv 0) (pa_cons (pe_glob (v := .ref (c 4)) rfl T.m4 rfl) pa_nil))) (pa_cons (pe_callB call_isK (by rfl) isi (by decide +kernel) (pa_cons (pv 0) (pa_cons (pe_glob (v := .ref (c 5)) rfl T.m5 rfl) pa_nil))) pa_nil))))))
      (pss_cons (ps_set (i := 1) sc.nd rfl (.inl rfl) (pe_op op_cat (pv 1) (pe_lst (pa_cons (pe_callB call_isK (by rfl) isi (by decide +kernel) (pa_cons (pv 0) (pa_cons (pe_glob (v := .ref (c 6)) rfl T.m6 rfl) pa_nil))) (pa_cons (pe_callB call_isK (by rfl) isi (by decide +kernel) (pa_cons (pv 0) (pa_cons (pe_glob (v := .ref (c 7)) rfl T.m7 rfl) pa_nil))) pa_nil)))))
      (pss_one (ps_ret (pv 1))))), ?_⟩
    obtain ⟨d, ha, hd⟩ := he.raw
    refine ⟨_, rfl, e, c i, d, _, _, _, _, _, _, _, rfl, ClsV.own _, hx, ha, hd, T.kk i 0 hi (by decide), _, rfl, e, c i, d, _, _, _, _, _, _, _, rfl, ClsV.own _, hx, ha, hd, T.kk i 1 hi (by decide), _, rfl, e, c i, d, _, _, _, _, _, _, _, rfl, ClsV.own _, hx, ha, hd, T.kk i 2 hi (by decide), lt_size (Nat.le_of_ble_eq_true rfl), fun l1 h1 => ?_⟩
    have s1 := same_new (o := .lst [.bl (decide (i = 0)), .bl (decide (i = 1)), .bl (decide (i = 2))]) h1
    obtain ⟨d, ha, hd⟩ := (he.same s1).raw
    refine ⟨_, rfl, _, rfl, e, c i, d, _, _, _, _, _, _, _, rfl, ClsV.own _, hx, ha, hd, T.kk i 3 hi (by decide), _, rfl, e, c i, d, _, _, _, _, _, _, _, rfl, ClsV.own _, hx, ha, hd, T.kk i 4 hi (by decide), _, rfl, e, c i, d, _, _, _, _, _, _, _, rfl, ClsV.own _, hx, ha, hd, T.kk i 5 hi (by decide), lt_size (Nat.le_of_ble_eq_true rfl), fun l2 h2 => ?_⟩
    have s2 := same_new (o := .lst [.bl (decide (i = 3)), .bl (decide (i = 4)), .bl (decide (i = 5))]) h2
    refine ⟨l1, l2, _, _, rfl, rfl, s2 _ _ upd_same, upd_same, lt_size (Nat.le_of_ble_eq_true rfl), fun l3 h3 => ?_⟩
    have s3 := same_new (o := .lst ([.bl (decide (i = 0)), .bl (decide (i = 1)), .bl (decide (i = 2))] ++ [.bl (decide (i = 3)), .bl (decide (i = 4)), .bl (decide (i = 5))])) h3
    have S3 := s1.trans (s2.trans s3)
    obtain ⟨d, ha, hd⟩ := (he.same S3).raw
    refine ⟨_, rfl, _, rfl, e, c i, d, _, _, _, _, _, _, _, rfl, ClsV.own _, hx, ha, hd, T.kk i 6 hi (by decide), _, rfl, e, c i, d, _, _, _, _, _, _, _, rfl, ClsV.own _, hx, ha, hd, T.kk i 7 hi (by decide), lt_size (Nat.le_of_ble_eq_true rfl), fun l4 h4 => ?_⟩
    have s4 := same_new (o := .lst [.bl (decide (i = 6)), .bl (decide (i = 7))]) h4
    refine ⟨l3, l4, _, _, rfl, rfl, s4 _ _ upd_same, upd_same, lt_size (Nat.le_of_ble_eq_true rfl), fun l5 h5 => ?_⟩
    exact ⟨_, rfl, k l5 _ (S3.trans (s4.trans (same_new h5))) upd_same⟩
theorem scBases : FnScope ["e", "found"] ["e"] (defScope sBases) := ⟨rfl, rfl, rfl, by decide +kernel, rfl, by decide +kernel, by decide +kernel⟩
theorem ok_bases (F : L2.Fun K "_law_bases" "_law_bases" sBases f fd) (T : Cls K mg c cf cn) (isi : mg "isinstance" = none) (bValueError : mg "ValueError" = none) (bLookupError : mg "LookupError" = none) (bKeyError : mg "KeyError" = none) (bIndexError : mg "IndexError" = none) :
    FnOk P w K mg base CX0 1 f fd ["e"] (spAsk c basesV) := by
  have sc := scBases
  refine F.ok sc (fun vs H Q E h => ?_) (fun cdv A outer s H vs Q E hr h => ?_)
  · obtain ⟨_, _, _, rfl, _⟩ := h
    rfl
  · obtain ⟨e, i, p, rfl, hi, he, k⟩ := h
    obtain ⟨B, newId, initId, tl, hx⟩ := T.ex hi
    refine ⟨_, pss_cons (ps_set (i := 1) sc.nd rfl (.inl rfl) (pe_lst (pa_cons (pe_callB call_isK (by rfl) isi (by decide +kernel) (pa_cons (pv 0) (pa_cons (pe_glob (v := .ref cf) rfl T.mf rfl) pa_nil))) (pa_cons (pe_callB call_isK (by rfl) isi (by decide +kernel) (pa_cons (pv 0) (pa_cons (pe_bltn (v := .ty "ValueError") (by rfl) bValueError (by decide +kernel) rfl) pa_nil))) pa_nil))))
      (pss_one (ps_ret (pe_op op_cat (pv 1) (pe_lst (pa_cons (pe_callB call_isK (by rfl) isi (by decide +kernel) (pa_cons (pv 0) (pa_cons (pe_glob (v := .ref cn) rfl T.mn rfl) pa_nil))) (pa_cons (pe_callB call_isK (by rfl) isi (by decide +kernel) (pa_cons (pv 0) (pa_cons (pe_bltn (v := .ty "LookupError") (by rfl) bLookupError (by decide +kernel) rfl) pa_nil))) (pa_cons (pe_callB call_isKT (by rfl) isi (by decide +kernel) (pa_cons (pv 0) (pa_cons (pe_tup (pa_cons (pe_bltn (v := .ty "KeyError") (by rfl) bKeyError (by decide +kernel) rfl) (pa_cons (pe_bltn (v := .ty "IndexError") (by rfl) bIndexError (by decide +kernel) rfl) pa_nil))) pa_nil))) pa_nil))))))), ?_⟩
    obtain ⟨d, ha, hd⟩ := he.raw
    refine ⟨_, rfl, e, c i, d, _, _, _, _, _, _, _, rfl, ClsV.own _, hx, ha, hd, T.kf i hi, _, rfl, e, c i, d, _, _, _, _, _, _, _, rfl, ClsV.ty _, hx, ha, hd, T.kv i hi, lt_size (Nat.le_of_ble_eq_true rfl), fun l1 h1 => ?_⟩
    have s1 := same_new (o := .lst [.bl (decide (i < 7)), .bl (decide (i < 7))]) h1
    obtain ⟨d, ha, hd⟩ := (he.same s1).raw
    refine ⟨_, rfl, _, rfl, e, c i, d, _, _, _, _, _, _, _, rfl, ClsV.own _, hx, ha, hd, T.kn i hi, _, rfl, e, c i, d, _, _, _, _, _, _, _, rfl, ClsV.ty _, hx, ha, hd, T.kl i hi, _, rfl, lt_size (Nat.le_of_ble_eq_true rfl), fun tp ht => ?_⟩
    have s2 := same_new (o := .tup [.ty "KeyError", .ty "IndexError"]) ht
    obtain ⟨d, ha, hd⟩ := (he.same (s1.trans s2)).raw
    have no : PySem.W.kitAny K (.ref (c i)) [.type "KeyError", .type "IndexError"] = some false := by
      simp only [PySem.W.kitAny, T.k2 i hi, T.k3 i hi]
    refine ⟨e, c i, tp, d, _, _, _, _, _, _, _, rfl, upd_same, .cons (.ty _) (.cons (.ty _) .nil), hx, ha, hd, no, lt_size (Nat.le_of_ble_eq_true rfl), fun l2 h2 => ?_⟩
    have s3 := same_new (o := .lst [.bl (decide (i = 7)), .bl (decide (i = 7)), .bl false]) h2
    refine ⟨l1, l2, _, _, rfl, rfl, s3 _ _ (s2 _ _ upd_same), upd_same, lt_size (Nat.le_of_ble_eq_true rfl), fun l3 h3 => ?_⟩
    exact k l3 _ (s1.trans (s2.trans (s3.trans (same_new h3)))) upd_same
end
end Kx
namespace Kx
open PySem PySem.Spec PyProof.Rows L2
/-! ### making exceptions -/
structure MkD (P : Program) (w : World) (K : PySem.W.Frag) (mg : Str → Option Value) (base : Heap) (C : Addr) (ps : List Str) (sp : Sp) : Prop where
  ex : ∃ fI fd, PySem.W.findIn K (.ref C) "__init__" = some (some (.ref fI)) ∧ PySem.W.typeIn K (.ref fI) = some (.type "function") ∧ FnOk P w K mg base CX0 1 fI fd ps sp ∧ Binds K fd ps []
theorem pe_mkD {X : Cx} {B newId initId : String} {tl : List Value} {C : Addr} {x : Str} {ps : List Str} {sp : Sp} {e : Expr} {es : List Expr} {ta : TA} {p pos : Pos} (T : ExK X.K C B newId initId tl) (D : MkD X.prog X.w X.K X.mg X.base C ps sp)
    (hr : Room 2 X.A) (hg : Gl X x) (hm : X.mg x = some (.ref C)) (ha : PA X (e :: es) ta)
    (hdb : (x == ("__debug__" : Str)) = false := by decide) (he : starEach (e :: es) X.env = (false, eval e X.env) :: starEach es X.env := by rfl)
    (hpl : (backTo pos (starEach es X.env)).any (·.1) = false := by rfl) : PE X (.Call (.Name x p) (e :: es) [] pos) (tMkV C sp ta) := by
  obtain ⟨fI, fd, iC, tI, F1, hb⟩ := D.ex
  exact pe_mkV T iC tI F1 hr hb hg hm ha hdb he hpl
theorem made_exc {H : Hp} {a dx C : Addr} {fld : Str} {v : V} (ha : H a = none) (hd : (upd H a (exo a C none)) dx = none) (nd : dx ≠ a) :
    Same H (upd (upd (upd H a (exo a C none)) dx (exd dx [(fld, v)])) a (exo a C (some dx))) ∧ ExAt (upd (upd (upd H a (exo a C none)) dx (exd dx [(fld, v)])) a (exo a C (some dx))) C a (some (fld, v)) := by
  rw [upd_ne nd] at hd
  refine ⟨fun b o e => ?_, dx, upd_same, by rw [upd_ne nd, upd_same]⟩
  rw [upd_ne (ne_of_none e ha), upd_ne (ne_of_none e hd), upd_ne (ne_of_none e ha)]
  exact e
theorem exAt_new {H : Hp} {a C : Addr} : ExAt (upd H a (exo a C none)) C a none := upd_same
/-! ### promises -/
/-- the list that _law_every hands back -/
def Every (H : Hp) (c : Nat → Addr) (l : Addr) (wv nv mv : V) (xs : List V) : Prop := ∃ e0 e1 e2 e3 e4 e5 e6 e7 t : Addr, H l = some (.lst [.ref e0, .ref e1, .ref e2, .ref e3, .ref e4, .ref e5, .ref e6, .ref e7]) ∧
  ExAt H (c 0) e0 (some ("place", nv)) ∧ ExAt H (c 1) e1 (some ("path", .ref t)) ∧ H t = some (.tup xs) ∧ ExAt H (c 2) e2 none ∧ ExAt H (c 3) e3 (some ("step", nv)) ∧
  ExAt H (c 4) e4 (some ("word", wv)) ∧ ExAt H (c 5) e5 (some ("word", wv)) ∧ ExAt H (c 6) e6 none ∧ ExAt H (c 7) e7 (some ("name", mv))
theorem Every.same {H H' : Hp} {c : Nat → Addr} {l : Addr} {wv nv mv : V} {xs : List V} (x : Every H c l wv nv mv xs) (s : Same H H') : Every H' c l wv nv mv xs := by
  obtain ⟨e0, e1, e2, e3, e4, e5, e6, e7, t, h, h0, h1, ht, h2, h3, h4, h5, h6, h7⟩ := x
  exact ⟨e0, e1, e2, e3, e4, e5, e6, e7, t, s _ _ h, h0.same s, h1.same s, s _ _ ht, h2.same s, h3.same s, h4.same s, h5.same s, h6.same s, h7.same s⟩
/-- a list or a tuple of these items stands there -/
def Seq (H : Hp) (p : Addr) (xs : List V) : Prop := H p = some (.lst xs) ∨ H p = some (.tup xs)
theorem Seq.same {H H' : Hp} {p : Addr} {xs : List V} (x : Seq H p xs) (s : Same H H') : Seq H' p xs := x.elim (fun h => .inl (s _ _ h)) fun h => .inr (s _ _ h)
def spEvery (c : Nat → Addr) : Sp := fun vs H Q _ => ∃ (wv nv mv : V) (p : Addr) (xs : List V), vs = [wv, nv, .ref p, mv] ∧ Seq H p xs ∧ ∀ l H', Same H H' → Every H' c l wv nv mv xs → Q (.ref l) H'
/-- data whose text can be asked for -/
structure Fine (d : PyData) : Prop where
  dp : d.depth ≤ 64
  sw : d.showable = true
  ln : d.shown.length ≤ sizeLine
def spKept (c : Nat → Addr) : Sp := fun vs H Q _ => ∃ (l p : Addr) (wv nv mv : V) (xs : List V) (wd nd md : PyData) (ds : List PyData), vs = [.ref l, wv, nv, .ref p, mv] ∧ Every H c l wv nv mv xs ∧ Seq H p xs ∧
  Dr H wv wd ∧ Dr H nv nd ∧ Dr H mv md ∧ DrAll H xs ds ∧ Fine (.list [wd, wd]) ∧ Fine (.list [nd, nd]) ∧ Fine (.list [md]) ∧ Fine (.list [.tuple ds]) ∧ ∀ H', Same H H' → Q (.bl true) H'
section
variable {P : Program} {w : World} {K : PySem.W.Frag} {mg : Str → Option Value} {base : Heap} {f : Addr} {fd : FuncData} {c : Nat → Addr} {cf cn : Addr}
theorem scEvery : FnScope ["word", "number", "some", "name", "found"] ["word", "number", "some", "name"] (defScope sEvery) := ⟨rfl, rfl, rfl, by decide +kernel, rfl, by decide +kernel, by decide +kernel⟩
theorem ok_every (F : L2.Fun K "_law_every" "_law_every" sEvery f fd) (T : Cls K mg c cf cn) (d0 : MkD P w K mg base (c 0) ["self", "place"] (spIni (c 0) "place")) (d1 : MkD P w K mg base (c 1) ["self", "path"] (spIniT K (c 1)))
    (d3 : MkD P w K mg base (c 3) ["self", "step"] (spIni (c 3) "step")) (d4 : MkD P w K mg base (c 4) ["self", "word"] (spIni (c 4) "word")) (d5 : MkD P w K mg base (c 5) ["self", "word"] (spIni (c 5) "word"))
    (d7 : MkD P w K mg base (c 7) ["self", "name"] (spIni (c 7) "name")) : FnOk P w K mg base CX0 3 f fd ["word", "number", "some", "name"] (spEvery c) := by
  have sc := scEvery
  refine F.ok sc (fun vs H Q E h => ?_) (fun cdv A outer s H vs Q E hr h => ?_)
  · obtain ⟨_, _, _, _, _, rfl, _⟩ := h
    rfl
  · obtain ⟨wv, nv, mv, p, xs, rfl, hp, k⟩ := h
    refine ⟨_, pss_cons (ps_set (i := 4) sc.nd rfl (.inl rfl) (pe_lst (pa_cons (pe_mkD (T.ve 0 (by decide)) d0 hr (by rfl) T.m0 (pa_cons (pv 1) pa_nil)) (pa_cons (pe_mkD (T.ve 1 (by decide)) d1 hr (by rfl) T.m1 (pa_cons (pv 2) pa_nil))
        (pa_cons (pe_mkV0 (T.ve 2 (by decide)) T.x2 (by rfl) T.m2) (pa_cons (pe_mkD (T.ve 3 (by decide)) d3 hr (by rfl) T.m3 (pa_cons (pv 1) pa_nil)) pa_nil))))))
      (pss_cons (ps_set (i := 4) sc.nd rfl (.inl rfl) (pe_op op_cat (pv 4) (pe_lst (pa_cons (pe_mkD (T.ve 4 (by decide)) d4 hr (by rfl) T.m4 (pa_cons (pv 0) pa_nil)) (pa_cons (pe_mkD (T.ve 5 (by decide)) d5 hr (by rfl) T.m5 (pa_cons (pv 0) pa_nil))
        (pa_cons (pe_mkV0 (T.ve 6 (by decide)) T.x6 (by rfl) T.m6) (pa_cons (pe_mkD T.le d7 hr (by rfl) T.m7 (pa_cons (pv 3) pa_nil)) pa_nil)))))))
      (pss_one (ps_ret (pv 4)))), ?_⟩
    refine ⟨_, rfl, Nat.le_of_ble_eq_true rfl, fun e0 n0 => ⟨e0, nv, rfl, upd_same, fun x0 y0 z0 => ⟨rfl, ?_⟩⟩⟩
    obtain ⟨s0, a0⟩ := made_exc (fld := "place") (v := nv) n0 y0 z0
    have hp0 := hp.same s0
    refine ⟨_, rfl, Nat.le_of_ble_eq_true rfl, fun e1 n1 => ⟨e1, p, xs, rfl, upd_same, hp0.same (same_new n1), fun t x1 H1 k1 ht h1 h2 => ⟨rfl, ?_⟩⟩⟩
    have s1 := s0.trans (H2 := H1) fun b o e => k1 b o (same_new n1 _ _ e) (ne_of_none e n1)
    have a0 := a0.same (H' := H1) fun b o e => k1 b o (same_new n1 _ _ e) (ne_of_none e n1)
    have a1 : ExAt H1 (c 1) e1 (some ("path", .ref t)) := ⟨x1, h1, h2⟩
    intro e2 n2
    have q2 := same_new (o := exo e2 (c 2) none) n2
    have s2 := s1.trans q2
    refine ⟨_, rfl, Nat.le_of_ble_eq_true rfl, fun e3 n3 => ⟨e3, nv, rfl, upd_same, fun x3 y3 z3 => ⟨rfl, ?_⟩⟩⟩
    obtain ⟨q3, a3⟩ := made_exc (fld := "step") (v := nv) n3 y3 z3
    have s3 := s2.trans q3
    refine ⟨lt_size (Nat.le_of_ble_eq_true rfl), fun l1 m1 => ?_⟩
    have r1 := same_new (o := .lst [.ref e0, .ref e1, .ref e2, .ref e3]) m1
    refine ⟨_, rfl, _, rfl, Nat.le_of_ble_eq_true rfl, fun e4 n4 => ⟨e4, wv, rfl, upd_same, fun x4 y4 z4 => ⟨rfl, ?_⟩⟩⟩
    obtain ⟨q4, a4⟩ := made_exc (fld := "word") (v := wv) n4 y4 z4
    refine ⟨_, rfl, Nat.le_of_ble_eq_true rfl, fun e5 n5 => ⟨e5, wv, rfl, upd_same, fun x5 y5 z5 => ⟨rfl, ?_⟩⟩⟩
    obtain ⟨q5, a5⟩ := made_exc (fld := "word") (v := wv) n5 y5 z5
    intro e6 n6
    have q6 := same_new (o := exo e6 (c 6) none) n6
    refine ⟨_, rfl, Nat.le_of_ble_eq_true rfl, fun e7 n7 => ⟨e7, mv, rfl, upd_same, fun x7 y7 z7 => ⟨rfl, ?_⟩⟩⟩
    obtain ⟨q7, a7⟩ := made_exc (fld := "name") (v := mv) n7 y7 z7
    refine ⟨lt_size (Nat.le_of_ble_eq_true rfl), fun l2 m2 => ?_⟩
    have r2 := same_new (o := .lst [.ref e4, .ref e5, .ref e6, .ref e7]) m2
    have u7 := q7.trans r2
    have u6 := q6.trans u7
    have u5 := q5.trans u6
    have u4 := q4.trans u5
    refine ⟨l1, l2, _, _, rfl, rfl, u4 _ _ upd_same, upd_same, lt_size (Nat.le_of_ble_eq_true rfl), fun l3 m3 => ?_⟩
    have r3 := same_new (o := .lst ([.ref e0, .ref e1, .ref e2, .ref e3] ++ [.ref e4, .ref e5, .ref e6, .ref e7])) m3
    have v3 := r1.trans (u4.trans r3)
    have v2 := q3.trans v3
    have v1 := q2.trans v2
    exact ⟨_, rfl, k l3 _ (s1.trans v1) ⟨e0, e1, e2, e3, e4, e5, e6, e7, t, upd_same, a0.same v1, a1.same v1, v1 _ _ ht, exAt_new.same v2, a3.same v3, a4.same (u5.trans r3), a5.same (u6.trans r3), exAt_new.same (u7.trans r3), a7.same (r2.trans r3)⟩⟩

/-- the attributes are no names of the classes -/
structure Fld (K : PySem.W.Frag) (c : Nat → Addr) : Prop where
  f0 : PySem.W.findIn K (.ref (c 0)) "place" = some none
  f1 : PySem.W.findIn K (.ref (c 1)) "path" = some none
  f3 : PySem.W.findIn K (.ref (c 3)) "step" = some none
  f4 : PySem.W.findIn K (.ref (c 4)) "word" = some none
  f5 : PySem.W.findIn K (.ref (c 5)) "word" = some none
  f7 : PySem.W.findIn K (.ref (c 7)) "name" = some none
theorem look1 {fld : Str} {v : V} : ([(fld, v)] : List (Str × V)).lookup fld = some v := by rw [lookup_put, if_pos rfl]
theorem dr_pair {H : Hp} {l : Addr} {v : V} {d : PyData} (h : H l = some (.lst [v, v])) (x : Dr H v d) : Dr H (.ref l) (.list [d, d]) := .lst h (.cons x (.cons x .nil))
theorem dr_one {H : Hp} {l : Addr} {v : V} {d : PyData} (h : H l = some (.lst [v])) (x : Dr H v d) : Dr H (.ref l) (.list [d]) := .lst h (.cons x .nil)
structure BltK (mg : Str → Option Value) : Prop where
  repr : mg "repr" = none
  tuple : mg "tuple" = none
theorem scKept : FnScope ["every", "word", "number", "some", "name", "paths", "numbers", "words"] ["every", "word", "number", "some", "name"] (defScope sKept) := ⟨rfl, rfl, rfl, by decide +kernel, rfl, by decide +kernel, by decide +kernel⟩
theorem ok_kept (F : L2.Fun K "_law_kept" "_law_kept" sKept f fd) (T : Cls K mg c cf cn) (D : Fld K c) (B : BltK mg) : FnG P w K mg base CX0 1 f fd ["every", "word", "number", "some", "name"] (spKept c) := by
  have sc := scKept
  refine okG F sc (fun vs H Q E h => ?_) (fun cdv A outer s H vs Q E hG hr h => ?_)
  · obtain ⟨_, _, _, _, _, _, _, _, _, _, rfl, _⟩ := h
    rfl
  · obtain ⟨l, p, wv, nv, mv, xs, wd, nd, md, ds, rfl, ev, hp, dw, dn, dm, dx, fw, fn, fm, fs, k⟩ := h
    have hu : (A.deeper (envOfC "_law_kept" (defScope sKept) s.heap.objs.size f cdv)).units + 66 < cLine := by have := hr.un; omega
    refine ⟨_, pss_cons (ps_set (i := 5) sc.nd rfl (.inl rfl) (pe_lst (pa_cons (pe_fldK (pe_ix ix_list (pv 0) pe_int (fun _ _ => rfl))) pa_nil)))
      (Evl.pss_cut (ps_if (pt_cmpR op_ne (pe_callB (call_showD hG hu) (by rfl) B.repr (by decide +kernel) (pa_cons (pv 5) pa_nil)) (pe_callB (call_showD hG hu) (by rfl) B.repr (by decide +kernel) (pa_cons (pe_op op_rep (pe_lst (pa_cons (pe_callTy call_tuple_of (by rfl) B.tuple (by decide +kernel) (pa_cons (pv 3) pa_nil)) pa_nil)) pe_int) pa_nil)) (nomark _)) (pss_one (ps_ret pe_bl)) pss_nil)
      (pss_cons (ps_set (i := 6) sc.nd rfl (.inl rfl) (pe_lst (pa_cons (pe_fldK (pe_ix ix_list (pv 0) pe_int (fun _ _ => rfl))) (pa_cons (pe_fldK (pe_ix ix_list (pv 0) pe_int (fun _ _ => rfl))) pa_nil))))
      (pss_cons (ps_if (pt_cmpR op_ne (pe_callB (call_showD hG hu) (by rfl) B.repr (by decide +kernel) (pa_cons (pv 6) pa_nil)) (pe_callB (call_showD hG hu) (by rfl) B.repr (by decide +kernel) (pa_cons (pe_op op_rep (pe_lst (pa_cons (pv 2) pa_nil)) pe_int) pa_nil)) (nomark _)) (pss_one (ps_ret pe_bl)) pss_nil)
      (pss_cons (ps_set (i := 7) sc.nd rfl (.inl rfl) (pe_lst (pa_cons (pe_fldK (pe_ix ix_list (pv 0) pe_int (fun _ _ => rfl))) (pa_cons (pe_fldK (pe_ix ix_list (pv 0) pe_int (fun _ _ => rfl))) pa_nil))))
      (pss_cons (ps_if (pt_cmpR op_ne (pe_callB (call_showD hG hu) (by rfl) B.repr (by decide +kernel) (pa_cons (pv 7) pa_nil)) (pe_callB (call_showD hG hu) (by rfl) B.repr (by decide +kernel) (pa_cons (pe_op op_rep (pe_lst (pa_cons (pv 1) pa_nil)) pe_int) pa_nil)) (nomark _)) (pss_one (ps_ret pe_bl)) pss_nil)
      (pss_one (ps_ret (pe_cmpR op_eq (pe_callB (call_showD hG hu) (by rfl) B.repr (by decide +kernel) (pa_cons (pe_lst (pa_cons (pe_fldK (pe_ix ix_list (pv 0) pe_int (fun _ _ => rfl))) pa_nil)) pa_nil))
        (pe_callB (call_showD hG hu) (by rfl) B.repr (by decide +kernel) (pa_cons (pe_op op_rep (pe_lst (pa_cons (pv 4) pa_nil)) pe_int) pa_nil)) (nomark _))))))))), ?_⟩
    obtain ⟨e0, e1, e2, e3, e4, e5, e6, e7, t, hl, ⟨x0, a0, b0⟩, ⟨x1, a1, b1⟩, ht, a2, ⟨x3, a3, b3⟩, ⟨x4, a4, b4⟩, ⟨x5, a5, b5⟩, a6, ⟨x7, a7, b7⟩⟩ := ev
    have one : 1 ≤ sizeLine := lt_size (Nat.le_of_ble_eq_true rfl)
    have two : 2 ≤ sizeLine := lt_size (Nat.le_of_ble_eq_true rfl)
    -- paths
    refine ⟨_, rfl, l, _, _, _, rfl, rfl, SqL.of hl, atI_nat (j := 1) rfl, e1, c 1, x1, _, .ref t, _, _, _, _, rfl, T.ve 1 (by decide), D.f1, T.hd 1 (by decide), a1, b1, look1, one, fun l1 n1 => ?_⟩
    have s1 := same_new (o := .lst [.ref t]) n1
    refine ⟨fun σ H' => ∃ v5 : Option V, σ = [some (.ref l), some wv, some nv, some (.ref p), some mv, v5, none, none] ∧ Same H H', ?_, ?_⟩
    · refine ⟨_, rfl, l1, _, rfl, dr_one upd_same (.tup (s1 _ _ ht) (dx.same s1)), fs.dp, fs.sw, fs.ln, ?_⟩
      -- [tuple(some)] * 1
      rcases hp.same s1 with hq | hq
      · refine ⟨_, rfl, p, xs, rfl, .inl ⟨SqL.of hq, fun t2 n2 => ?_⟩⟩
        have s2 := s1.trans (same_new (o := .tup xs) n2)
        refine ⟨one, fun l2 n3 => ?_⟩
        have s3 := same_new (o := .lst [.ref t2]) n3
        refine ⟨l2, 1, _, rfl, rfl, upd_same, by decide, by decide, Nat.le_of_lt (small1000 (Nat.le_of_ble_eq_true rfl)), fun l3 n4 => ?_⟩
        have s4 := same_new (o := .lst [.ref t2]) n4
        have S4 := s2.trans (s3.trans s4)
        refine ⟨l3, _, rfl, dr_one upd_same (.tup (s4 _ _ (s3 _ _ upd_same)) (dx.same S4)), fs.dp, fs.sw, fs.ln, rfl, _, rfl, iteNS rfl ?_⟩
        exact ⟨_, rfl, S4⟩
      · refine ⟨_, rfl, p, xs, rfl, .inr ⟨SqT.of hq, one, fun l2 n3 => ?_⟩⟩
        have s3 := same_new (o := .lst [.ref p]) n3
        refine ⟨l2, 1, _, rfl, rfl, upd_same, by decide, by decide, Nat.le_of_lt (small1000 (Nat.le_of_ble_eq_true rfl)), fun l3 n4 => ?_⟩
        have s4 := same_new (o := .lst [.ref p]) n4
        have S4 := s1.trans (s3.trans s4)
        refine ⟨l3, _, rfl, dr_one upd_same (.tup (s4 _ _ (s3 _ _ hq)) (dx.same S4)), fs.dp, fs.sw, fs.ln, rfl, _, rfl, iteNS rfl ?_⟩
        exact ⟨_, rfl, S4⟩
    · rintro σ H1 ⟨v5, rfl, S1⟩
      -- numbers
      refine ⟨_, rfl, l, _, _, _, rfl, rfl, SqL.of (S1 _ _ hl), atI_nat (j := 0) rfl, e0, c 0, x0, _, nv, _, _, _, _, rfl, T.ve 0 (by decide), D.f0, T.hd 0 (by decide), S1 _ _ a0, S1 _ _ b0, look1, ?_⟩
      refine ⟨_, rfl, l, _, _, _, rfl, rfl, SqL.of (S1 _ _ hl), atI_nat (j := 3) rfl, e3, c 3, x3, _, nv, _, _, _, _, rfl, T.ve 3 (by decide), D.f3, T.hd 3 (by decide), S1 _ _ a3, S1 _ _ b3, look1, two, fun l1 n1 => ?_⟩
      have s1 := same_new (o := .lst [nv, nv]) n1
      have S2 := S1.trans s1
      refine ⟨_, rfl, l1, _, rfl, dr_pair upd_same (dn.same S2), fn.dp, fn.sw, fn.ln, ?_⟩
      refine ⟨_, rfl, one, fun l2 n2 => ?_⟩
      have s2 := same_new (o := .lst [nv]) n2
      refine ⟨l2, 2, _, rfl, rfl, upd_same, by decide, by decide, Nat.le_of_lt (small1000 (Nat.le_of_ble_eq_true rfl)), fun l3 n3 => ?_⟩
      have s3 := same_new (o := .lst [nv, nv]) n3
      have S3 := S2.trans (s2.trans s3)
      refine ⟨l3, _, rfl, dr_pair upd_same (dn.same S3), fn.dp, fn.sw, fn.ln, rfl, _, rfl, iteNS rfl ?_⟩
      -- words
      refine ⟨_, rfl, l, _, _, _, rfl, rfl, SqL.of (S3 _ _ hl), atI_nat (j := 4) rfl, e4, c 4, x4, _, wv, _, _, _, _, rfl, T.ve 4 (by decide), D.f4, T.hd 4 (by decide), S3 _ _ a4, S3 _ _ b4, look1, ?_⟩
      refine ⟨_, rfl, l, _, _, _, rfl, rfl, SqL.of (S3 _ _ hl), atI_nat (j := 5) rfl, e5, c 5, x5, _, wv, _, _, _, _, rfl, T.ve 5 (by decide), D.f5, T.hd 5 (by decide), S3 _ _ a5, S3 _ _ b5, look1, two, fun l4 n4 => ?_⟩
      have s4 := same_new (o := .lst [wv, wv]) n4
      have S4 := S3.trans s4
      refine ⟨_, rfl, l4, _, rfl, dr_pair upd_same (dw.same S4), fw.dp, fw.sw, fw.ln, ?_⟩
      refine ⟨_, rfl, one, fun l5 n5 => ?_⟩
      have s5 := same_new (o := .lst [wv]) n5
      refine ⟨l5, 2, _, rfl, rfl, upd_same, by decide, by decide, Nat.le_of_lt (small1000 (Nat.le_of_ble_eq_true rfl)), fun l6 n6 => ?_⟩
      have s6 := same_new (o := .lst [wv, wv]) n6
      have S6 := S4.trans (s5.trans s6)
      refine ⟨l6, _, rfl, dr_pair upd_same (dw.same S6), fw.dp, fw.sw, fw.ln, rfl, _, rfl, iteNS rfl ?_⟩
      -- names
      refine ⟨_, rfl, l, _, _, _, rfl, rfl, SqL.of (S6 _ _ hl), atI_nat (j := 7) rfl, e7, c 7, x7, _, mv, _, _, _, _, rfl, T.le, D.f7, T.hd 7 (by decide), S6 _ _ a7, S6 _ _ b7, look1, one, fun l7 n7 => ?_⟩
      have s7 := same_new (o := .lst [mv]) n7
      have S7 := S6.trans s7
      refine ⟨l7, _, rfl, dr_one upd_same (dm.same S7), fm.dp, fm.sw, fm.ln, ?_⟩
      refine ⟨_, rfl, one, fun l8 n8 => ?_⟩
      have s8 := same_new (o := .lst [mv]) n8
      refine ⟨l8, 1, _, rfl, rfl, upd_same, by decide, by decide, Nat.le_of_lt (small1000 (Nat.le_of_ble_eq_true rfl)), fun l9 n9 => ?_⟩
      have s9 := same_new (o := .lst [mv]) n9
      have S9 := S7.trans (s8.trans s9)
      refine ⟨l9, _, rfl, dr_one upd_same (dm.same S9), fm.dp, fm.sw, fm.ln, rfl, ?_⟩
      show Q (.bl (decide (V.str _ = V.str _))) _
      rw [decide_eq_true rfl]
      exact k _ S9
end
end Kx
namespace Kx
open PySem PySem.Spec PyProof.Rows L2
/-! ### the heap without the source -/
def cut (d l : Addr) (H : Hp) : Hp := fun b => if b = d ∨ b = l then none else H b
theorem cut_some {d l b : Addr} {H : Hp} {o : HO} (h : cut d l H b = some o) : H b = some o ∧ b ≠ d ∧ b ≠ l := by
  unfold cut at h
  by_cases e : b = d ∨ b = l
  · rw [if_pos e] at h
    cases h
  · rw [if_neg e] at h
    exact ⟨h, fun z => e (.inl z), fun z => e (.inr z)⟩
theorem cut_at {d l b : Addr} {H : Hp} {o : HO} (h : H b = some o) (n1 : b ≠ d) (n2 : b ≠ l) : cut d l H b = some o := by
  unfold cut
  rw [if_neg (fun z => z.elim n1 n2)]
  exact h
theorem cut_sub {d l : Addr} {H : Hp} : Same (cut d l H) H := fun _ _ h => (cut_some h).1
theorem cut_but {d l : Addr} {H H' : Hp} (B : But d l H H') : Same (cut d l H) (cut d l H') := fun b o h => let ⟨h, n1, n2⟩ := cut_some h; cut_at (B b o h n1 n2) n1 n2
theorem cut_same {d l : Addr} {H H' : Hp} (s : Same H H') : Same (cut d l H) (cut d l H') := cut_but (But.of s)
theorem cut_new {d l p : Addr} {H : Hp} {o : HO} (S : SrcAt H d l) (hp : H p = none) : cut d l (upd H p o) p = some o := cut_at upd_same (S.nd hp).1 (S.nd hp).2
theorem dr_get {H : Hp} : ∀ {vs : List V} {ds : List PyData} {i : Nat} {v : V}, DrAll H vs ds → vs[i]? = some v → ∃ dat, dat ∈ ds ∧ Dr H v dat
  | _, _, _, _, .nil, h => by simp at h
  | _, _, 0, _, .cons x t, h => by
    simp at h
    subst h
    exact ⟨_, List.mem_cons_self .., x⟩
  | _, _, i + 1, _, .cons x t, h => by
    obtain ⟨dat, h1, h2⟩ := dr_get (i := i) t (by simpa using h)
    exact ⟨dat, List.mem_cons_of_mem _ h1, h2⟩
/-- an item that was drawn from a list of data -/
theorem menu {K : PySem.W.Frag} {H H' : Hp} {d l p : Addr} {vs : List V} {ds : List PyData} {r n : Int} (hp : cut d l H p = some (.lst vs)) (hD : DrAll (cut d l H) vs ds) (B : But d l H H') (r0 : 0 ≤ r) (rl : r < n ∨ n < 2 ∧ r = 0)
    (hn : n = (vs.length : Int)) (h2 : 2 ≤ vs.length) : ∃ v dat, SqL K H' p vs ∧ atI vs r = some v ∧ dat ∈ ds ∧ Dr (cut d l H') v dat := by
  have rl' : r < (vs.length : Int) := by
    rcases rl with q | ⟨q, _⟩
    · omega
    · omega
  have hr : r.toNat < vs.length := by omega
  obtain ⟨dat, m, x⟩ := dr_get hD (List.getElem?_eq_getElem hr)
  exact ⟨_, dat, SqL.of ((cut_sub (d := d) (l := l)) _ _ (cut_but B _ _ hp)), at_of (j := r.toNat) (by omega) (List.getElem?_eq_getElem hr), m, x.same (cut_but B)⟩
theorem dr_all {H : Hp} {v : V} {ds : List PyData} : Dr H v (.list ds) → ∃ p xs, v = .ref p ∧ H p = some (.lst xs) ∧ DrAll H xs ds := fun h => by
  cases h with
  | lst h a => exact ⟨_, _, rfl, h, a⟩
theorem dr_allT {H : Hp} {v : V} {ds : List PyData} : Dr H v (.tuple ds) → ∃ p xs, v = .ref p ∧ H p = some (.tup xs) ∧ DrAll H xs ds := fun h => by
  cases h with
  | tup h a => exact ⟨_, _, rfl, h, a⟩
/-! ### what may be drawn -/
def menuW : List PyData := [.str "", .str "x", .str "no such name", .none, .str (PySem.Txt.mul "x" 100), .tuple [.str "a"], .int 0, .list [.str "a", .dict []]]
def menuN : List PyData := [.int 0, .int 1, .int 7, .int 200, .int (10 ^ 30), .int (-1), .none, .str "x", .list [.int 0], .bool true]
def menuS : List PyData := [.list [.str "a", .str "b"], .list [], .tuple [.str "a"], .list [.int 0, .int 1, .int 0], .tuple [.tuple [.str "x", .str "y"]], .list [.list []]]
def menuM : List PyData := [.tuple [], .tuple [.str "a", .str "b"], .list [.int 0, .int 1], .none, .str "path", .dict [(.str "a", .int 0)], .int 5, .bool true]
def fineB (d : PyData) : Bool := decide (d.depth ≤ 64) && d.showable && decide (d.shown.length ≤ sizeLine)
theorem fine_of {d : PyData} (h : fineB d = true) : Fine d := by
  unfold fineB at h
  simp only [Bool.and_eq_true, decide_eq_true_eq] at h
  exact ⟨h.1.1, h.1.2, h.2⟩
theorem fineW {d : PyData} (h : d ∈ menuW) : Fine (.list [d, d]) := fine_of (List.all_eq_true.mp (show (menuW.all fun d => fineB (.list [d, d])) = true by decide +kernel) d h)
theorem fineN {d : PyData} (h : d ∈ menuN) : Fine (.list [d, d]) := fine_of (List.all_eq_true.mp (show (menuN.all fun d => fineB (.list [d, d])) = true by decide +kernel) d h)
theorem fineM {d : PyData} (h : d ∈ menuM) : Fine (.list [d]) := fine_of (List.all_eq_true.mp (show (menuM.all fun d => fineB (.list [d])) = true by decide +kernel) d h)
def partsD : PyData → List PyData
  | .list ds => ds
  | .tuple ds => ds
  | _ => []
theorem fineS {d : PyData} (h : d ∈ menuS) : Fine (.list [.tuple (partsD d)]) := fine_of (List.all_eq_true.mp (show (menuS.all fun d => fineB (.list [.tuple (partsD d)])) = true by decide +kernel) d h)
/-- what is drawn for some is a list or a tuple -/
theorem some_seq {H : Hp} {v : V} {d : PyData} (h : d ∈ menuS) (x : Dr H v d) : ∃ p xs, v = .ref p ∧ Seq H p xs ∧ DrAll H xs (partsD d) := by
  simp only [menuS, List.mem_cons, List.not_mem_nil, or_false] at h
  rcases h with rfl | rfl | rfl | rfl | rfl | rfl
  · obtain ⟨p, xs, e, h, a⟩ := dr_all x
    exact ⟨p, xs, e, .inl h, a⟩
  · obtain ⟨p, xs, e, h, a⟩ := dr_all x
    exact ⟨p, xs, e, .inl h, a⟩
  · obtain ⟨p, xs, e, h, a⟩ := dr_allT x
    exact ⟨p, xs, e, .inr h, a⟩
  · obtain ⟨p, xs, e, h, a⟩ := dr_all x
    exact ⟨p, xs, e, .inl h, a⟩
  · obtain ⟨p, xs, e, h, a⟩ := dr_allT x
    exact ⟨p, xs, e, .inr h, a⟩
  · obtain ⟨p, xs, e, h, a⟩ := dr_all x
    exact ⟨p, xs, e, .inl h, a⟩
end Kx
namespace Kx
open PySem PySem.Spec PyProof.Rows L2
/-- the module's name x is a def that keeps sp where nothing is being shown -/
structure DefG (P : Program) (w : World) (K : PySem.W.Frag) (mg : Str → Option Value) (base : Heap) (k : Nat) (x : Str) (ps : List Str) (sp : Sp) : Prop where
  ex : ∃ f fd, FnG P w K mg base CX0 k f fd ps sp ∧ PySem.W.keepIn K (.ref f) = true ∧ Binds K fd ps [] ∧ mg x = some (.ref f)
theorem DefG.of {P : Program} {w : World} {K : PySem.W.Frag} {mg : Str → Option Value} {base : Heap} {k : Nat} {x qual : Str} {st : Stmt} {f : Addr} {fd : FuncData} {ps : List Str} {sp : Sp}
    (F : L2.Fun K x qual st f fd) (G : FnG P w K mg base CX0 k f fd ps sp) (b : Binds K fd ps []) (m : mg x = some (.ref f)) : DefG P w K mg base k x ps sp := ⟨f, fd, G, F.kp, b, m⟩
theorem pe_callDG {X : Cx} {k : Nat} {x : Str} {ps : List Str} {sp : Sp} {e : Expr} {es : List Expr} {t : TA} {p pos : Pos} (hG : X.A.guards = some []) (D : DefG X.prog X.w X.K X.mg X.base k x ps sp) (hr : Room k X.A) (hg : Gl X x)
    (ha : PA X (e :: es) t) (hdb : (x == ("__debug__" : Str)) = false := by decide) (he : starEach (e :: es) X.env = (false, eval e X.env) :: starEach es X.env := by rfl)
    (hpl : (backTo pos (starEach es X.env)).any (·.1) = false := by rfl) : PE X (.Call (.Name x p) (e :: es) [] pos) (tCall sp [] E0 t) := by
  obtain ⟨f, fd, G, kp, b, m⟩ := D.ex
  exact pe_callG hG G hr hg m kp b .nil pass0 ha hdb he hpl
def spLaw (K : PySem.W.Frag) : Sp := fun vs H Q _ => ∃ (b : Addr) (ns : List Int), vs = [.ref b] ∧ SqL K H b (ns.map V.int) ∧ ns.length ≤ 63 ∧
  (∀ z ∈ ns, Builtin.Int.intBits z ≤ 1048576) ∧ ∀ H', Q (.bl true) H'
structure BltL (mg : Str → Option Value) : Prop where
  len : mg "len" = none
  range : mg "range" = none
  int : mg "int" = none
theorem iteT' {c : Bool} {A B : Prop} (e : c = true) (h : A) : if c = true then A else B := by rw [e]; exact iteT h
theorem iteF' {c : Bool} {A B : Prop} (e : c = false) (h : B) : if c = true then A else B := by rw [e]; exact iteF h
theorem mo30 : PySem.MulOk "0" 30 := ⟨by decide, fun _ _ => by decide, fun _ _ => by decide⟩
theorem mo100 : PySem.MulOk "x" 100 := ⟨by decide, fun _ _ => by decide, fun _ _ => by decide⟩
theorem dp_bls {K : PySem.W.Frag} {H : Hp} : ∀ bs : List Bool, DpAll K H (bs.map V.bl) (bs.map PyData.bool)
  | [] => .nil
  | b :: bs => .cons (.bl b) (dp_bls bs)
def kindsB (i : Nat) : List Bool := [decide (i = 0), decide (i = 1), decide (i = 2), decide (i = 3), decide (i = 4), decide (i = 5), decide (i = 6), decide (i = 7)]
def basesB (i : Nat) : List Bool := [decide (i < 7), decide (i < 7), decide (i = 7), decide (i = 7), false]
def basesC (i : Nat) : List Bool := [decide (0 + ((i : Nat) : Int) < 7), decide (0 + ((i : Nat) : Int) < 7), decide (V.int (0 + ((i : Nat) : Int)) = V.int 7), decide (V.int (0 + ((i : Nat) : Int)) = V.int 7), false]
theorem kinds_eq : ∀ i : Nat, i < 8 → PyData.eqv (.list ((kindsB i).map PyData.bool)) (.list (((List.range 8).map fun t => decide (V.int (0 + ((t : Nat) : Int)) = V.int (0 + ((i : Nat) : Int)))).map PyData.bool)) = true ∧
    SeqAt.shaped (.list ((kindsB i).map PyData.bool)) = true ∧ SeqAt.shaped (.list (((List.range 8).map fun t => decide (V.int (0 + ((t : Nat) : Int)) = V.int (0 + ((i : Nat) : Int)))).map PyData.bool)) = true := by decide +kernel
theorem bases_eq : ∀ i : Nat, i < 8 → PyData.eqv (.list ((basesB i).map PyData.bool)) (.list ((basesC i).map PyData.bool)) = true ∧ SeqAt.shaped (.list ((basesB i).map PyData.bool)) = true ∧ SeqAt.shaped (.list ((basesC i).map PyData.bool)) = true := by decide +kernel
section
variable {P : Program} {w : World} {K : PySem.W.Frag} {mg : Str → Option Value} {base : Heap} {f : Addr} {fd : FuncData} {c : Nat → Addr} {cf cn : Addr}
abbrev nmL : List Str := ["script", "source", "great", "lap", "word", "number", "some", "name", "every", "k", "j"]
theorem scLaw : FnScope nmL ["script"] (defScope sLaw) := ⟨rfl, rfl, rfl, by decide +kernel, rfl, by decide +kernel, by decide +kernel⟩
theorem ok_law (F : L2.Fun K "law" "law" sLaw f fd) (T : BltL mg) (dSrc : Def P w K mg base 1 "_law_source" ["script"] (spSource K)) (dPick : Def P w K mg base 1 "_law_pick" ["source", "many"] spPick)
    (dKinds : Def P w K mg base 1 "_law_kinds" ["e"] (spAsk c kindsV)) (dBases : Def P w K mg base 1 "_law_bases" ["e"] (spAsk c basesV)) (dEvery : Def P w K mg base 3 "_law_every" ["word", "number", "some", "name"] (spEvery c))
    (dKept : DefG P w K mg base 1 "_law_kept" ["every", "word", "number", "some", "name"] (spKept c)) : FnG P w K mg base CX0 4 f fd ["script"] (spLaw K) := by
  refine okG F scLaw (fun vs H Q E h => ?_) (fun cdv A outer s H vs Q E hG hr h => ?_)
  · obtain ⟨b, ns, rfl, _⟩ := h
    rfl
  · obtain ⟨bs, ns, rfl, hS, hl, hz, fin⟩ := h
    have hu4 : (A.deeper (envOfC "law" (defScope sLaw) s.heap.objs.size f cdv)).units + 64 < cLine := by have := hr.un; omega
    have hr1 : Room 1 (A.deeper (envOfC "law" (defScope sLaw) s.heap.objs.size f cdv)) := hr.mono (by decide)
    have hu := hu_of hr
    have nd := scLaw.nd
    refine ⟨_, pss_cons (ps_set (i := 1) nd rfl (.inl rfl) (pe_callD dSrc hr1 (by rfl) (pa_cons (pv 0) pa_nil)))
      (pss_cons (ps_set (i := 2) nd rfl (.inl rfl) (pe_callTy call_int_str (by rfl) T.int (by decide +kernel) (pa_cons (pe_op op_add_str pe_str (pe_op op_mulS pe_str pe_int)) pa_nil)))
      (pss_cons (ps_for PassesOwn.never rfl (pi_range1 rfl T.range (pa_cons pe_int pa_nil)) (pg_name (i := 3) nd rfl (.inl rfl))
        (pss_cons (ps_set (i := 4) nd rfl (.inl rfl) (pe_ix ix_list (pe_lst (pa_cons pe_str (pa_cons pe_str (pa_cons pe_str (pa_cons pe_non (pa_cons (pe_op op_mulS pe_str pe_int) (pa_cons (pe_tup (pa_cons pe_str pa_nil)) (pa_cons pe_int (pa_cons (pe_lst (pa_cons pe_str (pa_cons pe_dnewK pa_nil))) pa_nil))))))))) (pe_callD dPick hr1 (by rfl) (pa_cons (pv 1) (pa_cons pe_int pa_nil))) (fun _ _ => rfl)))
        (pss_cons (ps_set (i := 5) nd rfl (.inl rfl) (pe_ix ix_list (pe_lst (pa_cons pe_int (pa_cons pe_int (pa_cons pe_int (pa_cons pe_int (pa_cons (pv 2) (pa_cons (pe_un un_neg pe_int) (pa_cons pe_non (pa_cons pe_str (pa_cons (pe_lst (pa_cons pe_int pa_nil)) (pa_cons pe_bl pa_nil))))))))))) (pe_callD dPick hr1 (by rfl) (pa_cons (pv 1) (pa_cons pe_int pa_nil))) (fun _ _ => rfl)))
        (pss_cons (ps_set (i := 6) nd rfl (.inl rfl) (pe_ix ix_list (pe_lst (pa_cons (pe_lst (pa_cons pe_str (pa_cons pe_str pa_nil))) (pa_cons (pe_lst pa_nil) (pa_cons (pe_tup (pa_cons pe_str pa_nil)) (pa_cons (pe_lst (pa_cons pe_int (pa_cons pe_int (pa_cons pe_int pa_nil)))) (pa_cons (pe_tup (pa_cons (pe_tup (pa_cons pe_str (pa_cons pe_str pa_nil))) pa_nil)) (pa_cons (pe_lst (pa_cons (pe_lst pa_nil) pa_nil)) pa_nil))))))) (pe_callD dPick hr1 (by rfl) (pa_cons (pv 1) (pa_cons pe_int pa_nil))) (fun _ _ => rfl)))
        (pss_cons (ps_set (i := 7) nd rfl (.inl rfl) (pe_ix ix_list (pe_lst (pa_cons (pe_tup pa_nil) (pa_cons (pe_tup (pa_cons pe_str (pa_cons pe_str pa_nil))) (pa_cons (pe_lst (pa_cons pe_int (pa_cons pe_int pa_nil))) (pa_cons pe_non (pa_cons pe_str (pa_cons (pe_disp (pps_cons pe_str pe_int pps_nil) (by rfl) (by rfl) (fun z => by cases z) (by decide)) (pa_cons pe_int (pa_cons pe_bl pa_nil))))))))) (pe_callD dPick hr1 (by rfl) (pa_cons (pv 1) (pa_cons pe_int pa_nil))) (fun _ _ => rfl)))
        (pss_cons (ps_set (i := 8) nd rfl (.inl rfl) (pe_callD dEvery hr (by rfl) (pa_cons (pv 4) (pa_cons (pv 5) (pa_cons (pv 6) (pa_cons (pv 7) pa_nil))))))
        (pss_cons (ps_for PassesOwn.never rfl (pi_range1 rfl T.range (pa_cons (pe_callB call_len_seq (by rfl) T.len PySem.boot_len (pa_cons (pv 8) pa_nil)) pa_nil)) (pg_name (i := 9) nd rfl (.inr rfl))
          (pss_cons (ps_if (pt_cmpR (op_neD hu4) (pe_callD dKinds hr1 (by rfl) (pa_cons (pe_ix ix_list (pv 8) (pv 9) (fun _ _ => rfl)) pa_nil)) (pe_lc (own := [("j", 10)]) (g := gName 10) rfl nd (pi_range1 rfl T.range (pa_cons (pe_callB call_len_seq (by rfl) T.len PySem.boot_len (pa_cons (pv 8) pa_nil)) pa_nil)) (blkOk_by (N := nmL) (sc := defScope sLaw) (by decide +kernel)) (fun _ _ _ _ _ => pg_name (i := 10) nd rfl (.inl rfl)) (fun _ _ _ _ _ => pts_nil) (fun _ _ _ _ _ => pe_cmpR op_eq (pv 10) (pv 9) (nomark _))) (nomark _)) (pss_one (ps_ret pe_bl)) pss_nil)
          (pss_one (ps_if (pt_cmpR (op_neD hu4) (pe_callD dBases hr1 (by rfl) (pa_cons (pe_ix ix_list (pv 8) (pv 9) (fun _ _ => rfl)) pa_nil)) (pe_lst (pa_cons (pe_cmpR op_lt (pv 9) pe_int (nomark _)) (pa_cons (pe_cmpR op_lt (pv 9) pe_int (nomark _)) (pa_cons (pe_cmpR op_eq (pv 9) pe_int (nomark _)) (pa_cons (pe_cmpR op_eq (pv 9) pe_int (nomark _)) (pa_cons pe_bl pa_nil)))))) (nomark _)) (pss_one (ps_ret pe_bl)) pss_nil))))
        (pss_one (ps_if (PW.pt (pw_or (pt_cmpR op_ne (pe_callB call_len_seq (by rfl) T.len PySem.boot_len (pa_cons (pv 8) pa_nil)) pe_int (nomark _)) (pw_or1 (pt_not (pt_val (pe_callDG hG dKept hr1 (by rfl) (pa_cons (pv 8) (pa_cons (pv 4) (pa_cons (pv 5) (pa_cons (pv 6) (pa_cons (pv 7) pa_nil))))))))))) (pss_one (ps_ret pe_bl)) pss_nil))))))))) 
      (pss_one (ps_ret pe_bl)))), ?_⟩
    refine ⟨_, rfl, bs, ns, rfl, hS, hl, hz, fun d l H1 hd hl' s1 S1 => ?_⟩
    refine ⟨_, _, rfl, rfl, mo30, _, _, rfl, rfl, by decide +kernel, _, 10 ^ 30, rfl, by decide +kernel, by decide +kernel, ?_⟩
    refine ⟨2, rfl, by decide, by decide, for_range (lo := 0) (n := 2) (fun i σ H' => ∃ o3 o4 o5 o6 o7 o8 o9 o10 : Option V,
      σ = [some (.ref bs), some (.ref d), some (.int (10 ^ 30)), o3, o4, o5, o6, o7, o8, o9, o10] ∧ SrcAt H' d l) ⟨_, _, _, _, _, _, _, _, rfl, S1⟩ ?_ ?_⟩
    · rintro i σ H2 hi ⟨o3, o4, o5, o6, o7, o8, o9, o10, rfl, S2⟩
      -- word
      refine ⟨_, _, rfl, rfl, mo100, lt_size (Nat.le_of_ble_eq_true rfl), fun t1 n1 => ?_⟩
      have A1 := S2.same (same_new (o := .tup [.str "a"]) n1)
      have c1 := cut_new (o := .tup [.str "a"]) S2 n1
      intro t2 n2
      have q2 := same_new (o := .dK []) n2
      have A2 := A1.same q2
      have c2 := cut_new (o := .dK []) A1 n2
      refine ⟨lt_size (Nat.le_of_ble_eq_true rfl), fun t3 n3 => ?_⟩
      have q3 := same_new (o := .lst [.str "a", .ref t2]) n3
      have A3 := A2.same q3
      have c3 := cut_new (o := .lst [.str "a", .ref t2]) A2 n3
      refine ⟨lt_size (Nat.le_of_ble_eq_true rfl), fun t4 n4 => ?_⟩
      have q4 := same_new (o := .lst [.str "", .str "x", .str "no such name", .non, .str (PySem.Txt.mul "x" 100), .ref t1, .int 0, .ref t3]) n4
      have A4 := A3.same q4
      have c4 := cut_new (o := .lst [.str "", .str "x", .str "no such name", .non, .str (PySem.Txt.mul "x" 100), .ref t1, .int 0, .ref t3]) A3 n4
      have u4 := cut_same (d := d) (l := l) q4
      have u3 := (cut_same (d := d) (l := l) q3).trans u4
      have u2 := (cut_same (d := d) (l := l) q2).trans u3
      refine ⟨_, rfl, d, l, _, rfl, A4, by decide, fun r H3 r0 rl S3 B3 => ?_⟩
      obtain ⟨wv, wd, wq, wa, wm, wx⟩ := menu (K := K) (ds := menuW) c4 (.cons (.str _) (.cons (.str _) (.cons (.str _) (.cons .non (.cons (.str _) (.cons (.tup (u2 _ _ c1) (.cons (.str _) .nil)) (.cons (.int _) (.cons (.lst (u4 _ _ c3) (.cons (.str _) (.cons (.dct (u3 _ _ c2) .nil .nil) .nil))) .nil)))))))) B3 r0 rl rfl (Nat.le_of_ble_eq_true rfl)
      refine ⟨t4, _, r, wv, rfl, rfl, wq, wa, ?_⟩
      clear rl r0 wq wa u2 u3 u4 c1 c2 c3 c4 q2 q3 q4 n1 n2 n3 n4 B3
      -- number
      refine ⟨_, rfl, _, rfl, lt_size (Nat.le_of_ble_eq_true rfl), fun t5 n5 => ?_⟩
      have q5 := same_new (o := .lst [.int 0]) n5
      have A5 := S3.same q5
      have c5 := cut_new (o := .lst [.int 0]) S3 n5
      refine ⟨lt_size (Nat.le_of_ble_eq_true rfl), fun t6 n6 => ?_⟩
      have q6 := same_new (o := .lst [.int 0, .int 1, .int 7, .int 200, .int (10 ^ 30), .int (-1), .non, .str "x", .ref t5, .bl true]) n6
      have A6 := A5.same q6
      have c6 := cut_new (o := .lst [.int 0, .int 1, .int 7, .int 200, .int (10 ^ 30), .int (-1), .non, .str "x", .ref t5, .bl true]) A5 n6
      have u6 := cut_same (d := d) (l := l) q6
      refine ⟨_, rfl, d, l, _, rfl, A6, by decide, fun r H4 r0 rl S4 B4 => ?_⟩
      obtain ⟨nv, nd', nq, na, nm, nx⟩ := menu (K := K) (ds := menuN) c6 (.cons (.int _) (.cons (.int _) (.cons (.int _) (.cons (.int _) (.cons (.int _) (.cons (.int _) (.cons .non (.cons (.str _) (.cons (.lst (u6 _ _ c5) (.cons (.int _) .nil)) (.cons (.bl _) .nil)))))))))) B4 r0 rl rfl (Nat.le_of_ble_eq_true rfl)
      have wx := wx.same (((cut_same q5).trans u6).trans (cut_but B4))
      refine ⟨t6, _, r, nv, rfl, rfl, nq, na, ?_⟩
      clear rl r0 nq na u6 c5 c6 q5 q6 n5 n6 B4
      -- some
      refine ⟨lt_size (Nat.le_of_ble_eq_true rfl), fun a1 m1 => ?_⟩
      have p1 := same_new (o := .lst [.str "a", .str "b"]) m1
      have D1 := S4.same p1
      have k1 := cut_new (o := .lst [.str "a", .str "b"]) S4 m1
      refine ⟨lt_size (Nat.le_of_ble_eq_true rfl), fun a2 m2 => ?_⟩
      have p2 := same_new (o := .lst []) m2
      have D2 := D1.same p2
      have k2 := cut_new (o := .lst []) D1 m2
      refine ⟨lt_size (Nat.le_of_ble_eq_true rfl), fun a3 m3 => ?_⟩
      have p3 := same_new (o := .tup [.str "a"]) m3
      have D3 := D2.same p3
      have k3 := cut_new (o := .tup [.str "a"]) D2 m3
      refine ⟨lt_size (Nat.le_of_ble_eq_true rfl), fun a4 m4 => ?_⟩
      have p4 := same_new (o := .lst [.int 0, .int 1, .int 0]) m4
      have D4 := D3.same p4
      have k4 := cut_new (o := .lst [.int 0, .int 1, .int 0]) D3 m4
      refine ⟨lt_size (Nat.le_of_ble_eq_true rfl), fun a5 m5 => ?_⟩
      have p5 := same_new (o := .tup [.str "x", .str "y"]) m5
      have D5 := D4.same p5
      have k5 := cut_new (o := .tup [.str "x", .str "y"]) D4 m5
      refine ⟨lt_size (Nat.le_of_ble_eq_true rfl), fun a6 m6 => ?_⟩
      have p6 := same_new (o := .tup [.ref a5]) m6
      have D6 := D5.same p6
      have k6 := cut_new (o := .tup [.ref a5]) D5 m6
      refine ⟨lt_size (Nat.le_of_ble_eq_true rfl), fun a7 m7 => ?_⟩
      have p7 := same_new (o := .lst []) m7
      have D7 := D6.same p7
      have k7 := cut_new (o := .lst []) D6 m7
      refine ⟨lt_size (Nat.le_of_ble_eq_true rfl), fun a8 m8 => ?_⟩
      have p8 := same_new (o := .lst [.ref a7]) m8
      have D8 := D7.same p8
      have k8 := cut_new (o := .lst [.ref a7]) D7 m8
      refine ⟨lt_size (Nat.le_of_ble_eq_true rfl), fun a9 m9 => ?_⟩
      have p9 := same_new (o := .lst [.ref a1, .ref a2, .ref a3, .ref a4, .ref a6, .ref a8]) m9
      have D9 := D8.same p9
      have k9 := cut_new (o := .lst [.ref a1, .ref a2, .ref a3, .ref a4, .ref a6, .ref a8]) D8 m9
      have v9 := cut_same (d := d) (l := l) p9
      have v8 := (cut_same (d := d) (l := l) p8).trans v9
      have v7 := (cut_same (d := d) (l := l) p7).trans v8
      have v6 := (cut_same (d := d) (l := l) p6).trans v7
      have v5 := (cut_same (d := d) (l := l) p5).trans v6
      have v4 := (cut_same (d := d) (l := l) p4).trans v5
      have v3 := (cut_same (d := d) (l := l) p3).trans v4
      have v2 := (cut_same (d := d) (l := l) p2).trans v3
      refine ⟨_, rfl, d, l, _, rfl, D9, by decide, fun r H5 r0 rl S5 B5 => ?_⟩
      obtain ⟨sv, sd, sq, sa, sm, sx⟩ := menu (K := K) (ds := menuS) k9 (.cons (.lst (v2 _ _ k1) (.cons (.str _) (.cons (.str _) .nil))) (.cons (.lst (v3 _ _ k2) .nil) (.cons (.tup (v4 _ _ k3) (.cons (.str _) .nil)) (.cons (.lst (v5 _ _ k4) (.cons (.int _) (.cons (.int _) (.cons (.int _) .nil))))
        (.cons (.tup (v7 _ _ k6) (.cons (.tup (v6 _ _ k5) (.cons (.str _) (.cons (.str _) .nil))) .nil)) (.cons (.lst (v9 _ _ k8) (.cons (.lst (v8 _ _ k7) .nil) .nil)) .nil)))))) B5 r0 rl rfl (Nat.le_of_ble_eq_true rfl)
      have w5 := ((cut_same p1).trans v2).trans (cut_but B5)
      have wx := wx.same w5
      have nx := nx.same w5
      obtain ⟨sp, xs, rfl, seq, sall⟩ := some_seq sm sx
      refine ⟨a9, _, r, .ref sp, rfl, rfl, sq, sa, ?_⟩
      clear rl r0 sq sa v9 v8 v7 v6 v5 v4 v3 v2 w5 k1 k2 k3 k4 k5 k6 k7 k8 k9 B5 sx
      -- name
      refine ⟨lt_size (Nat.le_of_ble_eq_true rfl), fun b1 g1 => ?_⟩
      have p1 := same_new (o := .tup []) g1
      have D1 := S5.same p1
      have k1 := cut_new (o := .tup []) S5 g1
      refine ⟨lt_size (Nat.le_of_ble_eq_true rfl), fun b2 g2 => ?_⟩
      have p2 := same_new (o := .tup [.str "a", .str "b"]) g2
      have D2 := D1.same p2
      have k2 := cut_new (o := .tup [.str "a", .str "b"]) D1 g2
      refine ⟨lt_size (Nat.le_of_ble_eq_true rfl), fun b3 g3 => ?_⟩
      have p3 := same_new (o := .lst [.int 0, .int 1]) g3
      have D3 := D2.same p3
      have k3 := cut_new (o := .lst [.int 0, .int 1]) D2 g3
      intro b4 g4
      refine ⟨upd_same, [(Sum.inr "a", .int 0)], rfl, Nat.le_of_ble_eq_true rfl, ?_⟩
      rw [upd_upd]
      have p4 := same_new (o := .dK [(Sum.inr "a", .int 0)]) g4
      have D4 := D3.same p4
      have k4 := cut_new (o := .dK [(Sum.inr "a", .int 0)]) D3 g4
      refine ⟨lt_size (Nat.le_of_ble_eq_true rfl), fun b5 g5 => ?_⟩
      have p5 := same_new (o := .lst [.ref b1, .ref b2, .ref b3, .non, .str "path", .ref b4, .int 5, .bl true]) g5
      have D5 := D4.same p5
      have k5 := cut_new (o := .lst [.ref b1, .ref b2, .ref b3, .non, .str "path", .ref b4, .int 5, .bl true]) D4 g5
      have v5 := cut_same (d := d) (l := l) p5
      have v4 := (cut_same (d := d) (l := l) p4).trans v5
      have v3 := (cut_same (d := d) (l := l) p3).trans v4
      have v2 := (cut_same (d := d) (l := l) p2).trans v3
      refine ⟨_, rfl, d, l, _, rfl, D5, by decide, fun r H6 r0 rl S6 B6 => ?_⟩
      obtain ⟨mv, md, mq, ma, mm, mx⟩ := menu (K := K) (ds := menuM) k5 (.cons (.tup (v2 _ _ k1) .nil) (.cons (.tup (v3 _ _ k2) (.cons (.str _) (.cons (.str _) .nil))) (.cons (.lst (v4 _ _ k3) (.cons (.int _) (.cons (.int _) .nil))) (.cons .non (.cons (.str _)
        (.cons (.dct (v5 _ _ k4) (.cons (.str _) .nil) (.cons (.int _) .nil)) (.cons (.int _) (.cons (.bl _) .nil)))))))) B6 r0 rl rfl (Nat.le_of_ble_eq_true rfl)
      have w6 := ((cut_same p1).trans v2).trans (cut_but B6)
      have wx := wx.same w6
      have nx := nx.same w6
      have seq := seq.same w6
      have sall := sall.same w6
      refine ⟨b5, _, r, mv, rfl, rfl, mq, ma, ?_⟩
      clear rl r0 mq ma v5 v4 v3 v2 w6 k1 k2 k3 k4 k5 B6
      refine ⟨_, rfl, _, rfl, _, rfl, _, rfl, wv, nv, mv, sp, xs, rfl, seq.same cut_sub, fun el H7 s7 ev => ?_⟩
      have S7 := S6.same s7
      have gx {v : V} {dat : PyData} (x : Dr (cut d l H6) v dat) : Dr H7 v dat := (x.same cut_sub).same s7
      have hel : ∃ es : List V, es.length = 8 ∧ H7 el = some (.lst es) ∧ ∀ i : Nat, i < 8 → ∃ e p, es[i]? = some (.ref e) ∧ ExAt H7 (c i) e p := by
        obtain ⟨e0, e1, e2, e3, e4, e5, e6, e7, t, h, x0, x1, ht, x2, x3, x4, x5, x6, x7⟩ := ev
        refine ⟨_, rfl, h, fun i hi => ?_⟩
        match i, hi with
        | 0, _ => exact ⟨_, _, rfl, x0⟩
        | 1, _ => exact ⟨_, _, rfl, x1⟩
        | 2, _ => exact ⟨_, _, rfl, x2⟩
        | 3, _ => exact ⟨_, _, rfl, x3⟩
        | 4, _ => exact ⟨_, _, rfl, x4⟩
        | 5, _ => exact ⟨_, _, rfl, x5⟩
        | 6, _ => exact ⟨_, _, rfl, x6⟩
        | 7, _ => exact ⟨_, _, rfl, x7⟩
      obtain ⟨es, el8, he, hes⟩ := hel
      have en : ((es.length : Nat) : Int) = 8 := by rw [el8]; rfl
      refine ⟨_, rfl, el, es, rfl, .inl (SqL.of he), 8, by rw [en], by decide, by decide, for_range (lo := 0) (n := 8) (fun _ σ H' => ∃ o9 o10 : Option V,
        σ = [some (.ref bs), some (.ref d), some (.int (10 ^ 30)), some (.int (0 + ((i : Nat) : Int))), some wv, some nv, some (.ref sp), some mv, some (.ref el), o9, o10] ∧ Same H7 H') ⟨_, _, rfl, Same.refl _⟩ ?_ ?_⟩
      · rintro i2 σ H8 hi8 ⟨o9, o10, rfl, s8⟩
        obtain ⟨e, p, hei, hx⟩ := hes i2 hi8
        -- kinds
        refine ⟨_, rfl, _, rfl, el, es, _, _, rfl, rfl, SqL.of (s8 _ _ he), at_of (j := i2) (Int.zero_add _) hei, e, i2, p, rfl, hi8, hx.same s8, fun l1 H9 s9 h1 => ?_⟩
        refine ⟨_, rfl, el, es, rfl, .inl (SqL.of (s9 _ _ (s8 _ _ he))), 8, by rw [en], by decide, by decide, fun D hD => lc_range (lo := 0) (n := 8)
          (fun j H' => H' = upd H9 D (.lst (((List.range j).map fun t => decide (V.int (0 + ((t : Nat) : Int)) = V.int (0 + ((i2 : Nat) : Int)))).map V.bl))) rfl ?_ ?_⟩
        · rintro j H' hj rfl
          refine ⟨rfl, _, rfl, _, rfl, rfl, _, upd_same, ?_, ?_⟩
          · rw [List.length_map, List.length_map, List.length_range]
            exact small1000 (by omega)
          · rw [upd_upd, List.range_succ, List.map_append, List.map_append]
            rfl
        · rintro H' rfl
          have s10 := same_new (o := .lst (((List.range 8).map fun t => decide (V.int (0 + ((t : Nat) : Int)) = V.int (0 + ((i2 : Nat) : Int)))).map V.bl)) hD
          obtain ⟨g1, g2, g3⟩ := kinds_eq i2 hi8
          refine ⟨_, _, Dp.lst (SqL.of (s10 _ _ h1)) (dp_bls (kindsB i2)), Dp.lst (SqL.of upd_same) (dp_bls _), g2, g3, _, rfl, iteF' (by rw [g1]; rfl) ?_⟩
          -- bases
          have S10 := s8.trans (s9.trans s10)
          refine ⟨_, rfl, _, rfl, el, es, _, _, rfl, rfl, SqL.of (S10 _ _ he), at_of (j := i2) (Int.zero_add _) hei, e, i2, p, rfl, hi8, hx.same S10, fun l2 H11 s11 h2 => ?_⟩
          refine ⟨_, rfl, _, _, rfl, rfl, _, rfl, _, _, rfl, rfl, _, rfl, rfl, _, rfl, rfl, lt_size (Nat.le_of_ble_eq_true rfl), fun l3 n3 => ?_⟩
          have s12 := same_new (o := .lst ((basesC i2).map V.bl)) n3
          obtain ⟨y1, y2, y3⟩ := bases_eq i2 hi8
          refine ⟨_, _, Dp.lst (SqL.of (s12 _ _ h2)) (dp_bls (basesB i2)), Dp.lst (SqL.of upd_same) (dp_bls (basesC i2)), y2, y3, _, rfl, iteF' (by rw [y1]; rfl) ?_⟩
          exact ⟨_, _, rfl, S10.trans (s11.trans s12)⟩
      · rintro σ H8 ⟨o9, o10, rfl, s8⟩
        have e8 : (!decide (V.int ((es.length : Nat) : Int) = V.int 8)) = false := by rw [en, decide_eq_true rfl]; rfl
        refine ⟨_, rfl, el, es, rfl, .inl (SqL.of (s8 _ _ he)), rfl, _, rfl, iteF' e8 ?_⟩
        refine ⟨_, rfl, _, rfl, _, rfl, _, rfl, _, rfl, el, sp, wv, nv, mv, xs, wd, nd', md, partsD sd, rfl, ev.same s8, ((seq.same cut_sub).same s7).same s8, (gx wx).same s8, (gx nx).same s8, (gx mx).same s8,
          (((sall.same cut_sub).same s7).same s8), fineW wm, fineN nm, fineM mm, fineS sm, fun H9 s9 => ?_⟩
        exact ⟨_, rfl, iteF ⟨_, _, _, _, _, _, _, _, rfl, (S7.same s8).same s9⟩⟩
    · rintro σ H2 ⟨o3, o4, o5, o6, o7, o8, o9, o10, rfl, S2⟩
      exact fin _
end
end Kx
namespace Kx
open PySem PySem.Spec PyProof.Rows L2
/-! ### the end -/
def cAt (C0 C1 C2 C3 C4 C5 C6 C7 : Addr) : Nat → Addr
  | 0 => C0
  | 1 => C1
  | 2 => C2
  | 3 => C3
  | 4 => C4
  | 5 => C5
  | 6 => C6
  | _ => C7
theorem kit_ownC {K : PySem.W.Frag} {C D : Addr} {b : Bool} {cd : ClassData} (hne : C ≠ D) (hD : PySem.W.clsIn K D = some cd) (tD : PySem.W.typeIn K (.ref D) = some (.type "type")) (h : PySem.W.subIn K (.ref C) (.ref D) = some b) : PySem.W.kitOne K (.ref C) (.ref D) = some b :=
  kit_own hne (by rw [hD]; rfl) tD h
theorem all_mk {l : PySem.W.OpenLaw} {w : World} {K : PySem.W.Frag} {h : Heap} {mg : Str → Option Value} {fa : Addr} (X : K.In h) (G : h.Ns mainGlobals mg) (hfa : mg "law" = some (.ref fa))
    {C0 C1 C2 C3 C4 C5 C6 C7 cf cn fI0 fI1 fI3 fI4 fI5 fI7 f0 f1 f2 f3 f4 f5 f6 : Addr}
    {cdF cdN : ClassData}
    {nm0 q0 : Str}
    {N0 : Addr}
    {bs0 sub0 : List Value}
    {sn0 : List Str}
    {ab0 : Bool}
    {col0 : Option Bool}
    {dd0 : Option Addr}
    {k00 k10 k20 k30 k50 : Option Value}
    {odI0 anI0 : Option Addr}
    {slI0 : Array (Option Value)}
    {ocI0 kVI0 dcI0 pmI0 cdI0 ctI0 : Value}
    {nm1 q1 : Str}
    {N1 : Addr}
    {bs1 sub1 : List Value}
    {sn1 : List Str}
    {ab1 : Bool}
    {col1 : Option Bool}
    {dd1 : Option Addr}
    {k01 k11 k21 k31 k51 : Option Value}
    {odI1 anI1 : Option Addr}
    {slI1 : Array (Option Value)}
    {ocI1 kVI1 dcI1 pmI1 cdI1 ctI1 : Value}
    {nm2 q2 : Str}
    {N2 : Addr}
    {bs2 sub2 : List Value}
    {sn2 : List Str}
    {ab2 : Bool}
    {col2 : Option Bool}
    {dd2 : Option Addr}
    {k02 k12 k22 k32 k52 : Option Value}
    {nm3 q3 : Str}
    {N3 : Addr}
    {bs3 sub3 : List Value}
    {sn3 : List Str}
    {ab3 : Bool}
    {col3 : Option Bool}
    {dd3 : Option Addr}
    {k03 k13 k23 k33 k53 : Option Value}
    {odI3 anI3 : Option Addr}
    {slI3 : Array (Option Value)}
    {ocI3 kVI3 dcI3 pmI3 cdI3 ctI3 : Value}
    {nm4 q4 : Str}
    {N4 : Addr}
    {bs4 sub4 : List Value}
    {sn4 : List Str}
    {ab4 : Bool}
    {col4 : Option Bool}
    {dd4 : Option Addr}
    {k04 k14 k24 k34 k54 : Option Value}
    {odI4 anI4 : Option Addr}
    {slI4 : Array (Option Value)}
    {ocI4 kVI4 dcI4 pmI4 cdI4 ctI4 : Value}
    {nm5 q5 : Str}
    {N5 : Addr}
    {bs5 sub5 : List Value}
    {sn5 : List Str}
    {ab5 : Bool}
    {col5 : Option Bool}
    {dd5 : Option Addr}
    {k05 k15 k25 k35 k55 : Option Value}
    {odI5 anI5 : Option Addr}
    {slI5 : Array (Option Value)}
    {ocI5 kVI5 dcI5 pmI5 cdI5 ctI5 : Value}
    {nm6 q6 : Str}
    {N6 : Addr}
    {bs6 sub6 : List Value}
    {sn6 : List Str}
    {ab6 : Bool}
    {col6 : Option Bool}
    {dd6 : Option Addr}
    {k06 k16 k26 k36 k56 : Option Value}
    {nm7 q7 : Str}
    {N7 : Addr}
    {bs7 sub7 : List Value}
    {sn7 : List Str}
    {ab7 : Bool}
    {col7 : Option Bool}
    {dd7 : Option Addr}
    {k07 k17 k27 k37 k57 : Option Value}
    {odI7 anI7 : Option Addr}
    {slI7 : Array (Option Value)}
    {ocI7 kVI7 dcI7 pmI7 cdI7 ctI7 : Value}
    {od0 an0 : Option Addr}
    {sl0 : Array (Option Value)}
    {oc0 kV0 dc0 pm0 cd0 ct0 : Value}
    {od1 an1 : Option Addr}
    {sl1 : Array (Option Value)}
    {oc1 kV1 dc1 pm1 cd1 ct1 : Value}
    {od2 an2 : Option Addr}
    {sl2 : Array (Option Value)}
    {oc2 kV2 dc2 pm2 cd2 ct2 : Value}
    {od3 an3 : Option Addr}
    {sl3 : Array (Option Value)}
    {oc3 kV3 dc3 pm3 cd3 ct3 : Value}
    {od4 an4 : Option Addr}
    {sl4 : Array (Option Value)}
    {oc4 kV4 dc4 pm4 cd4 ct4 : Value}
    {od5 an5 : Option Addr}
    {sl5 : Array (Option Value)}
    {oc5 kV5 dc5 pm5 cd5 ct5 : Value}
    {od6 an6 : Option Addr}
    {sl6 : Array (Option Value)}
    {oc6 kV6 dc6 pm6 cd6 ct6 : Value}
    (aF : PySem.W.nsIn K mainGlobals "FigureError" = some (some (.ref cf)))
    (aN : PySem.W.nsIn K mainGlobals "NameMissing" = some (some (.ref cn)))
    (qF : PySem.W.clsIn K cf = some cdF)
    (qN : PySem.W.clsIn K cn = some cdN)
    (tF : PySem.W.typeIn K (.ref cf) = some (.type "type"))
    (tN : PySem.W.typeIn K (.ref cn) = some (.type "type"))
    (aC0 : PySem.W.nsIn K mainGlobals "BadText" = some (some (.ref C0)))
    (xL0 : K.lookup C0 = some (excClassObj nm0 q0 C0 N0 bs0 (.ref cf :: [.type "ValueError", .type "Exception", .type "BaseException", .type "object"]) true sn0 sub0 ab0 col0 dd0 k00 k10 k20 k30 k50 "ValueError.__new__"))
    (sa0 : PySem.W.findIn K (.ref C0) "__setattr__" = some (some (.builtin "object.__setattr__")))
    (kC0 : PySem.W.keepIn K (.ref C0) = true)
    (ga0 : PySem.W.findIn K (.ref C0) "__getattribute__" = some (some (.builtin "BaseException.__getattribute__")))
    (gt0 : PySem.W.findIn K (.ref C0) "__getattr__" = some none)
    (su0 : PySem.W.subIn K (.ref C0) (.type "BaseException") = some true)
    (ca0 : PySem.W.findIn K (.ref C0) "__class__" = some (some (.builtin "object.__class__")))
    (cm0 : PySem.W.mroIn K C0 (.type "object") = some true)
    (hd0 : PySem.W.hasDictIn K C0 = true)
    (tC0 : PySem.W.typeIn K (.ref C0) = some (.type "type"))
    (sF0 : PySem.W.subIn K (.ref C0) (.ref cf) = some true)
    (sN0 : PySem.W.subIn K (.ref C0) (.ref cn) = some false)
    (sV0 : PySem.W.subIn K (.ref C0) (.type "ValueError") = some true)
    (sL0 : PySem.W.subIn K (.ref C0) (.type "LookupError") = some false)
    (sK0 : PySem.W.subIn K (.ref C0) (.type "KeyError") = some false)
    (sI0 : PySem.W.subIn K (.ref C0) (.type "IndexError") = some false)
    (s01 : PySem.W.subIn K (.ref C0) (.ref C1) = some false)
    (s02 : PySem.W.subIn K (.ref C0) (.ref C2) = some false)
    (s03 : PySem.W.subIn K (.ref C0) (.ref C3) = some false)
    (s04 : PySem.W.subIn K (.ref C0) (.ref C4) = some false)
    (s05 : PySem.W.subIn K (.ref C0) (.ref C5) = some false)
    (s06 : PySem.W.subIn K (.ref C0) (.ref C6) = some false)
    (s07 : PySem.W.subIn K (.ref C0) (.ref C7) = some false)
    (iC0 : PySem.W.findIn K (.ref C0) "__init__" = some (some (.ref fI0)))
    (tI0 : PySem.W.typeIn K (.ref fI0) = some (.type "function"))
    (lI0 : K.lookup fI0 = some ⟨ocI0, odI0, .func (PySem.W.fnOf "__init__" "BadText.__init__" (defArgs (sI 2)) (defBody (sI 2)) (defScope (sI 2)) .none kVI0 dcI0 pmI0 anI0 cdI0 ctI0), slI0⟩)
    (cI0 : PySem.W.codeIn K cdI0 "BadText.__init__" = true)
    (kI0 : PySem.W.keepIn K (.ref fI0) = true)
    (nF0 : PySem.W.findIn K (.ref C0) "place" = some none)
    (aC1 : PySem.W.nsIn K mainGlobals "BadTree" = some (some (.ref C1)))
    (xL1 : K.lookup C1 = some (excClassObj nm1 q1 C1 N1 bs1 (.ref cf :: [.type "ValueError", .type "Exception", .type "BaseException", .type "object"]) true sn1 sub1 ab1 col1 dd1 k01 k11 k21 k31 k51 "ValueError.__new__"))
    (sa1 : PySem.W.findIn K (.ref C1) "__setattr__" = some (some (.builtin "object.__setattr__")))
    (kC1 : PySem.W.keepIn K (.ref C1) = true)
    (ga1 : PySem.W.findIn K (.ref C1) "__getattribute__" = some (some (.builtin "BaseException.__getattribute__")))
    (gt1 : PySem.W.findIn K (.ref C1) "__getattr__" = some none)
    (su1 : PySem.W.subIn K (.ref C1) (.type "BaseException") = some true)
    (ca1 : PySem.W.findIn K (.ref C1) "__class__" = some (some (.builtin "object.__class__")))
    (cm1 : PySem.W.mroIn K C1 (.type "object") = some true)
    (hd1 : PySem.W.hasDictIn K C1 = true)
    (tC1 : PySem.W.typeIn K (.ref C1) = some (.type "type"))
    (sF1 : PySem.W.subIn K (.ref C1) (.ref cf) = some true)
    (sN1 : PySem.W.subIn K (.ref C1) (.ref cn) = some false)
    (sV1 : PySem.W.subIn K (.ref C1) (.type "ValueError") = some true)
    (sL1 : PySem.W.subIn K (.ref C1) (.type "LookupError") = some false)
    (sK1 : PySem.W.subIn K (.ref C1) (.type "KeyError") = some false)
    (sI1 : PySem.W.subIn K (.ref C1) (.type "IndexError") = some false)
    (s10 : PySem.W.subIn K (.ref C1) (.ref C0) = some false)
    (s12 : PySem.W.subIn K (.ref C1) (.ref C2) = some false)
    (s13 : PySem.W.subIn K (.ref C1) (.ref C3) = some false)
    (s14 : PySem.W.subIn K (.ref C1) (.ref C4) = some false)
    (s15 : PySem.W.subIn K (.ref C1) (.ref C5) = some false)
    (s16 : PySem.W.subIn K (.ref C1) (.ref C6) = some false)
    (s17 : PySem.W.subIn K (.ref C1) (.ref C7) = some false)
    (iC1 : PySem.W.findIn K (.ref C1) "__init__" = some (some (.ref fI1)))
    (tI1 : PySem.W.typeIn K (.ref fI1) = some (.type "function"))
    (lI1 : K.lookup fI1 = some ⟨ocI1, odI1, .func (PySem.W.fnOf "__init__" "BadTree.__init__" (defArgs (sI 3)) (defBody (sI 3)) (defScope (sI 3)) .none kVI1 dcI1 pmI1 anI1 cdI1 ctI1), slI1⟩)
    (cI1 : PySem.W.codeIn K cdI1 "BadTree.__init__" = true)
    (kI1 : PySem.W.keepIn K (.ref fI1) = true)
    (nF1 : PySem.W.findIn K (.ref C1) "path" = some none)
    (aC2 : PySem.W.nsIn K mainGlobals "TooGreat" = some (some (.ref C2)))
    (xL2 : K.lookup C2 = some (excClassObj nm2 q2 C2 N2 bs2 (.ref cf :: [.type "ValueError", .type "Exception", .type "BaseException", .type "object"]) true sn2 sub2 ab2 col2 dd2 k02 k12 k22 k32 k52 "ValueError.__new__"))
    (sa2 : PySem.W.findIn K (.ref C2) "__setattr__" = some (some (.builtin "object.__setattr__")))
    (kC2 : PySem.W.keepIn K (.ref C2) = true)
    (ga2 : PySem.W.findIn K (.ref C2) "__getattribute__" = some (some (.builtin "BaseException.__getattribute__")))
    (gt2 : PySem.W.findIn K (.ref C2) "__getattr__" = some none)
    (su2 : PySem.W.subIn K (.ref C2) (.type "BaseException") = some true)
    (ca2 : PySem.W.findIn K (.ref C2) "__class__" = some (some (.builtin "object.__class__")))
    (cm2 : PySem.W.mroIn K C2 (.type "object") = some true)
    (hd2 : PySem.W.hasDictIn K C2 = true)
    (tC2 : PySem.W.typeIn K (.ref C2) = some (.type "type"))
    (sF2 : PySem.W.subIn K (.ref C2) (.ref cf) = some true)
    (sN2 : PySem.W.subIn K (.ref C2) (.ref cn) = some false)
    (sV2 : PySem.W.subIn K (.ref C2) (.type "ValueError") = some true)
    (sL2 : PySem.W.subIn K (.ref C2) (.type "LookupError") = some false)
    (sK2 : PySem.W.subIn K (.ref C2) (.type "KeyError") = some false)
    (sI2 : PySem.W.subIn K (.ref C2) (.type "IndexError") = some false)
    (s20 : PySem.W.subIn K (.ref C2) (.ref C0) = some false)
    (s21 : PySem.W.subIn K (.ref C2) (.ref C1) = some false)
    (s23 : PySem.W.subIn K (.ref C2) (.ref C3) = some false)
    (s24 : PySem.W.subIn K (.ref C2) (.ref C4) = some false)
    (s25 : PySem.W.subIn K (.ref C2) (.ref C5) = some false)
    (s26 : PySem.W.subIn K (.ref C2) (.ref C6) = some false)
    (s27 : PySem.W.subIn K (.ref C2) (.ref C7) = some false)
    (aC3 : PySem.W.nsIn K mainGlobals "NotBuilt" = some (some (.ref C3)))
    (xL3 : K.lookup C3 = some (excClassObj nm3 q3 C3 N3 bs3 (.ref cf :: [.type "ValueError", .type "Exception", .type "BaseException", .type "object"]) true sn3 sub3 ab3 col3 dd3 k03 k13 k23 k33 k53 "ValueError.__new__"))
    (sa3 : PySem.W.findIn K (.ref C3) "__setattr__" = some (some (.builtin "object.__setattr__")))
    (kC3 : PySem.W.keepIn K (.ref C3) = true)
    (ga3 : PySem.W.findIn K (.ref C3) "__getattribute__" = some (some (.builtin "BaseException.__getattribute__")))
    (gt3 : PySem.W.findIn K (.ref C3) "__getattr__" = some none)
    (su3 : PySem.W.subIn K (.ref C3) (.type "BaseException") = some true)
    (ca3 : PySem.W.findIn K (.ref C3) "__class__" = some (some (.builtin "object.__class__")))
    (cm3 : PySem.W.mroIn K C3 (.type "object") = some true)
    (hd3 : PySem.W.hasDictIn K C3 = true)
    (tC3 : PySem.W.typeIn K (.ref C3) = some (.type "type"))
    (sF3 : PySem.W.subIn K (.ref C3) (.ref cf) = some true)
    (sN3 : PySem.W.subIn K (.ref C3) (.ref cn) = some false)
    (sV3 : PySem.W.subIn K (.ref C3) (.type "ValueError") = some true)
    (sL3 : PySem.W.subIn K (.ref C3) (.type "LookupError") = some false)
    (sK3 : PySem.W.subIn K (.ref C3) (.type "KeyError") = some false)
    (sI3 : PySem.W.subIn K (.ref C3) (.type "IndexError") = some false)
    (s30 : PySem.W.subIn K (.ref C3) (.ref C0) = some false)
    (s31 : PySem.W.subIn K (.ref C3) (.ref C1) = some false)
    (s32 : PySem.W.subIn K (.ref C3) (.ref C2) = some false)
    (s34 : PySem.W.subIn K (.ref C3) (.ref C4) = some false)
    (s35 : PySem.W.subIn K (.ref C3) (.ref C5) = some false)
    (s36 : PySem.W.subIn K (.ref C3) (.ref C6) = some false)
    (s37 : PySem.W.subIn K (.ref C3) (.ref C7) = some false)
    (iC3 : PySem.W.findIn K (.ref C3) "__init__" = some (some (.ref fI3)))
    (tI3 : PySem.W.typeIn K (.ref fI3) = some (.type "function"))
    (lI3 : K.lookup fI3 = some ⟨ocI3, odI3, .func (PySem.W.fnOf "__init__" "NotBuilt.__init__" (defArgs (sI 5)) (defBody (sI 5)) (defScope (sI 5)) .none kVI3 dcI3 pmI3 anI3 cdI3 ctI3), slI3⟩)
    (cI3 : PySem.W.codeIn K cdI3 "NotBuilt.__init__" = true)
    (kI3 : PySem.W.keepIn K (.ref fI3) = true)
    (nF3 : PySem.W.findIn K (.ref C3) "step" = some none)
    (aC4 : PySem.W.nsIn K mainGlobals "BadAct" = some (some (.ref C4)))
    (xL4 : K.lookup C4 = some (excClassObj nm4 q4 C4 N4 bs4 (.ref cf :: [.type "ValueError", .type "Exception", .type "BaseException", .type "object"]) true sn4 sub4 ab4 col4 dd4 k04 k14 k24 k34 k54 "ValueError.__new__"))
    (sa4 : PySem.W.findIn K (.ref C4) "__setattr__" = some (some (.builtin "object.__setattr__")))
    (kC4 : PySem.W.keepIn K (.ref C4) = true)
    (ga4 : PySem.W.findIn K (.ref C4) "__getattribute__" = some (some (.builtin "BaseException.__getattribute__")))
    (gt4 : PySem.W.findIn K (.ref C4) "__getattr__" = some none)
    (su4 : PySem.W.subIn K (.ref C4) (.type "BaseException") = some true)
    (ca4 : PySem.W.findIn K (.ref C4) "__class__" = some (some (.builtin "object.__class__")))
    (cm4 : PySem.W.mroIn K C4 (.type "object") = some true)
    (hd4 : PySem.W.hasDictIn K C4 = true)
    (tC4 : PySem.W.typeIn K (.ref C4) = some (.type "type"))
    (sF4 : PySem.W.subIn K (.ref C4) (.ref cf) = some true)
    (sN4 : PySem.W.subIn K (.ref C4) (.ref cn) = some false)
    (sV4 : PySem.W.subIn K (.ref C4) (.type "ValueError") = some true)
    (sL4 : PySem.W.subIn K (.ref C4) (.type "LookupError") = some false)
    (sK4 : PySem.W.subIn K (.ref C4) (.type "KeyError") = some false)
    (sI4 : PySem.W.subIn K (.ref C4) (.type "IndexError") = some false)
    (s40 : PySem.W.subIn K (.ref C4) (.ref C0) = some false)
    (s41 : PySem.W.subIn K (.ref C4) (.ref C1) = some false)
    (s42 : PySem.W.subIn K (.ref C4) (.ref C2) = some false)
    (s43 : PySem.W.subIn K (.ref C4) (.ref C3) = some false)
    (s45 : PySem.W.subIn K (.ref C4) (.ref C5) = some false)
    (s46 : PySem.W.subIn K (.ref C4) (.ref C6) = some false)
    (s47 : PySem.W.subIn K (.ref C4) (.ref C7) = some false)
    (iC4 : PySem.W.findIn K (.ref C4) "__init__" = some (some (.ref fI4)))
    (tI4 : PySem.W.typeIn K (.ref fI4) = some (.type "function"))
    (lI4 : K.lookup fI4 = some ⟨ocI4, odI4, .func (PySem.W.fnOf "__init__" "BadAct.__init__" (defArgs (sI 6)) (defBody (sI 6)) (defScope (sI 6)) .none kVI4 dcI4 pmI4 anI4 cdI4 ctI4), slI4⟩)
    (cI4 : PySem.W.codeIn K cdI4 "BadAct.__init__" = true)
    (kI4 : PySem.W.keepIn K (.ref fI4) = true)
    (nF4 : PySem.W.findIn K (.ref C4) "word" = some none)
    (aC5 : PySem.W.nsIn K mainGlobals "BadAsk" = some (some (.ref C5)))
    (xL5 : K.lookup C5 = some (excClassObj nm5 q5 C5 N5 bs5 (.ref cf :: [.type "ValueError", .type "Exception", .type "BaseException", .type "object"]) true sn5 sub5 ab5 col5 dd5 k05 k15 k25 k35 k55 "ValueError.__new__"))
    (sa5 : PySem.W.findIn K (.ref C5) "__setattr__" = some (some (.builtin "object.__setattr__")))
    (kC5 : PySem.W.keepIn K (.ref C5) = true)
    (ga5 : PySem.W.findIn K (.ref C5) "__getattribute__" = some (some (.builtin "BaseException.__getattribute__")))
    (gt5 : PySem.W.findIn K (.ref C5) "__getattr__" = some none)
    (su5 : PySem.W.subIn K (.ref C5) (.type "BaseException") = some true)
    (ca5 : PySem.W.findIn K (.ref C5) "__class__" = some (some (.builtin "object.__class__")))
    (cm5 : PySem.W.mroIn K C5 (.type "object") = some true)
    (hd5 : PySem.W.hasDictIn K C5 = true)
    (tC5 : PySem.W.typeIn K (.ref C5) = some (.type "type"))
    (sF5 : PySem.W.subIn K (.ref C5) (.ref cf) = some true)
    (sN5 : PySem.W.subIn K (.ref C5) (.ref cn) = some false)
    (sV5 : PySem.W.subIn K (.ref C5) (.type "ValueError") = some true)
    (sL5 : PySem.W.subIn K (.ref C5) (.type "LookupError") = some false)
    (sK5 : PySem.W.subIn K (.ref C5) (.type "KeyError") = some false)
    (sI5 : PySem.W.subIn K (.ref C5) (.type "IndexError") = some false)
    (s50 : PySem.W.subIn K (.ref C5) (.ref C0) = some false)
    (s51 : PySem.W.subIn K (.ref C5) (.ref C1) = some false)
    (s52 : PySem.W.subIn K (.ref C5) (.ref C2) = some false)
    (s53 : PySem.W.subIn K (.ref C5) (.ref C3) = some false)
    (s54 : PySem.W.subIn K (.ref C5) (.ref C4) = some false)
    (s56 : PySem.W.subIn K (.ref C5) (.ref C6) = some false)
    (s57 : PySem.W.subIn K (.ref C5) (.ref C7) = some false)
    (iC5 : PySem.W.findIn K (.ref C5) "__init__" = some (some (.ref fI5)))
    (tI5 : PySem.W.typeIn K (.ref fI5) = some (.type "function"))
    (lI5 : K.lookup fI5 = some ⟨ocI5, odI5, .func (PySem.W.fnOf "__init__" "BadAsk.__init__" (defArgs (sI 7)) (defBody (sI 7)) (defScope (sI 7)) .none kVI5 dcI5 pmI5 anI5 cdI5 ctI5), slI5⟩)
    (cI5 : PySem.W.codeIn K cdI5 "BadAsk.__init__" = true)
    (kI5 : PySem.W.keepIn K (.ref fI5) = true)
    (nF5 : PySem.W.findIn K (.ref C5) "word" = some none)
    (aC6 : PySem.W.nsIn K mainGlobals "NothingDone" = some (some (.ref C6)))
    (xL6 : K.lookup C6 = some (excClassObj nm6 q6 C6 N6 bs6 (.ref cf :: [.type "ValueError", .type "Exception", .type "BaseException", .type "object"]) true sn6 sub6 ab6 col6 dd6 k06 k16 k26 k36 k56 "ValueError.__new__"))
    (sa6 : PySem.W.findIn K (.ref C6) "__setattr__" = some (some (.builtin "object.__setattr__")))
    (kC6 : PySem.W.keepIn K (.ref C6) = true)
    (ga6 : PySem.W.findIn K (.ref C6) "__getattribute__" = some (some (.builtin "BaseException.__getattribute__")))
    (gt6 : PySem.W.findIn K (.ref C6) "__getattr__" = some none)
    (su6 : PySem.W.subIn K (.ref C6) (.type "BaseException") = some true)
    (ca6 : PySem.W.findIn K (.ref C6) "__class__" = some (some (.builtin "object.__class__")))
    (cm6 : PySem.W.mroIn K C6 (.type "object") = some true)
    (hd6 : PySem.W.hasDictIn K C6 = true)
    (tC6 : PySem.W.typeIn K (.ref C6) = some (.type "type"))
    (sF6 : PySem.W.subIn K (.ref C6) (.ref cf) = some true)
    (sN6 : PySem.W.subIn K (.ref C6) (.ref cn) = some false)
    (sV6 : PySem.W.subIn K (.ref C6) (.type "ValueError") = some true)
    (sL6 : PySem.W.subIn K (.ref C6) (.type "LookupError") = some false)
    (sK6 : PySem.W.subIn K (.ref C6) (.type "KeyError") = some false)
    (sI6 : PySem.W.subIn K (.ref C6) (.type "IndexError") = some false)
    (s60 : PySem.W.subIn K (.ref C6) (.ref C0) = some false)
    (s61 : PySem.W.subIn K (.ref C6) (.ref C1) = some false)
    (s62 : PySem.W.subIn K (.ref C6) (.ref C2) = some false)
    (s63 : PySem.W.subIn K (.ref C6) (.ref C3) = some false)
    (s64 : PySem.W.subIn K (.ref C6) (.ref C4) = some false)
    (s65 : PySem.W.subIn K (.ref C6) (.ref C5) = some false)
    (s67 : PySem.W.subIn K (.ref C6) (.ref C7) = some false)
    (aC7 : PySem.W.nsIn K mainGlobals "UnknownName" = some (some (.ref C7)))
    (xL7 : K.lookup C7 = some (excClassObj nm7 q7 C7 N7 bs7 (.ref cn :: [.type "LookupError", .type "Exception", .type "BaseException", .type "object"]) true sn7 sub7 ab7 col7 dd7 k07 k17 k27 k37 k57 "LookupError.__new__"))
    (sa7 : PySem.W.findIn K (.ref C7) "__setattr__" = some (some (.builtin "object.__setattr__")))
    (kC7 : PySem.W.keepIn K (.ref C7) = true)
    (ga7 : PySem.W.findIn K (.ref C7) "__getattribute__" = some (some (.builtin "BaseException.__getattribute__")))
    (gt7 : PySem.W.findIn K (.ref C7) "__getattr__" = some none)
    (su7 : PySem.W.subIn K (.ref C7) (.type "BaseException") = some true)
    (ca7 : PySem.W.findIn K (.ref C7) "__class__" = some (some (.builtin "object.__class__")))
    (cm7 : PySem.W.mroIn K C7 (.type "object") = some true)
    (hd7 : PySem.W.hasDictIn K C7 = true)
    (tC7 : PySem.W.typeIn K (.ref C7) = some (.type "type"))
    (sF7 : PySem.W.subIn K (.ref C7) (.ref cf) = some false)
    (sN7 : PySem.W.subIn K (.ref C7) (.ref cn) = some true)
    (sV7 : PySem.W.subIn K (.ref C7) (.type "ValueError") = some false)
    (sL7 : PySem.W.subIn K (.ref C7) (.type "LookupError") = some true)
    (sK7 : PySem.W.subIn K (.ref C7) (.type "KeyError") = some false)
    (sI7 : PySem.W.subIn K (.ref C7) (.type "IndexError") = some false)
    (s70 : PySem.W.subIn K (.ref C7) (.ref C0) = some false)
    (s71 : PySem.W.subIn K (.ref C7) (.ref C1) = some false)
    (s72 : PySem.W.subIn K (.ref C7) (.ref C2) = some false)
    (s73 : PySem.W.subIn K (.ref C7) (.ref C3) = some false)
    (s74 : PySem.W.subIn K (.ref C7) (.ref C4) = some false)
    (s75 : PySem.W.subIn K (.ref C7) (.ref C5) = some false)
    (s76 : PySem.W.subIn K (.ref C7) (.ref C6) = some false)
    (iC7 : PySem.W.findIn K (.ref C7) "__init__" = some (some (.ref fI7)))
    (tI7 : PySem.W.typeIn K (.ref fI7) = some (.type "function"))
    (lI7 : K.lookup fI7 = some ⟨ocI7, odI7, .func (PySem.W.fnOf "__init__" "UnknownName.__init__" (defArgs (sI 10)) (defBody (sI 10)) (defScope (sI 10)) .none kVI7 dcI7 pmI7 anI7 cdI7 ctI7), slI7⟩)
    (cI7 : PySem.W.codeIn K cdI7 "UnknownName.__init__" = true)
    (kI7 : PySem.W.keepIn K (.ref fI7) = true)
    (nF7 : PySem.W.findIn K (.ref C7) "name" = some none)
    (cN : PySem.W.specialIn K (.builtin "object.__class__") "__get__" = some (some (.builtin "getset_descriptor.__get__")))
    (cT : PySem.W.takesIn K (.builtin "object.__class__") = some true)
    (a0 : PySem.W.nsIn K mainGlobals "_law_source" = some (some (.ref f0)))
    (l0 : K.lookup f0 = some ⟨oc0, od0, .func (PySem.W.fnOf "_law_source" "_law_source" (defArgs sSource) (defBody sSource) (defScope sSource) .none kV0 dc0 pm0 an0 cd0 ct0), sl0⟩)
    (c0 : PySem.W.codeIn K cd0 "_law_source" = true)
    (k0 : PySem.W.keepIn K (.ref f0) = true)
    (a1 : PySem.W.nsIn K mainGlobals "_law_pick" = some (some (.ref f1)))
    (l1 : K.lookup f1 = some ⟨oc1, od1, .func (PySem.W.fnOf "_law_pick" "_law_pick" (defArgs sPick) (defBody sPick) (defScope sPick) .none kV1 dc1 pm1 an1 cd1 ct1), sl1⟩)
    (c1 : PySem.W.codeIn K cd1 "_law_pick" = true)
    (k1 : PySem.W.keepIn K (.ref f1) = true)
    (a2 : PySem.W.nsIn K mainGlobals "_law_kinds" = some (some (.ref f2)))
    (l2 : K.lookup f2 = some ⟨oc2, od2, .func (PySem.W.fnOf "_law_kinds" "_law_kinds" (defArgs sKinds) (defBody sKinds) (defScope sKinds) .none kV2 dc2 pm2 an2 cd2 ct2), sl2⟩)
    (c2 : PySem.W.codeIn K cd2 "_law_kinds" = true)
    (k2 : PySem.W.keepIn K (.ref f2) = true)
    (a3 : PySem.W.nsIn K mainGlobals "_law_bases" = some (some (.ref f3)))
    (l3 : K.lookup f3 = some ⟨oc3, od3, .func (PySem.W.fnOf "_law_bases" "_law_bases" (defArgs sBases) (defBody sBases) (defScope sBases) .none kV3 dc3 pm3 an3 cd3 ct3), sl3⟩)
    (c3 : PySem.W.codeIn K cd3 "_law_bases" = true)
    (k3 : PySem.W.keepIn K (.ref f3) = true)
    (a4 : PySem.W.nsIn K mainGlobals "_law_every" = some (some (.ref f4)))
    (l4 : K.lookup f4 = some ⟨oc4, od4, .func (PySem.W.fnOf "_law_every" "_law_every" (defArgs sEvery) (defBody sEvery) (defScope sEvery) .none kV4 dc4 pm4 an4 cd4 ct4), sl4⟩)
    (c4 : PySem.W.codeIn K cd4 "_law_every" = true)
    (k4 : PySem.W.keepIn K (.ref f4) = true)
    (a5 : PySem.W.nsIn K mainGlobals "_law_kept" = some (some (.ref f5)))
    (l5 : K.lookup f5 = some ⟨oc5, od5, .func (PySem.W.fnOf "_law_kept" "_law_kept" (defArgs sKept) (defBody sKept) (defScope sKept) .none kV5 dc5 pm5 an5 cd5 ct5), sl5⟩)
    (c5 : PySem.W.codeIn K cd5 "_law_kept" = true)
    (k5 : PySem.W.keepIn K (.ref f5) = true)
    (a6 : PySem.W.nsIn K mainGlobals "law" = some (some (.ref f6)))
    (l6 : K.lookup f6 = some ⟨oc6, od6, .func (PySem.W.fnOf "law" "law" (defArgs sLaw) (defBody sLaw) (defScope sLaw) .none kV6 dc6 pm6 an6 cd6 ct6), sl6⟩)
    (c6 : PySem.W.codeIn K cd6 "law" = true)
    (k6 : PySem.W.keepIn K (.ref f6) = true)
    (z_abs : PySem.W.nsIn K mainGlobals "abs" = some none)
    (z_int : PySem.W.nsIn K mainGlobals "int" = some none)
    (z_len : PySem.W.nsIn K mainGlobals "len" = some none)
    (z_max : PySem.W.nsIn K mainGlobals "max" = some none)
    (z_range : PySem.W.nsIn K mainGlobals "range" = some none)
    (z_repr : PySem.W.nsIn K mainGlobals "repr" = some none)
    (z_tuple : PySem.W.nsIn K mainGlobals "tuple" = some none)
    (z_isinstance : PySem.W.nsIn K mainGlobals "isinstance" = some none)
    (z_ValueError : PySem.W.nsIn K mainGlobals "ValueError" = some none)
    (z_LookupError : PySem.W.nsIn K mainGlobals "LookupError" = some none)
    (z_KeyError : PySem.W.nsIn K mainGlobals "KeyError" = some none)
    (z_IndexError : PySem.W.nsIn K mainGlobals "IndexError" = some none)
    (x2 : PySem.W.excIn K C2 [.type "ValueError", .type "Exception", .type "BaseException", .type "object"] "ValueError.__new__" = true)
    (x6 : PySem.W.excIn K C6 [.type "ValueError", .type "Exception", .type "BaseException", .type "object"] "ValueError.__new__" = true)
    (nd : [C0, C1, C2, C3, C4, C5, C6, C7, cf, cn].Nodup)
    : ∃ fd : FuncData, (∀ (s : Shared) (v : Value), BindsTo s fd ⟨[v], []⟩ [("script", v)]) ∧ ∀ base : Heap, K.In base → base.Ns mainGlobals mg → FnG l.prog w K mg base CX0 4 fa fd ["script"] (spLaw K) := by
  have e := hfa.symm.trans (PySem.W.mg_of X G a6)
  cases e
  have T0 : ExK K C0 "ValueError" "ValueError.__new__" "ValueError.__init__" [.type "ValueError", .type "Exception", .type "BaseException", .type "object"] := ⟨PySem.F.excBase_ValueError, ⟨_, _, _, _, _, _, _, _, _, _, _, _, _, _, _, xL0, by show (([.type "ValueError", .type "Exception", .type "BaseException", .type "object"] : List Value) == [.type "ValueError", .type "Exception", .type "BaseException", .type "object"]) = true; decide +kernel⟩, sa0, kC0, ga0, gt0, su0, ca0, cN, cT, cm0⟩
  have T1 : ExK K C1 "ValueError" "ValueError.__new__" "ValueError.__init__" [.type "ValueError", .type "Exception", .type "BaseException", .type "object"] := ⟨PySem.F.excBase_ValueError, ⟨_, _, _, _, _, _, _, _, _, _, _, _, _, _, _, xL1, by show (([.type "ValueError", .type "Exception", .type "BaseException", .type "object"] : List Value) == [.type "ValueError", .type "Exception", .type "BaseException", .type "object"]) = true; decide +kernel⟩, sa1, kC1, ga1, gt1, su1, ca1, cN, cT, cm1⟩
  have T2 : ExK K C2 "ValueError" "ValueError.__new__" "ValueError.__init__" [.type "ValueError", .type "Exception", .type "BaseException", .type "object"] := ⟨PySem.F.excBase_ValueError, ⟨_, _, _, _, _, _, _, _, _, _, _, _, _, _, _, xL2, by show (([.type "ValueError", .type "Exception", .type "BaseException", .type "object"] : List Value) == [.type "ValueError", .type "Exception", .type "BaseException", .type "object"]) = true; decide +kernel⟩, sa2, kC2, ga2, gt2, su2, ca2, cN, cT, cm2⟩
  have T3 : ExK K C3 "ValueError" "ValueError.__new__" "ValueError.__init__" [.type "ValueError", .type "Exception", .type "BaseException", .type "object"] := ⟨PySem.F.excBase_ValueError, ⟨_, _, _, _, _, _, _, _, _, _, _, _, _, _, _, xL3, by show (([.type "ValueError", .type "Exception", .type "BaseException", .type "object"] : List Value) == [.type "ValueError", .type "Exception", .type "BaseException", .type "object"]) = true; decide +kernel⟩, sa3, kC3, ga3, gt3, su3, ca3, cN, cT, cm3⟩
  have T4 : ExK K C4 "ValueError" "ValueError.__new__" "ValueError.__init__" [.type "ValueError", .type "Exception", .type "BaseException", .type "object"] := ⟨PySem.F.excBase_ValueError, ⟨_, _, _, _, _, _, _, _, _, _, _, _, _, _, _, xL4, by show (([.type "ValueError", .type "Exception", .type "BaseException", .type "object"] : List Value) == [.type "ValueError", .type "Exception", .type "BaseException", .type "object"]) = true; decide +kernel⟩, sa4, kC4, ga4, gt4, su4, ca4, cN, cT, cm4⟩
  have T5 : ExK K C5 "ValueError" "ValueError.__new__" "ValueError.__init__" [.type "ValueError", .type "Exception", .type "BaseException", .type "object"] := ⟨PySem.F.excBase_ValueError, ⟨_, _, _, _, _, _, _, _, _, _, _, _, _, _, _, xL5, by show (([.type "ValueError", .type "Exception", .type "BaseException", .type "object"] : List Value) == [.type "ValueError", .type "Exception", .type "BaseException", .type "object"]) = true; decide +kernel⟩, sa5, kC5, ga5, gt5, su5, ca5, cN, cT, cm5⟩
  have T6 : ExK K C6 "ValueError" "ValueError.__new__" "ValueError.__init__" [.type "ValueError", .type "Exception", .type "BaseException", .type "object"] := ⟨PySem.F.excBase_ValueError, ⟨_, _, _, _, _, _, _, _, _, _, _, _, _, _, _, xL6, by show (([.type "ValueError", .type "Exception", .type "BaseException", .type "object"] : List Value) == [.type "ValueError", .type "Exception", .type "BaseException", .type "object"]) = true; decide +kernel⟩, sa6, kC6, ga6, gt6, su6, ca6, cN, cT, cm6⟩
  have T7 : ExK K C7 "LookupError" "LookupError.__new__" "LookupError.__init__" [.type "LookupError", .type "Exception", .type "BaseException", .type "object"] := ⟨PySem.F.excBase_LookupError, ⟨_, _, _, _, _, _, _, _, _, _, _, _, _, _, _, xL7, by show (([.type "LookupError", .type "Exception", .type "BaseException", .type "object"] : List Value) == [.type "LookupError", .type "Exception", .type "BaseException", .type "object"]) = true; decide +kernel⟩, sa7, kC7, ga7, gt7, su7, ca7, cN, cT, cm7⟩
  simp only [List.nodup_cons, List.mem_cons, List.not_mem_nil, or_false, not_or, List.nodup_nil, and_true, not_false_eq_true] at nd
  obtain ⟨⟨n0_1, n0_2, n0_3, n0_4, n0_5, n0_6, n0_7, n0_8, n0_9⟩, ⟨n1_2, n1_3, n1_4, n1_5, n1_6, n1_7, n1_8, n1_9⟩, ⟨n2_3, n2_4, n2_5, n2_6, n2_7, n2_8, n2_9⟩, ⟨n3_4, n3_5, n3_6, n3_7, n3_8, n3_9⟩, ⟨n4_5, n4_6, n4_7, n4_8, n4_9⟩, ⟨n5_6, n5_7, n5_8, n5_9⟩, ⟨n6_7, n6_8, n6_9⟩, ⟨n7_8, n7_9⟩, n8_9⟩ := nd
  have T : Cls K mg (cAt C0 C1 C2 C3 C4 C5 C6 C7) cf cn := by
    constructor
    · intro i hi
      match i, hi with
      | 0, _ => exact T0
      | 1, _ => exact T1
      | 2, _ => exact T2
      | 3, _ => exact T3
      | 4, _ => exact T4
      | 5, _ => exact T5
      | 6, _ => exact T6
    · exact T7
    · intro i hi
      match i, hi with
      | 0, _ => exact hd0
      | 1, _ => exact hd1
      | 2, _ => exact hd2
      | 3, _ => exact hd3
      | 4, _ => exact hd4
      | 5, _ => exact hd5
      | 6, _ => exact hd6
      | 7, _ => exact hd7
    · exact PySem.W.mg_of X G aC0
    · exact PySem.W.mg_of X G aC1
    · exact PySem.W.mg_of X G aC2
    · exact PySem.W.mg_of X G aC3
    · exact PySem.W.mg_of X G aC4
    · exact PySem.W.mg_of X G aC5
    · exact PySem.W.mg_of X G aC6
    · exact PySem.W.mg_of X G aC7
    · exact PySem.W.mg_of X G aF
    · exact PySem.W.mg_of X G aN
    · exact x2
    · exact x6
    · intro i j hi hj
      match i, hi, j, hj with
      | 0, _, 0, _ => exact kit_self
      | 0, _, 1, _ => exact kit_own n0_1 T1.isCls tC1 s01
      | 0, _, 2, _ => exact kit_own n0_2 T2.isCls tC2 s02
      | 0, _, 3, _ => exact kit_own n0_3 T3.isCls tC3 s03
      | 0, _, 4, _ => exact kit_own n0_4 T4.isCls tC4 s04
      | 0, _, 5, _ => exact kit_own n0_5 T5.isCls tC5 s05
      | 0, _, 6, _ => exact kit_own n0_6 T6.isCls tC6 s06
      | 0, _, 7, _ => exact kit_own n0_7 T7.isCls tC7 s07
      | 1, _, 0, _ => exact kit_own (Ne.symm n0_1) T0.isCls tC0 s10
      | 1, _, 1, _ => exact kit_self
      | 1, _, 2, _ => exact kit_own n1_2 T2.isCls tC2 s12
      | 1, _, 3, _ => exact kit_own n1_3 T3.isCls tC3 s13
      | 1, _, 4, _ => exact kit_own n1_4 T4.isCls tC4 s14
      | 1, _, 5, _ => exact kit_own n1_5 T5.isCls tC5 s15
      | 1, _, 6, _ => exact kit_own n1_6 T6.isCls tC6 s16
      | 1, _, 7, _ => exact kit_own n1_7 T7.isCls tC7 s17
      | 2, _, 0, _ => exact kit_own (Ne.symm n0_2) T0.isCls tC0 s20
      | 2, _, 1, _ => exact kit_own (Ne.symm n1_2) T1.isCls tC1 s21
      | 2, _, 2, _ => exact kit_self
      | 2, _, 3, _ => exact kit_own n2_3 T3.isCls tC3 s23
      | 2, _, 4, _ => exact kit_own n2_4 T4.isCls tC4 s24
      | 2, _, 5, _ => exact kit_own n2_5 T5.isCls tC5 s25
      | 2, _, 6, _ => exact kit_own n2_6 T6.isCls tC6 s26
      | 2, _, 7, _ => exact kit_own n2_7 T7.isCls tC7 s27
      | 3, _, 0, _ => exact kit_own (Ne.symm n0_3) T0.isCls tC0 s30
      | 3, _, 1, _ => exact kit_own (Ne.symm n1_3) T1.isCls tC1 s31
      | 3, _, 2, _ => exact kit_own (Ne.symm n2_3) T2.isCls tC2 s32
      | 3, _, 3, _ => exact kit_self
      | 3, _, 4, _ => exact kit_own n3_4 T4.isCls tC4 s34
      | 3, _, 5, _ => exact kit_own n3_5 T5.isCls tC5 s35
      | 3, _, 6, _ => exact kit_own n3_6 T6.isCls tC6 s36
      | 3, _, 7, _ => exact kit_own n3_7 T7.isCls tC7 s37
      | 4, _, 0, _ => exact kit_own (Ne.symm n0_4) T0.isCls tC0 s40
      | 4, _, 1, _ => exact kit_own (Ne.symm n1_4) T1.isCls tC1 s41
      | 4, _, 2, _ => exact kit_own (Ne.symm n2_4) T2.isCls tC2 s42
      | 4, _, 3, _ => exact kit_own (Ne.symm n3_4) T3.isCls tC3 s43
      | 4, _, 4, _ => exact kit_self
      | 4, _, 5, _ => exact kit_own n4_5 T5.isCls tC5 s45
      | 4, _, 6, _ => exact kit_own n4_6 T6.isCls tC6 s46
      | 4, _, 7, _ => exact kit_own n4_7 T7.isCls tC7 s47
      | 5, _, 0, _ => exact kit_own (Ne.symm n0_5) T0.isCls tC0 s50
      | 5, _, 1, _ => exact kit_own (Ne.symm n1_5) T1.isCls tC1 s51
      | 5, _, 2, _ => exact kit_own (Ne.symm n2_5) T2.isCls tC2 s52
      | 5, _, 3, _ => exact kit_own (Ne.symm n3_5) T3.isCls tC3 s53
      | 5, _, 4, _ => exact kit_own (Ne.symm n4_5) T4.isCls tC4 s54
      | 5, _, 5, _ => exact kit_self
      | 5, _, 6, _ => exact kit_own n5_6 T6.isCls tC6 s56
      | 5, _, 7, _ => exact kit_own n5_7 T7.isCls tC7 s57
      | 6, _, 0, _ => exact kit_own (Ne.symm n0_6) T0.isCls tC0 s60
      | 6, _, 1, _ => exact kit_own (Ne.symm n1_6) T1.isCls tC1 s61
      | 6, _, 2, _ => exact kit_own (Ne.symm n2_6) T2.isCls tC2 s62
      | 6, _, 3, _ => exact kit_own (Ne.symm n3_6) T3.isCls tC3 s63
      | 6, _, 4, _ => exact kit_own (Ne.symm n4_6) T4.isCls tC4 s64
      | 6, _, 5, _ => exact kit_own (Ne.symm n5_6) T5.isCls tC5 s65
      | 6, _, 6, _ => exact kit_self
      | 6, _, 7, _ => exact kit_own n6_7 T7.isCls tC7 s67
      | 7, _, 0, _ => exact kit_own (Ne.symm n0_7) T0.isCls tC0 s70
      | 7, _, 1, _ => exact kit_own (Ne.symm n1_7) T1.isCls tC1 s71
      | 7, _, 2, _ => exact kit_own (Ne.symm n2_7) T2.isCls tC2 s72
      | 7, _, 3, _ => exact kit_own (Ne.symm n3_7) T3.isCls tC3 s73
      | 7, _, 4, _ => exact kit_own (Ne.symm n4_7) T4.isCls tC4 s74
      | 7, _, 5, _ => exact kit_own (Ne.symm n5_7) T5.isCls tC5 s75
      | 7, _, 6, _ => exact kit_own (Ne.symm n6_7) T6.isCls tC6 s76
      | 7, _, 7, _ => exact kit_self
    · intro i hi
      match i, hi with
      | 0, _ => exact kit_ownC n0_8 qF tF sF0
      | 1, _ => exact kit_ownC n1_8 qF tF sF1
      | 2, _ => exact kit_ownC n2_8 qF tF sF2
      | 3, _ => exact kit_ownC n3_8 qF tF sF3
      | 4, _ => exact kit_ownC n4_8 qF tF sF4
      | 5, _ => exact kit_ownC n5_8 qF tF sF5
      | 6, _ => exact kit_ownC n6_8 qF tF sF6
      | 7, _ => exact kit_ownC n7_8 qF tF sF7
    · intro i hi
      match i, hi with
      | 0, _ => exact kit_ownC n0_9 qN tN sN0
      | 1, _ => exact kit_ownC n1_9 qN tN sN1
      | 2, _ => exact kit_ownC n2_9 qN tN sN2
      | 3, _ => exact kit_ownC n3_9 qN tN sN3
      | 4, _ => exact kit_ownC n4_9 qN tN sN4
      | 5, _ => exact kit_ownC n5_9 qN tN sN5
      | 6, _ => exact kit_ownC n6_9 qN tN sN6
      | 7, _ => exact kit_ownC n7_9 qN tN sN7
    · intro i hi
      match i, hi with
      | 0, _ => exact kit_blt (by decide +kernel) sV0
      | 1, _ => exact kit_blt (by decide +kernel) sV1
      | 2, _ => exact kit_blt (by decide +kernel) sV2
      | 3, _ => exact kit_blt (by decide +kernel) sV3
      | 4, _ => exact kit_blt (by decide +kernel) sV4
      | 5, _ => exact kit_blt (by decide +kernel) sV5
      | 6, _ => exact kit_blt (by decide +kernel) sV6
      | 7, _ => exact kit_blt (by decide +kernel) sV7
    · intro i hi
      match i, hi with
      | 0, _ => exact kit_blt (by decide +kernel) sL0
      | 1, _ => exact kit_blt (by decide +kernel) sL1
      | 2, _ => exact kit_blt (by decide +kernel) sL2
      | 3, _ => exact kit_blt (by decide +kernel) sL3
      | 4, _ => exact kit_blt (by decide +kernel) sL4
      | 5, _ => exact kit_blt (by decide +kernel) sL5
      | 6, _ => exact kit_blt (by decide +kernel) sL6
      | 7, _ => exact kit_blt (by decide +kernel) sL7
    · intro i hi
      match i, hi with
      | 0, _ => exact kit_blt (by decide +kernel) sK0
      | 1, _ => exact kit_blt (by decide +kernel) sK1
      | 2, _ => exact kit_blt (by decide +kernel) sK2
      | 3, _ => exact kit_blt (by decide +kernel) sK3
      | 4, _ => exact kit_blt (by decide +kernel) sK4
      | 5, _ => exact kit_blt (by decide +kernel) sK5
      | 6, _ => exact kit_blt (by decide +kernel) sK6
      | 7, _ => exact kit_blt (by decide +kernel) sK7
    · intro i hi
      match i, hi with
      | 0, _ => exact kit_blt (by decide +kernel) sI0
      | 1, _ => exact kit_blt (by decide +kernel) sI1
      | 2, _ => exact kit_blt (by decide +kernel) sI2
      | 3, _ => exact kit_blt (by decide +kernel) sI3
      | 4, _ => exact kit_blt (by decide +kernel) sI4
      | 5, _ => exact kit_blt (by decide +kernel) sI5
      | 6, _ => exact kit_blt (by decide +kernel) sI6
      | 7, _ => exact kit_blt (by decide +kernel) sI7
  have F0 := fun_mk (st := sSource) l0 c0 k0
  have m0 := PySem.W.mg_of X G a0
  have b0 := F0.binds (ps := ["script"]) fun _ _ _ _ _ _ us hl => match us, hl with | [_], _ => rfl
  have F1 := fun_mk (st := sPick) l1 c1 k1
  have m1 := PySem.W.mg_of X G a1
  have b1 := F1.binds (ps := ["source", "many"]) fun _ _ _ _ _ _ us hl => match us, hl with | [_, _], _ => rfl
  have F2 := fun_mk (st := sKinds) l2 c2 k2
  have m2 := PySem.W.mg_of X G a2
  have b2 := F2.binds (ps := ["e"]) fun _ _ _ _ _ _ us hl => match us, hl with | [_], _ => rfl
  have F3 := fun_mk (st := sBases) l3 c3 k3
  have m3 := PySem.W.mg_of X G a3
  have b3 := F3.binds (ps := ["e"]) fun _ _ _ _ _ _ us hl => match us, hl with | [_], _ => rfl
  have F4 := fun_mk (st := sEvery) l4 c4 k4
  have m4 := PySem.W.mg_of X G a4
  have b4 := F4.binds (ps := ["word", "number", "some", "name"]) fun _ _ _ _ _ _ us hl => match us, hl with | [_, _, _, _], _ => rfl
  have F5 := fun_mk (st := sKept) l5 c5 k5
  have m5 := PySem.W.mg_of X G a5
  have b5 := F5.binds (ps := ["every", "word", "number", "some", "name"]) fun _ _ _ _ _ _ us hl => match us, hl with | [_, _, _, _, _], _ => rfl
  have F6 := fun_mk (st := sLaw) l6 c6 k6
  have w_abs := PySem.W.mg_none_of X G z_abs
  have w_int := PySem.W.mg_none_of X G z_int
  have w_len := PySem.W.mg_none_of X G z_len
  have w_max := PySem.W.mg_none_of X G z_max
  have w_range := PySem.W.mg_none_of X G z_range
  have w_repr := PySem.W.mg_none_of X G z_repr
  have w_tuple := PySem.W.mg_none_of X G z_tuple
  have w_isinstance := PySem.W.mg_none_of X G z_isinstance
  have w_ValueError := PySem.W.mg_none_of X G z_ValueError
  have w_LookupError := PySem.W.mg_none_of X G z_LookupError
  have w_KeyError := PySem.W.mg_none_of X G z_KeyError
  have w_IndexError := PySem.W.mg_none_of X G z_IndexError
  refine ⟨PySem.W.fnOf "law" "law" (defArgs sLaw) (defBody sLaw) (defScope sLaw) .none kV6 dc6 pm6 an6 cd6 ct6, fun s v => .of_eq rfl, fun base _ _ => ?_⟩
  have FI0 := fun_mk (st := sI 2) lI0 cI0 kI0
  have bI0 := FI0.binds (ps := ["self", "place"]) fun _ _ _ _ _ _ us hl => match us, hl with | [_, _], _ => rfl
  have D0 : MkD l.prog w K mg base C0 ["self", "place"] (spIni C0 "place") := ⟨fI0, _, iC0, tI0, ok_i2 FI0 T0 nF0, bI0⟩
  have FI1 := fun_mk (st := sI 3) lI1 cI1 kI1
  have bI1 := FI1.binds (ps := ["self", "path"]) fun _ _ _ _ _ _ us hl => match us, hl with | [_, _], _ => rfl
  have D1 : MkD l.prog w K mg base C1 ["self", "path"] (spIniT K C1) := ⟨fI1, _, iC1, tI1, ok_i3 FI1 T1 nF1 w_tuple, bI1⟩
  have FI3 := fun_mk (st := sI 5) lI3 cI3 kI3
  have bI3 := FI3.binds (ps := ["self", "step"]) fun _ _ _ _ _ _ us hl => match us, hl with | [_, _], _ => rfl
  have D3 : MkD l.prog w K mg base C3 ["self", "step"] (spIni C3 "step") := ⟨fI3, _, iC3, tI3, ok_i5 FI3 T3 nF3, bI3⟩
  have FI4 := fun_mk (st := sI 6) lI4 cI4 kI4
  have bI4 := FI4.binds (ps := ["self", "word"]) fun _ _ _ _ _ _ us hl => match us, hl with | [_, _], _ => rfl
  have D4 : MkD l.prog w K mg base C4 ["self", "word"] (spIni C4 "word") := ⟨fI4, _, iC4, tI4, ok_i6 FI4 T4 nF4, bI4⟩
  have FI5 := fun_mk (st := sI 7) lI5 cI5 kI5
  have bI5 := FI5.binds (ps := ["self", "word"]) fun _ _ _ _ _ _ us hl => match us, hl with | [_, _], _ => rfl
  have D5 : MkD l.prog w K mg base C5 ["self", "word"] (spIni C5 "word") := ⟨fI5, _, iC5, tI5, ok_i7 FI5 T5 nF5, bI5⟩
  have FI7 := fun_mk (st := sI 10) lI7 cI7 kI7
  have bI7 := FI7.binds (ps := ["self", "name"]) fun _ _ _ _ _ _ us hl => match us, hl with | [_, _], _ => rfl
  have D7 : MkD l.prog w K mg base C7 ["self", "name"] (spIni C7 "name") := ⟨fI7, _, iC7, tI7, ok_i10 FI7 T7 nF7, bI7⟩
  have dSrc := Def.of F0 (ok_source (P := l.prog) (w := w) (base := base) F0 ⟨w_abs, w_int, w_len, w_max⟩) b0 m0
  have dPick := Def.of F1 (ok_pick (P := l.prog) (w := w) (base := base) F1 ⟨w_abs, w_int, w_len, w_max⟩) b1 m1
  have dKinds := Def.of F2 (ok_kinds (P := l.prog) (w := w) (base := base) F2 T w_isinstance) b2 m2
  have dBases := Def.of F3 (ok_bases (P := l.prog) (w := w) (base := base) F3 T w_isinstance w_ValueError w_LookupError w_KeyError w_IndexError) b3 m3
  have dEvery := Def.of F4 (ok_every F4 T D0 D1 D3 D4 D5 D7) b4 m4
  have dKept := DefG.of F5 (ok_kept (P := l.prog) (w := w) (base := base) F5 T ⟨nF0, nF1, nF3, nF4, nF5, nF7⟩ ⟨w_repr, w_tuple⟩) b5 m5
  exact ok_law F6 ⟨w_len, w_range, w_int⟩ dSrc dPick dKinds dBases dEvery dKept
theorem walk_law {l : PySem.W.OpenLaw} {q : Program} {loose : List Str} {XP : (Str → Option Value) → Heap → Prop} {YP : World → Heap → Prop} {d : DefRec} {K : Params → PySem.W.Frag} (hn : l.most = some 63) (hdf : d.params.defaults = [])
    (hY : ∀ (w : World) (h : Heap), YP w h → (K w.params).In h)
    (F : ∀ (w : World) (mg : Str → Option Value) (fa : Addr) (h : Heap), (K w.params).In h → h.Ns mainGlobals mg → mg d.name = some (.ref fa) →
      ∃ fd : FuncData, (∀ (s : Shared) (u : Value), BindsTo s fd ⟨[u], []⟩ [("script", u)]) ∧ ∀ base : Heap, (K w.params).In base → base.Ns mainGlobals mg → FnG l.prog w (K w.params) mg base CX0 4 fa fd ["script"] (spLaw (K w.params))) :
    PySem.W.WalkO q loose XP YP l.row.toRowW d [] (fun f vs => PySem.call f vs) :=
  walk_G (n := 63) (k := 4) (x := "script") (CX := fun _ => CX0) (sp := fun w => spLaw (K w.params)) hn (by decide) hdf ⟨rfl, by decide, by decide⟩ hY F
    (fun _ _ a ns hl hz _ hS => ⟨a, ns, rfl, hS, hl, hz, fun _ => rfl⟩) fun _ _ _ _ _ z => z
end Kx
open PySem PySem.W PyProof.Rows
set_option maxRecDepth 100000 in
set_option maxHeartbeats 0 in
theorem PySem.Challenge.cw_figureclaims_k00_errors_holds : PySem.Challenge.rw_figureclaims_k00_errors.Holds := by
  w_on; o_law; k_head; (case hw => w_witness2)
  k_fill
  refine Kx.walk_law (l := PySem.Challenge.rw_figureclaims_k00_errors) rfl rfl (fun w h Y => PySem.W.kIn_of Y) ?F
  case F =>
    intro w mg fa h KX G hmg
    refine' Kx.all_mk KX G hmg ?aF ?aN ?qF ?qN ?tF ?tN ?aC0 ?xL0 ?sa0 ?kC0 ?ga0 ?gt0 ?su0 ?ca0 ?cm0 ?hd0 ?tC0 ?sF0 ?sN0 ?sV0 ?sL0 ?sK0 ?sI0 ?s01 ?s02 ?s03 ?s04 ?s05 ?s06 ?s07 ?iC0 ?tI0 ?lI0 ?cI0 ?kI0 ?nF0 ?aC1 ?xL1 ?sa1 ?kC1 ?ga1 ?gt1 ?su1 ?ca1 ?cm1 ?hd1 ?tC1 ?sF1 ?sN1 ?sV1 ?sL1 ?sK1 ?sI1 ?s10 ?s12 ?s13 ?s14 ?s15 ?s16 ?s17 ?iC1 ?tI1 ?lI1 ?cI1 ?kI1 ?nF1 ?aC2 ?xL2 ?sa2 ?kC2 ?ga2 ?gt2 ?su2 ?ca2 ?cm2 ?hd2 ?tC2 ?sF2 ?sN2 ?sV2 ?sL2 ?sK2 ?sI2 ?s20 ?s21 ?s23 ?s24 ?s25 ?s26 ?s27 ?aC3 ?xL3 ?sa3 ?kC3 ?ga3 ?gt3 ?su3 ?ca3 ?cm3 ?hd3 ?tC3 ?sF3 ?sN3 ?sV3 ?sL3 ?sK3 ?sI3 ?s30 ?s31 ?s32 ?s34 ?s35 ?s36 ?s37 ?iC3 ?tI3 ?lI3 ?cI3 ?kI3 ?nF3 ?aC4 ?xL4 ?sa4 ?kC4 ?ga4 ?gt4 ?su4 ?ca4 ?cm4 ?hd4 ?tC4 ?sF4 ?sN4 ?sV4 ?sL4 ?sK4 ?sI4 ?s40 ?s41 ?s42 ?s43 ?s45 ?s46 ?s47 ?iC4 ?tI4 ?lI4 ?cI4 ?kI4 ?nF4 ?aC5 ?xL5 ?sa5 ?kC5 ?ga5 ?gt5 ?su5 ?ca5 ?cm5 ?hd5 ?tC5 ?sF5 ?sN5 ?sV5 ?sL5 ?sK5 ?sI5 ?s50 ?s51 ?s52 ?s53 ?s54 ?s56 ?s57 ?iC5 ?tI5 ?lI5 ?cI5 ?kI5 ?nF5 ?aC6 ?xL6 ?sa6 ?kC6 ?ga6 ?gt6 ?su6 ?ca6 ?cm6 ?hd6 ?tC6 ?sF6 ?sN6 ?sV6 ?sL6 ?sK6 ?sI6 ?s60 ?s61 ?s62 ?s63 ?s64 ?s65 ?s67 ?aC7 ?xL7 ?sa7 ?kC7 ?ga7 ?gt7 ?su7 ?ca7 ?cm7 ?hd7 ?tC7 ?sF7 ?sN7 ?sV7 ?sL7 ?sK7 ?sI7 ?s70 ?s71 ?s72 ?s73 ?s74 ?s75 ?s76 ?iC7 ?tI7 ?lI7 ?cI7 ?kI7 ?nF7 ?cN ?cT ?a0 ?l0 ?c0 ?k0 ?a1 ?l1 ?c1 ?k1 ?a2 ?l2 ?c2 ?k2 ?a3 ?l3 ?c3 ?k3 ?a4 ?l4 ?c4 ?k4 ?a5 ?l5 ?c5 ?k5 ?a6 ?l6 ?c6 ?k6 ?z_abs ?z_int ?z_len ?z_max ?z_range ?z_repr ?z_tuple ?z_isinstance ?z_ValueError ?z_LookupError ?z_KeyError ?z_IndexError ?x2 ?x6 ?nd
    (case aF => k_is); (case aN => k_is); (case aC0 => k_is); (case aC1 => k_is); (case aC2 => k_is); (case aC3 => k_is)
    (case aC4 => k_is); (case aC5 => k_is); (case aC6 => k_is); (case aC7 => k_is); (case a0 => k_is); (case a1 => k_is)
    (case a2 => k_is); (case a3 => k_is); (case a4 => k_is); (case a5 => k_is); (case a6 => k_is); (case qF => k_is)
    (case qN => k_is); (case tF => k_is); (case tN => k_is); (case xL0 => k_is); (case sa0 => k_is); (case kC0 => k_is)
    (case ga0 => k_is); (case gt0 => k_is); (case su0 => k_is); (case ca0 => k_is); (case cm0 => k_is); (case hd0 => k_is)
    (case tC0 => k_is); (case sF0 => k_is); (case sN0 => k_is); (case sV0 => k_is); (case sL0 => k_is); (case sK0 => k_is)
    (case sI0 => k_is); (case s01 => k_is); (case s02 => k_is); (case s03 => k_is); (case s04 => k_is); (case s05 => k_is)
    (case s06 => k_is); (case s07 => k_is); (case iC0 => k_is); (case tI0 => k_is); (case lI0 => k_is); (case cI0 => k_is)
    (case kI0 => k_is); (case nF0 => k_is); (case xL1 => k_is); (case sa1 => k_is); (case kC1 => k_is); (case ga1 => k_is)
    (case gt1 => k_is); (case su1 => k_is); (case ca1 => k_is); (case cm1 => k_is); (case hd1 => k_is); (case tC1 => k_is)
    (case sF1 => k_is); (case sN1 => k_is); (case sV1 => k_is); (case sL1 => k_is); (case sK1 => k_is); (case sI1 => k_is)
    (case s10 => k_is); (case s12 => k_is); (case s13 => k_is); (case s14 => k_is); (case s15 => k_is); (case s16 => k_is)
    (case s17 => k_is); (case iC1 => k_is); (case tI1 => k_is); (case lI1 => k_is); (case cI1 => k_is); (case kI1 => k_is)
    (case nF1 => k_is); (case xL2 => k_is); (case sa2 => k_is); (case kC2 => k_is); (case ga2 => k_is); (case gt2 => k_is)
    (case su2 => k_is); (case ca2 => k_is); (case cm2 => k_is); (case hd2 => k_is); (case tC2 => k_is); (case sF2 => k_is)
    (case sN2 => k_is); (case sV2 => k_is); (case sL2 => k_is); (case sK2 => k_is); (case sI2 => k_is); (case s20 => k_is)
    (case s21 => k_is); (case s23 => k_is); (case s24 => k_is); (case s25 => k_is); (case s26 => k_is); (case s27 => k_is)
    (case xL3 => k_is); (case sa3 => k_is); (case kC3 => k_is); (case ga3 => k_is); (case gt3 => k_is); (case su3 => k_is)
    (case ca3 => k_is); (case cm3 => k_is); (case hd3 => k_is); (case tC3 => k_is); (case sF3 => k_is); (case sN3 => k_is)
    (case sV3 => k_is); (case sL3 => k_is); (case sK3 => k_is); (case sI3 => k_is); (case s30 => k_is); (case s31 => k_is)
    (case s32 => k_is); (case s34 => k_is); (case s35 => k_is); (case s36 => k_is); (case s37 => k_is); (case iC3 => k_is)
    (case tI3 => k_is); (case lI3 => k_is); (case cI3 => k_is); (case kI3 => k_is); (case nF3 => k_is); (case xL4 => k_is)
    (case sa4 => k_is); (case kC4 => k_is); (case ga4 => k_is); (case gt4 => k_is); (case su4 => k_is); (case ca4 => k_is)
    (case cm4 => k_is); (case hd4 => k_is); (case tC4 => k_is); (case sF4 => k_is); (case sN4 => k_is); (case sV4 => k_is)
    (case sL4 => k_is); (case sK4 => k_is); (case sI4 => k_is); (case s40 => k_is); (case s41 => k_is); (case s42 => k_is)
    (case s43 => k_is); (case s45 => k_is); (case s46 => k_is); (case s47 => k_is); (case iC4 => k_is); (case tI4 => k_is)
    (case lI4 => k_is); (case cI4 => k_is); (case kI4 => k_is); (case nF4 => k_is); (case xL5 => k_is); (case sa5 => k_is)
    (case kC5 => k_is); (case ga5 => k_is); (case gt5 => k_is); (case su5 => k_is); (case ca5 => k_is); (case cm5 => k_is)
    (case hd5 => k_is); (case tC5 => k_is); (case sF5 => k_is); (case sN5 => k_is); (case sV5 => k_is); (case sL5 => k_is)
    (case sK5 => k_is); (case sI5 => k_is); (case s50 => k_is); (case s51 => k_is); (case s52 => k_is); (case s53 => k_is)
    (case s54 => k_is); (case s56 => k_is); (case s57 => k_is); (case iC5 => k_is); (case tI5 => k_is); (case lI5 => k_is)
    (case cI5 => k_is); (case kI5 => k_is); (case nF5 => k_is); (case xL6 => k_is); (case sa6 => k_is); (case kC6 => k_is)
    (case ga6 => k_is); (case gt6 => k_is); (case su6 => k_is); (case ca6 => k_is); (case cm6 => k_is); (case hd6 => k_is)
    (case tC6 => k_is); (case sF6 => k_is); (case sN6 => k_is); (case sV6 => k_is); (case sL6 => k_is); (case sK6 => k_is)
    (case sI6 => k_is); (case s60 => k_is); (case s61 => k_is); (case s62 => k_is); (case s63 => k_is); (case s64 => k_is)
    (case s65 => k_is); (case s67 => k_is); (case xL7 => k_is); (case sa7 => k_is); (case kC7 => k_is); (case ga7 => k_is)
    (case gt7 => k_is); (case su7 => k_is); (case ca7 => k_is); (case cm7 => k_is); (case hd7 => k_is); (case tC7 => k_is)
    (case sF7 => k_is); (case sN7 => k_is); (case sV7 => k_is); (case sL7 => k_is); (case sK7 => k_is); (case sI7 => k_is)
    (case s70 => k_is); (case s71 => k_is); (case s72 => k_is); (case s73 => k_is); (case s74 => k_is); (case s75 => k_is)
    (case s76 => k_is); (case iC7 => k_is); (case tI7 => k_is); (case lI7 => k_is); (case cI7 => k_is); (case kI7 => k_is)
    (case nF7 => k_is); (case cN => k_is); (case cT => k_is); (case l0 => k_is); (case c0 => k_is); (case k0 => k_is)
    (case l1 => k_is); (case c1 => k_is); (case k1 => k_is); (case l2 => k_is); (case c2 => k_is); (case k2 => k_is)
    (case l3 => k_is); (case c3 => k_is); (case k3 => k_is); (case l4 => k_is); (case c4 => k_is); (case k4 => k_is)
    (case l5 => k_is); (case c5 => k_is); (case k5 => k_is); (case l6 => k_is); (case c6 => k_is); (case k6 => k_is)
    (case z_abs => k_is); (case z_int => k_is); (case z_len => k_is); (case z_max => k_is); (case z_range => k_is); (case z_repr => k_is)
    (case z_tuple => k_is); (case z_isinstance => k_is); (case z_ValueError => k_is); (case z_LookupError => k_is); (case z_KeyError => k_is); (case z_IndexError => k_is)
    (case x2 => k_exc); (case x6 => k_exc); (case nd => decide)
