import PyProof.Rows.All
import Wide.All
import OpenK.AllK
import Wide.FinOn
import HandS.ForMost
import HandS.Wide
import HandS.Gcd
import HandS.Style
import HandS.NoneIn
import HandS.EndBits
import HandS.Evl
import PySem.Challenge.RW_figureclaims_k11_fractions
set_option Elab.async false
set_option linter.all false
set_option maxRecDepth 100000
namespace Kx
open PySem PySem.Spec PyProof.Rows L2

/-! ### defs that show values: what they promise holds where no repr is under way -/
/-- the promise of a def, kept where nothing is being shown around the call -/
structure FnG (P : Program) (w : World) (K : PySem.W.Frag) (mg : Str → Option Value) (base : Heap) (CX : CXT)
    (k : Nat) (f : Addr) (fd : FuncData) (ps : List Str) (sp : Sp) : Prop where
  size : ∀ vs H Q E, sp vs H Q E → vs.length = ps.length
  go : ∀ (A : Around) (outer : List Env) (s : Shared) (H : Hp) (args : Args) (us : List Value) (vs : List V) (Q : VK) (E : XK),
    A.guards = some [] → Room k A → Env0 P w K mg base A outer s H → BindsTo s fd args (ps.zip us) → Vals vs us → sp vs H Q E →
    codeAny (model P w) A (.call (.ref f) args) (CR CX outer P w H s Q E) s

section
variable {P : Program} {w : World} {K : PySem.W.Frag} {mg : Str → Option Value} {base : Heap} {CX : CXT} {k : Nat} {f : Addr} {fd : FuncData} {ps : List Str} {sp : Sp}

theorem FnG.of (F : FnOk P w K mg base CX k f fd ps sp) : FnG P w K mg base CX k f fd ps sp :=
  ⟨F.len, fun A outer s H args us vs Q E _ => F.run A outer s H args us vs Q E⟩

theorem FnG.up {j : Nat} (F : FnG P w K mg base CX j f fd ps sp) (h : j ≤ k) : FnG P w K mg base CX k f fd ps sp :=
  ⟨F.size, fun A outer s H args us vs Q E hg hr => F.go A outer s H args us vs Q E hg (hr.mono h)⟩

/-- a def of the text, by its body, in a place where nothing is being shown -/
theorem okG {x qual : Str} {st : Stmt} {N : List Str} (F : L2.Fun K x qual st f fd) (S : FnScope N ps (defScope st))
    (len : ∀ vs H Q E, sp vs H Q E → vs.length = ps.length)
    (hbody : ∀ (cdv : Value) (A : Around) (outer : List Env) (s : Shared) (H : Hp) (vs : List V) (Q : VK) (E : XK),
      (A.deeper (envOfC qual (defScope st) s.heap.objs.size f cdv)).guards = some [] →
      Room k (A.deeper (envOfC qual (defScope st) s.heap.objs.size f cdv)) → sp vs H Q E →
      ∃ t, PSs (cxOf CX P w K mg base N qual (defScope st) f cdv A outer s H E).nox (defBody st) t ∧
        t { nx := fun _ H' => Q .non H', rt := Q } (start N vs) H) :
    FnG P w K mg base CX (k + 1) f fd ps sp := by
  obtain ⟨oc, od, kV, doc, pm, an, cdv, ct, osl, rfl, lk, hcd⟩ := F.ex
  refine ⟨len, ?_⟩
  intro A outer s H args us vs Q E hg hr e0 hb r hsp
  have inH : K.In s.heap := e0.mod.kin.keeps fun b o e => (e0.bs b o e).1
  have noL : s.heap.NoLimit := e0.mod.nolimit.keeps fun b o e => (e0.bs b o e).1
  have hks : ∀ y ∈ ps.zip us, (defScope st).names.lookup y.1 = some .local ∨
      ((defScope st).names.lookup y.1 = some .cell ∧ ((cellsFrom (s.heap.objs.size + 1) (defScope st).names []).lookup y.1).isSome = true) := by
    rintro ⟨n, v⟩ hy
    rcases S.par n (List.of_mem_zip hy).1 with q | q
    · exact Or.inl q
    · exact Or.inr ⟨q, PySem.W.cellsFrom_some _ _ _ (Or.inl q)⟩
  refine codeAny_call_function hr.depth (inH _ _ lk) rfl S.co S.gen rfl (PySem.W.codeRec_of inH hcd) (hb _ _ _ _ ?_)
  refine wpAny_newFunctionEnv_cells S.kind hks fun env he s1 x => ?_
  subst he
  refine ⟨noL.keeps x.toInCall.keep, codeAny_func ?_⟩
  obtain ⟨t, ht, hq⟩ := hbody cdv A outer s H vs Q E hg (hr.deeper _) hsp
  have I := inv_start (CX := CX) (P := P) (E := E) S hr.hd e0 (len _ _ _ _ hsp) r x
  refine wpAny_mono (ht.nox.run [] s1 (start N vs) H _ I hq) (fun fl s' hs => ?_) (fun e s' hs => hs)
  have out : ∀ {σ' : L2.St} {H' : Hp} {v : V} {u : Value},
      Inv (cxOf CX P w K mg base N qual (defScope st) f cdv A outer s H E) [] σ' H' s' → RelV v u → Q v H' → CE outer P w H s Q u s' := by
    intro σ' H' v u J rv q
    exact ⟨v, H', J.os, J.bare, J.base, J.hok, rv, q⟩
  match fl, hs with
  | .ret u, ⟨v, σ', H', J, rv, q⟩ => exact out J rv q
  | .next, ⟨σ', H', J, q⟩ => exact out (v := V.non) (u := Value.none) J rfl q
  | .brk, ⟨_, _, _, q⟩ => exact q.elim
  | .cont, ⟨_, _, _, q⟩ => exact q.elim
end

section
variable {X : Cx} {CX : CXT} {k : Nat} {f : Addr} {fd : FuncData} {ps : List Str} {sp : Sp} {dvs : List V} {ds : List Value} {E : XK} {x : Str} {p pos : Pos} {e : Expr} {es : List Expr} {t : TA}

/-- f(..), f a def of which FnG is known -/
theorem pe_callG (hG : X.A.guards = some []) (F : FnG X.prog X.w X.K X.mg X.base CX k f fd ps sp) (hr : Room k X.A) (hg : Gl X x) (hm : X.mg x = some (.ref f))
    (hk : PySem.W.keepIn X.K (.ref f) = true) (hb : Binds X.K fd ps ds) (hd : Vals dvs ds) (hx : Passes CX X E) (ha : PA X (e :: es) t)
    (hdb : (x == ("__debug__" : Str)) = false := by decide) (he : starEach (e :: es) X.env = (false, eval e X.env) :: starEach es X.env := by rfl)
    (hpl : (backTo pos (starEach es X.env)).any (·.1) = false := by rfl) : PE X (.Call (.Name x p) (e :: es) [] pos) (tCall sp dvs E t) := by
  constructor
  intro pins s σ H Q I h
  refine wpAny_Call_Name_kw (ld_glob I hg hm ?_ hdb)
  refine PySem.W.callWith_K (h₀ := X.base) I.ok.mod.kin hk (thn (ha.run pos pins s σ H _ I h) ?_) he hpl
  rintro us s1 ⟨vs, H1, I1, r, q⟩
  refine ⟨I1.kIn, ?_⟩
  have r2 : Vals (vs ++ dvs) (us ++ ds) := r.append hd
  have hl : (us ++ ds).length = ps.length := r2.length.symm.trans (F.size _ _ _ _ q)
  refine wpAny_call (codeAny_mono (F.go X.A X.stack s1 H1 ⟨us, []⟩ (us ++ ds) (vs ++ dvs) Q E hG hr I1.env0 (hb s1 us I1.kIn hl) r2 q) ?_)
  intro r s' hq
  match r, hq with
  | .error e, hq => exact hx pins σ H1 s1 e s' I1 hq
  | .ok (.ret u), hq => exact I1.after hq
  | .ok .next, hq => exact False.elim hq
  | .ok .brk, hq => exact False.elim hq
  | .ok .cont, hq => exact False.elim hq
end

/-! ### a def by its name -/
/-- the module's name x is a def that keeps the promise sp -/
structure Def (P : Program) (w : World) (K : PySem.W.Frag) (mg : Str → Option Value) (base : Heap) (k : Nat) (x : Str) (ps : List Str) (sp : Sp) : Prop where
  ex : ∃ f fd, FnOk P w K mg base CX0 k f fd ps sp ∧ PySem.W.keepIn K (.ref f) = true ∧ Binds K fd ps [] ∧ mg x = some (.ref f)
theorem Def.of {P : Program} {w : World} {K : PySem.W.Frag} {mg : Str → Option Value} {base : Heap} {k : Nat} {x qual : Str} {st : Stmt} {f : Addr} {fd : FuncData} {ps : List Str} {sp : Sp}
    (F : L2.Fun K x qual st f fd) (G : FnOk P w K mg base CX0 k f fd ps sp) (b : Binds K fd ps []) (m : mg x = some (.ref f)) : Def P w K mg base k x ps sp := ⟨f, fd, G, F.kp, b, m⟩
theorem pe_callD {X : Cx} {k : Nat} {x : Str} {ps : List Str} {sp : Sp} {e : Expr} {es : List Expr} {t : TA} {p pos : Pos} (D : Def X.prog X.w X.K X.mg X.base k x ps sp) (hr : Room k X.A) (hg : Gl X x) (ha : PA X (e :: es) t)
    (hdb : (x == ("__debug__" : Str)) = false := by decide) (he : starEach (e :: es) X.env = (false, eval e X.env) :: starEach es X.env := by rfl)
    (hpl : (backTo pos (starEach es X.env)).any (·.1) = false := by rfl) : PE X (.Call (.Name x p) (e :: es) [] pos) (tCall sp [] E0 t) := by
  obtain ⟨f, fd, G, kp, b, m⟩ := D.ex
  exact pe_call G hr hg m kp b .nil pass0 ha hdb he hpl

/-! ### how long the text of data is -/
mutual
/-- what the text of data is at most, its ints below 2 ^ 1920 in size -/
def cost : PyData → Nat
  | .none => 4
  | .bool _ => 5
  | .int _ => 1921
  | .str x => 10 * x.cps.size + 20
  | .list xs => costAll xs + 3
  | .tuple xs => costAll xs + 3
  | .dict _ => 0
def costAll : List PyData → Nat
  | [] => 0
  | x :: xs => cost x + 2 + costAll xs
end
mutual
theorem shown_cost : ∀ d : PyData, d.canLay0 = true → d.showable = true → d.shown.length ≤ cost d
  | .none, _, _ => by
    show (PyData.shown .none).length ≤ 4
    exact Nat.le_of_eq rfl
  | .bool b, _, _ => by
    show (PyData.shown (.bool b)).length ≤ 5
    cases b <;> decide
  | .int i, _, h => by
    have h1 : i.natAbs.log2 < 1920 := by simpa only [PyData.showable, decide_eq_true_eq] using h
    have h2 := int_text_length_le (k := 1920) (by decide) h1
    show (Str.ofString (toString i)).length ≤ cost (.int i)
    rw [PySem.ofString_length]
    simp only [cost]
    exact h2
  | .str x, h, _ => by
    have h1 : PyData.leavesShort 8 (.str x) = true := PyData.leavesShort_of_canLay0 8 (.str x) h rfl
    have h2 := PyData.shown_le 8 (by decide) (.str x) h1
    simp only [PyData.weight] at h2
    simp only [cost]
    omega
  | .list xs, h, g => by
    have h1 := shown_costAll xs (by simpa only [PyData.canLay0] using h) (by simpa only [PyData.showable] using g)
    have h2 := listText_len_le (PyData.shownAll xs)
    have h3 := PyData.shownAll_length xs
    simp only [PyData.shown, cost]
    omega
  | .tuple xs, h, g => by
    have h1 := shown_costAll xs (by simpa only [PyData.canLay0] using h) (by simpa only [PyData.showable] using g)
    have h2 := tupleText_len_le (PyData.shownAll xs)
    have h3 := PyData.shownAll_length xs
    simp only [PyData.shown, cost]
    omega
  | .dict _, h, _ => by simp [PyData.canLay0] at h
theorem shown_costAll : ∀ xs : List PyData, PyData.canLayAll0 xs = true → PyData.showableAll xs = true → ((PyData.shownAll xs).map (·.length)).sum + 2 * xs.length ≤ costAll xs
  | [], _, _ => by simp [PyData.shownAll, costAll]
  | x :: xs, h, g => by
    have h' : x.canLay0 = true ∧ PyData.canLayAll0 xs = true := by simpa only [PyData.canLayAll0, Bool.and_eq_true] using h
    have g' : x.showable = true ∧ PyData.showableAll xs = true := by simpa only [PyData.showableAll, Bool.and_eq_true] using g
    have h1 := shown_cost x h'.1 g'.1
    have h2 := shown_costAll xs h'.2 g'.2
    simp only [PyData.shownAll, costAll, List.map_cons, List.sum_cons, List.length_cons]
    omega
end

/-! ### repr of data -/
section
variable {X : Cx}
/-- repr(x), x data of any depth: the text that the data shows -/
def rShow (K : PySem.W.Frag) : List V → Hp → VK → Prop := fun xs H Q => ∃ (p : Addr) (d : PyData), xs = [.ref p] ∧ Dp K H (.ref p) d ∧
  SeqAt.shaped d = true ∧ d.showable = true ∧ d.shown.length ≤ sizeLine ∧ Q (.str d.shown) H
theorem call_show (hG : X.A.guards = some []) (hu : X.A.units + 66 < cLine) : CallR X (.builtin "repr") (rShow X.K) := by
  intro pins s σ H xs us Q I r h
  obtain ⟨p, d, rfl, hd, sd, hs, hz, q⟩ := h
  obtain ⟨u, rfl, ru⟩ := vals1 r
  cases ru
  obtain ⟨as, rd⟩ := Dp.reads I d (.ref p) (.ref p) hd rfl
  have hdp := SeqAt.depth_of_shaped sd
  have nd : d.hasDict = false := PyData.hasDict_of_canLay d (SeqAt.canLay_of_shaped sd)
  refine repr_of_reads' rd hs (PyData.noDict_hsm nd) hG (by omega) (fun b o e => e) (fun h' u' tk k => ?_) hz
  exact ⟨.str d.shown, H, I.kept k, ⟨_, rfl⟩, q⟩

/-- // of ints, the divisor not 0 and below 2 ^ 9000 in size -/
def CDivG (_ j : Int) : Prop := j ≠ 0 ∧ j.natAbs.log2 < 9000
theorem op_fdivG : OpR X (binaryOp .FloorDiv) (rI CDivG fun i j => .int (i.fdiv j)) :=
  opI fun _ _ _ _ _ _ _ hc q => floordiv_int hc.1 q (.inl (PyProof.noPylong_of_log2 hc.2))
end

/-! ### the end of a law's row, from FnG -/
theorem law_callG {P : Program} {w : World} {K : PySem.W.Frag} {mg mb : Str → Option Value} {CX : CXT} {k : Nat} {fa a : Addr} {fd : FuncData} {x : Str} {sp : Sp} {s₁ : Shared} {vs : List Value} {ns : List Int}
    (inH : K.In s₁.heap) (hns : s₁.heap.Ns mainGlobals mg) (hb : s₁.heap.Ns builtinsNs mb) (hbb : ∀ x : Str, x ≠ "__name__" → mb x = bootBuiltins x)
    (hlim : s₁.heap.NoLimit) (hg : s₁.gens = #[]) (ha : s₁.heap.get? a = some { cls := .type "list", data := .seq vs.toArray }) (hi : IntsAre vs ns)
    (hl : ns.length ≤ sizeLine) (hr : Room k callerA)
    (F : ∀ base : Heap, K.In base → base.Ns mainGlobals mg → FnG P w K mg base CX k fa fd [x] sp)
    (hbind : ∀ (s : Shared) (u : Value), BindsTo s fd ⟨[u], []⟩ [(x, u)])
    (hsp : ∀ H : Hp, Only H → SqL K H a (ns.map V.int) → sp [.ref a] H (fun v _ => v = .bl true) fun _ _ _ => False)
    (hCX : ∀ H e s', CX [] H s₁ (fun _ _ _ => False) e s' → False) :
    codeAny (model P w) callerA (.call (.ref fa) ⟨[.ref a], []⟩)
      (fun r s' => r = .ok (.ret (.bool true)) ∧ OldK s₁.heap s'.heap ∧ s'.os = s₁.os ∧ AllBare s'.gens) s₁ := by
  have rv := vals_ints hi
  have lenV := hi.length
  have main : ∀ H : Hp, Only H → SqL K H a (ns.map V.int) → HOk P w H s₁.heap → (∀ b, H b ≠ none → b = a) → (H a ≠ none → K.lookup a = none) →
      codeAny (model P w) callerA (.call (.ref fa) ⟨[.ref a], []⟩)
        (fun r s' => r = .ok (.ret (.bool true)) ∧ OldK s₁.heap s'.heap ∧ s'.os = s₁.os ∧ AllBare s'.gens) s₁ := by
    intro H hO hS hok hA hK
    have none_of : ∀ {b : Addr}, b ≠ a → H b = none := fun {b} ne => by
      cases q : H b with
      | none => rfl
      | some u => exact absurd (hA b (by rw [q]; exact Option.some_ne_none u)) ne
    have notA : ∀ {b : Addr} {o : Obj} {es : Array DictEntry} {ep : Nat}, s₁.heap.get? b = some o → o.data = .dict es ep → H b = none := by
      intro b o es ep e d
      refine none_of fun z => ?_
      rw [z, ha] at e
      cases e
      exact nomatch (show Data.seq vs.toArray _ = Data.dict es ep from d)
    have nsK : ∀ {b : Addr} {m : Str → Option Value}, s₁.heap.Ns b m → (hidT s₁.heap H).Ns b m := by
      rintro b m ⟨o, es, ep, e, d, r⟩
      exact ⟨o, es, ep, hidT_get e (notA e d), d, r⟩
    have inB : K.In (hidT s₁.heap H) := by
      intro b o e
      refine hidT_get (inH b o e) ?_
      cases q : H b with
      | none => rfl
      | some u =>
        have z : b = a := hA b (by rw [q]; exact Option.some_ne_none u)
        rw [z] at e q
        rw [hK (by rw [q]; exact Option.some_ne_none u)] at e
        cases e
    have hM : Mod K mg (hidT s₁.heap H) := ⟨inB, nsK hns, ⟨mb, nsK hb, hbb⟩, let ⟨mc, h1, h2⟩ := hlim; ⟨mc, nsK h1, h2⟩⟩
    have e0 : Env0 P w K mg (hidT s₁.heap H) callerA [] s₁ H :=
      ⟨rfl, hM, fun b o e => of_hidT e, Nat.le_of_eq (hidT_size _ _), trivial, (fun b hb => absurd (show b ∈ ([] : List Addr) from hb) (by simp)), hok, AllBare.of_eq hg⟩
    refine codeAny_mono ((F _ inB (nsK hns)).go callerA [] s₁ H ⟨[.ref a], []⟩ [.ref a] [.ref a] _ _ rfl hr e0 (hbind s₁ (.ref a)) (.cons rfl .nil) (hsp H hO hS)) ?_
    intro r s' h
    match r, h with
    | .error e, h => exact (hCX H e s' h).elim
    | .ok .next, h => exact False.elim h
    | .ok .brk, h => exact False.elim h
    | .ok .cont, h => exact False.elim h
    | .ok (.ret u), ⟨v, H', os, bare, un, hok', r', q⟩ =>
      obtain rfl : v = .bl true := q
      obtain rfl : u = Value.bool true := r'
      refine ⟨rfl, OldK.of_keep ?_, os, bare⟩
      intro b o e
      rcases hO b with z | ⟨ob, xs, z⟩
      · exact un.keep b o e z (fun z => absurd (show b ∈ ([] : List Addr) from z) (by simp)) (by simp)
      · obtain ⟨e1, _⟩ := hok b _ z
        obtain ⟨e2, _⟩ := hok' b _ (un.frzs b ob _ z)
        rw [e] at e1
        cases e1
        exact e2
  cases hk : K.lookup a with
  | some o =>
    have e := inH a o hk
    rw [ha] at e
    cases e
    have lv : vs.length = ns.length := lenV
    refine main (fun _ => none) (fun _ => Or.inl rfl) (Or.inr ⟨_, vs.toArray, _, hk, rfl, rfl, rfl, by rw [List.size_toArray, lv]; exact hl, by simpa using rv⟩) ?_ (fun b z => absurd rfl z) (fun z => absurd rfl z)
    intro b u z
    exact nomatch (show (none : Option HO) = some u from z)
  | none =>
    refine main (fun b => if b = a then some (.frz { cls := .type "list", data := .seq vs.toArray } (.lst (ns.map V.int))) else none) ?_ (Or.inl (Or.inr ⟨_, if_pos rfl⟩)) ?_ ?_ (fun _ => hk)
    · intro b
      by_cases hb : b = a
      · exact Or.inr ⟨_, _, if_pos hb⟩
      · exact Or.inl (if_neg hb)
    · intro b u z
      by_cases hb : b = a
      · have z' := (if_pos hb).symm.trans z
        cases z'
        rw [hb]
        exact ⟨ha, by rw [List.length_map]; exact hl, vs, _, rv, ha⟩
      · exact nomatch (if_neg hb).symm.trans z
    · intro b z
      by_cases hb : b = a
      · exact hb
      · exact absurd (if_neg hb) z

theorem walk_G {l : PySem.W.OpenLaw} {n k : Nat} {q : Program} {loose : List Str} {XP : (Str → Option Value) → Heap → Prop} {YP : World → Heap → Prop} {d : DefRec} {K : Params → PySem.W.Frag} {CX : World → CXT} {sp : World → Sp} {x : Str}
    (hn : l.most = some n) (hn2 : n ≤ sizeLine) (hdf : d.params.defaults = []) (hr : Room k callerA) (hY : ∀ (w : World) (h : Heap), YP w h → (K w.params).In h)
    (F : ∀ (w : World) (mg : Str → Option Value) (fa : Addr) (h : Heap), (K w.params).In h → h.Ns mainGlobals mg → mg d.name = some (.ref fa) →
      ∃ fd : FuncData, (∀ (s : Shared) (u : Value), BindsTo s fd ⟨[u], []⟩ [(x, u)]) ∧
        ∀ base : Heap, (K w.params).In base → base.Ns mainGlobals mg → FnG l.prog w (K w.params) mg base (CX w) k fa fd [x] (sp w))
    (hsp : ∀ (w : World) (H : Hp) (a : Addr) (ns : List Int), ns.length ≤ n → (∀ z ∈ ns, Builtin.Int.intBits z ≤ 1048576) → Only H →
      SqL (K w.params) H a (ns.map V.int) → sp w [.ref a] H (fun v _ => v = .bl true) fun _ _ _ => False)
    (hCX : ∀ (w : World) (H : Hp) (s : Shared) (e : Value) (s' : Shared), CX w [] H s (fun _ _ _ => False) e s' → False) :
    PySem.W.WalkO q loose XP YP l.row.toRowW d [] (fun f vs => PySem.call f vs) := by
  refine Att.attach_callB hn hdf ?_
  intro w s₀ s₁ mg mb fa o pm cd doc a vs ns G Y ho hd hcd hmg hobj hints hlen hbits hg
  have inH := hY w _ Y
  obtain ⟨fd, hb, hF⟩ := F w mg fa _ inH G.T.g hmg
  exact law_callG inH G.T.g G.T.b G.T.builtins G.T.nolimit hg hobj hints (Nat.le_trans hlen hn2) hr hF hb
    (fun H hO hS => hsp w H a ns hlen hbits hO hS) (fun H e s' => hCX w H s₁ e s')
end Kx
namespace Kx
open PySem PySem.Spec PyProof.Rows L2

/-! ### heaps -/
theorem same_new {H : Hp} {p : Addr} {o : HO} (h : H p = none) : Same H (upd H p o) := fun b x e => by
  rw [upd_ne (ne_of_none e h)]
  exact e
/-- all that was tracked, but the two at d and l, is as it was -/
def But (d l : Addr) (H H' : Hp) : Prop := ∀ b o, H b = some o → b ≠ d → b ≠ l → H' b = some o
theorem But.refl {d l : Addr} {H : Hp} : But d l H H := fun _ _ e _ _ => e
theorem But.trans {d l : Addr} {H H1 H2 : Hp} (a : But d l H H1) (b : But d l H1 H2) : But d l H H2 := fun c o e n1 n2 => b c o (a c o e n1 n2) n1 n2
theorem But.of {d l : Addr} {H H' : Hp} (s : Same H H') : But d l H H' := fun b o e _ _ => s b o e
theorem But.d {d l : Addr} {H : Hp} {o : HO} : But d l H (upd H d o) := fun b x e n _ => by rw [upd_ne n]; exact e
theorem But.l {d l : Addr} {H : Hp} {o : HO} : But d l H (upd H l o) := fun b x e _ n => by rw [upd_ne n]; exact e
theorem But.new {d l p : Addr} {H : Hp} {o : HO} (h : H p = none) : But d l H (upd H p o) := But.of (same_new h)

theorem tup_same {K : PySem.W.Frag} {H H' : Hp} {a : Addr} {xs : List V} (e : Same H H') (h : SqT K H a xs) : SqT K H' a xs := by
  rcases h with (h | ⟨o, h⟩) | h
  · exact .inl (.inl (e _ _ h))
  · exact .inl (.inr ⟨o, e _ _ h⟩)
  · exact .inr h
mutual
/-- data stays what it is where all stays -/
theorem dp_same {K : PySem.W.Frag} {H H' : Hp} (s : Same H H') : ∀ {v : V} {d : PyData}, Dp K H v d → Dp K H' v d
  | _, _, .non => .non
  | _, _, .bl b => .bl b
  | _, _, .int i => .int i
  | _, _, .str x => .str x
  | _, _, .lst h a => .lst (s.seq h) (dp_sameAll s a)
  | _, _, .tup h a => .tup (tup_same s h) (dp_sameAll s a)
theorem dp_sameAll {K : PySem.W.Frag} {H H' : Hp} (s : Same H H') : ∀ {vs : List V} {ds : List PyData}, DpAll K H vs ds → DpAll K H' vs ds
  | _, _, .nil => .nil
  | _, _, .cons h a => .cons (dp_same s h) (dp_sameAll s a)
end
/-! ### the source of drawn numbers -/
abbrev kCells : Key := Sum.inr "cells"
abbrev kLeft : Key := Sum.inr "left"
abbrev kMixed : Key := Sum.inr "mixed"
abbrev kTurn : Key := Sum.inr "turn"
def srcD (l : Addr) (a m t : Int) : List (Key × V) := [(kCells, .ref l), (kLeft, .int a), (kMixed, .int m), (kTurn, .int t)]
theorem n_cl : ¬ kCells = kLeft := by decide +kernel
theorem s_cl : ¬ Str.ofString "cells" = Str.ofString "left" := by decide +kernel
theorem r_cl : ¬ Str.ofString "left" = Str.ofString "cells" := by decide +kernel
theorem n_cm : ¬ kCells = kMixed := by decide +kernel
theorem s_cm : ¬ Str.ofString "cells" = Str.ofString "mixed" := by decide +kernel
theorem r_cm : ¬ Str.ofString "mixed" = Str.ofString "cells" := by decide +kernel
theorem n_ct : ¬ kCells = kTurn := by decide +kernel
theorem s_ct : ¬ Str.ofString "cells" = Str.ofString "turn" := by decide +kernel
theorem r_ct : ¬ Str.ofString "turn" = Str.ofString "cells" := by decide +kernel
theorem n_lm : ¬ kLeft = kMixed := by decide +kernel
theorem s_lm : ¬ Str.ofString "left" = Str.ofString "mixed" := by decide +kernel
theorem r_lm : ¬ Str.ofString "mixed" = Str.ofString "left" := by decide +kernel
theorem n_lt : ¬ kLeft = kTurn := by decide +kernel
theorem s_lt : ¬ Str.ofString "left" = Str.ofString "turn" := by decide +kernel
theorem r_lt : ¬ Str.ofString "turn" = Str.ofString "left" := by decide +kernel
theorem n_mt : ¬ kMixed = kTurn := by decide +kernel
theorem s_mt : ¬ Str.ofString "mixed" = Str.ofString "turn" := by decide +kernel
theorem r_mt : ¬ Str.ofString "turn" = Str.ofString "mixed" := by decide +kernel
section
variable {l : Addr} {a m t y : Int}
theorem src_cells : valV (srcD l a m t) kCells = some (.ref l) := valV_pos rfl
theorem src_left : valV (srcD l a m t) kLeft = some (.int a) := (valV_neg n_cl).trans (valV_pos rfl)
theorem src_mixed : valV (srcD l a m t) kMixed = some (.int m) := (valV_neg n_cm).trans ((valV_neg n_lm).trans (valV_pos rfl))
theorem src_turn : valV (srcD l a m t) kTurn = some (.int t) := (valV_neg n_ct).trans ((valV_neg n_lt).trans ((valV_neg n_mt).trans (valV_pos rfl)))
theorem put_left : putK (srcD l a m t) kLeft (.int y) = srcD l y m t := by
  simp [putK, srcD, s_cl, s_cm, s_ct, s_lm, s_lt, s_mt, r_cl, r_cm, r_ct, r_lm, r_lt, r_mt]
theorem put_mixed : putK (srcD l a m t) kMixed (.int y) = srcD l a y t := by
  simp [putK, srcD, s_cl, s_cm, s_ct, s_lm, s_lt, s_mt, r_cl, r_cm, r_ct, r_lm, r_lt, r_mt]
theorem put_turn : putK (srcD l a m t) kTurn (.int y) = srcD l a m y := by
  simp [putK, srcD, s_cl, s_cm, s_ct, s_lm, s_lt, s_mt, r_cl, r_cm, r_ct, r_lm, r_lt, r_mt]
theorem src_made : mergeK [] (srcD l a m t) = srcD l a m t := by
  simp [mergeK, srcD, putK, s_cl, s_cm, s_ct, s_lm, s_lt, s_mt, r_cl, r_cm, r_ct, r_lm, r_lt, r_mt]
theorem src_len : (srcD l a m t).length = 4 := rfl
end

structure Src (H : Hp) (d l : Addr) (cs : List Int) (a m t : Int) : Prop where
  dc : H d = some (.dK (srcD l a m t))
  ls : H l = some (.lst (cs.map V.int))
  c0 : ∀ c ∈ cs, 0 ≤ c
  few : cs.length ≤ 63
  a0 : 0 ≤ a
  m0 : 0 ≤ m
  t0 : 0 ≤ t
/-- a source stands at d, its cells at l -/
def SrcAt (H : Hp) (d l : Addr) : Prop := ∃ cs a m t, Src H d l cs a m t
theorem Src.ne {H : Hp} {d l : Addr} {cs : List Int} {a m t : Int} (S : Src H d l cs a m t) : d ≠ l := ne_of S.dc S.ls (by intro z; cases z)
theorem SrcAt.ne {H : Hp} {d l : Addr} (S : SrcAt H d l) : d ≠ l := let ⟨_, _, _, _, S⟩ := S; S.ne
theorem SrcAt.same {H H' : Hp} {d l : Addr} (S : SrcAt H d l) (s : Same H H') : SrcAt H' d l :=
  let ⟨cs, a, m, t, S⟩ := S; ⟨cs, a, m, t, s _ _ S.dc, s _ _ S.ls, S.c0, S.few, S.a0, S.m0, S.t0⟩
theorem SrcAt.nd {H : Hp} {d l p : Addr} (S : SrcAt H d l) (h : H p = none) : p ≠ d ∧ p ≠ l :=
  let ⟨_, _, _, _, S⟩ := S; ⟨(ne_of_none S.dc h).symm, (ne_of_none S.ls h).symm⟩
/-- a tuple is neither part of the source -/
theorem SrcAt.nt {H : Hp} {d l p : Addr} {xs : List V} (S : SrcAt H d l) (h : H p = some (.tup xs)) : p ≠ d ∧ p ≠ l :=
  let ⟨_, _, _, _, S⟩ := S; ⟨ne_of h S.dc (by intro z; cases z), ne_of h S.ls (by intro z; cases z)⟩

/-! ### the promises -/
def spSource (K : PySem.W.Frag) : Sp := fun vs H Q _ => ∃ (b : Addr) (ns : List Int), vs = [.ref b] ∧ SqL K H b (ns.map V.int) ∧ ns.length ≤ 63 ∧
  (∀ z ∈ ns, Builtin.Int.intBits z ≤ 1048576) ∧ ∀ d l H', H d = none → H l = none → Same H H' → SrcAt H' d l → Q (.ref d) H'
def spPick : Sp := fun vs H Q _ => ∃ (d l : Addr) (n : Int), vs = [.ref d, .int n] ∧ SrcAt H d l ∧ n < 1073741824 ∧
  ∀ r H', 0 ≤ r → (r < n ∨ n < 2 ∧ r = 0) → SrcAt H' d l → But d l H H' → Q (.int r) H'
/-- some[pick]: one of the list's items -/
def spOf (K : PySem.W.Frag) : Sp := fun vs H Q _ => ∃ (d l p : Addr) (xs : List V), vs = [.ref d, .ref p] ∧ SrcAt H d l ∧ SqL K H p xs ∧ p ≠ d ∧ p ≠ l ∧ 0 < xs.length ∧ xs.length < 1000000 ∧
  ∀ v H', v ∈ xs → SrcAt H' d l → But d l H H' → Q v H'

theorem seq_but {K : PySem.W.Frag} {H H' : Hp} {d l a : Addr} {xs : List V} (e : But d l H H') (n1 : a ≠ d) (n2 : a ≠ l) (h : SqL K H a xs) : SqL K H' a xs := by
  rcases h with (h | ⟨o, h⟩) | h
  · exact .inl (.inl (e _ _ h n1 n2))
  · exact .inl (.inr ⟨o, e _ _ h n1 n2⟩)
  · exact .inr h
theorem tup_but {K : PySem.W.Frag} {H H' : Hp} {d l a : Addr} {xs : List V} (S : SrcAt H d l) (e : But d l H H') (h : H a = some (.tup xs)) : H' a = some (.tup xs) :=
  e _ _ h (S.nt h).1 (S.nt h).2

theorem snoc_of {α : Type} {l : List α} (h : 0 < l.length) : ∃ l' z, l = l' ++ [z] := by
  have ne : l ≠ [] := fun e => by rw [e] at h; exact Nat.lt_irrefl _ h
  exact ⟨l.dropLast, l.getLast ne, (List.dropLast_concat_getLast ne).symm⟩
theorem fmod_nn (a : Int) {b : Int} (h : 0 < b) : 0 ≤ a.fmod b := by
  rw [Int.fmod_eq_emod_of_nonneg _ (by omega)]
  exact Int.emod_nonneg _ (by omega)
theorem fmod_lt (a : Int) {b : Int} (h : 0 < b) : a.fmod b < b := by
  rw [Int.fmod_eq_emod_of_nonneg _ (by omega)]
  exact Int.emod_lt_of_pos _ h
theorem int_of' {ns : List Int} {i : Nat} {y : V} (h : (ns.map V.int)[i]? = some y) : ∃ z, y = V.int z ∧ ns[i]? = some z := by
  rw [List.getElem?_map] at h
  cases e : ns[i]? with
  | none => rw [e] at h; cases h
  | some z => rw [e] at h; exact ⟨z, (Option.some.inj h).symm, rfl⟩
theorem int_of {ns : List Int} {i : Nat} {y : V} (h : (ns.map V.int)[i]? = some y) : ∃ z, y = V.int z := let ⟨z, e, _⟩ := int_of' h; ⟨z, e⟩
theorem rev_ints (ns : List Int) : (((ns.map fun z => if z < 0 then -z else z).reverse).map V.int) = (ns.map fun z => V.int (if z < 0 then -z else z)).reverse := by
  rw [List.map_reverse, List.map_map]
  rfl
end Kx
namespace Kx
open PySem PySem.Spec PyProof.Rows L2
def topS (i : Nat) : Stmt := PySem.Challenge.pw_figureclaims_k11_fractions.main.body.getD i (.Pass ⟨0, 0, 0, 0⟩)
abbrev sSource : Stmt := topS 9
abbrev sPick : Stmt := topS 10
abbrev sOf : Stmt := topS 11
/-- the built-in names that are read -/
structure Blt (mg : Str → Option Value) : Prop where
  abs : mg "abs" = none
  int : mg "int" = none
  len : mg "len" = none
  max : mg "max" = none
section
variable {P : Program} {w : World} {K : PySem.W.Frag} {mg : Str → Option Value} {base : Heap} {f fP : Addr} {fd fdP : FuncData}

theorem scSource : FnScope ["script", "mixed", "cell"] ["script"] (defScope sSource) := ⟨rfl, rfl, rfl, by decide +kernel, rfl, by decide +kernel, by decide +kernel⟩
theorem ok_source (F : L2.Fun K "_law_source" "_law_source" sSource f fd) (T : Blt mg) : FnOk P w K mg base CX0 1 f fd ["script"] (spSource K) := by
  refine F.ok scSource (fun vs H Q E h => ?_) (fun cdv A outer s H vs Q E hr h => ?_)
  · obtain ⟨b, ns, rfl, _⟩ := h
    rfl
  · obtain ⟨b, ns, rfl, hS, hl, hz, k⟩ := h
    refine ⟨_, pss_cons (ps_set (i := 1) scSource.nd rfl (.inl rfl) pe_int)
      (pss_cons (ps_for PassesOwn.never rfl (pi_list (pv 0)) (pg_name (i := 2) scSource.nd rfl (.inl rfl))
        (pss_one (ps_set (i := 1) scSource.nd rfl (.inl rfl) (pe_op op_mod (pe_callTy call_int1 (by rfl) T.int (by decide +kernel)
          (pa_cons (pe_op op_add (pe_op op_add (pe_op op_mul (pv 1) pe_int) (pe_op op_mul (pv 2) pe_int)) pe_int) pa_nil)) pe_int))))
      (pss_one (ps_ret (pe_disp (pps_cons pe_str (pe_revL (pe_lc (own := [("cell", 2)]) (g := gName 2) rfl scSource.nd (pi_list (pv 0))
          (blkOk_by (N := ["script", "mixed", "cell"]) (sc := defScope sSource) (by decide +kernel)) (fun _ _ _ _ _ => pg_name (i := 2) scSource.nd rfl (.inl rfl))
          (fun _ _ _ _ _ => pts_nil) (fun _ _ _ _ _ => pe_callB call_abs (by rfl) T.abs (by decide +kernel) (pa_cons (pv 2) pa_nil))))
        (pps_cons pe_str pe_int (pps_cons pe_str (pv 1) (pps_cons pe_str pe_int pps_nil)))) (by rfl) (by rfl) (fun z => by cases z) (by decide))))), ?_⟩
    refine ⟨_, rfl, b, rfl, ⟨_, hS⟩, for_list (K := K) (a := b) (xs := ns.map V.int) (fun i σ H1 => ∃ (m : Int) (v : Option V), σ = [some (.ref b), some (.int m), v] ∧ H1 = H ∧ 0 ≤ m)
      ⟨11, none, rfl, rfl, by decide⟩ (fun i σ H1 _ ⟨_, _, _, e, _⟩ => by rw [e]; exact hS) ?_ ?_⟩
    · rintro i y σ H1 hi ⟨m, v, rfl, rfl, hm⟩
      obtain ⟨z, rfl⟩ := int_of hi
      refine ⟨_, rfl, _, _, rfl, rfl, .inr ⟨by decide, by decide⟩, _, rfl, _, _, rfl, rfl, .inr ⟨by decide, by decide⟩, _, _, rfl, rfl, _, _, rfl, rfl,
        .inl ⟨_, rfl, _, _, rfl, rfl, (by show (0 : Int) < 2147483629; decide), ?_⟩⟩
      exact ⟨_, _, rfl, rfl, Int.emod_nonneg _ (by decide)⟩
    · rintro σ H1 ⟨m, v, rfl, rfl, hm⟩
      intro p hp
      have s1 : Same H1 (upd H1 p (.dK [])) := same_new hp
      refine ⟨_, rfl, b, rfl, ⟨_, s1.seq hS⟩, fun D hD => lc_list (K := K) (a := b) (xs := ns.map V.int)
        (fun i H2 => H2 = upd (upd H1 p (.dK [])) D (.lst ((ns.take i).map fun z => V.int (if z < 0 then -z else z)))) rfl ?_ ?_ ?_⟩
      · rintro i H2 _ rfl
        exact (same_new hD).seq (s1.seq hS)
      · rintro i x H2 hx rfl
        obtain ⟨z, rfl, hz2⟩ := int_of' hx
        refine ⟨rfl, _, rfl, z, rfl, _, upd_same, ?_, ?_⟩
        · rw [List.length_map, List.length_take]
          exact Nat.lt_of_le_of_lt (Nat.min_le_right _ _) (small1000 (by omega))
        · rw [upd_upd, List.take_add_one, hz2, List.map_append]
          rfl
      · rintro H2 rfl
        rw [List.length_map, List.take_length]
        refine ⟨D, _, rfl, SqL.of upd_same, fun l hL => ?_⟩
        have nDp : D ≠ p := fun e => by
          rw [e, upd_same] at hD
          cases hD
        have nlD : l ≠ D := fun e => by
          rw [e, upd_same] at hL
          cases hL
        rw [upd_ne nlD] at hL
        have nlp : l ≠ p := fun e => by
          rw [e, upd_same] at hL
          cases hL
        rw [upd_ne nlp] at hL
        rw [upd_ne nDp] at hD
        refine ⟨_, rfl, ?_, srcD l 1 m 0, rfl, (by show 4 ≤ 15; decide), ?_⟩
        · rw [upd_ne nlp.symm, upd_ne nDp.symm, upd_same]
        rw [src_made]
        refine k p l _ hp hL ?_ ⟨_, 1, m, 0, upd_same, by rw [upd_ne nlp, upd_same, ← rev_ints], ?_, ?_, by decide, hm, by decide⟩
        · intro c o e
          rw [upd_ne (ne_of_none e hp), upd_ne (ne_of_none e hL), upd_ne (ne_of_none e hD), upd_ne (ne_of_none e hp)]
          exact e
        · intro c hc
          obtain ⟨z, _, rfl⟩ := List.mem_map.mp (List.mem_reverse.mp hc)
          show (0 : Int) ≤ if z < 0 then -z else z
          split <;> omega
        · rw [List.length_reverse, List.length_map]
          exact hl

theorem scPick : FnScope ["source", "many", "left", "mixed"] ["source", "many"] (defScope sPick) := ⟨rfl, rfl, rfl, by decide +kernel, rfl, by decide +kernel, by decide +kernel⟩
theorem ok_pick (F : L2.Fun K "_law_pick" "_law_pick" sPick f fd) (T : Blt mg) : FnOk P w K mg base CX0 1 f fd ["source", "many"] spPick := by
  refine F.ok scPick (fun vs H Q E h => ?_) (fun cdv A outer s H vs Q E hr h => ?_)
  · obtain ⟨d, l, n, rfl, _⟩ := h
    rfl
  · obtain ⟨d, l, n, rfl, ⟨cs0, a0, m0, t0, S0⟩, hn, k⟩ := h
    have hu := hu_of hr
    refine ⟨_, Evl.pss_cut (ps_while PassesOwn.never (PW.pt (pw_and (pt_cmpR op_gt (pv 1) pe_int (nomark _)) (pw_and (pt_cmpR op_lt (pe_dget hu (pv 0) pe_str (fun _ _ => rfl)) pe_int (nomark _))
          (pw_and1 (pt_cmpR op_gt (pe_callB call_len_seq (by rfl) T.len PySem.boot_len (pa_cons (pe_dget hu (pv 0) pe_str (fun _ _ => rfl)) pa_nil)) pe_int (nomark _))))))
        (pss_one (ps_dput hu (pv 0) pe_str (pe_bm0 PySem.F.plainAttrs_list PySem.F.slot_list_pop PySem.F.type_list_pop mt_pop (pe_dget hu (pv 0) pe_str (fun _ _ => rfl))) rfl)))
      (pss_cons (ps_set (i := 2) scPick.nd rfl (.inl rfl) (pe_dget hu (pv 0) pe_str (fun _ _ => rfl)))
      (pss_cons (ps_if (PW.pt (pw_or (pt_cmpR op_lt (pv 1) pe_int (nomark _)) (pw_or1 (pt_cmpR op_gt (pv 2) pe_int (nomark _)))))
        (pss_cons (ps_dput hu (pv 0) pe_str (pe_op op_fdivN (pv 2) (pe_callB (call_max2 rfl) (by rfl) T.max (by decide +kernel) (pa_cons pe_int (pa_cons (pv 1) pa_nil)))) rfl)
        (pss_one (ps_ret (pe_op op_modN (pe_callTy call_int1 (by rfl) T.int (by decide +kernel) (pa_cons (pv 2) pa_nil)) (pe_callB (call_max2 rfl) (by rfl) T.max (by decide +kernel) (pa_cons pe_int (pa_cons (pv 1) pa_nil)))))))
        pss_nil)
      (pss_cons (ps_dput hu (pv 0) pe_str (pe_op op_add (pe_dget hu (pv 0) pe_str (fun _ _ => rfl)) pe_int) rfl)
      (pss_cons (ps_set (i := 3) scPick.nd rfl (.inl rfl) (pe_op op_mod (pe_callTy call_int1 (by rfl) T.int (by decide +kernel) (pa_cons (pe_op op_add (pe_dget hu (pv 0) pe_str (fun _ _ => rfl))
        (pe_op op_mul (pe_dget hu (pv 0) pe_str (fun _ _ => rfl)) pe_int)) pa_nil)) pe_int))
      (pss_cons (ps_set (i := 3) scPick.nd rfl (.inl rfl) (pe_op op_mod (pe_callTy call_int1 (by rfl) T.int (by decide +kernel) (pa_cons (pe_op op_add (pe_op op_mul (pv 3) (pv 3))
        (pe_op op_mul (pe_dget hu (pv 0) pe_str (fun _ _ => rfl)) pe_int)) pa_nil)) pe_int))
      (pss_cons (ps_dput hu (pv 0) pe_str (pv 3) rfl)
      (pss_one (ps_ret (pe_op op_mod (pe_callTy call_int1 (by rfl) T.int (by decide +kernel) (pa_cons (pe_op op_fdiv (pv 3) pe_int) pa_nil)) (pv 1)))))))))), ?_⟩
    refine ⟨fun σ H1 => σ = [some (.ref d), some (.int n), none, none] ∧ But d l H H1 ∧ SrcAt H1 d l,
      ⟨fun m σ H1 => σ = [some (.ref d), some (.int n), none, none] ∧ But d l H H1 ∧ ∃ cs a b c, Src H1 d l cs a b c ∧ cs.length = m, ⟨_, rfl, But.refl, cs0, a0, m0, t0, S0, rfl⟩, ?_⟩, ?_⟩
    · rintro m σ H1 ⟨rfl, B1, cs, a, b, c, S, hm⟩
      have hdl : d ≠ l := S.ne
      have e1 : DGet H1 d (.str "cells") (some (.ref l)) := by rw [← src_cells (a := a) (m := b) (t := c)]; exact DGet.k (k := kCells) S.dc
      have e2 : DGet H1 d (.str "left") (some (.int a)) := by rw [← src_left (l := l) (m := b) (t := c)]; exact DGet.k (k := kLeft) S.dc
      have stop : [some (V.ref d), some (V.int n), none, none] = [some (V.ref d), some (V.int n), none, none] ∧ But d l H H1 ∧ SrcAt H1 d l := ⟨rfl, B1, cs, a, b, c, S⟩
      refine ⟨_, rfl, _, _, rfl, rfl, _, rfl, ite2 (fun h1 => ?_) (fun h1 => iteF stop)⟩
      refine ⟨_, rfl, d, _, rfl, e2, _, _, rfl, rfl, _, rfl, ite2 (fun h2 => ?_) (fun h2 => iteF stop)⟩
      refine ⟨_, rfl, d, _, rfl, e1, l, _, rfl, .inl (SqL.of S.ls), _, _, rfl, rfl, _, rfl, ite2 (fun h3 => ?_) (fun h3 => stop)⟩
      have h4 : 0 < cs.length := by
        have q := of_decide_eq_true h3
        rw [List.length_map] at q
        omega
      obtain ⟨cs', z, rfl⟩ := snoc_of h4
      have hy : ((cs' ++ [z]).map V.int)[((cs' ++ [z]).map V.int).length - 1]? = some (.int z) := by simp
      have hq : ((cs' ++ [z]).map V.int).dropLast = cs'.map V.int := by simp
      refine ⟨fun σ' H' => ∃ m', m' < m ∧ σ' = [some (.ref d), some (.int n), none, none] ∧ But d l H H' ∧ ∃ cs a b c, Src H' d l cs a b c ∧ cs.length = m',
        fun σ' H' q => q, _, rfl, d, _, rfl, e1, .inl ⟨rfl, _, SqL.of S.ls⟩, l, _, .int z, rfl, rfl, S.ls, hy, _, rfl, d, _, rfl, DPut.k (k := kLeft) (Eq.trans (upd_ne hdl) S.dc) (by show 4 < sizeLine; decide), ?_⟩
      refine ⟨cs'.length, by rw [← hm, List.length_append]; exact Nat.lt_succ_self _, rfl, B1.trans (But.l.trans But.d), cs', z, b, c, ⟨?_, ?_, fun x hx => S.c0 x (List.mem_append_left _ hx), ?_, S.c0 z (by simp), S.m0, S.t0⟩, rfl⟩
      · rw [upd_same, put_left]
      · rw [upd_ne hdl.symm, upd_same, hq]
      · have := S.few
        rw [List.length_append] at this
        omega
    · rintro σ H1 ⟨rfl, B1, cs, a, b, c, S⟩
      have hdl : d ≠ l := S.ne
      have e2 : DGet H1 d (.str "left") (some (.int a)) := by rw [← src_left (l := l) (m := b) (t := c)]; exact DGet.k (k := kLeft) S.dc
      have e3 : DGet H1 d (.str "turn") (some (.int c)) := by rw [← src_turn (l := l) (m := b) (a := a)]; exact DGet.k (k := kTurn) S.dc
      have hM : ∀ M : Int, M = (if n > 1 then n else 1) → M ≠ 0 ∧ M.natAbs < 1073741824 ∧ 0 < M := fun M e => by
        rw [e]
        split <;> omega
      have put1 : DPut H1 d (.str "left") (.int (a.fdiv (if n > 1 then n else 1))) (upd H1 d (.dK (srcD l (a.fdiv (if n > 1 then n else 1)) b c))) := by
        rw [← put_left (l := l) (a := a) (m := b) (t := c)]
        exact DPut.k (k := kLeft) S.dc (by show 4 < sizeLine; decide)
      have fin1 : Q (.int (a.fmod (if n > 1 then n else 1))) (upd H1 d (.dK (srcD l (a.fdiv (if n > 1 then n else 1)) b c))) := by
        obtain ⟨h1, h2, h3⟩ := hM _ rfl
        refine k _ _ (fmod_nn _ h3) ?_ ⟨cs, _, b, c, upd_same, Eq.trans (upd_ne hdl.symm) S.ls, S.c0, S.few, ?_, S.m0, S.t0⟩ (B1.trans But.d)
        · by_cases c2 : n > 1
          · rw [if_pos c2]
            exact .inl (fmod_lt _ (by omega))
          · rw [if_neg c2]
            exact .inr ⟨by omega, by have q1 := fmod_lt a (show (0 : Int) < 1 by decide); have q2 := fmod_nn a (show (0 : Int) < 1 by decide); omega⟩
        · rw [Int.fdiv_eq_ediv_of_nonneg _ (by omega)]
          exact Int.ediv_nonneg S.a0 (by omega)
      refine ⟨_, rfl, d, _, rfl, e2, _, rfl, _, _, rfl, rfl, _, rfl, ite2 (fun h1 => ?_) (fun h1 => ⟨_, rfl, _, _, rfl, rfl, _, rfl, ite2 (fun h2 => ?_) (fun h2 => ?_)⟩)⟩
      · exact ⟨_, rfl, _, rfl, _, _, rfl, _, _, rfl, rfl, ⟨(hM _ rfl).1, (hM _ rfl).2.1⟩, _, rfl, d, _, rfl, put1, _, rfl, .inl ⟨_, rfl, _, rfl, _, _, rfl, _, _, rfl, rfl, (hM _ rfl).1, fin1⟩⟩
      · exact ⟨_, rfl, _, rfl, _, _, rfl, _, _, rfl, rfl, ⟨(hM _ rfl).1, (hM _ rfl).2.1⟩, _, rfl, d, _, rfl, put1, _, rfl, .inl ⟨_, rfl, _, rfl, _, _, rfl, _, _, rfl, rfl, (hM _ rfl).1, fin1⟩⟩
      · have n2 : ¬ n < 2 := fun z => h1 (decide_eq_true z)
        have S2 : Src (upd H1 d (.dK (srcD l a b (c + 1)))) d l cs a b (c + 1) := ⟨upd_same, Eq.trans (upd_ne hdl.symm) S.ls, S.c0, S.few, S.a0, S.m0, by have := S.t0; omega⟩
        have put2 : DPut H1 d (.str "turn") (.int (c + 1)) (upd H1 d (.dK (srcD l a b (c + 1)))) := by
          rw [← put_turn (l := l) (a := a) (m := b) (t := c)]
          exact DPut.k (k := kTurn) S.dc (by show 4 < sizeLine; decide)
        have e4 : DGet (upd H1 d (.dK (srcD l a b (c + 1)))) d (.str "mixed") (some (.int b)) := by rw [← src_mixed (l := l) (a := a) (t := c + 1)]; exact DGet.k (k := kMixed) S2.dc
        have e5 : DGet (upd H1 d (.dK (srcD l a b (c + 1)))) d (.str "turn") (some (.int (c + 1))) := by rw [← src_turn (l := l) (m := b) (a := a)]; exact DGet.k (k := kTurn) S2.dc
        refine ⟨_, rfl, d, _, rfl, e3, _, _, rfl, rfl, _, rfl, d, _, rfl, put2, _, rfl, d, _, rfl, e4, _, rfl, d, _, rfl, e5, _, _, rfl, rfl, .inr ⟨by decide, by decide⟩, _, _, rfl, rfl, .inl ⟨_, rfl, _, _, rfl, rfl, (by show (0 : Int) < 998244353; decide), ?_⟩⟩
        have x0 : (0 : Int) ≤ (b + (c + 1) * 104729) % 998244353 := Int.emod_nonneg _ (by decide)
        have x1 : (b + (c + 1) * 104729) % 998244353 < 998244353 := Int.emod_lt_of_pos _ (by decide)
        refine ⟨_, rfl, _, rfl, _, _, rfl, rfl, .inl ⟨by omega, by omega⟩, _, rfl, d, _, rfl, e5, _, _, rfl, rfl, .inr ⟨by decide, by decide⟩, _, _, rfl, rfl, .inl ⟨_, rfl, _, _, rfl, rfl, (by show (0 : Int) < 2147483647; decide), ?_⟩⟩
        have put3 : ∀ y : Int, DPut (upd H1 d (.dK (srcD l a b (c + 1)))) d (.str "mixed") (.int y) (upd (upd H1 d (.dK (srcD l a b (c + 1)))) d (.dK (srcD l a y (c + 1)))) := fun y => by
          rw [← put_mixed (l := l) (a := a) (m := b) (t := c + 1)]
          exact DPut.k (k := kMixed) S2.dc (by show 4 < sizeLine; decide)
        refine ⟨_, rfl, _, rfl, d, _, rfl, put3 _, _, rfl, _, _, rfl, rfl, ⟨by decide, by decide⟩, .inl ⟨_, rfl, _, rfl, _, _, rfl, rfl, (by show 0 < n; omega), ?_⟩⟩
        refine k _ _ (Int.emod_nonneg _ (by omega)) (.inl (Int.emod_lt_of_pos _ (by omega))) ⟨cs, a, _, c + 1, upd_same, Eq.trans (upd_ne hdl.symm) S2.ls, S.c0, S.few, S.a0, Int.emod_nonneg _ (by decide), S2.t0⟩ (B1.trans (But.d.trans But.d))
end
end Kx
namespace Kx
open PySem PySem.Spec PyProof.Rows L2
/-! ### the mathematics -/
/-- what both members are divided by -/
def dv (a b : Int) : Int := if b < 0 then -((Nat.gcd a.natAbs b.natAbs : Nat) : Int) else ((Nat.gcd a.natAbs b.natAbs : Nat) : Int)
theorem gcd_pos {a b : Int} (h : b ≠ 0) : 0 < Nat.gcd a.natAbs b.natAbs := Nat.gcd_pos_of_pos_right _ (by omega)
theorem dv_ne {a b : Int} (h : b ≠ 0) : dv a b ≠ 0 := by
  have := gcd_pos (a := a) h
  unfold dv
  split <;> omega
theorem dv_abs (a b : Int) : (dv a b).natAbs = Nat.gcd a.natAbs b.natAbs := by
  unfold dv
  split <;> omega
theorem dv_dvd_r (a b : Int) : dv a b ∣ b := Int.natAbs_dvd_natAbs.mp (by rw [dv_abs]; exact Nat.gcd_dvd_right _ _)
theorem dv_dvd_l (a b : Int) : dv a b ∣ a := Int.natAbs_dvd_natAbs.mp (by rw [dv_abs]; exact Nat.gcd_dvd_left _ _)
theorem dv_le {a b : Int} (h : b ≠ 0) : (dv a b).natAbs ≤ b.natAbs := by
  rw [dv_abs]
  exact Nat.le_of_dvd (by omega) (Nat.gcd_dvd_right _ _)
theorem div_abs_le {a c : Int} (h : c ≠ 0) (hd : c ∣ a) : (a.fdiv c).natAbs ≤ a.natAbs := by
  obtain ⟨q, rfl⟩ := hd
  rw [Int.mul_fdiv_cancel_left _ h, Int.natAbs_mul]
  exact Nat.le_mul_of_pos_left _ (by omega)
def nu (a b : Int) : Int := a.fdiv (dv a b)
def de (a b : Int) : Int := b.fdiv (dv a b)
theorem nu_le {a b : Int} (h : b ≠ 0) : (nu a b).natAbs ≤ a.natAbs := div_abs_le (dv_ne h) (dv_dvd_l a b)
theorem de_le {a b : Int} (h : b ≠ 0) : (de a b).natAbs ≤ b.natAbs := div_abs_le (dv_ne h) (dv_dvd_r a b)
theorem de_ne {a b : Int} (h : b ≠ 0) : de a b ≠ 0 := by
  obtain ⟨q, e⟩ := dv_dvd_r a b
  have q0 : q ≠ 0 := fun z => h (by rw [e, z, Int.mul_zero])
  unfold de
  conv => lhs; arg 1; rw [e]
  rw [Int.mul_fdiv_cancel_left _ (dv_ne h)]
  exact q0
abbrev frV (a b : Int) : List V := [.int (nu a b), .int (de a b)]
/-- below 2 ^ n in size -/
def Lt2 (n : Nat) (a : Int) : Prop := a.natAbs < 2 ^ n
theorem Lt2.mono {n m : Nat} {a : Int} (h : Lt2 n a) (l : n ≤ m) : Lt2 m a := Nat.lt_of_lt_of_le h (Nat.pow_le_pow_right (by decide) l)
theorem Lt2.le {n : Nat} {a b : Int} (h : Lt2 n b) (l : a.natAbs ≤ b.natAbs) : Lt2 n a := Nat.lt_of_le_of_lt l h
theorem Lt2.mul {n m : Nat} {a b : Int} (ha : Lt2 n a) (hb : Lt2 m b) : Lt2 (n + m) (a * b) := wide_lt ha hb
theorem Lt2.add {n : Nat} {a b : Int} (ha : Lt2 n a) (hb : Lt2 n b) : Lt2 (n + 1) (a + b) := by
  unfold Lt2 at *
  have := Int.natAbs_add_le a b
  rw [Nat.pow_succ]
  omega
theorem Lt2.sub {n : Nat} {a b : Int} (ha : Lt2 n a) (hb : Lt2 n b) : Lt2 (n + 1) (a - b) := by
  unfold Lt2 at *
  have := Int.natAbs_sub_le a b
  rw [Nat.pow_succ]
  omega
theorem Lt2.div {n : Nat} {i j : Int} (h : Lt2 n j) (h0 : j ≠ 0) (hn : 0 < n) (h9 : n ≤ 9000) : CDivG i j := ⟨h0, Nat.lt_of_lt_of_le (PySem.Flt.log2_lt_of hn h) h9⟩
theorem Lt2.mulC {n m : Nat} {a b : Int} (ha : Lt2 n a) (hb : Lt2 m b) (h0 : 0 < n) (h1 : 0 < m) (h : n + m ≤ 1000000) : CMulW a b := wide_mul ha hb h0 h1 h

abbrev sFr : Stmt := topS 2
abbrev sPlus : Stmt := topS 3
abbrev sMinus : Stmt := topS 4
abbrev sTimes : Stmt := topS 5
abbrev sOver : Stmt := topS 6
abbrev sLess : Stmt := topS 7
abbrev sLeast : Stmt := topS 12
abbrev sSum : Stmt := topS 13
abbrev sLTimes : Stmt := topS 14
abbrev sLMinus : Stmt := topS 15
abbrev sAny : Stmt := topS 16
abbrev sLaw : Stmt := topS 17

theorem at0 {x : V} {l : List V} : atI (x :: l) 0 = some x := atI_nat (j := 0) rfl
theorem at1 {x y : V} {l : List V} : atI (x :: y :: l) 1 = some y := atI_nat (j := 1) rfl
theorem m4 {a b : Int} (ha : Lt2 400 a) (hb : Lt2 400 b) : CMulW a b := ha.mulC hb (by decide) (by decide) (by decide)
theorem p4 {a b : Int} (ha : Lt2 400 a) (hb : Lt2 400 b) : Lt2 1000 (a * b) := (ha.mul hb).mono (by decide)
theorem a4 {a b c d : Int} (ha : Lt2 400 a) (hb : Lt2 400 b) (hc : Lt2 400 c) (hd : Lt2 400 d) : Lt2 1000 (a * b + c * d) := ((ha.mul hb).add (hc.mul hd)).mono (by decide)
theorem s4 {a b c d : Int} (ha : Lt2 400 a) (hb : Lt2 400 b) (hc : Lt2 400 c) (hd : Lt2 400 d) : Lt2 1000 (a * b - c * d) := ((ha.mul hb).sub (hc.mul hd)).mono (by decide)
theorem abs_nat (a : Int) : (if a < 0 then -a else a) = ((a.natAbs : Nat) : Int) := by split <;> omega
theorem fmod_nat (x m : Nat) : ((x : Int)).fmod (m : Int) = ((x % m : Nat) : Int) := by
  rw [Int.fmod_eq_emod_of_nonneg _ (by omega)]
  exact (Int.natCast_emod x m).symm
theorem iteF' {c : Bool} {A B : Prop} (e : c = false) (h : B) : if c = true then A else B := by rw [e]; exact iteF h
theorem iteT' {c : Bool} {A B : Prop} (e : c = true) (h : A) : if c = true then A else B := by rw [e]; exact iteT h
/-! ### promises -/
/-- a fraction of two ints -/
def spFr : Sp := fun vs H Q _ => ∃ a b : Int, vs = [.int a, .int b] ∧ b ≠ 0 ∧ Lt2 1000 a ∧ Lt2 1000 b ∧ ∀ p H', Same H H' → H' p = some (.tup (frV a b)) → Q (.ref p) H'
/-- an operation on two fractions; g, k: the two members ahead of the division; ok: what is asked besides -/
def spBin (g k : Int → Int → Int → Int → Int) : Sp := fun vs H Q _ => ∃ (p q : Addr) (a b c d : Int), vs = [.ref p, .ref q] ∧ H p = some (.tup [.int a, .int b]) ∧ H q = some (.tup [.int c, .int d]) ∧
  Lt2 400 a ∧ Lt2 400 b ∧ Lt2 400 c ∧ Lt2 400 d ∧ k a b c d ≠ 0 ∧ ∀ r H', Same H H' → H' r = some (.tup (frV (g a b c d) (k a b c d))) → Q (.ref r) H'
def spLess : Sp := fun vs H Q _ => ∃ (p q : Addr) (a b c d : Int), vs = [.ref p, .ref q] ∧ H p = some (.tup [.int a, .int b]) ∧ H q = some (.tup [.int c, .int d]) ∧
  Lt2 400 a ∧ Lt2 400 b ∧ Lt2 400 c ∧ Lt2 400 d ∧ Q (.bl (decide (a * d < c * b))) H
def gPlus (a b c d : Int) : Int := a * d + c * b
def gMinus (a b c d : Int) : Int := a * d - c * b
def gTimes (a b c d : Int) : Int := a * c
def kProd (a b c d : Int) : Int := b * d
def gOver (a b c d : Int) : Int := a * d
def kOver (a b c d : Int) : Int := b * c

section
variable {P : Program} {w : World} {K : PySem.W.Frag} {mg : Str → Option Value} {base : Heap} {f fF : Addr} {fd fdF : FuncData}

theorem scFr : FnScope ["a", "b", "common"] ["a", "b"] (defScope sFr) := ⟨rfl, rfl, rfl, by decide +kernel, rfl, by decide +kernel, by decide +kernel⟩
theorem ok_fr (F : L2.Fun K "fraction" "fraction" sFr f fd) (mG : mg "gcd" = some (.builtin "math.gcd")) : FnOk P w K mg base CX0 1 f fd ["a", "b"] spFr := by
  refine F.ok scFr (fun vs H Q E h => ?_) (fun cdv A outer s H vs Q E hr h => ?_)
  · obtain ⟨a, b, rfl, _⟩ := h
    rfl
  · obtain ⟨a, b, rfl, hb, la, lb, k⟩ := h
    refine ⟨_, pss_cons (ps_set (i := 2) scFr.nd rfl (.inl rfl) (pe_callBfun cr_gcd (by rfl) mG (pa_cons (pv 0) (pa_cons (pv 1) pa_nil))))
      (Evl.pss_cut (ps_if (pt_cmpR op_lt (pv 1) pe_int (nomark _)) (pss_one (ps_set (i := 2) scFr.nd rfl (.inl rfl) (pe_un un_neg (pv 2)))) pss_nil)
      (pss_one (ps_ret (pe_tup (pa_cons (pe_op op_fdivG (pv 0) (pv 2)) (pa_cons (pe_op op_fdivG (pv 1) (pv 2)) pa_nil)))))), ?_⟩
    refine ⟨_, rfl, _, rfl, a, b, rfl, fun σ H' => σ = [some (.int a), some (.int b), some (.int (dv a b))] ∧ H' = H, ⟨_, rfl, _, _, rfl, rfl, _, rfl, ite2 (fun h1 => ?_) (fun h1 => ?_)⟩, ?_⟩
    · refine ⟨_, rfl, _, rfl, ?_, rfl⟩
      unfold dv
      rw [if_pos (of_decide_eq_true h1)]
      rfl
    · refine ⟨?_, rfl⟩
      unfold dv
      rw [if_neg (fun z => h1 (decide_eq_true z))]
      rfl
    · rintro σ H' ⟨rfl, rfl⟩
      have hd : Lt2 1000 (dv a b) := lb.le (dv_le hb)
      exact ⟨_, rfl, _, rfl, _, _, rfl, rfl, hd.div (dv_ne hb) (by decide) (by decide), _, rfl, _, rfl, _, _, rfl, rfl, hd.div (dv_ne hb) (by decide) (by decide), (by show 2 ≤ sizeLine; decide), fun p hp => k p _ (same_new hp) upd_same⟩

theorem scPlus : FnScope ["x", "y"] ["x", "y"] (defScope sPlus) := ⟨rfl, rfl, rfl, by decide +kernel, rfl, by decide +kernel, by decide +kernel⟩
theorem ok_Plus (F : L2.Fun K "plus" "plus" sPlus f fd) (D : Def P w K mg base 1 "fraction" ["a", "b"] spFr) :
    FnOk P w K mg base CX0 2 f fd ["x", "y"] (spBin gPlus kProd) := by
  refine F.ok scPlus (fun vs H Q E h => ?_) (fun cdv A outer s H vs Q E hr h => ?_)
  · obtain ⟨_, _, _, _, _, _, rfl, _⟩ := h
    rfl
  · obtain ⟨p, q, a, b, c, d, rfl, hp, hq, la, lb, lc, ld, h0, k⟩ := h
    refine ⟨_, pss_one (ps_ret (pe_callD D hr (by rfl) (pa_cons
      (pe_op op_add (pe_op op_mulW (pe_ix ix_tup (pv 0) pe_int (fun _ _ => rfl)) (pe_ix ix_tup (pv 1) pe_int (fun _ _ => rfl))) (pe_op op_mulW (pe_ix ix_tup (pv 1) pe_int (fun _ _ => rfl)) (pe_ix ix_tup (pv 0) pe_int (fun _ _ => rfl))))
      (pa_cons (pe_op op_mulW (pe_ix ix_tup (pv 0) pe_int (fun _ _ => rfl)) (pe_ix ix_tup (pv 1) pe_int (fun _ _ => rfl))) pa_nil)))), ?_⟩
    exact ⟨_, rfl, p, _, _, _, rfl, rfl, SqT.of hp, at0, _, rfl, q, _, _, _, rfl, rfl, SqT.of hq, at1, _, _, rfl, rfl, m4 la ld, _, rfl, q, _, _, _, rfl, rfl, SqT.of hq, at0, _, rfl, p, _, _, _, rfl, rfl, SqT.of hp, at1, _, _, rfl, rfl, m4 lc lb, _, _, rfl, rfl,
      _, rfl, p, _, _, _, rfl, rfl, SqT.of hp, at1, _, rfl, q, _, _, _, rfl, rfl, SqT.of hq, at1, _, _, rfl, rfl, m4 lb ld,
      _, _, rfl, h0, a4 la ld lc lb, p4 lb ld, k⟩

theorem scMinus : FnScope ["x", "y"] ["x", "y"] (defScope sMinus) := ⟨rfl, rfl, rfl, by decide +kernel, rfl, by decide +kernel, by decide +kernel⟩
theorem ok_Minus (F : L2.Fun K "minus" "minus" sMinus f fd) (D : Def P w K mg base 1 "fraction" ["a", "b"] spFr) :
    FnOk P w K mg base CX0 2 f fd ["x", "y"] (spBin gMinus kProd) := by
  refine F.ok scMinus (fun vs H Q E h => ?_) (fun cdv A outer s H vs Q E hr h => ?_)
  · obtain ⟨_, _, _, _, _, _, rfl, _⟩ := h
    rfl
  · obtain ⟨p, q, a, b, c, d, rfl, hp, hq, la, lb, lc, ld, h0, k⟩ := h
    refine ⟨_, pss_one (ps_ret (pe_callD D hr (by rfl) (pa_cons
      (pe_op op_sub (pe_op op_mulW (pe_ix ix_tup (pv 0) pe_int (fun _ _ => rfl)) (pe_ix ix_tup (pv 1) pe_int (fun _ _ => rfl))) (pe_op op_mulW (pe_ix ix_tup (pv 1) pe_int (fun _ _ => rfl)) (pe_ix ix_tup (pv 0) pe_int (fun _ _ => rfl))))
      (pa_cons (pe_op op_mulW (pe_ix ix_tup (pv 0) pe_int (fun _ _ => rfl)) (pe_ix ix_tup (pv 1) pe_int (fun _ _ => rfl))) pa_nil)))), ?_⟩
    exact ⟨_, rfl, p, _, _, _, rfl, rfl, SqT.of hp, at0, _, rfl, q, _, _, _, rfl, rfl, SqT.of hq, at1, _, _, rfl, rfl, m4 la ld, _, rfl, q, _, _, _, rfl, rfl, SqT.of hq, at0, _, rfl, p, _, _, _, rfl, rfl, SqT.of hp, at1, _, _, rfl, rfl, m4 lc lb, _, _, rfl, rfl,
      _, rfl, p, _, _, _, rfl, rfl, SqT.of hp, at1, _, rfl, q, _, _, _, rfl, rfl, SqT.of hq, at1, _, _, rfl, rfl, m4 lb ld,
      _, _, rfl, h0, s4 la ld lc lb, p4 lb ld, k⟩

theorem scTimes : FnScope ["x", "y"] ["x", "y"] (defScope sTimes) := ⟨rfl, rfl, rfl, by decide +kernel, rfl, by decide +kernel, by decide +kernel⟩
theorem ok_Times (F : L2.Fun K "times" "times" sTimes f fd) (D : Def P w K mg base 1 "fraction" ["a", "b"] spFr) :
    FnOk P w K mg base CX0 2 f fd ["x", "y"] (spBin gTimes kProd) := by
  refine F.ok scTimes (fun vs H Q E h => ?_) (fun cdv A outer s H vs Q E hr h => ?_)
  · obtain ⟨_, _, _, _, _, _, rfl, _⟩ := h
    rfl
  · obtain ⟨p, q, a, b, c, d, rfl, hp, hq, la, lb, lc, ld, h0, k⟩ := h
    refine ⟨_, pss_one (ps_ret (pe_callD D hr (by rfl) (pa_cons
      (pe_op op_mulW (pe_ix ix_tup (pv 0) pe_int (fun _ _ => rfl)) (pe_ix ix_tup (pv 1) pe_int (fun _ _ => rfl)))
      (pa_cons (pe_op op_mulW (pe_ix ix_tup (pv 0) pe_int (fun _ _ => rfl)) (pe_ix ix_tup (pv 1) pe_int (fun _ _ => rfl))) pa_nil)))), ?_⟩
    exact ⟨_, rfl, p, _, _, _, rfl, rfl, SqT.of hp, at0, _, rfl, q, _, _, _, rfl, rfl, SqT.of hq, at0, _, _, rfl, rfl, m4 la lc,
      _, rfl, p, _, _, _, rfl, rfl, SqT.of hp, at1, _, rfl, q, _, _, _, rfl, rfl, SqT.of hq, at1, _, _, rfl, rfl, m4 lb ld,
      _, _, rfl, h0, p4 la lc, p4 lb ld, k⟩

theorem scOver : FnScope ["x", "y"] ["x", "y"] (defScope sOver) := ⟨rfl, rfl, rfl, by decide +kernel, rfl, by decide +kernel, by decide +kernel⟩
theorem ok_Over (F : L2.Fun K "over" "over" sOver f fd) (D : Def P w K mg base 1 "fraction" ["a", "b"] spFr) :
    FnOk P w K mg base CX0 2 f fd ["x", "y"] (spBin gOver kOver) := by
  refine F.ok scOver (fun vs H Q E h => ?_) (fun cdv A outer s H vs Q E hr h => ?_)
  · obtain ⟨_, _, _, _, _, _, rfl, _⟩ := h
    rfl
  · obtain ⟨p, q, a, b, c, d, rfl, hp, hq, la, lb, lc, ld, h0, k⟩ := h
    refine ⟨_, pss_one (ps_ret (pe_callD D hr (by rfl) (pa_cons
      (pe_op op_mulW (pe_ix ix_tup (pv 0) pe_int (fun _ _ => rfl)) (pe_ix ix_tup (pv 1) pe_int (fun _ _ => rfl)))
      (pa_cons (pe_op op_mulW (pe_ix ix_tup (pv 0) pe_int (fun _ _ => rfl)) (pe_ix ix_tup (pv 1) pe_int (fun _ _ => rfl))) pa_nil)))), ?_⟩
    exact ⟨_, rfl, p, _, _, _, rfl, rfl, SqT.of hp, at0, _, rfl, q, _, _, _, rfl, rfl, SqT.of hq, at1, _, _, rfl, rfl, m4 la ld,
      _, rfl, p, _, _, _, rfl, rfl, SqT.of hp, at1, _, rfl, q, _, _, _, rfl, rfl, SqT.of hq, at0, _, _, rfl, rfl, m4 lb lc,
      _, _, rfl, h0, p4 la ld, p4 lb lc, k⟩

theorem scSum : FnScope ["one", "other"] ["one", "other"] (defScope sSum) := ⟨rfl, rfl, rfl, by decide +kernel, rfl, by decide +kernel, by decide +kernel⟩
theorem ok_Sum (F : L2.Fun K "_law_sum" "_law_sum" sSum f fd) (D : Def P w K mg base 1 "_law_least" ["a", "b"] spFr) :
    FnOk P w K mg base CX0 2 f fd ["one", "other"] (spBin gPlus kProd) := by
  refine F.ok scSum (fun vs H Q E h => ?_) (fun cdv A outer s H vs Q E hr h => ?_)
  · obtain ⟨_, _, _, _, _, _, rfl, _⟩ := h
    rfl
  · obtain ⟨p, q, a, b, c, d, rfl, hp, hq, la, lb, lc, ld, h0, k⟩ := h
    refine ⟨_, pss_one (ps_ret (pe_callD D hr (by rfl) (pa_cons
      (pe_op op_add (pe_op op_mulW (pe_ix ix_tup (pv 0) pe_int (fun _ _ => rfl)) (pe_ix ix_tup (pv 1) pe_int (fun _ _ => rfl))) (pe_op op_mulW (pe_ix ix_tup (pv 1) pe_int (fun _ _ => rfl)) (pe_ix ix_tup (pv 0) pe_int (fun _ _ => rfl))))
      (pa_cons (pe_op op_mulW (pe_ix ix_tup (pv 0) pe_int (fun _ _ => rfl)) (pe_ix ix_tup (pv 1) pe_int (fun _ _ => rfl))) pa_nil)))), ?_⟩
    exact ⟨_, rfl, p, _, _, _, rfl, rfl, SqT.of hp, at0, _, rfl, q, _, _, _, rfl, rfl, SqT.of hq, at1, _, _, rfl, rfl, m4 la ld, _, rfl, q, _, _, _, rfl, rfl, SqT.of hq, at0, _, rfl, p, _, _, _, rfl, rfl, SqT.of hp, at1, _, _, rfl, rfl, m4 lc lb, _, _, rfl, rfl,
      _, rfl, p, _, _, _, rfl, rfl, SqT.of hp, at1, _, rfl, q, _, _, _, rfl, rfl, SqT.of hq, at1, _, _, rfl, rfl, m4 lb ld,
      _, _, rfl, h0, a4 la ld lc lb, p4 lb ld, k⟩

theorem scLTimes : FnScope ["one", "other"] ["one", "other"] (defScope sLTimes) := ⟨rfl, rfl, rfl, by decide +kernel, rfl, by decide +kernel, by decide +kernel⟩
theorem ok_LTimes (F : L2.Fun K "_law_times" "_law_times" sLTimes f fd) (D : Def P w K mg base 1 "_law_least" ["a", "b"] spFr) :
    FnOk P w K mg base CX0 2 f fd ["one", "other"] (spBin gTimes kProd) := by
  refine F.ok scLTimes (fun vs H Q E h => ?_) (fun cdv A outer s H vs Q E hr h => ?_)
  · obtain ⟨_, _, _, _, _, _, rfl, _⟩ := h
    rfl
  · obtain ⟨p, q, a, b, c, d, rfl, hp, hq, la, lb, lc, ld, h0, k⟩ := h
    refine ⟨_, pss_one (ps_ret (pe_callD D hr (by rfl) (pa_cons
      (pe_op op_mulW (pe_ix ix_tup (pv 0) pe_int (fun _ _ => rfl)) (pe_ix ix_tup (pv 1) pe_int (fun _ _ => rfl)))
      (pa_cons (pe_op op_mulW (pe_ix ix_tup (pv 0) pe_int (fun _ _ => rfl)) (pe_ix ix_tup (pv 1) pe_int (fun _ _ => rfl))) pa_nil)))), ?_⟩
    exact ⟨_, rfl, p, _, _, _, rfl, rfl, SqT.of hp, at0, _, rfl, q, _, _, _, rfl, rfl, SqT.of hq, at0, _, _, rfl, rfl, m4 la lc,
      _, rfl, p, _, _, _, rfl, rfl, SqT.of hp, at1, _, rfl, q, _, _, _, rfl, rfl, SqT.of hq, at1, _, _, rfl, rfl, m4 lb ld,
      _, _, rfl, h0, p4 la lc, p4 lb ld, k⟩

theorem scLMinus : FnScope ["one", "other"] ["one", "other"] (defScope sLMinus) := ⟨rfl, rfl, rfl, by decide +kernel, rfl, by decide +kernel, by decide +kernel⟩
theorem ok_LMinus (F : L2.Fun K "_law_minus" "_law_minus" sLMinus f fd) (D : Def P w K mg base 1 "_law_least" ["a", "b"] spFr) :
    FnOk P w K mg base CX0 2 f fd ["one", "other"] (spBin gMinus kProd) := by
  refine F.ok scLMinus (fun vs H Q E h => ?_) (fun cdv A outer s H vs Q E hr h => ?_)
  · obtain ⟨_, _, _, _, _, _, rfl, _⟩ := h
    rfl
  · obtain ⟨p, q, a, b, c, d, rfl, hp, hq, la, lb, lc, ld, h0, k⟩ := h
    refine ⟨_, pss_one (ps_ret (pe_callD D hr (by rfl) (pa_cons
      (pe_op op_sub (pe_op op_mulW (pe_ix ix_tup (pv 0) pe_int (fun _ _ => rfl)) (pe_ix ix_tup (pv 1) pe_int (fun _ _ => rfl))) (pe_op op_mulW (pe_ix ix_tup (pv 1) pe_int (fun _ _ => rfl)) (pe_ix ix_tup (pv 0) pe_int (fun _ _ => rfl))))
      (pa_cons (pe_op op_mulW (pe_ix ix_tup (pv 0) pe_int (fun _ _ => rfl)) (pe_ix ix_tup (pv 1) pe_int (fun _ _ => rfl))) pa_nil)))), ?_⟩
    exact ⟨_, rfl, p, _, _, _, rfl, rfl, SqT.of hp, at0, _, rfl, q, _, _, _, rfl, rfl, SqT.of hq, at1, _, _, rfl, rfl, m4 la ld, _, rfl, q, _, _, _, rfl, rfl, SqT.of hq, at0, _, rfl, p, _, _, _, rfl, rfl, SqT.of hp, at1, _, _, rfl, rfl, m4 lc lb, _, _, rfl, rfl,
      _, rfl, p, _, _, _, rfl, rfl, SqT.of hp, at1, _, rfl, q, _, _, _, rfl, rfl, SqT.of hq, at1, _, _, rfl, rfl, m4 lb ld,
      _, _, rfl, h0, s4 la ld lc lb, p4 lb ld, k⟩

theorem scLess : FnScope ["x", "y"] ["x", "y"] (defScope sLess) := ⟨rfl, rfl, rfl, by decide +kernel, rfl, by decide +kernel, by decide +kernel⟩
theorem ok_Less (F : L2.Fun K "less" "less" sLess f fd) : FnOk P w K mg base CX0 1 f fd ["x", "y"] spLess := by
  refine F.ok scLess (fun vs H Q E h => ?_) (fun cdv A outer s H vs Q E hr h => ?_)
  · obtain ⟨_, _, _, _, _, _, rfl, _⟩ := h
    rfl
  · obtain ⟨p, q, a, b, c, d, rfl, hp, hq, la, lb, lc, ld, k⟩ := h
    refine ⟨_, pss_one (ps_ret (pe_cmpR op_lt (pe_op op_mulW (pe_ix ix_tup (pv 0) pe_int (fun _ _ => rfl)) (pe_ix ix_tup (pv 1) pe_int (fun _ _ => rfl))) (pe_op op_mulW (pe_ix ix_tup (pv 1) pe_int (fun _ _ => rfl)) (pe_ix ix_tup (pv 0) pe_int (fun _ _ => rfl))) (nomark _))), ?_⟩
    exact ⟨_, rfl, p, _, _, _, rfl, rfl, SqT.of hp, at0, _, rfl, q, _, _, _, rfl, rfl, SqT.of hq, at1, _, _, rfl, rfl, m4 la ld, _, rfl, q, _, _, _, rfl, rfl, SqT.of hq, at0, _, rfl, p, _, _, _, rfl, rfl, SqT.of hp, at1, _, _, rfl, rfl, m4 lc lb, _, _, rfl, rfl, k⟩


theorem scLeast : FnScope ["a", "b", "one", "other"] ["a", "b"] (defScope sLeast) := ⟨rfl, rfl, rfl, by decide +kernel, rfl, by decide +kernel, by decide +kernel⟩
theorem ok_least (F : L2.Fun K "_law_least" "_law_least" sLeast f fd) (T : Blt mg) : FnOk P w K mg base CX0 1 f fd ["a", "b"] spFr := by
  refine F.ok scLeast (fun vs H Q E h => ?_) (fun cdv A outer s H vs Q E hr h => ?_)
  · obtain ⟨a, b, rfl, _⟩ := h
    rfl
  · obtain ⟨a, b, rfl, hb, la, lb, k⟩ := h
    refine ⟨_, pss_cons (ps_par rfl scLeast.nd (i := 2) (j := 3) rfl rfl (by decide) rfl rfl (pa_cons (pe_callB call_abs (by rfl) T.abs (by decide +kernel) (pa_cons (pv 0) pa_nil)) (pa_cons (pe_callB call_abs (by rfl) T.abs (by decide +kernel) (pa_cons (pv 1) pa_nil)) pa_nil)) (by rfl))
      (Evl.pss_cut (ps_while PassesOwn.never (pt_cmpR op_ne (pv 3) pe_int (nomark _))
        (pss_one (ps_par rfl scLeast.nd (i := 2) (j := 3) rfl rfl (by decide) rfl rfl (pa_cons (pv 3) (pa_cons (pe_op op_modN (pe_callTy call_int1 (by rfl) T.int (by decide +kernel) (pa_cons (pv 2) pa_nil)) (pv 3)) pa_nil)) (by rfl))))
      (Evl.pss_cut (ps_set (i := 2) scLeast.nd rfl (.inl rfl) (pe_ifExp (pt_cmpR op_gt (pv 1) pe_int (nomark _)) (pv 2) (pe_op op_sub pe_int (pv 2))))
      (pss_one (ps_ret (pe_tup (pa_cons (pe_op op_fdivG (pv 0) (pv 2)) (pa_cons (pe_op op_fdivG (pv 1) (pv 2)) pa_nil))))))), ?_⟩
    refine ⟨_, rfl, a, rfl, _, rfl, b, rfl, _, _, rfl, ?_⟩
    refine ⟨fun σ H' => σ = [some (.int a), some (.int b), some (.int ((Nat.gcd a.natAbs b.natAbs : Nat) : Int)), some (.int 0)] ∧ H' = H,
      ⟨fun m σ H' => ∃ x : Nat, σ = [some (.int a), some (.int b), some (.int (x : Int)), some (.int (m : Int))] ∧ H' = H ∧ Nat.gcd x m = Nat.gcd a.natAbs b.natAbs,
        ⟨b.natAbs, a.natAbs, ?_, rfl, rfl⟩, ?_⟩, ?_⟩
    · rw [← abs_nat a, ← abs_nat b]
      rfl
    · rintro m σ H' ⟨x, rfl, rfl, hg⟩
      refine ⟨_, rfl, rfl, _, rfl, ?_⟩
      by_cases h0 : m = 0
      · subst h0
        refine iteF' ?_ ?_
        · exact congrArg (fun z => !z) (decide_eq_true rfl)
        · rw [Nat.gcd_zero_right] at hg
          rw [← hg]
          exact ⟨rfl, rfl⟩
      · have hne : ¬ V.int (m : Int) = V.int 0 := fun z => h0 (by injection z with z; omega)
        refine iteT' ?_ ?_
        · exact congrArg (fun z => !z) (decide_eq_false hne)
        · refine ⟨fun σ' H'' => ∃ m', m' < m ∧ ∃ x : Nat, σ' = [some (.int a), some (.int b), some (.int (x : Int)), some (.int (m' : Int))] ∧ H'' = H' ∧ Nat.gcd x m' = Nat.gcd a.natAbs b.natAbs, fun _ _ q => q, ?_⟩
          refine ⟨_, rfl, _, rfl, .inl ⟨_, rfl, _, rfl, _, _, rfl, rfl, (by show (m : Int) ≠ 0; omega), _, _, rfl, ?_⟩⟩
          refine ⟨x % m, Nat.mod_lt _ (by omega), m, ?_, rfl, ?_⟩
          · rw [← fmod_nat]
            rfl
          · rw [← hg, Nat.gcd_comm m, ← Nat.gcd_rec, Nat.gcd_comm]
    · rintro σ H' ⟨rfl, rfl⟩
      refine ⟨fun σ H'' => σ = [some (.int a), some (.int b), some (.int (dv a b)), some (.int 0)] ∧ H'' = H', ⟨_, rfl, _, _, rfl, rfl, _, rfl, ite2 (fun h1 => ?_) (fun h1 => ?_)⟩, ?_⟩
      · refine ⟨_, rfl, ?_, rfl⟩
        unfold dv
        rw [if_neg (show ¬ b < 0 by have := of_decide_eq_true h1; omega)]
        rfl
      · have h2 : b < 0 := by
          have : ¬ (0 < b) := fun z => h1 (decide_eq_true z)
          omega
        refine ⟨_, rfl, _, _, rfl, rfl, ?_, rfl⟩
        unfold dv
        rw [if_pos h2, ← Int.zero_sub]
        rfl
      · rintro σ H'' ⟨rfl, rfl⟩
        have hd : Lt2 1000 (dv a b) := lb.le (dv_le hb)
        exact ⟨_, rfl, _, rfl, _, _, rfl, rfl, hd.div (dv_ne hb) (by decide) (by decide), _, rfl, _, rfl, _, _, rfl, rfl, hd.div (dv_ne hb) (by decide) (by decide), (by show 2 ≤ sizeLine; decide), fun p hp => k p _ (same_new hp) upd_same⟩

theorem scOf : FnScope ["source", "some"] ["source", "some"] (defScope sOf) := ⟨rfl, rfl, rfl, by decide +kernel, rfl, by decide +kernel, by decide +kernel⟩
theorem ok_of (F : L2.Fun K "_law_of" "_law_of" sOf f fd) (D : Def P w K mg base 1 "_law_pick" ["source", "many"] spPick) (T : Blt mg) :
    FnOk P w K mg base CX0 2 f fd ["source", "some"] (spOf K) := by
  refine F.ok scOf (fun vs H Q E h => ?_) (fun cdv A outer s H vs Q E hr h => ?_)
  · obtain ⟨_, _, _, _, rfl, _⟩ := h
    rfl
  · obtain ⟨d, l, p, xs, rfl, S, hS, n1, n2, h0, hz, k⟩ := h
    refine ⟨_, pss_one (ps_ret (pe_ix ix_list (pv 1) (pe_callD D hr (by rfl) (pa_cons (pv 0) (pa_cons (pe_callB call_len_seq (by rfl) T.len PySem.boot_len (pa_cons (pv 1) pa_nil)) pa_nil))) (fun _ _ => rfl))), ?_⟩
    refine ⟨_, rfl, _, rfl, _, rfl, p, xs, rfl, .inl hS, d, l, _, rfl, S, by omega, fun r H' r0 rl S' B => ?_⟩
    have rl' : r < (xs.length : Int) := by
      rcases rl with q | ⟨q1, q2⟩
      · exact q
      · omega
    have hr1 : r.toNat < xs.length := by omega
    refine ⟨p, xs, r, xs[r.toNat], rfl, rfl, seq_but B n1 n2 hS, at_of (j := r.toNat) (by omega) (List.getElem?_eq_getElem hr1), k _ _ (List.getElem_mem hr1) S' B⟩
end
end Kx
namespace Kx
open PySem PySem.Spec PyProof.Rows L2
/-- a drawn number -/
def spAny : Sp := fun vs H Q _ => ∃ d l, vs = [.ref d] ∧ SrcAt H d l ∧ ∀ z H', Lt2 103 z → SrcAt H' d l → But d l H H' → Q (.int z) H'
def spLaw (K : PySem.W.Frag) : Sp := fun vs H Q _ => ∃ (b : Addr) (ns : List Int), vs = [.ref b] ∧ SqL K H b (ns.map V.int) ∧ ns.length ≤ 63 ∧
  (∀ z ∈ ns, Builtin.Int.intBits z ≤ 1048576) ∧ ∀ H', Q (.bl true) H'
section
variable {P : Program} {w : World} {K : PySem.W.Frag} {mg : Str → Option Value} {base : Heap} {f : Addr} {fd : FuncData}
theorem scAny : FnScope ["source"] ["source"] (defScope sAny) := ⟨rfl, rfl, rfl, by decide +kernel, rfl, by decide +kernel, by decide +kernel⟩
theorem ok_any (F : L2.Fun K "_law_any" "_law_any" sAny f fd) (D : Def P w K mg base 1 "_law_pick" ["source", "many"] spPick) (DO : Def P w K mg base 2 "_law_of" ["source", "some"] (spOf K)) :
    FnOk P w K mg base CX0 3 f fd ["source"] spAny := by
  refine F.ok scAny (fun vs H Q E h => ?_) (fun cdv A outer s H vs Q E hr h => ?_)
  · obtain ⟨_, _, rfl, _⟩ := h
    rfl
  · obtain ⟨d, l, rfl, S, k⟩ := h
    have hr1 : Room 1 _ := hr.mono (by decide)
    refine ⟨_, pss_one (ps_ret (pe_callD DO hr (by rfl) (pa_cons (pv 0) (pa_cons (pe_lst
      (pa_cons (pe_op op_sub (pe_callD D hr1 (by rfl) (pa_cons (pv 0) (pa_cons pe_int pa_nil))) pe_int)
      (pa_cons (pe_op op_sub (pe_callD D hr1 (by rfl) (pa_cons (pv 0) (pa_cons pe_int pa_nil))) pe_int)
      (pa_cons pe_int (pa_cons pe_int (pa_cons (pe_op op_sub pe_int (pe_op op_pow pe_int pe_int)) (pa_cons (pe_op op_mul pe_int (pe_op op_pow pe_int pe_int)) pa_nil))))))) pa_nil)))), ?_⟩
    refine ⟨_, rfl, _, rfl, d, l, _, rfl, S, by decide, fun r1 H1 r0 rl S1 B1 => ?_⟩
    refine ⟨_, _, rfl, rfl, _, rfl, d, l, _, rfl, S1, by decide, fun r2 H2 q0 ql S2 B2 => ?_⟩
    refine ⟨_, _, rfl, rfl, _, _, rfl, rfl, ⟨by decide, by decide, by decide⟩, _, _, rfl, rfl, _, _, rfl, rfl, ⟨by decide, by decide, by decide⟩, _, _, rfl, rfl, .inl ⟨by decide, by decide⟩, (by show 6 ≤ sizeLine; decide), fun p hp => ?_⟩
    have N := S2.nd hp
    refine ⟨d, l, p, _, rfl, S2.same (same_new hp), SqL.of upd_same, N.1, N.2, (by show 0 < 6; decide), (by show 6 < 1000000; decide), fun v H3 hv S3 B3 => ?_⟩
    have B : But d l H H3 := B1.trans (B2.trans ((But.new hp).trans B3))
    simp only [List.mem_cons, List.not_mem_nil, or_false] at hv
    rcases hv with rfl | rfl | rfl | rfl | rfl | rfl
    · exact k _ _ (by unfold Lt2; omega) S3 B
    · exact k _ _ (by unfold Lt2; omega) S3 B
    · exact k _ _ (by unfold Lt2; decide) S3 B
    · exact k _ _ (by unfold Lt2; decide) S3 B
    · exact k _ _ (by show Lt2 103 (7 - 10 ^ 30); unfold Lt2; decide) S3 B
    · exact k _ _ (by show Lt2 103 (6 * 10 ^ 30); unfold Lt2; decide) S3 B
end
end Kx
namespace Kx
open PySem PySem.Spec PyProof.Rows L2
/-! ### data of fractions -/
def frD (a b : Int) : PyData := .tuple [.int (nu a b), .int (de a b)]
theorem log_of {n : Nat} {a : Int} (h : Lt2 n a) (h0 : 0 < n) (h9 : n ≤ 1920) : a.natAbs.log2 < 1920 := Nat.lt_of_lt_of_le (PySem.Flt.log2_lt_of h0 h) h9
/-- data that can be shown -/
structure Show (d : PyData) : Prop where
  sh : SeqAt.shaped d = true
  sw : d.showable = true
  ln : d.shown.length ≤ sizeLine
theorem Show.of {d : PyData} (h1 : d.canLay0 = true) (h2 : d.depth ≤ 64) (h3 : d.showable = true) (h4 : cost d ≤ sizeLine) : Show d :=
  ⟨by unfold SeqAt.shaped; rw [h1, decide_eq_true h2]; rfl, h3, Nat.le_trans (shown_cost d h1 h3) h4⟩
theorem fr_showable {n : Nat} {a b : Int} (hb : b ≠ 0) (la : Lt2 n a) (lb : Lt2 n b) (h0 : 0 < n) (h9 : n ≤ 1920) : (frD a b).showable = true := by
  have h1 := log_of (la.le (nu_le hb)) h0 h9
  have h2 := log_of (lb.le (de_le (a := a) hb)) h0 h9
  simp [frD, PyData.showable, PyData.showableAll, h1, h2]
theorem fr_lay (a b : Int) : (frD a b).canLay0 = true := by simp [frD, PyData.canLay0, PyData.canLayAll0]
theorem fr_depth (a b : Int) : (frD a b).depth = 1 := by simp [frD, PyData.depth, PyData.depthAll]
theorem fr_cost (a b : Int) : cost (frD a b) = 3849 := by simp [frD, cost, costAll]
theorem fr_show {n : Nat} {a b : Int} (hb : b ≠ 0) (la : Lt2 n a) (lb : Lt2 n b) (h0 : 0 < n) (h9 : n ≤ 1920) : Show (frD a b) :=
  .of (fr_lay a b) (by rw [fr_depth]; decide) (fr_showable hb la lb h0 h9) (by rw [fr_cost]; decide)
theorem dp_fr {K : PySem.W.Frag} {H : Hp} {p : Addr} {a b : Int} (h : H p = some (.tup (frV a b))) : Dp K H (.ref p) (frD a b) := Dp.tup (SqT.of h) (.cons (.int _) (.cons (.int _) .nil))
/-- the list that is compared -/
def allD (a b c e f g h i j k : Int) (u v : Bool) : PyData := .list [frD a b, frD c e, frD f g, frD h i, frD j k, .bool u, .bool v]
theorem all_show {n : Nat} {a b c e f g h i j k : Int} {u v : Bool} (h0 : 0 < n) (h9 : n ≤ 1920) (s1 : (frD a b).showable = true) (s2 : (frD c e).showable = true) (s3 : (frD f g).showable = true) (s4 : (frD h i).showable = true) (s5 : (frD j k).showable = true) :
    Show (allD a b c e f g h i j k u v) := by
  refine .of ?_ ?_ ?_ ?_
  · simp [allD, PyData.canLay0, PyData.canLayAll0, fr_lay]
  · simp [allD, PyData.depth, PyData.depthAll, fr_depth]
  · simp [allD, PyData.showable, PyData.showableAll, s1, s2, s3, s4, s5]
  · simp only [allD, cost, costAll, fr_cost]
    decide

theorem neT {b : Int} (h : ¬ b = 0) : (!decide (V.int b = V.int 0)) = true := by
  rw [decide_eq_false fun z => h (by injection z)]
  rfl
theorem neF {b : Int} (h : b = 0) : (!decide (V.int b = V.int 0)) = false := by
  rw [h, decide_eq_true rfl]
  rfl
/-- what told and due both are -/
def cmpD (a b c e : Int) : PyData := allD a b c e (gPlus (nu a b) (de a b) (nu c e) (de c e)) (kProd (nu a b) (de a b) (nu c e) (de c e)) (gMinus (nu a b) (de a b) (nu c e) (de c e)) (kProd (nu a b) (de a b) (nu c e) (de c e))
  (gTimes (nu a b) (de a b) (nu c e) (de c e)) (kProd (nu a b) (de a b) (nu c e) (de c e)) (decide (nu a b * de c e < nu c e * de a b)) (decide (nu c e * de a b < nu a b * de c e))
structure BltL (mg : Str → Option Value) : Prop where
  range : mg "range" = none
  repr : mg "repr" = none
section
variable {P : Program} {w : World} {K : PySem.W.Frag} {mg : Str → Option Value} {base : Heap} {f : Addr} {fd : FuncData}
abbrev nmL : List Str := ["script", "source", "lap", "a", "b", "c", "d", "x", "y", "told", "due", "turn"]
theorem scLaw : FnScope nmL ["script"] (defScope sLaw) := ⟨rfl, rfl, rfl, by decide +kernel, rfl, by decide +kernel, by decide +kernel⟩
theorem ok_law (F : L2.Fun K "law" "law" sLaw f fd) (T : BltL mg)
    (dSrc : Def P w K mg base 1 "_law_source" ["script"] (spSource K)) (dPick : Def P w K mg base 1 "_law_pick" ["source", "many"] spPick) (dAny : Def P w K mg base 3 "_law_any" ["source"] spAny)
    (dLeast : Def P w K mg base 1 "_law_least" ["a", "b"] spFr) (dFr : Def P w K mg base 1 "fraction" ["a", "b"] spFr)
    (dPlus : Def P w K mg base 2 "plus" ["x", "y"] (spBin gPlus kProd)) (dMinus : Def P w K mg base 2 "minus" ["x", "y"] (spBin gMinus kProd)) (dTimes : Def P w K mg base 2 "times" ["x", "y"] (spBin gTimes kProd))
    (dOver : Def P w K mg base 2 "over" ["x", "y"] (spBin gOver kOver)) (dLess : Def P w K mg base 1 "less" ["x", "y"] spLess)
    (dSum : Def P w K mg base 2 "_law_sum" ["one", "other"] (spBin gPlus kProd)) (dLM : Def P w K mg base 2 "_law_minus" ["one", "other"] (spBin gMinus kProd)) (dLT : Def P w K mg base 2 "_law_times" ["one", "other"] (spBin gTimes kProd)) :
    FnG P w K mg base CX0 4 f fd ["script"] (spLaw K) := by
  refine okG F scLaw (fun vs H Q E h => ?_) (fun cdv A outer s H vs Q E hG hr h => ?_)
  · obtain ⟨b, ns, rfl, _⟩ := h
    rfl
  · obtain ⟨bs, ns, rfl, hS, hl, hz, fin⟩ := h
    have hu : (A.deeper (envOfC "law" (defScope sLaw) s.heap.objs.size f cdv)).units + 66 < cLine := by have := hr.un; omega
    have hr1 : Room 1 (A.deeper (envOfC "law" (defScope sLaw) s.heap.objs.size f cdv)) := hr.mono (by decide)
    have hr2 : Room 2 (A.deeper (envOfC "law" (defScope sLaw) s.heap.objs.size f cdv)) := hr.mono (by decide)
    have hu4 : (A.deeper (envOfC "law" (defScope sLaw) s.heap.objs.size f cdv)).units + 64 < cLine := by omega
    have nd := scLaw.nd
    refine ⟨_, pss_cons (ps_set (i := 1) nd rfl (.inr rfl) (pe_callD dSrc hr1 (by rfl) (pa_cons (pv 0) pa_nil)))
      (pss_cons (ps_for PassesOwn.never rfl (pi_range1 rfl T.range (pa_cons pe_int pa_nil)) (pg_name (i := 2) nd rfl (.inl rfl))
        (Evl.pss_cut (ps_asg (pe_lc (own := [("turn", 11)]) (g := gName 11) rfl nd (pi_range1 rfl T.range (pa_cons pe_int pa_nil)) (blkOk_by (N := nmL) (sc := defScope sLaw) (by decide +kernel))
            (fun _ _ _ _ _ => pg_name (i := 11) nd rfl (.inl rfl)) (fun _ _ _ _ _ => pts_nil) (fun _ _ _ _ _ => pe_callD dAny hr (by rfl) (pa_cons (pv 1) pa_nil)))
          (pg_unl rfl (pgs_cons (pg_name (i := 3) nd rfl (.inl rfl)) (pgs_cons (pg_name (i := 4) nd rfl (.inl rfl)) (pgs_cons (pg_name (i := 5) nd rfl (.inl rfl)) (pgs_cons (pg_name (i := 6) nd rfl (.inl rfl)) pgs_nil))))))
        (Evl.pss_cut (ps_par rfl nd (i := 4) (j := 6) rfl rfl (by decide) rfl rfl
          (pa_cons (pe_ifExp (pt_cmpR op_ne (pv 4) pe_int (nomark _)) (pv 4) (pe_op op_add pe_int (pe_callD dPick hr1 (by rfl) (pa_cons (pv 1) (pa_cons pe_int pa_nil)))))
          (pa_cons (pe_ifExp (pt_cmpR op_ne (pv 6) pe_int (nomark _)) (pv 6) (pe_op op_sub (pe_op op_sub pe_int pe_int) (pe_callD dPick hr1 (by rfl) (pa_cons (pv 1) (pa_cons pe_int pa_nil))))) pa_nil)) (by rfl))
        (Evl.pss_cut (ps_par rfl nd (i := 7) (j := 8) rfl rfl (by decide) rfl rfl
          (pa_cons (pe_callD dLeast hr1 (by rfl) (pa_cons (pv 3) (pa_cons (pv 4) pa_nil))) (pa_cons (pe_callD dLeast hr1 (by rfl) (pa_cons (pv 5) (pa_cons (pv 6) pa_nil))) pa_nil)) (by rfl))
        (Evl.pss_cut (ps_set (i := 9) nd rfl (.inl rfl) (pe_lst (pa_cons (pe_callD dFr hr1 (by rfl) (pa_cons (pv 3) (pa_cons (pv 4) pa_nil))) (pa_cons (pe_callD dFr hr1 (by rfl) (pa_cons (pv 5) (pa_cons (pv 6) pa_nil))) (pa_cons (pe_callD dPlus hr2 (by rfl) (pa_cons (pv 7) (pa_cons (pv 8) pa_nil))) (pa_cons (pe_callD dMinus hr2 (by rfl) (pa_cons (pv 7) (pa_cons (pv 8) pa_nil))) (pa_cons (pe_callD dTimes hr2 (by rfl) (pa_cons (pv 7) (pa_cons (pv 8) pa_nil))) (pa_cons (pe_callD dLess hr1 (by rfl) (pa_cons (pv 7) (pa_cons (pv 8) pa_nil))) (pa_cons (pe_callD dLess hr1 (by rfl) (pa_cons (pv 8) (pa_cons (pv 7) pa_nil))) pa_nil)))))))))
        (Evl.pss_cut (ps_set (i := 10) nd rfl (.inl rfl) (pe_lst (pa_cons (pv 7) (pa_cons (pv 8) (pa_cons (pe_callD dSum hr2 (by rfl) (pa_cons (pv 7) (pa_cons (pv 8) pa_nil))) (pa_cons (pe_callD dLM hr2 (by rfl) (pa_cons (pv 7) (pa_cons (pv 8) pa_nil))) (pa_cons (pe_callD dLT hr2 (by rfl) (pa_cons (pv 7) (pa_cons (pv 8) pa_nil))) pa_nil)))))))
        (Evl.pss_cut (ps_set (i := 10) nd rfl (.inl rfl) (pe_op op_cat (pv 10) (pe_lst (pa_cons (pe_cmpR op_lt (pe_op op_mulW (pe_ix ix_tup (pv 7) pe_int (fun _ _ => rfl)) (pe_ix ix_tup (pv 8) pe_int (fun _ _ => rfl))) (pe_op op_mulW (pe_ix ix_tup (pv 8) pe_int (fun _ _ => rfl)) (pe_ix ix_tup (pv 7) pe_int (fun _ _ => rfl))) (nomark _)) (pa_cons (pe_cmpR op_lt (pe_op op_mulW (pe_ix ix_tup (pv 8) pe_int (fun _ _ => rfl)) (pe_ix ix_tup (pv 7) pe_int (fun _ _ => rfl))) (pe_op op_mulW (pe_ix ix_tup (pv 7) pe_int (fun _ _ => rfl)) (pe_ix ix_tup (pv 8) pe_int (fun _ _ => rfl))) (nomark _)) pa_nil)))))
        (Evl.pss_cut (ps_if (PW.pt (pw_or (pt_cmpR op_ne (pe_callB (call_show hG hu) (by rfl) T.repr (by decide +kernel) (pa_cons (pv 9) pa_nil)) (pe_callB (call_show hG hu) (by rfl) T.repr (by decide +kernel) (pa_cons (pv 10) pa_nil)) (nomark _)) (pw_or1 (pt_cmpR op_notBl (pe_callD dLess hr1 (by rfl) (pa_cons (pv 7) (pa_cons (pv 7) pa_nil))) pe_bl (nomark _))))) (pss_one (ps_ret pe_bl)) pss_nil)
        (pss_one (ps_if (PW.pt (pw_and (pt_cmpR op_ne (pe_ix ix_tup (pv 8) pe_int (fun _ _ => rfl)) pe_int (nomark _)) (pw_and1 (pt_cmpR op_ne (pe_callB (call_show hG hu) (by rfl) T.repr (by decide +kernel) (pa_cons (pe_callD dOver hr2 (by rfl) (pa_cons (pv 7) (pa_cons (pv 8) pa_nil))) pa_nil)) (pe_callB (call_show hG hu) (by rfl) T.repr (by decide +kernel) (pa_cons (pe_callD dLeast hr1 (by rfl) (pa_cons (pe_op op_mulW (pe_ix ix_tup (pv 7) pe_int (fun _ _ => rfl)) (pe_ix ix_tup (pv 8) pe_int (fun _ _ => rfl))) (pa_cons (pe_op op_mulW (pe_ix ix_tup (pv 7) pe_int (fun _ _ => rfl)) (pe_ix ix_tup (pv 8) pe_int (fun _ _ => rfl))) pa_nil))) pa_nil)) (nomark _)))))
          (pss_one (ps_ret pe_bl)) pss_nil))))))))))
      (pss_cons (ps_set (i := 9) nd rfl (.inl rfl) (pe_lst (pa_cons (pe_callD dFr hr1 (by rfl) (pa_cons pe_int (pa_cons (pe_un un_neg pe_int) pa_nil))) (pa_cons (pe_callD dFr hr1 (by rfl) (pa_cons pe_int (pa_cons (pe_un un_neg pe_int) pa_nil))) (pa_cons (pe_callD dOver hr2 (by rfl) (pa_cons (pe_tup (pa_cons pe_int (pa_cons pe_int pa_nil))) (pa_cons (pe_tup (pa_cons (pe_un un_neg pe_int) (pa_cons pe_int pa_nil))) pa_nil))) (pa_cons (pe_callD dPlus hr2 (by rfl) (pa_cons (pe_tup (pa_cons pe_int (pa_cons pe_int pa_nil))) (pa_cons (pe_tup (pa_cons (pe_un un_neg pe_int) (pa_cons pe_int pa_nil))) pa_nil))) (pa_cons (pe_callD dLess hr1 (by rfl) (pa_cons (pe_tup (pa_cons (pe_un un_neg pe_int) (pa_cons pe_int pa_nil))) (pa_cons (pe_tup (pa_cons pe_int (pa_cons pe_int pa_nil))) pa_nil))) pa_nil)))))))
      (pss_one (ps_ret (pe_cmpR (op_eqD hu4) (pv 9) (pe_lst (pa_cons (pe_tup (pa_cons pe_int (pa_cons pe_int pa_nil))) (pa_cons (pe_tup (pa_cons (pe_un un_neg pe_int) (pa_cons pe_int pa_nil))) (pa_cons (pe_tup (pa_cons (pe_un un_neg pe_int) (pa_cons pe_int pa_nil))) (pa_cons (pe_tup (pa_cons pe_int (pa_cons pe_int pa_nil))) (pa_cons pe_bl pa_nil)))))) (nomark _)))))), ?_⟩
    refine ⟨_, rfl, bs, ns, rfl, hS, hl, hz, fun d l H1 hd hl' s1 S1 => ?_⟩
    refine ⟨14, rfl, by decide, by decide, for_range (lo := 0) (n := 14) (fun i σ H' => ∃ o2 o3 o4 o5 o6 o7 o8 o9 o10 o11 : Option V,
      σ = [some (.ref bs), some (.ref d), o2, o3, o4, o5, o6, o7, o8, o9, o10, o11] ∧ SrcAt H' d l) ⟨_, _, _, _, _, _, _, _, _, _, rfl, S1⟩ ?_ ?_⟩
    · rintro i σ H' hi ⟨o2, o3, o4, o5, o6, o7, o8, o9, o10, o11, rfl, S⟩
      refine ⟨fun σ H' => ∃ (a b c e : Int) (o2 o7 o8 o9 o10 o11 : Option V), σ = [some (.ref bs), some (.ref d), o2, some (.int a), some (.int b), some (.int c), some (.int e), o7, o8, o9, o10, o11] ∧
        Lt2 103 a ∧ Lt2 103 b ∧ Lt2 103 c ∧ Lt2 103 e ∧ SrcAt H' d l, ?_, ?_⟩
      · refine ⟨4, rfl, by decide, by decide, fun D hD => lc_range (lo := 0) (n := 4) (fun i H2 => ∃ zs : List Int, zs.length = i ∧ (∀ z ∈ zs, Lt2 103 z) ∧ H2 D = some (.lst (zs.map V.int)) ∧ SrcAt H2 d l)
          ⟨[], rfl, fun z hz => by simp at hz, upd_same, S.same (same_new hD)⟩ ?_ ?_⟩
        · rintro j H2 hj ⟨zs, hzl, hzs, hDz, S2⟩
          have nD : D ≠ d ∧ D ≠ l := S.nd hD
          refine ⟨rfl, _, rfl, d, l, rfl, S2, fun z H3 lz S3 B3 => ?_⟩
          refine ⟨_, B3 _ _ hDz nD.1 nD.2, ?_, zs ++ [z], ?_, ?_, ?_, ?_⟩
          · rw [List.length_map]
            exact small1000 (by omega)
          · rw [List.length_append, hzl]
            rfl
          · intro y hy
            rcases List.mem_append.mp hy with q | q
            · exact hzs y q
            · rw [List.mem_singleton.mp q]
              exact lz
          · rw [upd_same, List.map_append]
            rfl
          · obtain ⟨cs, a', m', t', S4⟩ := S3
            exact ⟨cs, a', m', t', Eq.trans (upd_ne nD.1.symm) S4.dc, Eq.trans (upd_ne nD.2.symm) S4.ls, S4.c0, S4.few, S4.a0, S4.m0, S4.t0⟩
        · rintro H2 ⟨zs, hzl, hzs, hDz, S2⟩
          match zs, hzl with
          | [a, b, c, e], _ =>
            exact ⟨D, _, rfl, SqL.of hDz, rfl, .int a, _, rfl, .int b, _, rfl, .int c, _, rfl, .int e, _, rfl, rfl, a, b, c, e, _, _, _, _, _, _, rfl,
              hzs a (by simp), hzs b (by simp), hzs c (by simp), hzs e (by simp), S2⟩
      · rintro σ H2 ⟨a, b, c, e, o2, o7, o8, o9, o10, o11, rfl, la, lb, lc, le, S2⟩
        refine ⟨fun σ H' => ∃ (a b c e : Int) (o2 o7 o8 o9 o10 o11 : Option V), σ = [some (.ref bs), some (.ref d), o2, some (.int a), some (.int b), some (.int c), some (.int e), o7, o8, o9, o10, o11] ∧
          Lt2 103 a ∧ Lt2 103 b ∧ Lt2 103 c ∧ Lt2 103 e ∧ b ≠ 0 ∧ e ≠ 0 ∧ SrcAt H' d l, ?_, ?_⟩
        · by_cases hb : b = 0
          · refine ⟨_, rfl, rfl, _, rfl, iteF' (neF hb) ⟨_, rfl, d, l, _, rfl, S2, by decide, fun r H3 r0 rl S3 B3 => ⟨_, _, rfl, rfl, ?_⟩⟩⟩
            by_cases he : e = 0
            · exact ⟨_, rfl, rfl, _, rfl, iteF' (neF he) ⟨_, _, rfl, rfl, _, rfl, d, l, _, rfl, S3, by decide, fun q H4 q0 ql S4 B4 => ⟨_, _, rfl, rfl, _, _, rfl,
                a, 1 + r, c, 0 - 1 - q, _, _, _, _, _, _, rfl, la, by unfold Lt2; omega, lc, by unfold Lt2; omega, by omega, by omega, S4⟩⟩⟩
            · exact ⟨_, rfl, rfl, _, rfl, iteT' (neT he) ⟨_, rfl, _, _, rfl, a, 1 + r, c, e, _, _, _, _, _, _, rfl, la, by unfold Lt2; omega, lc, le, by omega, he, S3⟩⟩
          · refine ⟨_, rfl, rfl, _, rfl, iteT' (neT hb) ⟨_, rfl, ?_⟩⟩
            by_cases he : e = 0
            · exact ⟨_, rfl, rfl, _, rfl, iteF' (neF he) ⟨_, _, rfl, rfl, _, rfl, d, l, _, rfl, S2, by decide, fun q H4 q0 ql S4 B4 => ⟨_, _, rfl, rfl, _, _, rfl,
                a, b, c, 0 - 1 - q, _, _, _, _, _, _, rfl, la, lb, lc, by unfold Lt2; omega, hb, by omega, S4⟩⟩⟩
            · exact ⟨_, rfl, rfl, _, rfl, iteT' (neT he) ⟨_, rfl, _, _, rfl, a, b, c, e, _, _, _, _, _, _, rfl, la, lb, lc, le, hb, he, S2⟩⟩
        · rintro σ H3 ⟨a, b, c, e, o2, o7, o8, o9, o10, o11, rfl, la, lb, lc, le, hb, he, S3⟩
          have la1 : Lt2 1000 a := la.mono (by decide)
          have lb1 : Lt2 1000 b := lb.mono (by decide)
          have lc1 : Lt2 1000 c := lc.mono (by decide)
          have le1 : Lt2 1000 e := le.mono (by decide)
          have xa : Lt2 103 (nu a b) := la.le (nu_le hb)
          have xb : Lt2 103 (de a b) := lb.le (de_le hb)
          have yc : Lt2 103 (nu c e) := lc.le (nu_le he)
          have ye : Lt2 103 (de c e) := le.le (de_le he)
          have xa4 : Lt2 400 (nu a b) := xa.mono (by decide)
          have xb4 : Lt2 400 (de a b) := xb.mono (by decide)
          have yc4 : Lt2 400 (nu c e) := yc.mono (by decide)
          have ye4 : Lt2 400 (de c e) := ye.mono (by decide)
          have xb0 : de a b ≠ 0 := de_ne hb
          have ye0 : de c e ≠ 0 := de_ne he
          have hk : kProd (nu a b) (de a b) (nu c e) (de c e) ≠ 0 := Int.mul_ne_zero xb0 ye0
          refine ⟨fun σ H' => ∃ (p q : Addr) (o2 o9 o10 o11 : Option V), σ = [some (.ref bs), some (.ref d), o2, some (.int a), some (.int b), some (.int c), some (.int e), some (.ref p), some (.ref q), o9, o10, o11] ∧
            H' p = some (.tup (frV a b)) ∧ H' q = some (.tup (frV c e)) ∧ SrcAt H' d l, ?_, ?_⟩
          · refine ⟨_, rfl, _, rfl, a, b, rfl, hb, la1, lb1, fun p H4 s4 e4 => ?_⟩
            exact ⟨_, rfl, _, rfl, c, e, rfl, he, lc1, le1, fun q H5 s5 e5 => ⟨_, _, rfl, p, q, _, _, _, _, rfl, s5 _ _ e4, e5, (S3.same s4).same s5⟩⟩
          · rintro σ H4 ⟨p, q, o2, o9, o10, o11, rfl, hp, hq, S4⟩
            -- told
            refine ⟨fun σ H' => ∃ (tl : Addr) (o2 o10 o11 : Option V), σ = [some (.ref bs), some (.ref d), o2, some (.int a), some (.int b), some (.int c), some (.int e), some (.ref p), some (.ref q), some (.ref tl), o10, o11] ∧
              H' p = some (.tup (frV a b)) ∧ H' q = some (.tup (frV c e)) ∧ SrcAt H' d l ∧
              Dp K H' (.ref tl) (cmpD a b c e), ?_, ?_⟩
            · refine ⟨_, rfl, _, rfl, a, b, rfl, hb, la1, lb1, fun p1 H5 s5 e5 => ?_⟩
              have S5 := s5
              refine ⟨_, rfl, _, rfl, c, e, rfl, he, lc1, le1, fun p2 H6 s6 e6 => ?_⟩
              have S6 := S5.trans s6
              refine ⟨_, rfl, _, rfl, p, q, _, _, _, _, rfl, S6 _ _ hp, S6 _ _ hq, xa4, xb4, yc4, ye4, hk, fun p3 H7 s7 e7 => ?_⟩
              have S7 := S6.trans s7
              refine ⟨_, rfl, _, rfl, p, q, _, _, _, _, rfl, S7 _ _ hp, S7 _ _ hq, xa4, xb4, yc4, ye4, hk, fun p4 H8 s8 e8 => ?_⟩
              have S8 := S7.trans s8
              refine ⟨_, rfl, _, rfl, p, q, _, _, _, _, rfl, S8 _ _ hp, S8 _ _ hq, xa4, xb4, yc4, ye4, hk, fun p5 H9 s9 e9 => ?_⟩
              have S9 := S8.trans s9
              refine ⟨_, rfl, _, rfl, p, q, _, _, _, _, rfl, S9 _ _ hp, S9 _ _ hq, xa4, xb4, yc4, ye4, ?_⟩
              refine ⟨_, rfl, _, rfl, q, p, _, _, _, _, rfl, S9 _ _ hq, S9 _ _ hp, yc4, ye4, xa4, xb4, (by show 7 ≤ sizeLine; decide), fun tl htl => ?_⟩
              have sT := same_new (o := .lst [.ref p1, .ref p2, .ref p3, .ref p4, .ref p5, .bl (decide (nu a b * de c e < nu c e * de a b)), .bl (decide (nu c e * de a b < nu a b * de c e))]) htl
              refine ⟨tl, _, _, _, rfl, sT _ _ (S9 _ _ hp), sT _ _ (S9 _ _ hq), (S4.same S9).same sT, Dp.lst (SqL.of upd_same) ?_⟩
              exact .cons (dp_fr (sT _ _ (s9 _ _ (s8 _ _ (s7 _ _ (s6 _ _ e5)))))) (.cons (dp_fr (sT _ _ (s9 _ _ (s8 _ _ (s7 _ _ e6))))) (.cons (dp_fr (sT _ _ (s9 _ _ (s8 _ _ e7)))) (.cons (dp_fr (sT _ _ (s9 _ _ e8)))
                (.cons (dp_fr (sT _ _ e9)) (.cons (.bl _) (.cons (.bl _) .nil))))))
            · rintro σ H5 ⟨tl, o2, o10, o11, rfl, hp, hq, S5, T5⟩
              -- due
              refine ⟨fun σ H' => ∃ (dl p3 p4 p5 : Addr) (o2 o11 : Option V), σ = [some (.ref bs), some (.ref d), o2, some (.int a), some (.int b), some (.int c), some (.int e), some (.ref p), some (.ref q), some (.ref tl), some (.ref dl), o11] ∧
                H' p = some (.tup (frV a b)) ∧ H' q = some (.tup (frV c e)) ∧ SrcAt H' d l ∧ Dp K H' (.ref tl) (cmpD a b c e) ∧ H' dl = some (.lst [.ref p, .ref q, .ref p3, .ref p4, .ref p5]) ∧
                H' p3 = some (.tup (frV (gPlus (nu a b) (de a b) (nu c e) (de c e)) (kProd (nu a b) (de a b) (nu c e) (de c e)))) ∧
                H' p4 = some (.tup (frV (gMinus (nu a b) (de a b) (nu c e) (de c e)) (kProd (nu a b) (de a b) (nu c e) (de c e)))) ∧
                H' p5 = some (.tup (frV (gTimes (nu a b) (de a b) (nu c e) (de c e)) (kProd (nu a b) (de a b) (nu c e) (de c e)))), ?_, ?_⟩
              · refine ⟨_, rfl, _, rfl, _, rfl, _, rfl, p, q, _, _, _, _, rfl, hp, hq, xa4, xb4, yc4, ye4, hk, fun p3 H6 s6 e6 => ?_⟩
                refine ⟨_, rfl, _, rfl, p, q, _, _, _, _, rfl, s6 _ _ hp, s6 _ _ hq, xa4, xb4, yc4, ye4, hk, fun p4 H7 s7 e7 => ?_⟩
                have S7 := s6.trans s7
                refine ⟨_, rfl, _, rfl, p, q, _, _, _, _, rfl, S7 _ _ hp, S7 _ _ hq, xa4, xb4, yc4, ye4, hk, fun p5 H8 s8 e8 => ?_⟩
                have S8 := S7.trans s8
                refine ⟨(by show 5 ≤ sizeLine; decide), fun dl hdl => ?_⟩
                have sD := same_new (o := .lst [.ref p, .ref q, .ref p3, .ref p4, .ref p5]) hdl
                exact ⟨dl, p3, p4, p5, _, _, rfl, sD _ _ (S8 _ _ hp), sD _ _ (S8 _ _ hq), (S5.same S8).same sD, dp_same (S8.trans sD) T5, upd_same, sD _ _ (s8 _ _ (s7 _ _ e6)), sD _ _ (s8 _ _ e7), sD _ _ e8⟩
              · rintro σ H6 ⟨dl, p3, p4, p5, o2, o11, rfl, hp, hq, S6, T6, hdl, h3, h4, h5⟩
                refine ⟨fun σ H' => ∃ (dl : Addr) (o2 o11 : Option V), σ = [some (.ref bs), some (.ref d), o2, some (.int a), some (.int b), some (.int c), some (.int e), some (.ref p), some (.ref q), some (.ref tl), some (.ref dl), o11] ∧
                  H' p = some (.tup (frV a b)) ∧ H' q = some (.tup (frV c e)) ∧ SrcAt H' d l ∧ Dp K H' (.ref tl) (cmpD a b c e) ∧ Dp K H' (.ref dl) (cmpD a b c e), ?_, ?_⟩
                · refine ⟨_, rfl, _, rfl, p, _, _, _, rfl, rfl, SqT.of hp, at0, _, rfl, q, _, _, _, rfl, rfl, SqT.of hq, at1, _, _, rfl, rfl, m4 xa4 ye4, ?_⟩
                  refine ⟨_, rfl, q, _, _, _, rfl, rfl, SqT.of hq, at0, _, rfl, p, _, _, _, rfl, rfl, SqT.of hp, at1, _, _, rfl, rfl, m4 yc4 xb4, _, _, rfl, rfl, ?_⟩
                  refine ⟨_, rfl, q, _, _, _, rfl, rfl, SqT.of hq, at0, _, rfl, p, _, _, _, rfl, rfl, SqT.of hp, at1, _, _, rfl, rfl, m4 yc4 xb4, ?_⟩
                  refine ⟨_, rfl, p, _, _, _, rfl, rfl, SqT.of hp, at0, _, rfl, q, _, _, _, rfl, rfl, SqT.of hq, at1, _, _, rfl, rfl, m4 xa4 ye4, _, _, rfl, rfl, ?_⟩
                  refine ⟨(by show 2 ≤ sizeLine; decide), fun tm htm => ?_⟩
                  have sM := same_new (o := .lst [.bl (decide (nu a b * de c e < nu c e * de a b)), .bl (decide (nu c e * de a b < nu a b * de c e))]) htm
                  refine ⟨dl, tm, _, _, rfl, rfl, sM _ _ hdl, upd_same, (by show 7 ≤ sizeLine; decide), fun dl2 hd2 => ?_⟩
                  have sN := same_new (o := .lst ([.ref p, .ref q, .ref p3, .ref p4, .ref p5] ++ [.bl (decide (nu a b * de c e < nu c e * de a b)), .bl (decide (nu c e * de a b < nu a b * de c e))])) hd2
                  have S := sM.trans sN
                  refine ⟨dl2, _, _, rfl, S _ _ hp, S _ _ hq, S6.same S, dp_same S T6, Dp.lst (SqL.of upd_same) ?_⟩
                  exact .cons (dp_fr (S _ _ hp)) (.cons (dp_fr (S _ _ hq)) (.cons (dp_fr (S _ _ h3)) (.cons (dp_fr (S _ _ h4)) (.cons (dp_fr (S _ _ h5)) (.cons (.bl _) (.cons (.bl _) .nil))))))
                · rintro σ H7 ⟨dl, o2, o11, rfl, hp, hq, S7, T7, D7⟩
                  have sh : Show (cmpD a b c e) := by
                    have hkp : Lt2 1000 (kProd (nu a b) (de a b) (nu c e) (de c e)) := Kx.p4 xb4 ye4
                    refine all_show (n := 1000) (by decide) (by decide) (fr_showable hb la1 lb1 (by decide) (by decide)) (fr_showable he lc1 le1 (by decide) (by decide)) (fr_showable hk (a4 xa4 ye4 yc4 xb4) hkp (by decide) (by decide))
                      (fr_showable hk (s4 xa4 ye4 yc4 xb4) hkp (by decide) (by decide)) (fr_showable hk (Kx.p4 xa4 yc4) hkp (by decide) (by decide))
                  refine ⟨fun σ H' => ∃ (o2 o9 o10 o11 : Option V), σ = [some (.ref bs), some (.ref d), o2, some (.int a), some (.int b), some (.int c), some (.int e), some (.ref p), some (.ref q), o9, o10, o11] ∧
                    H' p = some (.tup (frV a b)) ∧ H' q = some (.tup (frV c e)) ∧ SrcAt H' d l, ?_, ?_⟩
                  · refine ⟨_, rfl, tl, _, rfl, T7, sh.sh, sh.sw, sh.ln, _, rfl, dl, _, rfl, D7, sh.sh, sh.sw, sh.ln, rfl, _, rfl, iteNS rfl ?_⟩
                    refine ⟨_, rfl, _, rfl, p, p, _, _, _, _, rfl, hp, hp, xa4, xb4, xa4, xb4, ?_⟩
                    rw [decide_eq_false (Int.lt_irrefl _)]
                    exact ⟨_, _, rfl, rfl, _, rfl, iteF ⟨_, _, _, _, rfl, hp, hq, S7⟩⟩
                  · rintro σ H8 ⟨o2, o9, o10, o11, rfl, hp, hq, S8⟩
                    refine ⟨_, rfl, q, _, _, _, rfl, rfl, SqT.of hq, at0, rfl, _, rfl, ?_⟩
                    by_cases h0 : nu c e = 0
                    · exact iteF' (neF h0) (iteF ⟨_, _, _, _, _, _, _, _, _, _, rfl, S8⟩)
                    · have hk2 : kOver (nu a b) (de a b) (nu c e) (de c e) ≠ 0 := Int.mul_ne_zero xb0 h0
                      refine iteT' (neT h0) ⟨_, rfl, _, rfl, p, q, _, _, _, _, rfl, hp, hq, xa4, xb4, yc4, ye4, hk2, fun r H9 s9 e9 => ?_⟩
                      have sh2 : Show (frD (gOver (nu a b) (de a b) (nu c e) (de c e)) (kOver (nu a b) (de a b) (nu c e) (de c e))) := fr_show (n := 1000) hk2 (Kx.p4 xa4 ye4) (Kx.p4 xb4 yc4) (by decide) (by decide)
                      refine ⟨r, _, rfl, dp_fr e9, sh2.sh, sh2.sw, sh2.ln, ?_⟩
                      refine ⟨_, rfl, p, _, _, _, rfl, rfl, SqT.of (s9 _ _ hp), at0, _, rfl, q, _, _, _, rfl, rfl, SqT.of (s9 _ _ hq), at1, _, _, rfl, rfl, m4 xa4 ye4, ?_⟩
                      refine ⟨_, rfl, p, _, _, _, rfl, rfl, SqT.of (s9 _ _ hp), at1, _, rfl, q, _, _, _, rfl, rfl, SqT.of (s9 _ _ hq), at0, _, _, rfl, rfl, m4 xb4 yc4, ?_⟩
                      refine ⟨_, _, rfl, hk2, Kx.p4 xa4 ye4, Kx.p4 xb4 yc4, fun r2 H10 s10 e10 => ?_⟩
                      exact ⟨r2, _, rfl, dp_fr e10, sh2.sh, sh2.sw, sh2.ln, rfl, _, rfl, iteNS rfl ⟨_, _, _, _, _, _, _, _, _, _, rfl, (S8.same s9).same s10⟩⟩
    · rintro σ H1 ⟨o2, o3, o4, o5, o6, o7, o8, o9, o10, o11, rfl, S⟩
      have two : 2 ≤ sizeLine := by decide
      refine ⟨_, rfl, 0, -5, rfl, by decide, by unfold Lt2; decide, by unfold Lt2; decide, fun p1 H2 s1 e1 => ?_⟩
      refine ⟨_, rfl, 6, -4, rfl, by decide, by unfold Lt2; decide, by unfold Lt2; decide, fun p2 H3 s2 e2 => ?_⟩
      refine ⟨two, fun a1 n1 => ⟨_, rfl, two, fun a2 n2 => ?_⟩⟩
      refine ⟨a1, a2, 1, 2, -3, 4, rfl, same_new n2 _ _ upd_same, upd_same, by unfold Lt2; decide, by unfold Lt2; decide, by unfold Lt2; decide, by unfold Lt2; decide, by decide, fun p3 H4 s3 e3 => ?_⟩
      have S3 := (same_new (o := .tup [.int 1, .int 2]) n1).trans ((same_new (o := .tup [.int (-3), .int 4]) n2).trans s3)
      refine ⟨two, fun a3 n3 => ⟨_, rfl, two, fun a4' n4 => ?_⟩⟩
      refine ⟨a3, a4', 1, 2, -1, 2, rfl, same_new n4 _ _ upd_same, upd_same, by unfold Lt2; decide, by unfold Lt2; decide, by unfold Lt2; decide, by unfold Lt2; decide, by decide, fun p4 H5 s4 e4 => ?_⟩
      have S4 := (same_new (o := .tup [.int 1, .int 2]) n3).trans ((same_new (o := .tup [.int (-1), .int 2]) n4).trans s4)
      refine ⟨_, rfl, two, fun a5 n5 => ⟨two, fun a6 n6 => ?_⟩⟩
      refine ⟨a5, a6, -1, 2, 1, 3, rfl, same_new n6 _ _ upd_same, upd_same, by unfold Lt2; decide, by unfold Lt2; decide, by unfold Lt2; decide, by unfold Lt2; decide, ?_⟩
      have S5 := (same_new (o := .tup [.int (-1), .int 2]) n5).trans (same_new (o := .tup [.int 1, .int 3]) n6)
      refine ⟨(by show 5 ≤ sizeLine; decide), fun tl htl => ?_⟩
      have S6 := same_new (o := .lst [.ref p1, .ref p2, .ref p3, .ref p4, .bl (decide ((-1 : Int) * 3 < 1 * 2))]) htl
      refine ⟨_, rfl, two, fun b1 m1 => ⟨_, rfl, two, fun b2 m2 => ⟨_, rfl, two, fun b3 m3 => ⟨two, fun b4 m4' => ⟨(by show 5 ≤ sizeLine; decide), fun dl hdl => ?_⟩⟩⟩⟩⟩
      have Z1 := same_new (o := .tup [.int 0, .int 1]) m1
      have Z2 := same_new (o := .tup [.int (-3), .int 2]) m2
      have Z3 := same_new (o := .tup [.int (-2), .int 3]) m3
      have Z4 := same_new (o := .tup [.int 0, .int 1]) m4'
      have Z5 := same_new (o := .lst [.ref b1, .ref b2, .ref b3, .ref b4, .bl true]) hdl
      have ZT := Z1.trans (Z2.trans (Z3.trans (Z4.trans Z5)))
      have W5 := S5.trans (S6.trans ZT)
      have ev : PyData.eqv (.list [frD 0 (-5), frD 6 (-4), frD (gOver 1 2 (-3) 4) (kOver 1 2 (-3) 4), frD (gPlus 1 2 (-1) 2) (kProd 1 2 (-1) 2), .bool (decide ((-1 : Int) * 3 < 1 * 2))])
          (.list [.tuple [.int 0, .int 1], .tuple [.int (-3), .int 2], .tuple [.int (-2), .int 3], .tuple [.int 0, .int 1], .bool true]) = true := by decide +kernel
      refine ⟨_, .list [.tuple [.int 0, .int 1], .tuple [.int (-3), .int 2], .tuple [.int (-2), .int 3], .tuple [.int 0, .int 1], .bool true],
        Dp.lst (SqL.of (ZT _ _ upd_same)) (.cons (dp_fr (W5 _ _ (S4 _ _ (S3 _ _ (s2 _ _ e1))))) (.cons (dp_fr (W5 _ _ (S4 _ _ (S3 _ _ e2)))) (.cons (dp_fr (W5 _ _ (S4 _ _ e3))) (.cons (dp_fr (W5 _ _ e4)) (.cons (.bl _) .nil))))),
        Dp.lst (SqL.of upd_same) (.cons (Dp.tup (SqT.of (Z5 _ _ (Z4 _ _ (Z3 _ _ (Z2 _ _ upd_same))))) (.cons (.int _) (.cons (.int _) .nil))) (.cons (Dp.tup (SqT.of (Z5 _ _ (Z4 _ _ (Z3 _ _ upd_same)))) (.cons (.int _) (.cons (.int _) .nil)))
          (.cons (Dp.tup (SqT.of (Z5 _ _ (Z4 _ _ upd_same))) (.cons (.int _) (.cons (.int _) .nil))) (.cons (Dp.tup (SqT.of (Z5 _ _ upd_same)) (.cons (.int _) (.cons (.int _) .nil))) (.cons (.bl _) .nil))))), by decide +kernel, by decide +kernel, ?_⟩
      rw [ev]
      exact fin _
end
end Kx
namespace Kx
open PySem PySem.Spec PyProof.Rows L2
/-! ### the end -/
theorem all_mk {l : PySem.W.OpenLaw} {w : World} {K : PySem.W.Frag} {h : Heap} {mg : Str → Option Value} {fa f0 f1 f2 f3 f4 f5 f6 f7 f8 f9 f10 f11 f12 f13 f14 : Addr} (X : K.In h) (G : h.Ns mainGlobals mg) (hfa : mg "law" = some (.ref fa))
    {od0 an0 : Option Addr} {sl0 : Array (Option Value)} {oc0 kV0 dc0 pm0 cd0 ct0 : Value} (a0 : PySem.W.nsIn K mainGlobals "_law_source" = some (some (.ref f0)))
    (l0 : K.lookup f0 = some ⟨oc0, od0, .func (PySem.W.fnOf "_law_source" "_law_source" (defArgs sSource) (defBody sSource) (defScope sSource) .none kV0 dc0 pm0 an0 cd0 ct0), sl0⟩)
    (c0 : PySem.W.codeIn K cd0 "_law_source" = true) (k0 : PySem.W.keepIn K (.ref f0) = true)
    {od1 an1 : Option Addr} {sl1 : Array (Option Value)} {oc1 kV1 dc1 pm1 cd1 ct1 : Value} (a1 : PySem.W.nsIn K mainGlobals "_law_pick" = some (some (.ref f1)))
    (l1 : K.lookup f1 = some ⟨oc1, od1, .func (PySem.W.fnOf "_law_pick" "_law_pick" (defArgs sPick) (defBody sPick) (defScope sPick) .none kV1 dc1 pm1 an1 cd1 ct1), sl1⟩)
    (c1 : PySem.W.codeIn K cd1 "_law_pick" = true) (k1 : PySem.W.keepIn K (.ref f1) = true)
    {od2 an2 : Option Addr} {sl2 : Array (Option Value)} {oc2 kV2 dc2 pm2 cd2 ct2 : Value} (a2 : PySem.W.nsIn K mainGlobals "_law_of" = some (some (.ref f2)))
    (l2 : K.lookup f2 = some ⟨oc2, od2, .func (PySem.W.fnOf "_law_of" "_law_of" (defArgs sOf) (defBody sOf) (defScope sOf) .none kV2 dc2 pm2 an2 cd2 ct2), sl2⟩)
    (c2 : PySem.W.codeIn K cd2 "_law_of" = true) (k2 : PySem.W.keepIn K (.ref f2) = true)
    {od3 an3 : Option Addr} {sl3 : Array (Option Value)} {oc3 kV3 dc3 pm3 cd3 ct3 : Value} (a3 : PySem.W.nsIn K mainGlobals "_law_any" = some (some (.ref f3)))
    (l3 : K.lookup f3 = some ⟨oc3, od3, .func (PySem.W.fnOf "_law_any" "_law_any" (defArgs sAny) (defBody sAny) (defScope sAny) .none kV3 dc3 pm3 an3 cd3 ct3), sl3⟩)
    (c3 : PySem.W.codeIn K cd3 "_law_any" = true) (k3 : PySem.W.keepIn K (.ref f3) = true)
    {od4 an4 : Option Addr} {sl4 : Array (Option Value)} {oc4 kV4 dc4 pm4 cd4 ct4 : Value} (a4 : PySem.W.nsIn K mainGlobals "_law_least" = some (some (.ref f4)))
    (l4 : K.lookup f4 = some ⟨oc4, od4, .func (PySem.W.fnOf "_law_least" "_law_least" (defArgs sLeast) (defBody sLeast) (defScope sLeast) .none kV4 dc4 pm4 an4 cd4 ct4), sl4⟩)
    (c4 : PySem.W.codeIn K cd4 "_law_least" = true) (k4 : PySem.W.keepIn K (.ref f4) = true)
    {od5 an5 : Option Addr} {sl5 : Array (Option Value)} {oc5 kV5 dc5 pm5 cd5 ct5 : Value} (a5 : PySem.W.nsIn K mainGlobals "fraction" = some (some (.ref f5)))
    (l5 : K.lookup f5 = some ⟨oc5, od5, .func (PySem.W.fnOf "fraction" "fraction" (defArgs sFr) (defBody sFr) (defScope sFr) .none kV5 dc5 pm5 an5 cd5 ct5), sl5⟩)
    (c5 : PySem.W.codeIn K cd5 "fraction" = true) (k5 : PySem.W.keepIn K (.ref f5) = true)
    {od6 an6 : Option Addr} {sl6 : Array (Option Value)} {oc6 kV6 dc6 pm6 cd6 ct6 : Value} (a6 : PySem.W.nsIn K mainGlobals "plus" = some (some (.ref f6)))
    (l6 : K.lookup f6 = some ⟨oc6, od6, .func (PySem.W.fnOf "plus" "plus" (defArgs sPlus) (defBody sPlus) (defScope sPlus) .none kV6 dc6 pm6 an6 cd6 ct6), sl6⟩)
    (c6 : PySem.W.codeIn K cd6 "plus" = true) (k6 : PySem.W.keepIn K (.ref f6) = true)
    {od7 an7 : Option Addr} {sl7 : Array (Option Value)} {oc7 kV7 dc7 pm7 cd7 ct7 : Value} (a7 : PySem.W.nsIn K mainGlobals "minus" = some (some (.ref f7)))
    (l7 : K.lookup f7 = some ⟨oc7, od7, .func (PySem.W.fnOf "minus" "minus" (defArgs sMinus) (defBody sMinus) (defScope sMinus) .none kV7 dc7 pm7 an7 cd7 ct7), sl7⟩)
    (c7 : PySem.W.codeIn K cd7 "minus" = true) (k7 : PySem.W.keepIn K (.ref f7) = true)
    {od8 an8 : Option Addr} {sl8 : Array (Option Value)} {oc8 kV8 dc8 pm8 cd8 ct8 : Value} (a8 : PySem.W.nsIn K mainGlobals "times" = some (some (.ref f8)))
    (l8 : K.lookup f8 = some ⟨oc8, od8, .func (PySem.W.fnOf "times" "times" (defArgs sTimes) (defBody sTimes) (defScope sTimes) .none kV8 dc8 pm8 an8 cd8 ct8), sl8⟩)
    (c8 : PySem.W.codeIn K cd8 "times" = true) (k8 : PySem.W.keepIn K (.ref f8) = true)
    {od9 an9 : Option Addr} {sl9 : Array (Option Value)} {oc9 kV9 dc9 pm9 cd9 ct9 : Value} (a9 : PySem.W.nsIn K mainGlobals "over" = some (some (.ref f9)))
    (l9 : K.lookup f9 = some ⟨oc9, od9, .func (PySem.W.fnOf "over" "over" (defArgs sOver) (defBody sOver) (defScope sOver) .none kV9 dc9 pm9 an9 cd9 ct9), sl9⟩)
    (c9 : PySem.W.codeIn K cd9 "over" = true) (k9 : PySem.W.keepIn K (.ref f9) = true)
    {od10 an10 : Option Addr} {sl10 : Array (Option Value)} {oc10 kV10 dc10 pm10 cd10 ct10 : Value} (a10 : PySem.W.nsIn K mainGlobals "less" = some (some (.ref f10)))
    (l10 : K.lookup f10 = some ⟨oc10, od10, .func (PySem.W.fnOf "less" "less" (defArgs sLess) (defBody sLess) (defScope sLess) .none kV10 dc10 pm10 an10 cd10 ct10), sl10⟩)
    (c10 : PySem.W.codeIn K cd10 "less" = true) (k10 : PySem.W.keepIn K (.ref f10) = true)
    {od11 an11 : Option Addr} {sl11 : Array (Option Value)} {oc11 kV11 dc11 pm11 cd11 ct11 : Value} (a11 : PySem.W.nsIn K mainGlobals "_law_sum" = some (some (.ref f11)))
    (l11 : K.lookup f11 = some ⟨oc11, od11, .func (PySem.W.fnOf "_law_sum" "_law_sum" (defArgs sSum) (defBody sSum) (defScope sSum) .none kV11 dc11 pm11 an11 cd11 ct11), sl11⟩)
    (c11 : PySem.W.codeIn K cd11 "_law_sum" = true) (k11 : PySem.W.keepIn K (.ref f11) = true)
    {od12 an12 : Option Addr} {sl12 : Array (Option Value)} {oc12 kV12 dc12 pm12 cd12 ct12 : Value} (a12 : PySem.W.nsIn K mainGlobals "_law_minus" = some (some (.ref f12)))
    (l12 : K.lookup f12 = some ⟨oc12, od12, .func (PySem.W.fnOf "_law_minus" "_law_minus" (defArgs sLMinus) (defBody sLMinus) (defScope sLMinus) .none kV12 dc12 pm12 an12 cd12 ct12), sl12⟩)
    (c12 : PySem.W.codeIn K cd12 "_law_minus" = true) (k12 : PySem.W.keepIn K (.ref f12) = true)
    {od13 an13 : Option Addr} {sl13 : Array (Option Value)} {oc13 kV13 dc13 pm13 cd13 ct13 : Value} (a13 : PySem.W.nsIn K mainGlobals "_law_times" = some (some (.ref f13)))
    (l13 : K.lookup f13 = some ⟨oc13, od13, .func (PySem.W.fnOf "_law_times" "_law_times" (defArgs sLTimes) (defBody sLTimes) (defScope sLTimes) .none kV13 dc13 pm13 an13 cd13 ct13), sl13⟩)
    (c13 : PySem.W.codeIn K cd13 "_law_times" = true) (k13 : PySem.W.keepIn K (.ref f13) = true)
    {od14 an14 : Option Addr} {sl14 : Array (Option Value)} {oc14 kV14 dc14 pm14 cd14 ct14 : Value} (a14 : PySem.W.nsIn K mainGlobals "law" = some (some (.ref f14)))
    (l14 : K.lookup f14 = some ⟨oc14, od14, .func (PySem.W.fnOf "law" "law" (defArgs sLaw) (defBody sLaw) (defScope sLaw) .none kV14 dc14 pm14 an14 cd14 ct14), sl14⟩)
    (c14 : PySem.W.codeIn K cd14 "law" = true) (k14 : PySem.W.keepIn K (.ref f14) = true)
    (y0 : PySem.W.nsIn K mainGlobals "gcd" = some (some (.builtin "math.gcd")))
    (z0 : PySem.W.nsIn K mainGlobals "abs" = some none)
    (z1 : PySem.W.nsIn K mainGlobals "int" = some none)
    (z2 : PySem.W.nsIn K mainGlobals "len" = some none)
    (z3 : PySem.W.nsIn K mainGlobals "max" = some none)
    (z4 : PySem.W.nsIn K mainGlobals "range" = some none)
    (z5 : PySem.W.nsIn K mainGlobals "repr" = some none)
    : ∃ fd : FuncData, (∀ (s : Shared) (v : Value), BindsTo s fd ⟨[v], []⟩ [("script", v)]) ∧ ∀ base : Heap, K.In base → base.Ns mainGlobals mg → FnG l.prog w K mg base CX0 4 fa fd ["script"] (spLaw K) := by
  have e := hfa.symm.trans (PySem.W.mg_of X G a14)
  cases e
  have F0 := fun_mk (st := sSource) l0 c0 k0
  have m0 := PySem.W.mg_of X G a0
  have b0 := F0.binds (ps := ["script"]) fun _ _ _ _ _ _ us hl => match us, hl with | [_], _ => rfl
  have F1 := fun_mk (st := sPick) l1 c1 k1
  have m1 := PySem.W.mg_of X G a1
  have b1 := F1.binds (ps := ["source", "many"]) fun _ _ _ _ _ _ us hl => match us, hl with | [_, _], _ => rfl
  have F2 := fun_mk (st := sOf) l2 c2 k2
  have m2 := PySem.W.mg_of X G a2
  have b2 := F2.binds (ps := ["source", "some"]) fun _ _ _ _ _ _ us hl => match us, hl with | [_, _], _ => rfl
  have F3 := fun_mk (st := sAny) l3 c3 k3
  have m3 := PySem.W.mg_of X G a3
  have b3 := F3.binds (ps := ["source"]) fun _ _ _ _ _ _ us hl => match us, hl with | [_], _ => rfl
  have F4 := fun_mk (st := sLeast) l4 c4 k4
  have m4 := PySem.W.mg_of X G a4
  have b4 := F4.binds (ps := ["a", "b"]) fun _ _ _ _ _ _ us hl => match us, hl with | [_, _], _ => rfl
  have F5 := fun_mk (st := sFr) l5 c5 k5
  have m5 := PySem.W.mg_of X G a5
  have b5 := F5.binds (ps := ["a", "b"]) fun _ _ _ _ _ _ us hl => match us, hl with | [_, _], _ => rfl
  have F6 := fun_mk (st := sPlus) l6 c6 k6
  have m6 := PySem.W.mg_of X G a6
  have b6 := F6.binds (ps := ["x", "y"]) fun _ _ _ _ _ _ us hl => match us, hl with | [_, _], _ => rfl
  have F7 := fun_mk (st := sMinus) l7 c7 k7
  have m7 := PySem.W.mg_of X G a7
  have b7 := F7.binds (ps := ["x", "y"]) fun _ _ _ _ _ _ us hl => match us, hl with | [_, _], _ => rfl
  have F8 := fun_mk (st := sTimes) l8 c8 k8
  have m8 := PySem.W.mg_of X G a8
  have b8 := F8.binds (ps := ["x", "y"]) fun _ _ _ _ _ _ us hl => match us, hl with | [_, _], _ => rfl
  have F9 := fun_mk (st := sOver) l9 c9 k9
  have m9 := PySem.W.mg_of X G a9
  have b9 := F9.binds (ps := ["x", "y"]) fun _ _ _ _ _ _ us hl => match us, hl with | [_, _], _ => rfl
  have F10 := fun_mk (st := sLess) l10 c10 k10
  have m10 := PySem.W.mg_of X G a10
  have b10 := F10.binds (ps := ["x", "y"]) fun _ _ _ _ _ _ us hl => match us, hl with | [_, _], _ => rfl
  have F11 := fun_mk (st := sSum) l11 c11 k11
  have m11 := PySem.W.mg_of X G a11
  have b11 := F11.binds (ps := ["one", "other"]) fun _ _ _ _ _ _ us hl => match us, hl with | [_, _], _ => rfl
  have F12 := fun_mk (st := sLMinus) l12 c12 k12
  have m12 := PySem.W.mg_of X G a12
  have b12 := F12.binds (ps := ["one", "other"]) fun _ _ _ _ _ _ us hl => match us, hl with | [_, _], _ => rfl
  have F13 := fun_mk (st := sLTimes) l13 c13 k13
  have m13 := PySem.W.mg_of X G a13
  have b13 := F13.binds (ps := ["one", "other"]) fun _ _ _ _ _ _ us hl => match us, hl with | [_, _], _ => rfl
  have F14 := fun_mk (st := sLaw) l14 c14 k14
  have m14 := PySem.W.mg_of X G a14
  have my0 := PySem.W.mg_of X G y0
  have mz0 := PySem.W.mg_none_of X G z0
  have mz1 := PySem.W.mg_none_of X G z1
  have mz2 := PySem.W.mg_none_of X G z2
  have mz3 := PySem.W.mg_none_of X G z3
  have mz4 := PySem.W.mg_none_of X G z4
  have mz5 := PySem.W.mg_none_of X G z5
  refine ⟨PySem.W.fnOf "law" "law" (defArgs sLaw) (defBody sLaw) (defScope sLaw) .none kV14 dc14 pm14 an14 cd14 ct14, fun s v => .of_eq rfl, fun base _ _ => ?_⟩
  have dSrc := Def.of F0 (ok_source (P := l.prog) (w := w) (base := base) F0 ⟨mz0, mz1, mz2, mz3⟩) b0 m0
  have dPick := Def.of F1 (ok_pick (P := l.prog) (w := w) (base := base) F1 ⟨mz0, mz1, mz2, mz3⟩) b1 m1
  have dOf := Def.of F2 (ok_of F2 dPick ⟨mz0, mz1, mz2, mz3⟩) b2 m2
  have dAny := Def.of F3 (ok_any F3 dPick dOf) b3 m3
  have dLeast := Def.of F4 (ok_least (P := l.prog) (w := w) (base := base) F4 ⟨mz0, mz1, mz2, mz3⟩) b4 m4
  have dFr := Def.of F5 (ok_fr (P := l.prog) (w := w) (base := base) F5 my0) b5 m5
  have dPlus := Def.of F6 (ok_Plus F6 dFr) b6 m6
  have dMinus := Def.of F7 (ok_Minus F7 dFr) b7 m7
  have dTimes := Def.of F8 (ok_Times F8 dFr) b8 m8
  have dOver := Def.of F9 (ok_Over F9 dFr) b9 m9
  have dLess := Def.of F10 (ok_Less (P := l.prog) (w := w) (base := base) (mg := mg) F10) b10 m10
  have dSum := Def.of F11 (ok_Sum F11 dLeast) b11 m11
  have dLM := Def.of F12 (ok_LMinus F12 dLeast) b12 m12
  have dLT := Def.of F13 (ok_LTimes F13 dLeast) b13 m13
  exact ok_law F14 ⟨mz4, mz5⟩ dSrc dPick dAny dLeast dFr dPlus dMinus dTimes dOver dLess dSum dLM dLT
theorem walk_law {l : PySem.W.OpenLaw} {q : Program} {loose : List Str} {XP : (Str → Option Value) → Heap → Prop} {YP : World → Heap → Prop} {d : DefRec} {K : Params → PySem.W.Frag} (hn : l.most = some 63) (hdf : d.params.defaults = [])
    (hY : ∀ (w : World) (h : Heap), YP w h → (K w.params).In h)
    (F : ∀ (w : World) (mg : Str → Option Value) (fa : Addr) (h : Heap), (K w.params).In h → h.Ns mainGlobals mg → mg d.name = some (.ref fa) →
      ∃ fd : FuncData, (∀ (s : Shared) (u : Value), BindsTo s fd ⟨[u], []⟩ [("script", u)]) ∧ ∀ base : Heap, (K w.params).In base → base.Ns mainGlobals mg → FnG l.prog w (K w.params) mg base CX0 4 fa fd ["script"] (spLaw (K w.params))) :
    PySem.W.WalkO q loose XP YP l.row.toRowW d [] (fun f vs => PySem.call f vs) :=
  walk_G (n := 63) (k := 4) (x := "script") (CX := fun _ => CX0) (sp := fun w => spLaw (K w.params)) hn (by decide) hdf ⟨rfl, by decide, by decide⟩ hY F
    (fun _ _ a ns hl hz _ hS => ⟨a, ns, rfl, hS, hl, hz, fun _ => rfl⟩) fun _ _ _ _ _ z => z
end Kx
open PySem PySem.W PyProof.Rows
set_option maxRecDepth 100000 in
set_option maxHeartbeats 0 in
theorem PySem.Challenge.cw_figureclaims_k11_fractions_holds : PySem.Challenge.rw_figureclaims_k11_fractions.Holds := by
  w_on; o_law; k_head; (case hw => w_witness2)
  k_fill
  refine Kx.walk_law (l := PySem.Challenge.rw_figureclaims_k11_fractions) rfl rfl (fun w h Y => PySem.W.kIn_of Y) ?F
  case F =>
    intro w mg fa h KX G hmg
    refine' Kx.all_mk KX G hmg ?a0 ?l0 ?c0 ?k0 ?a1 ?l1 ?c1 ?k1 ?a2 ?l2 ?c2 ?k2 ?a3 ?l3 ?c3 ?k3 ?a4 ?l4 ?c4 ?k4 ?a5 ?l5 ?c5 ?k5 ?a6 ?l6 ?c6 ?k6 ?a7 ?l7 ?c7 ?k7 ?a8 ?l8 ?c8 ?k8 ?a9 ?l9 ?c9 ?k9 ?a10 ?l10 ?c10 ?k10 ?a11 ?l11 ?c11 ?k11 ?a12 ?l12 ?c12 ?k12 ?a13 ?l13 ?c13 ?k13 ?a14 ?l14 ?c14 ?k14 ?y0 ?z0 ?z1 ?z2 ?z3 ?z4 ?z5
    (case a0 => k_is); (case l0 => k_is); (case c0 => k_is); (case k0 => k_is)
    (case a1 => k_is); (case l1 => k_is); (case c1 => k_is); (case k1 => k_is)
    (case a2 => k_is); (case l2 => k_is); (case c2 => k_is); (case k2 => k_is)
    (case a3 => k_is); (case l3 => k_is); (case c3 => k_is); (case k3 => k_is)
    (case a4 => k_is); (case l4 => k_is); (case c4 => k_is); (case k4 => k_is)
    (case a5 => k_is); (case l5 => k_is); (case c5 => k_is); (case k5 => k_is)
    (case a6 => k_is); (case l6 => k_is); (case c6 => k_is); (case k6 => k_is)
    (case a7 => k_is); (case l7 => k_is); (case c7 => k_is); (case k7 => k_is)
    (case a8 => k_is); (case l8 => k_is); (case c8 => k_is); (case k8 => k_is)
    (case a9 => k_is); (case l9 => k_is); (case c9 => k_is); (case k9 => k_is)
    (case a10 => k_is); (case l10 => k_is); (case c10 => k_is); (case k10 => k_is)
    (case a11 => k_is); (case l11 => k_is); (case c11 => k_is); (case k11 => k_is)
    (case a12 => k_is); (case l12 => k_is); (case c12 => k_is); (case k12 => k_is)
    (case a13 => k_is); (case l13 => k_is); (case c13 => k_is); (case k13 => k_is)
    (case a14 => k_is); (case l14 => k_is); (case c14 => k_is); (case k14 => k_is)
    (case y0 => k_is); (case z0 => k_is); (case z1 => k_is); (case z2 => k_is)
    (case z3 => k_is); (case z4 => k_is); (case z5 => k_is)
