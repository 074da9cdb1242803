import PyProof.Rows.All
import Wide.All
import OpenK.AllK
import Wide.FinOn
import HandS.ForMost
import HandS.Wide
import HandS.Gcd
import HandS.Style
import HandS.NoneIn
import HandS.EndBits
import HandS.Evl
import KE.KExcIs
import KE.KExcInit
import HandS.ExcInit
import HandS.ExcOwn
import HandS.ExcValue
import HandS.IsInst
import HandS.Conv
import HandS.SortOrd
import HandS.SortRule
import HandS.TupSets
import HandS.NamedTupSort
import HandS.Zip
import HandS.DictTup
import HandS.TupAny
import HandS.TupMul
import KE.KDictPairs
import KE.KDictCopyH
import HandS.Walk
import HandS.SortKw
import HandS.SortInts
import HandS.DictComp
import KE.GoesEnum
import KE.GoesMore
import HandS.TupLe
import PyProof.ListMulRoad
import PyProof.FactsAll.tuple_2
import KE.KDictDisplayH
import HandS.Rev
import HandS.WideBits
import HandS.ForExc
import HandS.ExcField
import HandS.Flow
import PySem.Challenge.RW_figureclaims_k21_polynomials_judged
set_option Elab.async false
set_option linter.all false
set_option maxRecDepth 100000
set_option maxHeartbeats 2000000
namespace Kx
open PySem PySem.Spec PyProof.Rows L2

/-! ### defs that show values: what they promise holds where no repr is under way -/
/-- the promise of a def, kept where nothing is being shown around the call -/
structure FnG (P : Program) (w : World) (K : PySem.W.Frag) (mg : Str → Option Value) (base : Heap) (CX : CXT)
    (k : Nat) (f : Addr) (fd : FuncData) (ps : List Str) (sp : Sp) : Prop where
  size : ∀ vs H Q E, sp vs H Q E → vs.length = ps.length
  go : ∀ (A : Around) (outer : List Env) (s : Shared) (H : Hp) (args : Args) (us : List Value) (vs : List V) (Q : VK) (E : XK),
    A.guards = some [] → Room k A → Env0 P w K mg base A outer s H → BindsTo s fd args (ps.zip us) → Vals vs us → sp vs H Q E →
    codeAny (model P w) A (.call (.ref f) args) (CR CX outer P w H s Q E) s

section
variable {P : Program} {w : World} {K : PySem.W.Frag} {mg : Str → Option Value} {base : Heap} {CX : CXT} {k : Nat} {f : Addr} {fd : FuncData} {ps : List Str} {sp : Sp}

theorem FnG.of (F : FnOk P w K mg base CX k f fd ps sp) : FnG P w K mg base CX k f fd ps sp :=
  ⟨F.len, fun A outer s H args us vs Q E _ => F.run A outer s H args us vs Q E⟩

theorem FnG.up {j : Nat} (F : FnG P w K mg base CX j f fd ps sp) (h : j ≤ k) : FnG P w K mg base CX k f fd ps sp :=
  ⟨F.size, fun A outer s H args us vs Q E hg hr => F.go A outer s H args us vs Q E hg (hr.mono h)⟩

/-- a def of the text, by its body, in a place where nothing is being shown -/
theorem okG {x qual : Str} {st : Stmt} {N : List Str} (F : L2.Fun K x qual st f fd) (S : FnScope N ps (defScope st))
    (len : ∀ vs H Q E, sp vs H Q E → vs.length = ps.length)
    (hbody : ∀ (cdv : Value) (A : Around) (outer : List Env) (s : Shared) (H : Hp) (vs : List V) (Q : VK) (E : XK),
      (A.deeper (envOfC qual (defScope st) s.heap.objs.size f cdv)).guards = some [] →
      Room k (A.deeper (envOfC qual (defScope st) s.heap.objs.size f cdv)) → sp vs H Q E →
      ∃ t, PSs (cxOf CX P w K mg base N qual (defScope st) f cdv A outer s H E).nox (defBody st) t ∧
        t { nx := fun _ H' => Q .non H', rt := Q } (start N vs) H) :
    FnG P w K mg base CX (k + 1) f fd ps sp := by
  obtain ⟨oc, od, kV, doc, pm, an, cdv, ct, osl, rfl, lk, hcd⟩ := F.ex
  refine ⟨len, ?_⟩
  intro A outer s H args us vs Q E hg hr e0 hb r hsp
  have inH : K.In s.heap := e0.mod.kin.keeps fun b o e => (e0.bs b o e).1
  have noL : s.heap.NoLimit := e0.mod.nolimit.keeps fun b o e => (e0.bs b o e).1
  have hks : ∀ y ∈ ps.zip us, (defScope st).names.lookup y.1 = some .local ∨
      ((defScope st).names.lookup y.1 = some .cell ∧ ((cellsFrom (s.heap.objs.size + 1) (defScope st).names []).lookup y.1).isSome = true) := by
    rintro ⟨n, v⟩ hy
    rcases S.par n (List.of_mem_zip hy).1 with q | q
    · exact Or.inl q
    · exact Or.inr ⟨q, PySem.W.cellsFrom_some _ _ _ (Or.inl q)⟩
  refine codeAny_call_function hr.depth (inH _ _ lk) rfl S.co S.gen rfl (PySem.W.codeRec_of inH hcd) (hb _ _ _ _ ?_)
  refine wpAny_newFunctionEnv_cells S.kind hks fun env he s1 x => ?_
  subst he
  refine ⟨noL.keeps x.toInCall.keep, codeAny_func ?_⟩
  obtain ⟨t, ht, hq⟩ := hbody cdv A outer s H vs Q E hg (hr.deeper _) hsp
  have I := inv_start (CX := CX) (P := P) (E := E) S hr.hd e0 (len _ _ _ _ hsp) r x
  refine wpAny_mono (ht.nox.run [] s1 (start N vs) H _ I hq) (fun fl s' hs => ?_) (fun e s' hs => hs)
  have out : ∀ {σ' : L2.St} {H' : Hp} {v : V} {u : Value},
      Inv (cxOf CX P w K mg base N qual (defScope st) f cdv A outer s H E) [] σ' H' s' → RelV v u → Q v H' → CE outer P w H s Q u s' := by
    intro σ' H' v u J rv q
    exact ⟨v, H', J.os, J.bare, J.base, J.hok, rv, q⟩
  match fl, hs with
  | .ret u, ⟨v, σ', H', J, rv, q⟩ => exact out J rv q
  | .next, ⟨σ', H', J, q⟩ => exact out (v := V.non) (u := Value.none) J rfl q
  | .brk, ⟨_, _, _, q⟩ => exact q.elim
  | .cont, ⟨_, _, _, q⟩ => exact q.elim
end

section
variable {X : Cx} {CX : CXT} {k : Nat} {f : Addr} {fd : FuncData} {ps : List Str} {sp : Sp} {dvs : List V} {ds : List Value} {E : XK} {x : Str} {p pos : Pos} {e : Expr} {es : List Expr} {t : TA}

/-- f(..), f a def of which FnG is known -/
theorem pe_callG (hG : X.A.guards = some []) (F : FnG X.prog X.w X.K X.mg X.base CX k f fd ps sp) (hr : Room k X.A) (hg : Gl X x) (hm : X.mg x = some (.ref f))
    (hk : PySem.W.keepIn X.K (.ref f) = true) (hb : Binds X.K fd ps ds) (hd : Vals dvs ds) (hx : Passes CX X E) (ha : PA X (e :: es) t)
    (hdb : (x == ("__debug__" : Str)) = false := by decide) (he : starEach (e :: es) X.env = (false, eval e X.env) :: starEach es X.env := by rfl)
    (hpl : (backTo pos (starEach es X.env)).any (·.1) = false := by rfl) : PE X (.Call (.Name x p) (e :: es) [] pos) (tCall sp dvs E t) := by
  constructor
  intro pins s σ H Q I h
  refine wpAny_Call_Name_kw (ld_glob I hg hm ?_ hdb)
  refine PySem.W.callWith_K (h₀ := X.base) I.ok.mod.kin hk (thn (ha.run pos pins s σ H _ I h) ?_) he hpl
  rintro us s1 ⟨vs, H1, I1, r, q⟩
  refine ⟨I1.kIn, ?_⟩
  have r2 : Vals (vs ++ dvs) (us ++ ds) := r.append hd
  have hl : (us ++ ds).length = ps.length := r2.length.symm.trans (F.size _ _ _ _ q)
  refine wpAny_call (codeAny_mono (F.go X.A X.stack s1 H1 ⟨us, []⟩ (us ++ ds) (vs ++ dvs) Q E hG hr I1.env0 (hb s1 us I1.kIn hl) r2 q) ?_)
  intro r s' hq
  match r, hq with
  | .error e, hq => exact hx pins σ H1 s1 e s' I1 hq
  | .ok (.ret u), hq => exact I1.after hq
  | .ok .next, hq => exact False.elim hq
  | .ok .brk, hq => exact False.elim hq
  | .ok .cont, hq => exact False.elim hq
end

/-! ### a def by its name -/
/-- the module's name x is a def that keeps the promise sp -/
structure Def (P : Program) (w : World) (K : PySem.W.Frag) (mg : Str → Option Value) (base : Heap) (k : Nat) (x : Str) (ps : List Str) (sp : Sp) : Prop where
  ex : ∃ f fd, FnOk P w K mg base CX0 k f fd ps sp ∧ PySem.W.keepIn K (.ref f) = true ∧ Binds K fd ps [] ∧ mg x = some (.ref f)
theorem Def.of {P : Program} {w : World} {K : PySem.W.Frag} {mg : Str → Option Value} {base : Heap} {k : Nat} {x qual : Str} {st : Stmt} {f : Addr} {fd : FuncData} {ps : List Str} {sp : Sp}
    (F : L2.Fun K x qual st f fd) (G : FnOk P w K mg base CX0 k f fd ps sp) (b : Binds K fd ps []) (m : mg x = some (.ref f)) : Def P w K mg base k x ps sp := ⟨f, fd, G, F.kp, b, m⟩
theorem pe_callD {X : Cx} {k : Nat} {x : Str} {ps : List Str} {sp : Sp} {e : Expr} {es : List Expr} {t : TA} {p pos : Pos} (D : Def X.prog X.w X.K X.mg X.base k x ps sp) (hr : Room k X.A) (hg : Gl X x) (ha : PA X (e :: es) t)
    (hdb : (x == ("__debug__" : Str)) = false := by decide) (he : starEach (e :: es) X.env = (false, eval e X.env) :: starEach es X.env := by rfl)
    (hpl : (backTo pos (starEach es X.env)).any (·.1) = false := by rfl) : PE X (.Call (.Name x p) (e :: es) [] pos) (tCall sp [] E0 t) := by
  obtain ⟨f, fd, G, kp, b, m⟩ := D.ex
  exact pe_call G hr hg m kp b .nil pass0 ha hdb he hpl

/-! ### how long the text of data is -/
mutual
/-- what the text of data is at most, its ints below 2 ^ 1920 in size -/
def cost : PyData → Nat
  | .none => 4
  | .bool _ => 5
  | .int _ => 1921
  | .str x => 10 * x.cps.size + 20
  | .list xs => costAll xs + 3
  | .tuple xs => costAll xs + 3
  | .dict _ => 0
def costAll : List PyData → Nat
  | [] => 0
  | x :: xs => cost x + 2 + costAll xs
end
mutual
theorem shown_cost : ∀ d : PyData, d.canLay0 = true → d.showable = true → d.shown.length ≤ cost d
  | .none, _, _ => by
    show (PyData.shown .none).length ≤ 4
    exact Nat.le_of_eq rfl
  | .bool b, _, _ => by
    show (PyData.shown (.bool b)).length ≤ 5
    cases b <;> decide
  | .int i, _, h => by
    have h1 : i.natAbs.log2 < 1920 := by simpa only [PyData.showable, decide_eq_true_eq] using h
    have h2 := int_text_length_le (k := 1920) (by decide) h1
    show (Str.ofString (toString i)).length ≤ cost (.int i)
    rw [PySem.ofString_length]
    simp only [cost]
    exact h2
  | .str x, h, _ => by
    have h1 : PyData.leavesShort 8 (.str x) = true := PyData.leavesShort_of_canLay0 8 (.str x) h rfl
    have h2 := PyData.shown_le 8 (by decide) (.str x) h1
    simp only [PyData.weight] at h2
    simp only [cost]
    omega
  | .list xs, h, g => by
    have h1 := shown_costAll xs (by simpa only [PyData.canLay0] using h) (by simpa only [PyData.showable] using g)
    have h2 := listText_len_le (PyData.shownAll xs)
    have h3 := PyData.shownAll_length xs
    simp only [PyData.shown, cost]
    omega
  | .tuple xs, h, g => by
    have h1 := shown_costAll xs (by simpa only [PyData.canLay0] using h) (by simpa only [PyData.showable] using g)
    have h2 := tupleText_len_le (PyData.shownAll xs)
    have h3 := PyData.shownAll_length xs
    simp only [PyData.shown, cost]
    omega
  | .dict _, h, _ => by simp [PyData.canLay0] at h
theorem shown_costAll : ∀ xs : List PyData, PyData.canLayAll0 xs = true → PyData.showableAll xs = true → ((PyData.shownAll xs).map (·.length)).sum + 2 * xs.length ≤ costAll xs
  | [], _, _ => by simp [PyData.shownAll, costAll]
  | x :: xs, h, g => by
    have h' : x.canLay0 = true ∧ PyData.canLayAll0 xs = true := by simpa only [PyData.canLayAll0, Bool.and_eq_true] using h
    have g' : x.showable = true ∧ PyData.showableAll xs = true := by simpa only [PyData.showableAll, Bool.and_eq_true] using g
    have h1 := shown_cost x h'.1 g'.1
    have h2 := shown_costAll xs h'.2 g'.2
    simp only [PyData.shownAll, costAll, List.map_cons, List.sum_cons, List.length_cons]
    omega
end

/-! ### repr of data -/
section
variable {X : Cx}
/-- repr(x), x data of any depth: the text that the data shows -/
def rShow (K : PySem.W.Frag) : List V → Hp → VK → Prop := fun xs H Q => ∃ (p : Addr) (d : PyData), xs = [.ref p] ∧ Dp K H (.ref p) d ∧
  SeqAt.shaped d = true ∧ d.showable = true ∧ d.shown.length ≤ sizeLine ∧ Q (.str d.shown) H
theorem call_show (hG : X.A.guards = some []) (hu : X.A.units + 66 < cLine) : CallR X (.builtin "repr") (rShow X.K) := by
  intro pins s σ H xs us Q I r h
  obtain ⟨p, d, rfl, hd, sd, hs, hz, q⟩ := h
  obtain ⟨u, rfl, ru⟩ := vals1 r
  cases ru
  obtain ⟨as, rd⟩ := Dp.reads I d (.ref p) (.ref p) hd rfl
  have hdp := SeqAt.depth_of_shaped sd
  have nd : d.hasDict = false := PyData.hasDict_of_canLay d (SeqAt.canLay_of_shaped sd)
  refine repr_of_reads' rd hs (PyData.noDict_hsm nd) hG (by omega) (fun b o e => e) (fun h' u' tk k => ?_) hz
  exact ⟨.str d.shown, H, I.kept k, ⟨_, rfl⟩, q⟩

/-- // of ints, the divisor not 0 and below 2 ^ 9000 in size -/
def CDivG (_ j : Int) : Prop := j ≠ 0 ∧ j.natAbs.log2 < 9000
theorem op_fdivG : OpR X (binaryOp .FloorDiv) (rI CDivG fun i j => .int (i.fdiv j)) :=
  opI fun _ _ _ _ _ _ _ hc q => floordiv_int hc.1 q (.inl (PyProof.noPylong_of_log2 hc.2))
end

/-! ### the end of a law's row, from FnG -/
theorem law_callG {P : Program} {w : World} {K : PySem.W.Frag} {mg mb : Str → Option Value} {CX : CXT} {k : Nat} {fa a : Addr} {fd : FuncData} {x : Str} {sp : Sp} {s₁ : Shared} {vs : List Value} {ns : List Int}
    (inH : K.In s₁.heap) (hns : s₁.heap.Ns mainGlobals mg) (hb : s₁.heap.Ns builtinsNs mb) (hbb : ∀ x : Str, x ≠ "__name__" → mb x = bootBuiltins x)
    (hlim : s₁.heap.NoLimit) (hg : s₁.gens = #[]) (ha : s₁.heap.get? a = some { cls := .type "list", data := .seq vs.toArray }) (hi : IntsAre vs ns)
    (hl : ns.length ≤ sizeLine) (hr : Room k callerA)
    (F : ∀ base : Heap, K.In base → base.Ns mainGlobals mg → FnG P w K mg base CX k fa fd [x] sp)
    (hbind : ∀ (s : Shared) (u : Value), BindsTo s fd ⟨[u], []⟩ [(x, u)])
    (hsp : ∀ H : Hp, Only H → SqL K H a (ns.map V.int) → sp [.ref a] H (fun v _ => v = .bl true) fun _ _ _ => False)
    (hCX : ∀ H e s', CX [] H s₁ (fun _ _ _ => False) e s' → False) :
    codeAny (model P w) callerA (.call (.ref fa) ⟨[.ref a], []⟩)
      (fun r s' => r = .ok (.ret (.bool true)) ∧ OldK s₁.heap s'.heap ∧ s'.os = s₁.os ∧ AllBare s'.gens) s₁ := by
  have rv := vals_ints hi
  have lenV := hi.length
  have main : ∀ H : Hp, Only H → SqL K H a (ns.map V.int) → HOk P w H s₁.heap → (∀ b, H b ≠ none → b = a) → (H a ≠ none → K.lookup a = none) →
      codeAny (model P w) callerA (.call (.ref fa) ⟨[.ref a], []⟩)
        (fun r s' => r = .ok (.ret (.bool true)) ∧ OldK s₁.heap s'.heap ∧ s'.os = s₁.os ∧ AllBare s'.gens) s₁ := by
    intro H hO hS hok hA hK
    have none_of : ∀ {b : Addr}, b ≠ a → H b = none := fun {b} ne => by
      cases q : H b with
      | none => rfl
      | some u => exact absurd (hA b (by rw [q]; exact Option.some_ne_none u)) ne
    have notA : ∀ {b : Addr} {o : Obj} {es : Array DictEntry} {ep : Nat}, s₁.heap.get? b = some o → o.data = .dict es ep → H b = none := by
      intro b o es ep e d
      refine none_of fun z => ?_
      rw [z, ha] at e
      cases e
      exact nomatch (show Data.seq vs.toArray _ = Data.dict es ep from d)
    have nsK : ∀ {b : Addr} {m : Str → Option Value}, s₁.heap.Ns b m → (hidT s₁.heap H).Ns b m := by
      rintro b m ⟨o, es, ep, e, d, r⟩
      exact ⟨o, es, ep, hidT_get e (notA e d), d, r⟩
    have inB : K.In (hidT s₁.heap H) := by
      intro b o e
      refine hidT_get (inH b o e) ?_
      cases q : H b with
      | none => rfl
      | some u =>
        have z : b = a := hA b (by rw [q]; exact Option.some_ne_none u)
        rw [z] at e q
        rw [hK (by rw [q]; exact Option.some_ne_none u)] at e
        cases e
    have hM : Mod K mg (hidT s₁.heap H) := ⟨inB, nsK hns, ⟨mb, nsK hb, hbb⟩, let ⟨mc, h1, h2⟩ := hlim; ⟨mc, nsK h1, h2⟩⟩
    have e0 : Env0 P w K mg (hidT s₁.heap H) callerA [] s₁ H :=
      ⟨rfl, hM, fun b o e => of_hidT e, Nat.le_of_eq (hidT_size _ _), trivial, (fun b hb => absurd (show b ∈ ([] : List Addr) from hb) (by simp)), hok, AllBare.of_eq hg⟩
    refine codeAny_mono ((F _ inB (nsK hns)).go callerA [] s₁ H ⟨[.ref a], []⟩ [.ref a] [.ref a] _ _ rfl hr e0 (hbind s₁ (.ref a)) (.cons rfl .nil) (hsp H hO hS)) ?_
    intro r s' h
    match r, h with
    | .error e, h => exact (hCX H e s' h).elim
    | .ok .next, h => exact False.elim h
    | .ok .brk, h => exact False.elim h
    | .ok .cont, h => exact False.elim h
    | .ok (.ret u), ⟨v, H', os, bare, un, hok', r', q⟩ =>
      obtain rfl : v = .bl true := q
      obtain rfl : u = Value.bool true := r'
      refine ⟨rfl, OldK.of_keep ?_, os, bare⟩
      intro b o e
      rcases hO b with z | ⟨ob, xs, z⟩
      · exact un.keep b o e z (fun z => absurd (show b ∈ ([] : List Addr) from z) (by simp)) (by simp)
      · obtain ⟨e1, _⟩ := hok b _ z
        obtain ⟨e2, _⟩ := hok' b _ (un.frzs b ob _ z)
        rw [e] at e1
        cases e1
        exact e2
  cases hk : K.lookup a with
  | some o =>
    have e := inH a o hk
    rw [ha] at e
    cases e
    have lv : vs.length = ns.length := lenV
    refine main (fun _ => none) (fun _ => Or.inl rfl) (Or.inr ⟨_, vs.toArray, _, hk, rfl, rfl, rfl, by rw [List.size_toArray, lv]; exact hl, by simpa using rv⟩) ?_ (fun b z => absurd rfl z) (fun z => absurd rfl z)
    intro b u z
    exact nomatch (show (none : Option HO) = some u from z)
  | none =>
    refine main (fun b => if b = a then some (.frz { cls := .type "list", data := .seq vs.toArray } (.lst (ns.map V.int))) else none) ?_ (Or.inl (Or.inr ⟨_, if_pos rfl⟩)) ?_ ?_ (fun _ => hk)
    · intro b
      by_cases hb : b = a
      · exact Or.inr ⟨_, _, if_pos hb⟩
      · exact Or.inl (if_neg hb)
    · intro b u z
      by_cases hb : b = a
      · have z' := (if_pos hb).symm.trans z
        cases z'
        rw [hb]
        exact ⟨ha, by rw [List.length_map]; exact hl, vs, _, rv, ha⟩
      · exact nomatch (if_neg hb).symm.trans z
    · intro b z
      by_cases hb : b = a
      · exact hb
      · exact absurd (if_neg hb) z

theorem walk_G {l : PySem.W.OpenLaw} {n k : Nat} {q : Program} {loose : List Str} {XP : (Str → Option Value) → Heap → Prop} {YP : World → Heap → Prop} {d : DefRec} {K : Params → PySem.W.Frag} {CX : World → CXT} {sp : World → Sp} {x : Str}
    (hn : l.most = some n) (hn2 : n ≤ sizeLine) (hdf : d.params.defaults = []) (hr : Room k callerA) (hY : ∀ (w : World) (h : Heap), YP w h → (K w.params).In h)
    (F : ∀ (w : World) (mg : Str → Option Value) (fa : Addr) (h : Heap), (K w.params).In h → h.Ns mainGlobals mg → mg d.name = some (.ref fa) →
      ∃ fd : FuncData, (∀ (s : Shared) (u : Value), BindsTo s fd ⟨[u], []⟩ [(x, u)]) ∧
        ∀ base : Heap, (K w.params).In base → base.Ns mainGlobals mg → FnG l.prog w (K w.params) mg base (CX w) k fa fd [x] (sp w))
    (hsp : ∀ (w : World) (H : Hp) (a : Addr) (ns : List Int), ns.length ≤ n → (∀ z ∈ ns, Builtin.Int.intBits z ≤ 1048576) → Only H →
      SqL (K w.params) H a (ns.map V.int) → sp w [.ref a] H (fun v _ => v = .bl true) fun _ _ _ => False)
    (hCX : ∀ (w : World) (H : Hp) (s : Shared) (e : Value) (s' : Shared), CX w [] H s (fun _ _ _ => False) e s' → False) :
    PySem.W.WalkO q loose XP YP l.row.toRowW d [] (fun f vs => PySem.call f vs) := by
  refine Att.attach_callB hn hdf ?_
  intro w s₀ s₁ mg mb fa o pm cd doc a vs ns G Y ho hd hcd hmg hobj hints hlen hbits hg
  have inH := hY w _ Y
  obtain ⟨fd, hb, hF⟩ := F w mg fa _ inH G.T.g hmg
  exact law_callG inH G.T.g G.T.b G.T.builtins G.T.nolimit hg hobj hints (Nat.le_trans hlen hn2) hr hF hb
    (fun H hO hS => hsp w H a ns hlen hbits hO hS) (fun H e s' => hCX w H s₁ e s')
end Kx
namespace Kx
open PySem PySem.Spec PyProof.Rows L2

/-! ### heaps -/
theorem same_new {H : Hp} {p : Addr} {o : HO} (h : H p = none) : Same H (upd H p o) := fun b x e => by
  rw [upd_ne (ne_of_none e h)]
  exact e
/-- all that was tracked, but the two at d and l, is as it was -/
def But (d l : Addr) (H H' : Hp) : Prop := ∀ b o, H b = some o → b ≠ d → b ≠ l → H' b = some o
theorem But.refl {d l : Addr} {H : Hp} : But d l H H := fun _ _ e _ _ => e
theorem But.trans {d l : Addr} {H H1 H2 : Hp} (a : But d l H H1) (b : But d l H1 H2) : But d l H H2 := fun c o e n1 n2 => b c o (a c o e n1 n2) n1 n2
theorem But.of {d l : Addr} {H H' : Hp} (s : Same H H') : But d l H H' := fun b o e _ _ => s b o e
theorem But.d {d l : Addr} {H : Hp} {o : HO} : But d l H (upd H d o) := fun b x e n _ => by rw [upd_ne n]; exact e
theorem But.l {d l : Addr} {H : Hp} {o : HO} : But d l H (upd H l o) := fun b x e _ n => by rw [upd_ne n]; exact e
theorem But.new {d l p : Addr} {H : Hp} {o : HO} (h : H p = none) : But d l H (upd H p o) := But.of (same_new h)

theorem tup_same {K : PySem.W.Frag} {H H' : Hp} {a : Addr} {xs : List V} (e : Same H H') (h : SqT K H a xs) : SqT K H' a xs := by
  rcases h with (h | ⟨o, h⟩) | h
  · exact .inl (.inl (e _ _ h))
  · exact .inl (.inr ⟨o, e _ _ h⟩)
  · exact .inr h
mutual
/-- data stays what it is where all stays -/
theorem dp_same {K : PySem.W.Frag} {H H' : Hp} (s : Same H H') : ∀ {v : V} {d : PyData}, Dp K H v d → Dp K H' v d
  | _, _, .non => .non
  | _, _, .bl b => .bl b
  | _, _, .int i => .int i
  | _, _, .str x => .str x
  | _, _, .lst h a => .lst (s.seq h) (dp_sameAll s a)
  | _, _, .tup h a => .tup (tup_same s h) (dp_sameAll s a)
theorem dp_sameAll {K : PySem.W.Frag} {H H' : Hp} (s : Same H H') : ∀ {vs : List V} {ds : List PyData}, DpAll K H vs ds → DpAll K H' vs ds
  | _, _, .nil => .nil
  | _, _, .cons h a => .cons (dp_same s h) (dp_sameAll s a)
end
/-! ### the source of drawn numbers -/
abbrev kCells : Key := Sum.inr "cells"
abbrev kLeft : Key := Sum.inr "left"
abbrev kMixed : Key := Sum.inr "mixed"
abbrev kTurn : Key := Sum.inr "turn"
def srcD (l : Addr) (a m t : Int) : List (Key × V) := [(kCells, .ref l), (kLeft, .int a), (kMixed, .int m), (kTurn, .int t)]
theorem n_cl : ¬ kCells = kLeft := by decide +kernel
theorem s_cl : ¬ Str.ofString "cells" = Str.ofString "left" := by decide +kernel
theorem r_cl : ¬ Str.ofString "left" = Str.ofString "cells" := by decide +kernel
theorem n_cm : ¬ kCells = kMixed := by decide +kernel
theorem s_cm : ¬ Str.ofString "cells" = Str.ofString "mixed" := by decide +kernel
theorem r_cm : ¬ Str.ofString "mixed" = Str.ofString "cells" := by decide +kernel
theorem n_ct : ¬ kCells = kTurn := by decide +kernel
theorem s_ct : ¬ Str.ofString "cells" = Str.ofString "turn" := by decide +kernel
theorem r_ct : ¬ Str.ofString "turn" = Str.ofString "cells" := by decide +kernel
theorem n_lm : ¬ kLeft = kMixed := by decide +kernel
theorem s_lm : ¬ Str.ofString "left" = Str.ofString "mixed" := by decide +kernel
theorem r_lm : ¬ Str.ofString "mixed" = Str.ofString "left" := by decide +kernel
theorem n_lt : ¬ kLeft = kTurn := by decide +kernel
theorem s_lt : ¬ Str.ofString "left" = Str.ofString "turn" := by decide +kernel
theorem r_lt : ¬ Str.ofString "turn" = Str.ofString "left" := by decide +kernel
theorem n_mt : ¬ kMixed = kTurn := by decide +kernel
theorem s_mt : ¬ Str.ofString "mixed" = Str.ofString "turn" := by decide +kernel
theorem r_mt : ¬ Str.ofString "turn" = Str.ofString "mixed" := by decide +kernel
section
variable {l : Addr} {a m t y : Int}
theorem src_cells : valV (srcD l a m t) kCells = some (.ref l) := valV_pos rfl
theorem src_left : valV (srcD l a m t) kLeft = some (.int a) := (valV_neg n_cl).trans (valV_pos rfl)
theorem src_mixed : valV (srcD l a m t) kMixed = some (.int m) := (valV_neg n_cm).trans ((valV_neg n_lm).trans (valV_pos rfl))
theorem src_turn : valV (srcD l a m t) kTurn = some (.int t) := (valV_neg n_ct).trans ((valV_neg n_lt).trans ((valV_neg n_mt).trans (valV_pos rfl)))
theorem put_left : putK (srcD l a m t) kLeft (.int y) = srcD l y m t := by
  simp [putK, srcD, s_cl, s_cm, s_ct, s_lm, s_lt, s_mt, r_cl, r_cm, r_ct, r_lm, r_lt, r_mt]
theorem put_mixed : putK (srcD l a m t) kMixed (.int y) = srcD l a y t := by
  simp [putK, srcD, s_cl, s_cm, s_ct, s_lm, s_lt, s_mt, r_cl, r_cm, r_ct, r_lm, r_lt, r_mt]
theorem put_turn : putK (srcD l a m t) kTurn (.int y) = srcD l a m y := by
  simp [putK, srcD, s_cl, s_cm, s_ct, s_lm, s_lt, s_mt, r_cl, r_cm, r_ct, r_lm, r_lt, r_mt]
theorem src_made : mergeK [] (srcD l a m t) = srcD l a m t := by
  simp [mergeK, srcD, putK, s_cl, s_cm, s_ct, s_lm, s_lt, s_mt, r_cl, r_cm, r_ct, r_lm, r_lt, r_mt]
theorem src_len : (srcD l a m t).length = 4 := rfl
end

structure Src (H : Hp) (d l : Addr) (cs : List Int) (a m t : Int) : Prop where
  dc : H d = some (.dK (srcD l a m t))
  ls : H l = some (.lst (cs.map V.int))
  c0 : ∀ c ∈ cs, 0 ≤ c
  few : cs.length ≤ 63
  a0 : 0 ≤ a
  m0 : 0 ≤ m
  t0 : 0 ≤ t
/-- a source stands at d, its cells at l -/
def SrcAt (H : Hp) (d l : Addr) : Prop := ∃ cs a m t, Src H d l cs a m t
theorem Src.ne {H : Hp} {d l : Addr} {cs : List Int} {a m t : Int} (S : Src H d l cs a m t) : d ≠ l := ne_of S.dc S.ls (by intro z; cases z)
theorem SrcAt.ne {H : Hp} {d l : Addr} (S : SrcAt H d l) : d ≠ l := let ⟨_, _, _, _, S⟩ := S; S.ne
theorem SrcAt.same {H H' : Hp} {d l : Addr} (S : SrcAt H d l) (s : Same H H') : SrcAt H' d l :=
  let ⟨cs, a, m, t, S⟩ := S; ⟨cs, a, m, t, s _ _ S.dc, s _ _ S.ls, S.c0, S.few, S.a0, S.m0, S.t0⟩
theorem SrcAt.nd {H : Hp} {d l p : Addr} (S : SrcAt H d l) (h : H p = none) : p ≠ d ∧ p ≠ l :=
  let ⟨_, _, _, _, S⟩ := S; ⟨(ne_of_none S.dc h).symm, (ne_of_none S.ls h).symm⟩
/-- a tuple is neither part of the source -/
theorem SrcAt.nt {H : Hp} {d l p : Addr} {xs : List V} (S : SrcAt H d l) (h : H p = some (.tup xs)) : p ≠ d ∧ p ≠ l :=
  let ⟨_, _, _, _, S⟩ := S; ⟨ne_of h S.dc (by intro z; cases z), ne_of h S.ls (by intro z; cases z)⟩

/-! ### the promises -/
def spSource (K : PySem.W.Frag) : Sp := fun vs H Q _ => ∃ (b : Addr) (ns : List Int), vs = [.ref b] ∧ SqL K H b (ns.map V.int) ∧ ns.length ≤ 63 ∧
  (∀ z ∈ ns, Builtin.Int.intBits z ≤ 1048576) ∧ ∀ d l H', H d = none → H l = none → Same H H' → SrcAt H' d l → Q (.ref d) H'
def spPick : Sp := fun vs H Q _ => ∃ (d l : Addr) (n : Int), vs = [.ref d, .int n] ∧ SrcAt H d l ∧ n < 1073741824 ∧
  ∀ r H', 0 ≤ r → (r < n ∨ n < 2 ∧ r = 0) → SrcAt H' d l → But d l H H' → Q (.int r) H'
/-- some[pick]: one of the list's items -/
def spOf (K : PySem.W.Frag) : Sp := fun vs H Q _ => ∃ (d l p : Addr) (xs : List V), vs = [.ref d, .ref p] ∧ SrcAt H d l ∧ SqL K H p xs ∧ p ≠ d ∧ p ≠ l ∧ 0 < xs.length ∧ xs.length < 1000000 ∧
  ∀ v H', v ∈ xs → SrcAt H' d l → But d l H H' → Q v H'

theorem seq_but {K : PySem.W.Frag} {H H' : Hp} {d l a : Addr} {xs : List V} (e : But d l H H') (n1 : a ≠ d) (n2 : a ≠ l) (h : SqL K H a xs) : SqL K H' a xs := by
  rcases h with (h | ⟨o, h⟩) | h
  · exact .inl (.inl (e _ _ h n1 n2))
  · exact .inl (.inr ⟨o, e _ _ h n1 n2⟩)
  · exact .inr h
theorem tup_but {K : PySem.W.Frag} {H H' : Hp} {d l a : Addr} {xs : List V} (S : SrcAt H d l) (e : But d l H H') (h : H a = some (.tup xs)) : H' a = some (.tup xs) :=
  e _ _ h (S.nt h).1 (S.nt h).2

theorem snoc_of {α : Type} {l : List α} (h : 0 < l.length) : ∃ l' z, l = l' ++ [z] := by
  have ne : l ≠ [] := fun e => by rw [e] at h; exact Nat.lt_irrefl _ h
  exact ⟨l.dropLast, l.getLast ne, (List.dropLast_concat_getLast ne).symm⟩
theorem fmod_nn (a : Int) {b : Int} (h : 0 < b) : 0 ≤ a.fmod b := by
  rw [Int.fmod_eq_emod_of_nonneg _ (by omega)]
  exact Int.emod_nonneg _ (by omega)
theorem fmod_lt (a : Int) {b : Int} (h : 0 < b) : a.fmod b < b := by
  rw [Int.fmod_eq_emod_of_nonneg _ (by omega)]
  exact Int.emod_lt_of_pos _ h
theorem int_of' {ns : List Int} {i : Nat} {y : V} (h : (ns.map V.int)[i]? = some y) : ∃ z, y = V.int z ∧ ns[i]? = some z := by
  rw [List.getElem?_map] at h
  cases e : ns[i]? with
  | none => rw [e] at h; cases h
  | some z => rw [e] at h; exact ⟨z, (Option.some.inj h).symm, rfl⟩
theorem int_of {ns : List Int} {i : Nat} {y : V} (h : (ns.map V.int)[i]? = some y) : ∃ z, y = V.int z := let ⟨z, e, _⟩ := int_of' h; ⟨z, e⟩
theorem rev_ints (ns : List Int) : (((ns.map fun z => if z < 0 then -z else z).reverse).map V.int) = (ns.map fun z => V.int (if z < 0 then -z else z)).reverse := by
  rw [List.map_reverse, List.map_map]
  rfl
end Kx
namespace Kx
open PySem PySem.Spec PyProof.Rows L2
/-! ### exceptions of own classes as values, over any built-in base -/
/-- what the written part says of such a class: C over the built-in base whose own chain is tl -/
structure ExK (K : PySem.W.Frag) (C : Addr) (B newId initId : String) (tl : List Value) : Prop where
  fb : ExcBaseFacts B newId initId tl
  cls : ∃ nm q N bs bm sn sub ab col dd k0 k1 k2 k3 k5, K.lookup C = some (excClassObj nm q C N bs bm true sn sub ab col dd k0 k1 k2 k3 k5 newId) ∧ PySem.W.excTail tl bm = true
  sa : PySem.W.findIn K (.ref C) "__setattr__" = some (some (.builtin "object.__setattr__"))
  kC : PySem.W.keepIn K (.ref C) = true
  ga : PySem.W.findIn K (.ref C) "__getattribute__" = some (some (.builtin "BaseException.__getattribute__"))
  gt : PySem.W.findIn K (.ref C) "__getattr__" = some none
  su : PySem.W.subIn K (.ref C) (.type "BaseException") = some true
  ca : PySem.W.findIn K (.ref C) "__class__" = some (some (.builtin "object.__class__"))
  cn : PySem.W.specialIn K (.builtin "object.__class__") "__get__" = some (some (.builtin "getset_descriptor.__get__"))
  ct : PySem.W.takesIn K (.builtin "object.__class__") = some true
  cm : PySem.W.mroIn K C (.type "object") = some true

section
open PySem.W PySem.Calls PySem.HandSPX Builtin Builtin.ObjectAttr
variable {prog : Program} {w : World} {A : Around} {E : Value → Shared → Prop} {R : Result → Shared → Prop} {hp : Heap} {g : Array GenState} {d : Drawn} {t : Nat} {os : OsState}
/-- the first attribute of an exception, over any base -/
theorem osa_any {K : Frag} {B : String} {tl : List Value} {name : Str} {tk : Tok} {v : Value} {x C : Addr} {fv : Array Value} {cd : ClassData} (SF : PySem.StoreFacts B tl "object.__setattr__" "object")
    (inH : K.In hp) (hx : hp.get? x = some { cls := .ref C, data := .fields fv }) (hcd : clsIn K C = some cd) (hm : excTail tl cd.mro = true) (hne : cd.mro.isEmpty = false) (hob : cd.mro.contains (.type "object") = true)
    (hh : cd.hasDict = true) (ha : findIn K (.ref C) name = some none)
    (hq : ∀ h' tk' dx, (∀ b o, b ≠ x → hp.get? b = some o → h'.get? b = some o) → hp.objs.size ≤ dx → dx ≠ x →
      h'.get? x = some { cls := .ref C, dict := some dx, data := .fields fv } → h'.Ns1 dx (fun y => if y = name then some v else none) → R (.ok (.ret .none)) ⟨h', g, d, tk', os⟩) :
    codeAny (model prog w) A (.call (.builtin "object.__setattr__") ⟨[.ref x, .str name tk, v], []⟩) R ⟨hp, g, d, t, os⟩ := by
  have I : InstAt hp x { cls := .ref C, data := .fields fv } C none := ⟨hx, rfl, rfl, trivial⟩
  have SO := PySem.F.store_object
  have xNew : x ≠ hp.objs.size := Nat.ne_of_lt (Heap.lt_size hx)
  have isObj : Looks (model prog w) hp (isInstance (.ref x) (.type "object")) true :=
    I.type.andThen (looks_mroIn inH (by unfold mroIn; rw [hcd, Option.bind_some, if_neg (by rw [hne]; decide), hob]))
  refine codeAny_call_builtin SO.slot.plain SO.entry (@check_slot (model prog w) _ _ ⟨hp, g, d, t, os⟩ "object.__setattr__" "object" "__setattr__" (.ref x)
    [.str name tk, v] [] _ SO.kind SO.split isObj (SO.args (.ref x) (.str name tk) v) ?_)
  have look1 : Looks (model prog w) hp (mroOf (.ref C)) cd.mro := (looks_clsIn inH hcd).andThen .now
  have look2 : Looks (model prog w) hp (storeTaker? none) none := .now
  have look3 : Looks (model prog w) hp (classData C) cd := looks_clsIn inH hcd
  rw [osa_eq, refuse_eq]
  refine wpAny_bind (wpAny_bind (I.type.at (wpAny_bind (look1.at ?_))))
  rw [excTail_pass _ (SF.passes _) _ hm]
  refine wpAny_pure (wpAny_bind (I.type.at (wpAny_bind ((looks_findIn inH ha).at (wpAny_bind (look2.at ?_))))))
  show wpAny _ _ (storeInOwnDict (.ref x) (.ref C) (.str name tk) name v false) _ _ _
  obtain ⟨nm, bs, mro, ns, qn, hd, sn, sb, ab, col, del⟩ := cd
  dsimp only at hh
  subst hh
  unfold storeInOwnDict ownDictForStores
  repeat (first | with_reducible refine store_in_new ?_ ?_ | with_reducible refine wpAny_loadPart_at hx ?_ | with_reducible refine look3.at ?_ | wp_step)
  · exact ⟨_, #[], _, (Heap.get?_update_ne _ _ _ _ xNew.symm).trans (Heap.get?_push_at rfl rfl), rfl, fun e he => absurd he (by simp), fun _ => rfl⟩
  · intro h' tk' hn' hs
    have hx' : (hp.push { cls := .type "dict", data := .dict #[] }).get? x = some { cls := .ref C, data := .fields fv } := Heap.get?_push_of_some _ hx
    refine hq h' tk' hp.objs.size ?_ (Nat.le_refl _) xNew.symm ((hs.2 x xNew).trans (Heap.get?_update_self _ hx' rfl)) hn'
    intro b o hb ho
    exact (hs.2 b (Nat.ne_of_lt (Heap.lt_size ho))).trans ((Heap.get?_update_ne _ _ _ _ hb).trans (Heap.get?_push_of_some _ ho))
end
section
variable {X : Cx} {pins : List (Addr × Obj)} {σ : L2.St} {H : Hp} {s : Shared} {a C dx : Addr} {f : Str} {y : V} {u : Value} {fs : List (Str × V)} {B newId initId : String} {tl : List Value}
/-- self.f = y, the first attribute -/
theorem ost_any {Q : Unit → Shared → Prop} {E : Value → Shared → Prop} {A : Around} (SF : PySem.StoreFacts B tl "object.__setattr__" "object") (hto : tl.contains (.type "object") = true) (T : ExK X.K C B newId initId tl)
    (I : Inv X pins σ H s) (e : H a = some (exo a C none)) (hno : PySem.W.findIn X.K (.ref C) f = some none) (ry : RelV y u)
    (h : ∀ dx s', H dx = none → dx ≠ a → Inv X pins σ (upd (upd H dx (exd dx [(f, y)])) a (exo a C (some dx))) s' → Q () s') : wpAny (model X.prog X.w) A (setAttr (.ref a) f u) Q E s := by
  obtain ⟨nm, q, N, bs, bm, sn, sub, ab, col, dd, k0, k1, k2, k3, k5, hC, hbm⟩ := T.cls
  have hcl : PySem.W.clsIn X.K C = some { name := nm, bases := bs, mro := .ref C :: bm, ns := N, qualname := q, hasDict := true, slotNames := sn, subclasses := sub, abstract := ab, collection := col, hasDel := false } := by
    unfold PySem.W.clsIn
    rw [hC]
    all_goals rfl
  obtain ⟨t1, ho⟩ := exo_at I.hok e
  obtain ⟨hp, g, d, t, os⟩ := s
  have hall : PySem.W.excTail tl (.ref C :: bm) = true := hbm
  refine PySem.W.set_plain I.kIn (ox := { cls := .ref C, dict := none, data := .fields #[.ref t1, .none, .none, .none, .bool false, .none] }) (od := none) ⟨ho, rfl, rfl, trivial⟩ T.sa ?_
  refine osa_any SF I.kIn ho hcl hall rfl ((PySem.W.excTail_contains "object" _ hall).trans hto) rfl hno (fun h' tk' dx k dn dne hx hn => ?_)
  have hnd : H dx = none := I.hok.fresh dn
  have nd : ∀ {b : Addr} {o : Obj}, hp.get? b = some o → b ≠ dx := fun {b o} q => Nat.ne_of_lt (Nat.lt_of_lt_of_le (Heap.lt_size q) dn)
  have na : ∀ {b : Addr}, H b = none → b ≠ a := fun {b} n z => by
    rw [z, e] at n
    cases n
  have U : Un X.fs [] H (upd (upd H dx (exd dx [(f, y)])) a (exo a C (some dx))) hp h' := by
    constructor
    · exact fun b o q n _ _ => k b o (na n) q
    · exact fun b o q n _ _ => ⟨o.slots, k b o (na n) q⟩
    · intro b o q n _
      rw [upd_ne (na n), upd_ne (nd q)]
      exact n
    · intro b o q _
      by_cases hb : b = a
      · exact ⟨_, by rw [hb]; exact hx⟩
      · exact ⟨o, k b o hb q⟩
    · intro b xs q
      rw [upd_ne (at_ne e q exo_tup), upd_ne (ne_of_none q hnd)]
      exact q
    · intro b o v q
      rw [upd_ne (at_ne e q exo_frz), upd_ne (ne_of_none q hnd)]
      exact q
    · intro b ps q
      exact ⟨#[], by rw [upd_ne (at_ne e q exo_tbl), upd_ne (ne_of_none q hnd), q]; simp⟩
  refine h dx _ hnd dne (I.un (t' := tk') U ?_)
  intro b o q
  by_cases hb : b = a
  · subst hb
    rw [upd_same] at q
    cases q
    exact exo_ok hx
  rw [upd_ne hb] at q
  by_cases hd : b = dx
  · subst hd
    rw [upd_same] at q
    cases q
    exact exd_ok hn (relO_put (fs := []) ry fun g => True.intro)
  rw [upd_ne hd] at q
  refine (I.hok b o q).stay ?_ ?_ ?_
  · intro c v hc z
    refine k c v ?_ z
    rcases hc with hc | hc
    · rw [hc]
      exact hb
    · exact at_ne e hc exo_own
  · intro c hc
    rw [upd_ne (at_ne e hc exo_own), upd_ne (ne_of_none hc hnd)]
    exact hc
  · intro c xs hc
    rw [upd_ne (at_ne e hc exo_tup), upd_ne (ne_of_none hc hnd)]
    exact hc

/-- self.f = e in an __init__, the first one -/
def tOstK (C : Addr) (f : Str) (to te : TE) : TS := fun D σ H => te σ H fun y H1 => to σ H1 fun x H2 => ∃ a : Addr, x = .ref a ∧ H2 a = some (exo a C none) ∧
  ∀ dx, H2 dx = none → dx ≠ a → D.nx σ (upd (upd H2 dx (exd dx [(f, y)])) a (exo a C (some dx)))
theorem ps_ostK {o e : Expr} {to te : TE} {p' pos : Pos} (SF : PySem.StoreFacts B tl "object.__setattr__" "object") (hto : tl.contains (.type "object") = true) (T : ExK X.K C B newId initId tl) (hno : PySem.W.findIn X.K (.ref C) f = some none)
    (ho : PE X o to) (he : PE X e te) (hs : swapsWith e (some (.Attribute o f p')) pos.line X.env = pure false := by rfl) : PS X (.Assign [.Attribute o f p'] e pos) (tOstK C f to te) := by
  constructor
  intro pins s σ H D I h
  refine plainObj_wpAny_Assign_Attribute (thn (he.run pins s σ H _ I h) fun v s1 ⟨y, H1, I1, r1, q1⟩ => thn (ho.run pins s1 σ H1 _ I1 q1) fun u s2 ⟨x, H2, I2, r2, a, ex, ea, q⟩ => ?_) hs
  subst ex
  obtain rfl : u = Value.ref a := r2
  exact ost_any SF hto T I2 ea hno r1 fun dx s' n ne J => ⟨σ, _, J, q dx n ne⟩

/-- C(e, ..) as a value, C's own __init__ keeping sp -/
def tMkV (C : Addr) (sp : Sp) (ta : TA) : TE := fun σ H Q => ta σ H fun vs H1 => vs.length ≤ 1000 ∧ ∀ a, H1 a = none → sp (.ref a :: vs) (upd H1 a (exo a C none)) (fun v H2 => v = .non ∧ Q (.ref a) H2) E0
theorem pe_mkV {x : Str} {fI : Addr} {k : Nat} {fd : FuncData} {ps : List Str} {sp : Sp} {e : Expr} {es : List Expr} {ta : TA} {p pos : Pos} (T : ExK X.K C B newId initId tl) (iC : PySem.W.findIn X.K (.ref C) "__init__" = some (some (.ref fI)))
    (tI : PySem.W.typeIn X.K (.ref fI) = some (.type "function")) (F1 : FnOk X.prog X.w X.K X.mg X.base CX0 k fI fd ps sp) (hr : Room (k + 1) X.A) (hb : Binds X.K fd ps []) (hg : Gl X x) (hm : X.mg x = some (.ref C)) (ha : PA X (e :: es) ta)
    (hdb : (x == ("__debug__" : Str)) = false := by decide) (he : starEach (e :: es) X.env = (false, eval e X.env) :: starEach es X.env := by rfl)
    (hpl : (backTo pos (starEach es X.env)).any (·.1) = false := by rfl) : PE X (.Call (.Name x p) (e :: es) [] pos) (tMkV C sp ta) := by
  constructor
  intro pins s σ H Q I h
  obtain ⟨nm, q, N, bs, bm, sn, sub, ab, col, dd, k0, k1, k2, k3, k5, hC, hbm⟩ := T.cls
  refine wpAny_Call_Name_kw (ld_glob I hg hm ?_ hdb)
  refine PySem.W.callWith_K (h₀ := X.base) I.ok.mod.kin T.kC (thn (ha.run pos pins s σ H _ I h) ?_) he hpl
  rintro us s1 ⟨vs, H1, I1, r1, hz, q1⟩
  refine ⟨I1.kIn, ?_⟩
  show wpAny _ _ (call (.ref C) us) _ _ _
  obtain ⟨hp, g, dr, tk, os⟩ := s1
  have hsz : hp.objs.size ≤ hp.objs.size + 1 := Nat.le_succ _
  have hq := q1 (hp.objs.size + 1) (I1.hok.fresh hsz)
  have kk : ∀ b o, hp.get? b = some o → ((hp.push (PySem.W.kdv_tup us)).push (PySem.HandSPX.excO C hp.objs.size)).get? b = some o := fun b o e => Heap.get?_push_of_some _ (Heap.get?_push_of_some _ e)
  have hget : ((hp.push (PySem.W.kdv_tup us)).push (PySem.HandSPX.excO C hp.objs.size)).get? (hp.objs.size + 1) = some (PySem.HandSPX.excO C hp.objs.size) := by heap_get
  have I2 : Inv X pins σ (upd H1 (hp.objs.size + 1) (exo (hp.objs.size + 1) C none)) ⟨(hp.push (PySem.W.kdv_tup us)).push (PySem.HandSPX.excO C hp.objs.size), g, dr, tk, os⟩ :=
    I1.laid (t' := tk) (a := hp.objs.size + 1) (o := exo (hp.objs.size + 1) C none) (h' := (hp.push (PySem.W.kdv_tup us)).push (PySem.HandSPX.excO C hp.objs.size)) kk hsz (exo_ok hget)
  have r2 : Vals (V.ref (hp.objs.size + 1) :: vs) (Value.ref (hp.objs.size + 1) :: us) := .cons rfl r1
  have hl : (Value.ref (hp.objs.size + 1) :: us ++ []).length = ps.length := by
    rw [List.append_nil]
    exact r2.length.symm.trans (F1.len _ _ _ _ hq)
  have hus : us.length ≤ sizeLine := by
    rw [← Paired.length r1, sizeLine_eq]
    omega
  refine wpAny_call (PySem.HandSPX.call_own T.fb (fun Y => PySem.W.excTail_contains Y bm hbm) (I1.kIn _ _ hC) (PySem.W.looks_findIn I1.kIn iC) (fun self => PySem.W.bind_fn I1.kIn self tI) hus ?_)
  have hbind := hb ⟨(hp.push (PySem.W.kdv_tup us)).push (PySem.HandSPX.excO C hp.objs.size), g, dr, tk, os⟩ (Value.ref (hp.objs.size + 1) :: us) I2.kIn hl
  rw [List.append_nil] at hbind
  refine codeAny_mono (F1.run _ X.stack _ _ ⟨Value.ref (hp.objs.size + 1) :: us, []⟩ (Value.ref (hp.objs.size + 1) :: us) _ _ E0 (hr.make C us []) (I2.env0.make C us []) hbind r2 hq) ?_
  intro r s' hq'
  match r, hq' with
  | .error er, hq' => exact hq'.elim
  | .ok .next, hq' => exact False.elim hq'
  | .ok .brk, hq' => exact False.elim hq'
  | .ok .cont, hq' => exact False.elim hq'
  | .ok (.ret u), hq' =>
    obtain ⟨v, H3, I3, rv, ev, q3⟩ := I2.after hq'
    subst ev
    exact ⟨rv, V.ref (hp.objs.size + 1), H3, I3, rfl, q3⟩

/-- C() as a value, C without an __init__ of its own -/
theorem pe_mkV0 {x : Str} {p pos : Pos} (T : ExK X.K C B newId initId tl) (q : PySem.W.excIn X.K C tl newId = true) (hg : Gl X x) (hm : X.mg x = some (.ref C)) (hdb : (x == ("__debug__" : Str)) = false := by decide) :
    PE X (.Call (.Name x p) [] [] pos) (fun _ H Q => ∀ a, H a = none → Q (.ref a) (upd H a (exo a C none))) := by
  constructor
  intro pins s σ H Q I h
  refine wpAny_Call_Name_kw (ld_glob I hg hm ?_ hdb)
  refine PySem.W.callWith_K0 I.kIn T.kC ?_
  show wpAny _ _ (call (.ref C) []) _ _ _
  obtain ⟨bm, N, nm, qn, bs, hdct, sn, sub, ab, col, dd, k0, k1, k2, k3, k5, mN, hC, hN, hni, OT⟩ := exc_obj I.kIn q
  refine wpAny_call_exc_subT T.fb OT hC hN hni (fun h' a hm => ?_) (by show 0 ≤ sizeLine; exact Nat.zero_le _)
  have hn : H a = none := I.hok.gone hm.new
  obtain ⟨t, ht, _, _⟩ := hm.there
  exact ⟨.ref a, upd H a (exo a C none), I.laidN hm.keeps hm.new hn (exo_ok ht), rfl, h a hn⟩

/-- e.f, e such an exception -/
theorem pe_fldK {e : Expr} {te : TE} {pos : Pos} {n : Str} (he : PE X e te)
    (hb : attributeBase e n X.env (eval e X.env) = eval e X.env := by rfl) :
    PE X (.Attribute e n pos) (fun σ H Q => te σ H fun x H1 => ∃ (a C dx : Addr) (fs : List (Str × V)) (v : V) (B newId initId : String) (tl : List Value), x = .ref a ∧ ExK X.K C B newId initId tl ∧ PySem.W.findIn X.K (.ref C) n = some none ∧
      PySem.W.hasDictIn X.K C = true ∧ H1 a = some (exo a C (some dx)) ∧ H1 dx = some (exd dx fs) ∧ fs.lookup n = some v ∧ Q v H1) := by
  constructor
  intro pins s σ H Q I h
  refine attr_of hb (thn (he.run pins s σ H _ I h) ?_)
  rintro u s1 ⟨x, H1, I1, rx, a, C, dx, fs, v, B, newId, initId, tl, ex, T, hno, hdC, ea, ed, l, q⟩
  subst ex
  obtain rfl : u = Value.ref a := rx
  obtain ⟨t1, ho⟩ := exo_at I1.hok ea
  obtain ⟨mA, hns, hr⟩ := exd_at I1.hok ed
  obtain ⟨od, ho2, hl⟩ := lookIn_ns hns
  obtain ⟨u, hu, ru⟩ := RelO.some_of (v := v) (o := mA n) (by rw [← l]; exact hr n)
  have J : PySem.W.InstAt s1.heap a { cls := .ref C, dict := some dx, data := .fields #[.ref t1, .none, .none, .none, .bool false, .none] } C (some od) := ⟨ho, rfl, rfl, ho2⟩
  exact PySem.HandSPX.exc_get I1.kIn J T.ga T.gt T.su (PySem.W.findObj_own hdC hno rfl (by rw [hl, hu])) (handed_of ru) ⟨v, H1, I1.tok _, ru, q⟩

/-- isinstance(e, c), e such an exception -/
def rIsK (K : PySem.W.Frag) : List V → Hp → VK → Prop := fun xs H Q => ∃ (a C : Addr) (d : Option Addr) (c : V) (u : Value) (b : Bool) (B newId initId : String) (tl : List Value), xs = [.ref a, c] ∧ ClsV c u ∧ ExK K C B newId initId tl ∧
  H a = some (exo a C d) ∧ (∀ dx, d = some dx → ∃ fs, H dx = some (exd dx fs)) ∧ PySem.W.kitOne K (.ref C) u = some b ∧ Q (.bl b) H
theorem inst_any {hp : Heap} {x C t1 : Addr} {d : Option Addr} (ho : hp.get? x = some ({ cls := .ref C, dict := d, data := .fields #[.ref t1, .none, .none, .none, .bool false, .none] } : Obj)) (hd : ∀ dx, d = some dx → ∃ o, hp.get? dx = some o) :
    ∃ od, PySem.W.InstAt hp x { cls := .ref C, dict := d, data := .fields #[.ref t1, .none, .none, .none, .bool false, .none] } C od := by
  cases d with
  | none => exact ⟨none, ho, rfl, rfl, trivial⟩
  | some dx =>
    obtain ⟨o, e⟩ := hd dx rfl
    exact ⟨some o, ho, rfl, rfl, e⟩
theorem ExK.isCls {K : PySem.W.Frag} (T : ExK K C B newId initId tl) : (PySem.W.clsIn K C).isSome = true := by
  obtain ⟨nm, q, N, bs, bm, sn, sub, ab, col, dd, k0, k1, k2, k3, k5, hC, hbm⟩ := T.cls
  unfold PySem.W.clsIn
  rw [hC]
  all_goals rfl
theorem exd_obj {H : Hp} {h : Heap} {P : Program} {w : World} (hok : HOk P w H h) {dx : Addr} {fs : List (Str × V)} (e : H dx = some (exd dx fs)) : ∃ o, h.get? dx = some o := by
  obtain ⟨mA, ⟨o, es, ep, ho, _⟩, _⟩ := exd_at hok e
  exact ⟨o, ho⟩
theorem call_isK : CallR X (.builtin "isinstance") (rIsK X.K) := by
  intro pins s σ H xs us Q I r h
  obtain ⟨a, C, d, c, cv, b, B, newId, initId, tl, rfl, hc, T, ea, hd, e, q⟩ := h
  obtain ⟨u1, u2, rfl, r1, r2⟩ := vals2 r
  have e2 := hc.eq r2
  subst e2
  cases r1
  obtain ⟨t1, ho⟩ := exo_at I.hok ea
  obtain ⟨od, J⟩ := inst_any ho fun dx z => let ⟨fs, y⟩ := hd dx z; exd_obj I.hok y
  exact PySem.W.kia_one (PySem.W.kitx_exc T.isCls T.ga T.gt T.su T.ca T.cn T.ct T.cm) I.kIn J e (fun z => nomatch z) fun tk => ⟨.bl b, H, I.tok tk, rfl, q⟩
/-- isinstance(e, (c1, c2)) -/
def rIsKT (K : PySem.W.Frag) : List V → Hp → VK → Prop := fun xs H Q => ∃ (a C tp : Addr) (d : Option Addr) (cs : List V) (us : List Value) (b : Bool) (B newId initId : String) (tl : List Value), xs = [.ref a, .ref tp] ∧ H tp = some (.tup cs) ∧ Paired ClsV cs us ∧ ExK K C B newId initId tl ∧
  H a = some (exo a C d) ∧ (∀ dx, d = some dx → ∃ fs, H dx = some (exd dx fs)) ∧ PySem.W.kitAny K (.ref C) us = some b ∧ Q (.bl b) H
theorem call_isKT : CallR X (.builtin "isinstance") (rIsKT X.K) := by
  intro pins s σ H xs us Q I r h
  obtain ⟨a, C, tp, d, cs, ws, b, B, newId, initId, tl, rfl, hT, hc, T, ea, hd, e, q⟩ := h
  obtain ⟨u1, u2, rfl, r1, r2⟩ := vals2 r
  cases (show u2 = Value.ref tp from r2)
  cases r1
  obtain ⟨t1, ho⟩ := exo_at I.hok ea
  obtain ⟨od, J⟩ := inst_any ho fun dx z => let ⟨fs, y⟩ := hd dx z; exd_obj I.hok y
  have tt : ObjOk X.prog X.w H s.heap tp (.tup cs) := I.hok tp _ hT
  obtain ⟨_, its, rv, o, h1, h2, n, h3⟩ := tt
  have e3 := ClsV.all hc rv
  subst e3
  obtain ⟨oc, od2, dt, sl⟩ := o
  simp only at h2 h3
  subst h2 h3
  exact PySem.W.kia_tup (PySem.W.kitx_exc T.isCls T.ga T.gt T.su T.ca T.cn T.ct T.cm) I.kIn J h1 e (fun z => nomatch z) fun tk => ⟨.bl b, H, I.tok tk, rfl, q⟩
/-- whether one class is another one's, from what the written part says -/
theorem kit_own {K : PySem.W.Frag} {C D : Addr} {b : Bool} (hne : C ≠ D) (hD : (PySem.W.clsIn K D).isSome = true) (tD : PySem.W.typeIn K (.ref D) = some (.type "type")) (h : PySem.W.subIn K (.ref C) (.ref D) = some b) : PySem.W.kitOne K (.ref C) (.ref D) = some b := by
  unfold PySem.W.kitOne
  rw [if_neg (by simpa using hne)]
  show (if ((PySem.W.clsIn K D).isSome && PySem.W.typeIn K (.ref D) == some (.type "type")) = true then PySem.W.subIn K (.ref C) (.ref D) else none) = some b
  rw [hD, tD, if_pos (by decide)]
  exact h
theorem kit_self {K : PySem.W.Frag} {C : Addr} : PySem.W.kitOne K (.ref C) (.ref C) = some true := by
  unfold PySem.W.kitOne
  rw [if_pos (by simp)]
theorem kit_blt {K : PySem.W.Frag} {C : Addr} {T : String} {b : Bool} (hm : PySem.W.kitMeta T = true) (h : PySem.W.subIn K (.ref C) (.type T) = some b) : PySem.W.kitOne K (.ref C) (.type T) = some b := by
  unfold PySem.W.kitOne
  rw [if_neg (by simp)]
  show (if PySem.W.kitMeta T = true then PySem.W.subIn K (.ref C) (.type T) else none) = some b
  rw [if_pos hm]
  exact h
end

/-! ### repr of data with dicts -/
mutual
/-- data that stands tracked: none, bools, ints, texts, lists, tuples, dicts -/
inductive Dr (H : Hp) : V → PyData → Prop
  | non : Dr H .non .none
  | bl (b : Bool) : Dr H (.bl b) (.bool b)
  | int (i : Int) : Dr H (.int i) (.int i)
  | str (x : Str) : Dr H (.str x) (.str x)
  | lst {a : Addr} {xs : List V} {ds : List PyData} : H a = some (.lst xs) → DrAll H xs ds → Dr H (.ref a) (.list ds)
  | tup {a : Addr} {xs : List V} {ds : List PyData} : H a = some (.tup xs) → DrAll H xs ds → Dr H (.ref a) (.tuple ds)
  | dct {a : Addr} {kvs : List (L2.Key × V)} {ps : List (PyData × PyData)} : H a = some (.dK kvs) → DrAll H (kvs.map fun p => kV p.1) (ps.map (·.1)) → DrAll H (kvs.map (·.2)) (ps.map (·.2)) → Dr H (.ref a) (.dict ps)
inductive DrAll (H : Hp) : List V → List PyData → Prop
  | nil : DrAll H [] []
  | cons {v : V} {vs : List V} {d : PyData} {ds : List PyData} : Dr H v d → DrAll H vs ds → DrAll H (v :: vs) (d :: ds)
end
mutual
theorem Dr.same {H H' : Hp} (s : Same H H') : ∀ {v : V} {d : PyData}, Dr H v d → Dr H' v d
  | _, _, .non => .non
  | _, _, .bl b => .bl b
  | _, _, .int i => .int i
  | _, _, .str x => .str x
  | _, _, .lst h a => .lst (s _ _ h) (DrAll.same s a)
  | _, _, .tup h a => .tup (s _ _ h) (DrAll.same s a)
  | _, _, .dct h a b => .dct (s _ _ h) (DrAll.same s a) (DrAll.same s b)
theorem DrAll.same {H H' : Hp} (s : Same H H') : ∀ {vs : List V} {ds : List PyData}, DrAll H vs ds → DrAll H' vs ds
  | _, _, .nil => .nil
  | _, _, .cons h a => .cons (Dr.same s h) (DrAll.same s a)
end
theorem vals_fst {P : Program} {w : World} : ∀ {es : List DictEntry} {kvs : List (L2.Key × Value)}, Pairs (mixKind P w) es kvs → Vals (kvs.map fun p => kV p.1) (es.map (·.key))
  | _, _, .nil => .nil
  | e :: es, kv :: kvs, .cons hk hv t => by
    refine Paired.cons ?_ (vals_fst t)
    have hk' : keyIs kv.1 e.key = true := hk
    show RelV (kV kv.1) e.key
    rcases keyIs_shape hk' with ⟨i, u, e1, e2⟩ | ⟨x, u, e1, e2⟩
    · rw [e1, e2]
      exact ⟨u, rfl⟩
    · rw [e1, e2]
      exact ⟨u, rfl⟩
theorem pairs_snd {P : Program} {w : World} : ∀ {es : List DictEntry} {kvs : List (L2.Key × Value)}, Pairs (mixKind P w) es kvs → es.map (·.val) = kvs.map (·.2)
  | _, _, .nil => rfl
  | _, _, .cons hk hv t => by
    rw [List.map_cons, List.map_cons, hv, pairs_snd t]
theorem kv_fst : ∀ {kvs : List (L2.Key × V)} {us : List (L2.Key × Value)}, KV kvs us → (kvs.map fun p => kV p.1) = (us.map fun p => kV p.1)
  | _, _, .nil => rfl
  | _, _, .cons h t => by
    rw [List.map_cons, List.map_cons, h.1, kv_fst t]
theorem kv_snd : ∀ {kvs : List (L2.Key × V)} {us : List (L2.Key × Value)}, KV kvs us → Vals (kvs.map (·.2)) (us.map (·.2))
  | _, _, .nil => .nil
  | _, _, .cons h t => .cons h.2 (kv_snd t)
section
variable {X : Cx} {pins : List (Addr × Obj)} {σ : L2.St} {H : Hp} {s : Shared}
/-- what is known of a value's text -/
def Shows (P : Program) (w : World) (h : Heap) (u : Value) (d : PyData) : Prop := ∃ as, Reads h u d as ∧ ∃ bs, ReadAtMost h d.depth bs ∧ ReprK P w bs h d.depth u d.shown
def ShowsAll (P : Program) (w : World) (h : Heap) (us : List Value) (ds : List PyData) : Prop :=
  ∃ as, ReadsAll h us ds as ∧ ∃ bs, ReadAtMost h (PyData.depthAll ds) bs ∧ ReprAllK P w bs h (PyData.depthAll ds) us (PyData.shownAll ds)
theorem shows_leaf {P : Program} {w : World} {h : Heap} {u : Value} {d : PyData} {as : List Addr} (r : Reads h u d as) (i : ReprIs P w u d.shown) : Shows P w h u d := ⟨as, r, [], (fun _ z => nomatch z), ReprK.of_is i _ _ _⟩
theorem shows_all (I : Inv X pins σ H s) {m : Nat} (ih : ∀ (d : PyData) (v : V) (u : Value), d.depth ≤ m → Dr H v d → RelV v u → d.showable = true → d.shown.length ≤ sizeLine → Shows X.prog X.w s.heap u d) :
    ∀ (ds : List PyData) (vs : List V) (us : List Value), PyData.depthAll ds ≤ m → DrAll H vs ds → Vals vs us → PyData.showableAll ds = true → (∀ t ∈ PyData.shownAll ds, t.length ≤ sizeLine) → ShowsAll X.prog X.w s.heap us ds
  | [], _, _, _, h, r, _, _ => by
    cases h
    cases r
    refine ⟨_, ReadsAll.nil, [], (fun _ z => nomatch z), ?_⟩
    simp only [PyData.shownAll]
    exact .nil
  | d :: ds, _, _, hm, h, r, hs, hz => by
    simp only [PyData.depthAll] at hm
    have hs' : d.showable = true ∧ PyData.showableAll ds = true := by simpa only [PyData.showableAll, Bool.and_eq_true] using hs
    simp only [PyData.shownAll] at hz
    cases h with
    | cons h1 h2 =>
      cases r with
      | cons r1 r2 =>
        obtain ⟨as, q1, b1, n1, k1⟩ := ih d _ _ (by omega) h1 r1 hs'.1 (hz _ (List.mem_cons_self ..))
        obtain ⟨bs, q2, b2, n2, k2⟩ := shows_all I ih ds _ _ (by omega) h2 r2 hs'.2 (fun t ht => hz t (List.mem_cons_of_mem _ ht))
        refine ⟨_, ReadsAll.cons q1 q2, b1 ++ b2, ?_, ?_⟩
        · simp only [PyData.depthAll]
          exact (n1.mono (Nat.le_max_left _ _)).append (n2.mono (Nat.le_max_right _ _))
        · simp only [PyData.depthAll, PyData.shownAll]
          exact .cons ((k1.more fun b z => List.mem_append_left _ z).level_le (Nat.le_max_left _ _)) (k2.more_le (fun b z => List.mem_append_right _ z) (Nat.le_max_right _ _))
theorem Dr.shows (I : Inv X pins σ H s) : ∀ (m : Nat) (d : PyData) (v : V) (u : Value), d.depth ≤ m → Dr H v d → RelV v u → d.showable = true → d.shown.length ≤ sizeLine → Shows X.prog X.w s.heap u d := by
  have leaf : ∀ (d : PyData) (v : V) (u : Value), Dr H v d → RelV v u → d.showable = true → d.shown.length ≤ sizeLine → d.depth = 0 → Shows X.prog X.w s.heap u d := by
    intro d v u h r hs hz h0
    cases h with
    | non => cases r; exact shows_leaf Reads.none (by simp only [PyData.shown]; exact ReprIs.none)
    | bl b => cases r; exact shows_leaf (Reads.bool b) (by simp only [PyData.shown]; exact ReprIs.bool b)
    | int i => obtain ⟨t, rfl⟩ := r; exact shows_leaf (Reads.int i t) (by simp only [PyData.shown]; exact ReprIs.int t (by simpa [PyData.showable] using hs))
    | str x => obtain ⟨t, rfl⟩ := r; exact shows_leaf (Reads.str x t) (by simp only [PyData.shown]; exact ReprIs.str x t (by simpa only [PyData.shown] using hz))
    | lst hs ha => simp only [PyData.depth] at h0; omega
    | tup hs ha => simp only [PyData.depth] at h0; omega
    | dct hs ha hb => simp only [PyData.depth] at h0; omega
  intro m
  induction m with
  | zero => exact fun d v u hm h r hs hz => leaf d v u h r hs hz (Nat.le_zero.mp hm)
  | succ m ih =>
    intro d v u hm h r hs hz
    cases h with
    | non => exact leaf _ _ _ .non r hs hz (by simp only [PyData.depth])
    | bl b => exact leaf _ _ _ (.bl b) r hs hz (by simp only [PyData.depth])
    | int i => exact leaf _ _ _ (.int i) r hs hz (by simp only [PyData.depth])
    | str x => exact leaf _ _ _ (.str x) r hs hz (by simp only [PyData.depth])
    | @lst a xs ds hh ha =>
      simp only [PyData.depth] at hm
      cases r
      have hz' : (listText (PyData.shownAll ds)).length ≤ sizeLine := by simpa only [PyData.shown] using hz
      obtain ⟨its, rv, ⟨o, n, ho, hc, _, hd⟩, _⟩ := I.list (SqL.of hh)
      obtain ⟨as, hr, bs, hb, hk⟩ := shows_all I ih ds _ its (by omega) ha rv (by simpa only [PyData.showable] using hs) (fun t ht => Nat.le_trans (listText_mem_le ht) hz')
      have rd : Reads s.heap (.ref a) (.list ds) _ := .list ho hc hd hr
      have hna : a ∉ bs := not_mem_of_deeper rd (by simp only [PyData.depth]; omega) hb
      refine ⟨_, rd, a :: bs, ReadAtMost.cons rd (by simp only [PyData.depth]; omega) hb, ?_⟩
      simp only [PyData.depth, PyData.shown]
      cases its with
      | nil =>
        cases hr
        simp only [PyData.shownAll, listText_nil]
        exact ReprK.listEmpty ho hc hd
      | cons x l => exact ReprK.list ho hc hd hna (by simpa using hk.length_eq) (fun i y e => hk.item i y (by simpa using e))
    | @tup a xs ds hh ha =>
      simp only [PyData.depth] at hm
      cases r
      have hz' : (tupleText (PyData.shownAll ds)).length ≤ sizeLine := by simpa only [PyData.shown] using hz
      obtain ⟨its, rv, ⟨o, ho, hc, n, hd⟩, _⟩ := I.tuple (SqT.of hh)
      obtain ⟨as, hr, bs, hb, hk⟩ := shows_all I ih ds _ its (by omega) ha rv (by simpa only [PyData.showable] using hs) (fun t ht => Nat.le_trans (tupleText_mem_le ht) hz')
      have rd : Reads s.heap (.ref a) (.tuple ds) _ := .tuple ho hc hd hr
      have hna : a ∉ bs := not_mem_of_deeper rd (by simp only [PyData.depth]; omega) hb
      refine ⟨_, rd, a :: bs, ReadAtMost.cons rd (by simp only [PyData.depth]; omega) hb, ?_⟩
      simp only [PyData.depth, PyData.shown]
      exact ReprK.tuple ho hc hd hna hk
    | @dct a kvs ps hh hk hv =>
      simp only [PyData.depth] at hm
      have d1 := PyData.depthAll_keys_le ps
      have d2 := PyData.depthAll_vals_le ps
      cases r
      have hz' : (dictText (PyData.shownKv ps)).length ≤ sizeLine := by simpa only [PyData.shown] using hz
      obtain ⟨hs1, hs2⟩ := PyData.showableKv_split ps (by simpa only [PyData.showable] using hs)
      have oo : ObjOk X.prog X.w H s.heap a (.dK kvs) := I.hok a _ hh
      obtain ⟨_, hsys, us, ku, o, es, ep, ho, hx, hd, _, hp, _⟩ := oo
      have q1 := vals_fst hp
      rw [← kv_fst ku] at q1
      have q2 := kv_snd ku
      rw [← pairs_snd hp] at q2
      obtain ⟨as, r1, b1, n1, k1⟩ := shows_all I ih (ps.map (·.1)) _ _ (by omega) hk q1 hs1 (fun t ht => let ⟨p, hp, hl⟩ := PyData.shownKv_key_le ps t ht; Nat.le_trans hl (Nat.le_trans (dictText_mem_le hp) hz'))
      obtain ⟨bs, r2, b2, n2, k2⟩ := shows_all I ih (ps.map (·.2)) _ _ (by omega) hv q2 hs2 (fun t ht => let ⟨p, hp, hl⟩ := PyData.shownKv_val_le ps t ht; Nat.le_trans hl (Nat.le_trans (dictText_mem_le hp) hz'))
      have rd : Reads s.heap (.ref a) (.dict ps) _ := .dict ho hx.1 hd r1 r2
      have hb : ReadAtMost s.heap (PyData.depthKv ps) (b1 ++ b2) := (n1.mono d1).append (n2.mono d2)
      have hna : a ∉ b1 ++ b2 := not_mem_of_deeper rd (by simp only [PyData.depth]; omega) hb
      refine ⟨_, rd, a :: (b1 ++ b2), ReadAtMost.cons rd (by simp only [PyData.depth]; omega) hb, ?_⟩
      simp only [PyData.depth, PyData.shown, PyData.shownKv_eq]
      exact ReprK.dict ho hx.1 hd hsys hna (ReprEntriesK.of_two es.toList _ _ (k1.more_le (fun b z => List.mem_append_left _ z) d1) (k2.more_le (fun b z => List.mem_append_right _ z) d2))
/-- repr(x), x a list of such data -/
def rShowD : List V → Hp → VK → Prop := fun xs H Q => ∃ (p : Addr) (ds : List PyData), xs = [.ref p] ∧ Dr H (.ref p) (.list ds) ∧ (PyData.list ds).depth ≤ 64 ∧ (PyData.list ds).showable = true ∧ (PyData.list ds).shown.length ≤ sizeLine ∧ Q (.str (PyData.list ds).shown) H
theorem call_showD (hG : X.A.guards = some []) (hu : X.A.units + 66 < cLine) : CallR X (.builtin "repr") rShowD := by
  intro pins s σ H xs us Q I r h
  obtain ⟨p, ds, rfl, hd, sd, hs, hz, q⟩ := h
  obtain ⟨u, rfl, ru⟩ := vals1 r
  cases ru
  have hz' : (listText (PyData.shownAll ds)).length ≤ sizeLine := by simpa only [PyData.shown] using hz
  simp only [PyData.depth] at sd
  simp only [PyData.shown] at q
  cases hd with
  | @lst _ xs _ hh ha =>
    obtain ⟨its, rv, ⟨o, n, ho, hc, _, hd⟩, _⟩ := I.list (SqL.of hh)
    obtain ⟨as, hr, bs, hb, hk⟩ := shows_all I (Dr.shows I _) ds _ its (Nat.le_refl _) ha rv (by simpa only [PyData.showable] using hs) (fun t ht => Nat.le_trans (listText_mem_le ht) hz')
    have rd : Reads s.heap (.ref p) (.list ds) _ := .list ho hc hd hr
    have hna : p ∉ bs := not_mem_of_deeper rd (by simp only [PyData.depth]; omega) hb
    refine call_repr_slot (by omega) ⟨o, ho, hc⟩ PySem.F.slot_list_repr.toG ?_
    cases its with
    | nil =>
      cases hr
      simp only [PyData.shownAll, listText_nil] at q
      exact call_list_repr_empty ⟨o, ho, hc⟩ ho hd ⟨_, _, rfl, ⟨.str _, H, I.tok _, ⟨_, rfl⟩, q⟩⟩
    | cons x l =>
      refine call_list_reprK ho hc hd hna (by simpa using hk.length_eq) (fun i y e => hk.item i y (by simpa using e)) hG (fun b _ => Clear.nil b) ?_ (fun b o e => e) (fun h' u' tk k => ?_) hz'
      · show X.A.units + 1 + _ < cLine
        omega
      · exact ⟨_, _, rfl, ⟨.str _, H, I.kept k, ⟨_, rfl⟩, q⟩⟩
end
end Kx
namespace Kx
open PySem PySem.Spec PyProof.Rows L2
/-! ### sorted: tuples of ints of one length, any number of them -/
section
variable {prog : Program} {w : World} {A : Around} {E : Value → Shared → Prop} {s : Shared} {Q : Bool → Shared → Prop}
theorem lex_intsL {b : Bool} {xs ys : List Value} {ns ms : List Int} (i : Nat) (hx : IntsAre xs ns) (hy : IntsAre ys ms) (hl : ns.length = ms.length)
    (h : Q (HT.lexLt ns ms) s) : PySem.W.KatLex prog w A b false Q (xs.zip ys) i s := by
  induction hx generalizing ys ms i with
  | nil =>
    cases hy with
    | nil => exact PySem.W.kat_nil h
    | cons q u hy => simp at hl
  | @cons p t xs ns hx ih =>
    cases hy with
    | nil => simp at hl
    | @cons q u ys ms hy =>
      have hl' : ns.length = ms.length := by simpa using hl
      show PySem.W.KatLex prog w A b false Q ((Value.int p t, Value.int q u) :: xs.zip ys) i s
      refine PySem.W.kat_cons (wpAny_eqBool_int ?_)
      rw [HT.lexLt_cons] at h
      by_cases e : p = q
      · subst e
        rw [beq_self_eq_true]
        rw [if_pos rfl] at h
        refine PySem.W.kat_yes ?_
        first
          | exact ih (i + 1) hy hl' h
          | exact ih _ _ (i + 1) hy hl' h
      · rw [show (p == q) = false from beq_eq_false_iff_ne.mpr e]
        rw [if_neg e] at h
        exact PySem.W.kat_no (TS.oneLt_ints _ h)
end
def TupsL (h : Heap) (d : Nat) (k : Value → List Int) (vs : List Value) : Prop := ∀ v ∈ vs, TS.TupInts h v (k v) ∧ (k v).length = d
theorem TupsL.keeps {h h' : Heap} {d : Nat} {k : Value → List Int} {vs : List Value} (x : TupsL h d k vs) (kp : ∀ b o, h.get? b = some o → o.cls = .type "tuple" → h'.get? b = some o) : TupsL h' d k vs := fun v hv => ⟨(x v hv).1.keeps kp, (x v hv).2⟩
theorem firstsL {h : Heap} {d : Nat} {k : Value → List Int} (hd : 1 ≤ d) : ∀ vs : List Value, TupsL h d k vs → ∃ fs, PySem.W.KatTups h vs fs ∧ fs.length = vs.length ∧ ∀ f, f ∈ fs → ∃ n t, f = Value.int n t
  | [], _ => ⟨[], PySem.W.KatTups.nil, rfl, fun f hf => by simp at hf⟩
  | v :: vs, x => by
    obtain ⟨fs, kk, hl, hi⟩ := firstsL hd vs fun u hu => x u (List.mem_cons_of_mem _ hu)
    obtain ⟨⟨a, xs, e0, ⟨o, ho, hc, n, hdt⟩, i⟩, hn⟩ := x v (List.mem_cons_self ..)
    obtain ⟨y, ys, e⟩ : ∃ y ys, xs.toList = y :: ys := by
      cases q : xs.toList with
      | nil =>
        rw [q] at i
        have l := i.length
        rw [List.length_nil, hn] at l
        omega
      | cons y ys => exact ⟨y, ys, rfl⟩
    obtain ⟨m, t, hy⟩ := i.all y (by rw [e]; exact List.mem_cons_self ..)
    refine ⟨y :: fs, ?_, by simp [hl], ?_⟩
    · rw [e0]
      exact PySem.W.KatTups.cons ho hc hdt (by
        have z := congrArg (fun l : List Value => l[0]?) e
        simpa using z) kk
    · intro f hf
      rcases List.mem_cons.mp hf with rfl | hf
      · exact ⟨m, t, hy⟩
      · exact hi f hf
section
variable {prog : Program} {w : World} {A : Around} {E : Value → Shared → Prop} {s : Shared}
theorem tup_cmpL {d : Nat} {vs : List Value} {k : Value → List Int} (x : TupsL s.heap d k vs) : SrtO.Cmp prog w A s (tuples' true) (fun p => p.1 ∈ vs) (SrtO.lt2 fun v u => HT.lexLt (k v) (k u)) := by
  intro p q hp hq
  obtain ⟨tp, lp⟩ := x _ hp
  obtain ⟨tq, lq⟩ := x _ hq
  show wpAny (model prog w) A (keyLt' (tuples' true) p.1 q.1) (fun r s' => s' = s ∧ r = HT.lexLt (k p.1) (k q.1)) (fun _ _ => False) s
  generalize k p.1 = ns at tp lp ⊢
  generalize k q.1 = ms at tq lq ⊢
  obtain ⟨a, xs, e1, ⟨o, ho, hc, n, hdt⟩, i⟩ := tp
  obtain ⟨a', ys, e2, ⟨o', ho', hc', n', hdt'⟩, i'⟩ := tq
  rw [e1, e2]
  refine PySem.W.kat_lt ho hdt ho' hdt' ?_
  have sz : decide (xs.size < ys.size) = false := by
    have l1 := i.length
    have l2 := i'.length
    rw [Array.length_toList] at l1 l2
    exact decide_eq_false (by omega)
  rw [sz]
  exact lex_intsL 0 i i' (by omega) ⟨rfl, rfl⟩
theorem tups_sortL {a : Addr} {d : Nat} {vs : List Value} {k : Value → List Int} (hd : 1 ≤ d) (h2 : 2 ≤ vs.length) (x : TupsL s.heap d k vs) (ha : ∀ o, s.heap.get? a = some o → o.cls ≠ .type "tuple") :
    SrtO.SortableO prog w A s a vs fun v u => HT.lexLt (k v) (k u) := by
  intro h' keep
  have x' : TupsL h' d k vs := x.keeps fun b o e c => keep b o (fun z => by subst z; exact ha o e c) e
  obtain ⟨fs, h1, h3, hi⟩ := firstsL hd vs x'
  refine ⟨tuples' true, fun Q E hq => ?_, tup_cmpL (s := { s with heap := h' }) x'⟩
  refine PySem.W.kat_kind (T := .type "int") h1 (by omega) (fun f hm => ?_) (by rfl) ?_
  · obtain ⟨n, t, rfl⟩ := hi f hm
    exact PySem.W.Looks.now
  · have e : (Value.type "int" != Value.type "tuple") = true := by first | decide +kernel | rfl | decide
    rw [e]
    exact hq
end
/-- sorted(xs), xs a list of tuples of d ints each -/
def rSortL (K : PySem.W.Frag) : List V → Hp → VK → Prop := fun vs H Q => ∃ (a : Addr) (ts : List Addr) (k : Addr → List Int) (d : Nat), vs = [V.ref a] ∧ SqL K H a (ts.map V.ref) ∧ (1 ≤ d ∨ ts.length < 2) ∧
  (∀ t ∈ ts, SqT K H t ((k t).map V.int) ∧ (k t).length = d) ∧
  ∀ (ts' : List Addr) (p : Addr), ts'.Perm ts → ts'.Pairwise (fun p q => HT.lexLt (k q) (k p) = false) → H p = none → Q (.ref p) (upd H p (.lst (ts'.map V.ref)))
section
variable {X : Cx}
theorem cr_sortL : CallR X (.builtin "sorted") (rSortL X.K) := by
  intro pins s σ H vs us Q I r h
  obtain ⟨a, ts, k, d, rfl, hs, h1d, hx, q⟩ := h
  obtain ⟨its, rv, hl, hz⟩ := I.list hs
  rw [Vals.ref1 r]
  have ei := nts_of rv
  have hx' : TupsL s.heap d (fun v => k (adO v)) its := fun v hv => by
    rw [ei] at hv
    obtain ⟨t, ht, rfl⟩ := List.mem_map.mp hv
    obtain ⟨h1, h2⟩ := hx t ht
    exact ⟨tupI_raw I h1, h2⟩
  refine SrtO.sorted_ord (NtL.swo_lexL fun u => k (adO u)) hl.isList (by rw [← rv.length]; exact hz) (fun h2 h₁ a' e' kk => ?_) fun out h1 h2 => ?_
  · have hd : 1 ≤ d := by
      rcases h1d with z | z
      · exact z
      · have := rv.length
        rw [List.length_map] at this
        omega
    refine tups_sortL (s := { s with heap := h₁ }) hd h2 (hx'.keeps fun b o e _ => (kk b o e).2) fun o e => ?_
    have e2 : some o = some (seqObj "list" its.toArray 0) := e.symm.trans e'
    cases e2
    intro c
    exact absurd (Value.type.inj c) (by decide)
  · have eo : out = (out.map adO).map Value.ref := ref_map fun u hm => by
      have hm' : u ∈ its := h2.perm.mem_iff.mp hm
      rw [ei] at hm'
      obtain ⟨t, _, e⟩ := List.mem_map.mp hm'
      exact ⟨t, e.symm⟩
    have hp : (out.map adO).Perm ts := by
      have p1 := h2.perm.map adO
      rw [ei, ad_map] at p1
      exact p1
    have hso : (out.map adO).Pairwise (fun p q => HT.lexLt (k q) (k p) = false) := List.pairwise_map.mpr (h1.imp fun {x y} z => z)
    have hlen : ((out.map adO).map V.ref).length ≤ sizeLine := by
      rw [List.length_map, hp.length_eq]
      rw [List.length_map] at hz
      exact hz
    have rvo : Vals ((out.map adO).map V.ref) out := by
      have z := of_nts (out.map adO)
      rw [← eo] at z
      exact z
    obtain ⟨ep, he'⟩ := PyProof.Rows.sortedAll_at s.heap its out.toArray
    exact ⟨.ref _, upd H (s.heap.objs.size + 1) (.lst ((out.map adO).map V.ref)), I.laid (t' := s.toks) (fun _ _ => PyProof.Rows.sortedAll_old) (Nat.le_succ _) ⟨hlen, out, ep, rvo, he'⟩, rfl, q _ _ hp hso (I.hok.fresh (Nat.le_succ _))⟩
end
end Kx
namespace Kx
open PySem PySem.Spec PyProof.Rows L2
/-! ### polynomials as lists of exponents and numbers -/
abbrev Poly := List (List Int × Int)
theorem lx_irr (a : List Int) : HT.lexLt a a = false := by
  cases h : HT.lexLt a a with
  | false => rfl
  | true => exact (NtL.lex_asym a a h).symm.trans h |>.symm ▸ rfl
theorem lx_ne {a b : List Int} (h : HT.lexLt a b = true) : a ≠ b := fun e => by
  rw [e, lx_irr] at h
  cases h
theorem lx_trans {a b c : List Int} (h1 : HT.lexLt a b = true) (h2 : HT.lexLt b c = true) : HT.lexLt a c = true := by
  cases h : HT.lexLt a c with
  | true => rfl
  | false =>
    have h3 := NtL.lex_tr b c a (NtL.lex_asym b c h2) h
    rw [h1] at h3
    cases h3
theorem lx_tot : ∀ {a b : List Int}, a.length = b.length → HT.lexLt a b = false → HT.lexLt b a = false → a = b
  | [], [], _, _, _ => rfl
  | [], _ :: _, h, _, _ => by simp at h
  | _ :: _, [], h, _, _ => by simp at h
  | x :: xs, y :: ys, h, h1, h2 => by
    rw [HT.lexLt_cons] at h1 h2
    by_cases e : x = y
    · subst e
      rw [if_pos rfl] at h1 h2
      rw [lx_tot (by simpa using h) h1 h2]
    · rw [if_neg e] at h1
      rw [if_neg (fun z => e z.symm)] at h2
      have a1 := of_decide_eq_false h1
      have a2 := of_decide_eq_false h2
      omega
theorem lx_cases {a b : List Int} (h : a.length = b.length) : HT.lexLt a b = true ∨ a = b ∨ HT.lexLt b a = true := by
  cases h1 : HT.lexLt a b with
  | true => exact .inl rfl
  | false =>
    cases h2 : HT.lexLt b a with
    | true => exact .inr (.inr rfl)
    | false => exact .inr (.inl (lx_tot h h1 h2))

/-- the sum of the numbers, each times f of its exponents -/
def ev : Poly → (List Int → Int) → Int
  | [], _ => 0
  | t :: p, f => t.2 * f t.1 + ev p f
def dl (e : List Int) : List Int → Int := fun x => if x = e then 1 else 0
/-- the number that stands at e -/
def coef (p : Poly) (e : List Int) : Int := ev p (dl e)
theorem ev_app (f : List Int → Int) : ∀ p q : Poly, ev (p ++ q) f = ev p f + ev q f
  | [], q => by simp [ev]
  | t :: p, q => by
    show t.2 * f t.1 + ev (p ++ q) f = t.2 * f t.1 + ev p f + ev q f
    rw [ev_app f p q]
    omega
theorem coef_app (p q : Poly) (e : List Int) : coef (p ++ q) e = coef p e + coef q e := ev_app _ p q
theorem coef_nil (e : List Int) : coef [] e = 0 := rfl
theorem coef_cons (t : List Int × Int) (p : Poly) (e : List Int) : coef (t :: p) e = (if t.1 = e then t.2 else 0) + coef p e := by
  show t.2 * dl e t.1 + coef p e = _
  unfold dl
  split <;> simp
theorem coef_no : ∀ {p : Poly} {e : List Int}, (∀ t ∈ p, t.1 ≠ e) → coef p e = 0
  | [], _, _ => rfl
  | t :: p, e, h => by
    rw [coef_cons, if_neg (h t List.mem_cons_self), coef_no fun u hu => h u (List.mem_cons_of_mem _ hu)]
    rfl
def sc (n : Int) (p : Poly) : Poly := p.map fun t => (t.1, n * t.2)
theorem ev_sc (n : Int) (f : List Int → Int) : ∀ p : Poly, ev (sc n p) f = n * ev p f
  | [] => by simp [ev, sc]
  | t :: p => by
    show n * t.2 * f t.1 + ev (sc n p) f = n * (t.2 * f t.1 + ev p f)
    rw [ev_sc n f p, Int.mul_add, Int.mul_assoc]
theorem ev_split (f : List Int → Int) (k : List Int) : ∀ p : Poly, ev p f = coef p k * f k + ev (p.filter fun t => !decide (t.1 = k)) f
  | [] => by simp [ev, coef]
  | t :: p => by
    rw [coef_cons, List.filter_cons]
    by_cases h : t.1 = k
    · rw [if_pos h, decide_eq_true h]
      show t.2 * f t.1 + ev p f = (t.2 + coef p k) * f k + ev (p.filter _) f
      rw [ev_split f k p, h, Int.add_mul]
      omega
    · rw [if_neg h, decide_eq_false h]
      show t.2 * f t.1 + ev p f = (0 + coef p k) * f k + (t.2 * f t.1 + ev (p.filter _) f)
      rw [ev_split f k p, Int.zero_add]
      omega
theorem coef_filter (k e : List Int) (p : Poly) : coef (p.filter fun t => !decide (t.1 = k)) e = if e = k then 0 else coef p e := by
  by_cases h : e = k
  · rw [if_pos h]
    refine coef_no fun t ht => ?_
    have h2 := (List.mem_filter.mp ht).2
    simp only [Bool.not_eq_true', decide_eq_false_iff_not] at h2
    rw [h]
    exact h2
  · rw [if_neg h]
    have := ev_split (dl e) k p
    rw [show dl e k = 0 from if_neg (fun z => h z.symm)] at this
    show ev _ _ = ev _ _
    rw [this]
    simp
theorem ev_zero (f : List Int → Int) : ∀ (n : Nat) (p : Poly), p.length ≤ n → (∀ e, coef p e = 0) → ev p f = 0
  | _, [], _, _ => rfl
  | 0, t :: p, hl, _ => by simp at hl
  | n + 1, t :: p, hl, h => by
    rw [ev_split f t.1, h, Int.zero_mul, Int.zero_add]
    refine ev_zero f n _ ?_ fun e => ?_
    · rw [List.filter_cons, decide_eq_true rfl]
      have := List.length_filter_le (fun u : List Int × Int => !decide (u.1 = t.1)) p
      simp only [Bool.not_true, Bool.false_eq_true, if_false]
      simp only [List.length_cons] at hl
      omega
    · rw [coef_filter]
      split
      · rfl
      · exact h e
theorem ev_congr {p q : Poly} (h : ∀ e, coef p e = coef q e) (f : List Int → Int) : ev p f = ev q f := by
  have z := ev_zero f _ (p ++ sc (-1) q) (Nat.le_refl _) fun e => by
    rw [coef_app, h]
    show coef q e + ev (sc (-1) q) (dl e) = 0
    rw [ev_sc]
    show coef q e + -1 * coef q e = 0
    omega
  rw [ev_app, ev_sc] at z
  omega

/-- a polynomial in its one form, in m unknowns -/
structure Canon (m : Nat) (p : Poly) : Prop where
  len : ∀ t ∈ p, t.1.length = m
  nn : ∀ t ∈ p, ∀ x ∈ t.1, 0 ≤ x
  nz : ∀ t ∈ p, t.2 ≠ 0
  up : p.Pairwise fun s t => HT.lexLt s.1 t.1 = true
theorem Canon.nil {m : Nat} : Canon m [] := ⟨by simp, by simp, by simp, .nil⟩
theorem Canon.tail {m : Nat} {t : List Int × Int} {p : Poly} (c : Canon m (t :: p)) : Canon m p :=
  ⟨fun u hu => c.len u (List.mem_cons_of_mem _ hu), fun u hu => c.nn u (List.mem_cons_of_mem _ hu), fun u hu => c.nz u (List.mem_cons_of_mem _ hu), (List.pairwise_cons.mp c.up).2⟩
theorem Canon.head {m : Nat} {t : List Int × Int} {p : Poly} (c : Canon m (t :: p)) : coef (t :: p) t.1 = t.2 := by
  rw [coef_cons, if_pos rfl, coef_no fun u hu => (lx_ne ((List.pairwise_cons.mp c.up).1 u hu)).symm]
  omega
theorem Canon.below {m : Nat} {t : List Int × Int} {p : Poly} {e : List Int} (c : Canon m (t :: p)) (h : HT.lexLt e t.1 = true) : coef (t :: p) e = 0 := coef_no fun u hu => by
  rcases List.mem_cons.mp hu with z | z
  · rw [z]
    exact (lx_ne h).symm
  · exact (lx_ne (lx_trans h ((List.pairwise_cons.mp c.up).1 u z))).symm
theorem canon_ext {m : Nat} : ∀ {p q : Poly}, Canon m p → Canon m q → (∀ e, coef p e = coef q e) → p = q
  | [], [], _, _, _ => rfl
  | [], t :: q, _, c, h => absurd (((h t.1).trans c.head).symm) (c.nz t List.mem_cons_self)
  | t :: p, [], c, _, h => absurd (((h t.1).symm.trans c.head).symm) (c.nz t List.mem_cons_self)
  | s :: p, t :: q, c, d, h => by
    rcases lx_cases (a := s.1) (b := t.1) ((c.len s List.mem_cons_self).trans (d.len t List.mem_cons_self).symm) with z | z | z
    · exact absurd ((c.head.symm.trans (h s.1)).trans (d.below z)) (c.nz s List.mem_cons_self)
    · have e2 : s.2 = t.2 := by rw [← c.head, ← d.head, ← z, h]
      have e : s = t := Prod.ext z e2
      rw [e, canon_ext c.tail d.tail fun x => ?_]
      have := h x
      rw [coef_cons, coef_cons, e] at this
      omega
    · exact absurd ((d.head.symm.trans (h t.1).symm).trans (c.below z)) (d.nz t List.mem_cons_self)

/-! ### products -/
def addE (a b : List Int) : List Int := List.zipWith (· + ·) a b
def row (s : List Int × Int) (q : Poly) : Poly := q.map fun t => (addE s.1 t.1, s.2 * t.2)
def conv : Poly → Poly → Poly
  | [], _ => []
  | s :: p, q => row s q ++ conv p q
theorem ev_row (f : List Int → Int) (s : List Int × Int) : ∀ q : Poly, ev (row s q) f = s.2 * ev q fun x => f (addE s.1 x)
  | [] => by simp [row, ev]
  | t :: q => by
    show s.2 * t.2 * f (addE s.1 t.1) + ev (row s q) f = s.2 * (t.2 * f (addE s.1 t.1) + ev q fun x => f (addE s.1 x))
    rw [ev_row f s q, Int.mul_add, Int.mul_assoc]
theorem ev_conv (f : List Int → Int) (q : Poly) : ∀ p : Poly, ev (conv p q) f = ev p fun a => ev q fun b => f (addE a b)
  | [] => rfl
  | s :: p => by
    show ev (row s q ++ conv p q) f = s.2 * _ + ev p _
    rw [ev_app, ev_row, ev_conv f q p]
theorem ev_fun {f g : List Int → Int} : ∀ p : Poly, (∀ t ∈ p, f t.1 = g t.1) → ev p f = ev p g
  | [], _ => rfl
  | t :: p, h => by
    show t.2 * f t.1 + ev p f = t.2 * g t.1 + ev p g
    rw [h t List.mem_cons_self, ev_fun p fun u hu => h u (List.mem_cons_of_mem _ hu)]
theorem conv_congr {p p' q q' : Poly} (h1 : ∀ e, coef p e = coef p' e) (h2 : ∀ e, coef q e = coef q' e) (e : List Int) : coef (conv p q) e = coef (conv p' q') e := by
  show ev _ _ = ev _ _
  rw [ev_conv, ev_conv, ev_congr h1]
  exact ev_fun p' fun t _ => ev_congr h2 _
theorem ev_swap (f : List Int → List Int → Int) (q : Poly) : ∀ p : Poly, (ev p fun a => ev q fun b => f a b) = ev q fun b => ev p fun a => f a b
  | [] => by
    show (0 : Int) = ev q fun _ => 0
    induction q with
    | nil => rfl
    | cons t q ih => show (0 : Int) = t.2 * 0 + ev q _; rw [← ih]; omega
  | s :: p => by
    show s.2 * ev q (fun b => f s.1 b) + (ev p fun a => ev q fun b => f a b) = ev q fun b => s.2 * f s.1 b + ev p fun a => f a b
    rw [ev_swap f q p]
    clear ev_swap
    induction q with
    | nil => simp [ev]
    | cons t q ih =>
      show s.2 * (t.2 * f s.1 t.1 + ev q _) + (t.2 * _ + ev q _) = t.2 * (s.2 * f s.1 t.1 + _) + ev q _
      rw [← ih, Int.mul_add, Int.mul_add, Int.mul_left_comm]
      show _ + s.2 * ev q _ + (t.2 * (ev p fun a => f a t.1) + _) = _
      generalize t.2 * (ev p fun a => f a t.1) = Z
      omega
theorem addE_comm (a b : List Int) : addE a b = addE b a := by
  unfold addE
  rw [List.zipWith_comm]
  congr 1
  funext x y
  exact Int.add_comm _ _
theorem conv_comm (p q : Poly) (e : List Int) : coef (conv p q) e = coef (conv q p) e := by
  show ev _ _ = ev _ _
  rw [ev_conv, ev_conv, ev_swap]
  refine ev_fun q fun t _ => ev_fun p fun u _ => ?_
  rw [addE_comm]
/-- the value of a monomial at a place -/
def mono : List Int → List Int → Int
  | b :: bs, n :: ns => b ^ n.toNat * mono bs ns
  | _, _ => 1
theorem mono_add : ∀ (pl a b : List Int), a.length = b.length → (∀ x ∈ a, 0 ≤ x) → (∀ x ∈ b, 0 ≤ x) → mono pl (addE a b) = mono pl a * mono pl b
  | [], a, b, _, _, _ => by simp [mono]
  | c :: pl, [], [], _, _, _ => by simp [mono, addE]
  | c :: pl, [], _ :: _, h, _, _ => by simp at h
  | c :: pl, _ :: _, [], h, _, _ => by simp at h
  | c :: pl, x :: a, y :: b, h, h1, h2 => by
    have x0 := h1 x List.mem_cons_self
    have y0 := h2 y List.mem_cons_self
    show c ^ (x + y).toNat * mono pl (addE a b) = c ^ x.toNat * mono pl a * (c ^ y.toNat * mono pl b)
    rw [mono_add pl a b (by simpa using h) (fun z hz => h1 z (List.mem_cons_of_mem _ hz)) (fun z hz => h2 z (List.mem_cons_of_mem _ hz)), Int.toNat_add x0 y0, Int.pow_add]
    ac_rfl
theorem ev_mul (c : Int) (f : List Int → Int) : ∀ p : Poly, ev p (fun x => f x * c) = ev p f * c
  | [] => by simp [ev]
  | t :: p => by
    show t.2 * (f t.1 * c) + ev p _ = (t.2 * f t.1 + ev p f) * c
    rw [ev_mul c f p, Int.add_mul, Int.mul_assoc]
theorem ev_conv_mono {m : Nat} (pl : List Int) {p q : Poly} (c : Canon m p) (d : Canon m q) : ev (conv p q) (mono pl) = ev p (mono pl) * ev q (mono pl) := by
  rw [ev_conv]
  have h : ∀ t ∈ p, (ev q fun b => mono pl (addE t.1 b)) = mono pl t.1 * ev q (mono pl) := fun t ht => by
    rw [ev_fun (g := fun b => mono pl b * mono pl t.1) q fun u hu => by
      rw [mono_add pl t.1 u.1 ((c.len t ht).trans (d.len u hu).symm) (c.nn t ht) (d.nn u hu), Int.mul_comm], ev_mul, Int.mul_comm]
  rw [ev_fun (g := fun a => mono pl a * ev q (mono pl)) p h, ev_mul]
end Kx
namespace Kx
open PySem PySem.Spec PyProof.Rows L2
/-! ### polynomials in the heap -/
def MonoAt (H : Hp) (b : Addr) (e : List Int) : Prop := H b = some (.tup (e.map V.int))
def TermAt (H : Hp) (t : Addr) (e : List Int × Int) : Prop := ∃ b, H t = some (.tup [.ref b, .int e.2]) ∧ MonoAt H b e.1
def PolyAt (H : Hp) (a : Addr) (p : Poly) : Prop := ∃ ts : List Addr, H a = some (.tup (ts.map V.ref)) ∧ Paired (TermAt H) ts p
/-- what stays as it is but at d -/
def Bt (d : Addr) (H H' : Hp) : Prop := ∀ b o, H b = some o → b ≠ d → H' b = some o
theorem Bt.refl {d : Addr} {H : Hp} : Bt d H H := fun _ _ e _ => e
theorem Bt.trans {d : Addr} {H H1 H2 : Hp} (a : Bt d H H1) (b : Bt d H1 H2) : Bt d H H2 := fun c o e n => b c o (a c o e n) n
theorem Bt.of {d : Addr} {H H' : Hp} (s : Same H H') : Bt d H H' := fun b o e _ => s b o e
theorem Bt.at' {d : Addr} {H : Hp} {o : HO} : Bt d H (upd H d o) := fun b x e n => by rw [upd_ne n]; exact e
/-- tuples stay where all but one, that is none, stays; all but the two of a source -/
def Tups (H H' : Hp) : Prop := ∀ b xs, H b = some (.tup xs) → H' b = some (.tup xs)
theorem Tups.refl {H : Hp} : Tups H H := fun _ _ e => e
theorem Tups.trans {H H1 H2 : Hp} (a : Tups H H1) (b : Tups H1 H2) : Tups H H2 := fun c o e => b c o (a c o e)
theorem Tups.of {H H' : Hp} (s : Same H H') : Tups H H' := fun b xs e => s b _ e
theorem Tups.bt {d : Addr} {H H' : Hp} {o : HO} (s : Bt d H H') (h : H d = some o) (n : ∀ xs, o ≠ .tup xs) : Tups H H' := fun b xs e => s b _ e fun z => by
  rw [z, h] at e
  exact n xs (Option.some.inj e)
theorem Tups.but {d l : Addr} {H H' : Hp} (S : SrcAt H d l) (e : But d l H H') : Tups H H' := fun b xs h => e _ _ h (S.nt h).1 (S.nt h).2
theorem MonoAt.tups {H H' : Hp} {b : Addr} {e : List Int} (h : MonoAt H b e) (s : Tups H H') : MonoAt H' b e := s _ _ h
theorem TermAt.tups {H H' : Hp} {b : Addr} {e : List Int × Int} (h : TermAt H b e) (s : Tups H H') : TermAt H' b e := let ⟨c, h1, h2⟩ := h; ⟨c, s _ _ h1, h2.tups s⟩
theorem PolyAt.tups {H H' : Hp} {b : Addr} {p : Poly} (h : PolyAt H b p) (s : Tups H H') : PolyAt H' b p := let ⟨ts, h1, h2⟩ := h; ⟨ts, s _ _ h1, Paired.mono (fun _ _ t => t.tups s) h2⟩
theorem PolyAt.same {H H' : Hp} {b : Addr} {p : Poly} (h : PolyAt H b p) (s : Same H H') : PolyAt H' b p := h.tups (.of s)
def monoD (e : List Int) : PyData := .tuple (e.map PyData.int)
def termD (t : List Int × Int) : PyData := .tuple [monoD t.1, .int t.2]
def polyD (p : Poly) : PyData := .tuple (p.map termD)
theorem dp_ints {K : PySem.W.Frag} {H : Hp} : ∀ ns : List Int, DpAll K H (ns.map V.int) (ns.map PyData.int)
  | [] => .nil
  | n :: ns => .cons (.int n) (dp_ints ns)
theorem MonoAt.dp {K : PySem.W.Frag} {H : Hp} {b : Addr} {e : List Int} (h : MonoAt H b e) : Dp K H (.ref b) (monoD e) := .tup (SqT.of h) (dp_ints e)
theorem TermAt.dp {K : PySem.W.Frag} {H : Hp} {b : Addr} {e : List Int × Int} (h : TermAt H b e) : Dp K H (.ref b) (termD e) := let ⟨_, h1, h2⟩ := h; .tup (SqT.of h1) (.cons h2.dp (.cons (.int _) .nil))
theorem dp_terms {K : PySem.W.Frag} {H : Hp} : ∀ {ts : List Addr} {p : Poly}, Paired (TermAt H) ts p → DpAll K H (ts.map V.ref) (p.map termD)
  | _, _, .nil => .nil
  | _, _, .cons h r => .cons h.dp (dp_terms r)
theorem PolyAt.dp {K : PySem.W.Frag} {H : Hp} {b : Addr} {p : Poly} (h : PolyAt H b p) : Dp K H (.ref b) (polyD p) := let ⟨_, h1, h2⟩ := h; .tup (SqT.of h1) (dp_terms h2)
theorem paired_get {α β : Type} {F : α → β → Prop} : ∀ {l₁ : List α} {l₂ : List β} {i : Nat} {x : α}, Paired F l₁ l₂ → l₁[i]? = some x → ∃ y, l₂[i]? = some y ∧ F x y
  | _, _, i, x, .nil, h => by simp at h
  | _, _, 0, x, .cons h r, e => by
    simp only [List.getElem?_cons_zero] at e
    cases e
    exact ⟨_, by simp, h⟩
  | _, _, i + 1, x, .cons h r, e => by
    simp only [List.getElem?_cons_succ] at e
    obtain ⟨y, h1, h2⟩ := paired_get r e
    exact ⟨y, by simpa using h1, h2⟩

/-! ### dicts from exponents to numbers -/
abbrev key (e : List Int) : List Key := e.map Sum.inl
theorem key_kV (e : List Int) : (key e).map kV = e.map V.int := by
  rw [List.map_map]
  rfl
theorem key_inj : ∀ {a b : List Int}, key a = key b → a = b
  | [], [], _ => rfl
  | [], _ :: _, h => by simp at h
  | _ :: _, [], h => by simp at h
  | x :: a, y :: b, h => by
    have h' : (Sum.inl x : Key) = Sum.inl y ∧ key a = key b := by simpa using h
    rw [Sum.inl.inj h'.1, key_inj h'.2]
def keyed (d : Poly) : List (List Key × V) := d.map fun t => (key t.1, V.int t.2)
def putI (d : Poly) (e : List Int) (n : Int) : Poly := if (d.any fun t => decide (t.1 = e)) = true then d.map (fun t => if t.1 = e then (t.1, n) else t) else d ++ [(e, n)]
theorem any_keyed (e : List Int) : ∀ d : Poly, ((keyed d).any fun kv => decide (kv.1 = key e)) = d.any fun t => decide (t.1 = e)
  | [] => rfl
  | t :: d => by
    show (decide (key t.1 = key e) || (keyed d).any _) = (decide (t.1 = e) || d.any _)
    rw [any_keyed e d]
    by_cases h : t.1 = e
    · rw [decide_eq_true h, decide_eq_true (congrArg key h)]
    · rw [decide_eq_false h, decide_eq_false fun z => h (key_inj z)]
theorem put_keyed (d : Poly) (e : List Int) (n : Int) : putK (keyed d) (key e) (V.int n) = keyed (putI d e n) := by
  unfold putK putI
  rw [any_keyed]
  split
  · unfold keyed
    rw [List.map_map, List.map_map]
    refine List.map_congr_left fun t _ => ?_
    show (if key t.1 = key e then (key t.1, V.int n) else (key t.1, V.int t.2)) = (fun t : List Int × Int => (key t.1, V.int t.2)) (if t.1 = e then (t.1, n) else t)
    by_cases h : t.1 = e
    · rw [if_pos h, if_pos (congrArg key h)]
    · rw [if_neg h, if_neg fun z => h (key_inj z)]
  · unfold keyed
    rw [List.map_append]
    rfl
/-- what a dict from exponents to numbers is: each key once, in m unknowns -/
structure Terms (m : Nat) (d : Poly) : Prop where
  nd : (d.map (·.1)).Nodup
  len : ∀ t ∈ d, t.1.length = m
  nn : ∀ t ∈ d, ∀ x ∈ t.1, 0 ≤ x
theorem Terms.nil {m : Nat} : Terms m [] := ⟨by simp, by simp, by simp⟩
theorem any_mem {d : Poly} {e : List Int} : (d.any fun t => decide (t.1 = e)) = true ↔ e ∈ d.map (·.1) := by
  simp only [List.any_eq_true, decide_eq_true_eq, List.mem_map]
theorem map_put_keys (e : List Int) (n : Int) : ∀ d : Poly, (d.map fun t => if t.1 = e then (t.1, n) else t).map (·.1) = d.map (·.1)
  | [] => rfl
  | t :: d => by
    rw [List.map_cons, List.map_cons, List.map_cons, map_put_keys e n d]
    congr 1
    split <;> rfl
theorem put_keys (d : Poly) (e : List Int) (n : Int) : (putI d e n).map (·.1) = if e ∈ d.map (·.1) then d.map (·.1) else d.map (·.1) ++ [e] := by
  unfold putI
  by_cases h : e ∈ d.map (·.1)
  · rw [if_pos (any_mem.mpr h), if_pos h, map_put_keys]
  · rw [if_neg (fun z => h (any_mem.mp z)), if_neg h, List.map_append]
    rfl
theorem put_len (d : Poly) (e : List Int) (n : Int) : (putI d e n).length ≤ d.length + 1 := by
  have h := congrArg List.length (put_keys d e n)
  rw [List.length_map] at h
  rw [h]
  split <;> simp
theorem coef_mem {d : Poly} {e : List Int} (h : coef d e ≠ 0) : e ∈ d.map (·.1) := Classical.byContradiction fun z => h (coef_no fun t ht q => z (by rw [← q]; exact List.mem_map.mpr ⟨t, ht, rfl⟩))
theorem coef_at {d : Poly} (nd : (d.map (·.1)).Nodup) : ∀ t ∈ d, coef d t.1 = t.2 := by
  induction d with
  | nil => intro t ht; cases ht
  | cons s d ih =>
    intro t ht
    rw [List.map_cons, List.nodup_cons] at nd
    rw [coef_cons]
    rcases List.mem_cons.mp ht with z | z
    · rw [z, if_pos rfl, coef_no fun u hu q => nd.1 (by rw [← q]; exact List.mem_map.mpr ⟨u, hu, rfl⟩)]
      omega
    · rw [if_neg (fun q => nd.1 (by rw [q]; exact List.mem_map.mpr ⟨t, z, rfl⟩)), ih nd.2 t z]
      omega
theorem val_keyed {d : Poly} {e : List Int} (nd : (d.map (·.1)).Nodup) : valV (keyed d) (key e) = if e ∈ d.map (·.1) then some (V.int (coef d e)) else none := by
  induction d with
  | nil => rfl
  | cons s d ih =>
    have nd' := nd
    rw [List.map_cons, List.nodup_cons] at nd'
    by_cases h : s.1 = e
    · have h2 : e ∈ (s :: d).map (·.1) := by rw [← h]; exact List.mem_map.mpr ⟨s, List.mem_cons_self, rfl⟩
      rw [if_pos h2, ← h, coef_at nd s List.mem_cons_self]
      exact valV_pos (p := (key s.1, V.int s.2)) rfl
    · have h3 : valV (keyed (s :: d)) (key e) = valV (keyed d) (key e) := valV_neg (p := (key s.1, V.int s.2)) fun z => h (key_inj z)
      rw [h3, ih nd'.2, coef_cons, if_neg h, Int.zero_add]
      by_cases h4 : e ∈ d.map (·.1)
      · rw [if_pos h4, if_pos (by rw [List.map_cons]; exact List.mem_cons_of_mem _ h4)]
      · rw [if_neg h4, if_neg fun z => by
          rw [List.map_cons] at z
          rcases List.mem_cons.mp z with q | q
          · exact h q.symm
          · exact h4 q]
theorem coef_put {d : Poly} {e e' : List Int} {n : Int} (nd : (d.map (·.1)).Nodup) : coef (putI d e n) e' = if e' = e then n else coef d e' := by
  have nd2 : ((putI d e n).map (·.1)).Nodup := by
    rw [put_keys]
    split
    · exact nd
    · rename_i h
      refine List.nodup_append.mpr ⟨nd, by simp, fun a ha b hb z => h ?_⟩
      rw [List.mem_singleton.mp hb] at z
      rw [← z]
      exact ha
  have v := valV_put (keyed d) (key e) (key e') (V.int n)
  rw [put_keyed, val_keyed nd2, val_keyed nd] at v
  by_cases h : e' = e
  · subst h
    rw [if_pos rfl] at v ⊢
    split at v
    · have := Option.some.inj v
      exact V.int.inj this
    · cases v
  · rw [if_neg (fun z => h (key_inj z))] at v
    rw [if_neg h]
    split at v
    · split at v
      · exact V.int.inj (Option.some.inj v)
      · cases v
    · split at v
      · cases v
      · rename_i h1 h2
        rw [Classical.byContradiction (p := coef (putI d e n) e' = 0) fun z => h1 (coef_mem z), Classical.byContradiction (p := coef d e' = 0) fun z => h2 (coef_mem z)]
theorem Terms.put {m : Nat} {d : Poly} {e : List Int} {n : Int} (t : Terms m d) (hl : e.length = m) (hn : ∀ x ∈ e, 0 ≤ x) : Terms m (putI d e n) := by
  have mem : ∀ u ∈ putI d e n, u.1 = e ∨ u.1 ∈ d.map (·.1) := fun u hu => by
    have h : u.1 ∈ (putI d e n).map (·.1) := List.mem_map.mpr ⟨u, hu, rfl⟩
    rw [put_keys] at h
    split at h
    · exact .inr h
    · rcases List.mem_append.mp h with z | z
      · exact .inr z
      · exact .inl (List.mem_singleton.mp z)
  refine ⟨?_, fun u hu => ?_, fun u hu => ?_⟩
  · rw [put_keys]
    split
    · exact t.nd
    · rename_i h
      refine List.nodup_append.mpr ⟨t.nd, by simp, fun a ha b hb z => h ?_⟩
      rw [List.mem_singleton.mp hb] at z
      rw [← z]
      exact ha
  · rcases mem u hu with z | z
    · rw [z]; exact hl
    · obtain ⟨w, hw, e2⟩ := List.mem_map.mp z
      rw [← e2]; exact t.len w hw
  · rcases mem u hu with z | z
    · rw [z]; exact hn
    · obtain ⟨w, hw, e2⟩ := List.mem_map.mp z
      rw [← e2]; exact t.nn w hw

/-! ### the polynomial of a dict -/
def pick (c : List Int → Int) (ks : List (List Int)) : Poly := (ks.map fun e => (e, c e)).filter fun t => !decide (t.2 = 0)
theorem pick_snoc (c : List Int → Int) (ks : List (List Int)) (e : List Int) : pick c (ks ++ [e]) = pick c ks ++ if c e = 0 then [] else [(e, c e)] := by
  unfold pick
  rw [List.map_append, List.filter_append]
  congr 1
  by_cases h : c e = 0
  · rw [if_pos h]
    simp [h]
  · rw [if_neg h]
    simp [h]
theorem pick_mem {c : List Int → Int} {ks : List (List Int)} {t : List Int × Int} (h : t ∈ pick c ks) : t.1 ∈ ks ∧ t.2 = c t.1 ∧ t.2 ≠ 0 := by
  obtain ⟨h1, h2⟩ := List.mem_filter.mp h
  obtain ⟨e, he, rfl⟩ := List.mem_map.mp h1
  refine ⟨he, rfl, ?_⟩
  simpa using h2
theorem pick_len (c : List Int → Int) (ks : List (List Int)) : (pick c ks).length ≤ ks.length := by
  have := List.length_filter_le (fun t : List Int × Int => !decide (t.2 = 0)) (ks.map fun e => (e, c e))
  rw [List.length_map] at this
  exact this
theorem coef_pick (c : List Int → Int) (e : List Int) : ∀ {ks : List (List Int)}, ks.Nodup → coef (pick c ks) e = if e ∈ ks then c e else 0
  | [], _ => rfl
  | k :: ks, nd => by
    rw [List.nodup_cons] at nd
    have ih := coef_pick c e nd.2
    have hp : pick c (k :: ks) = (if c k = 0 then [] else [(k, c k)]) ++ pick c ks := by
      unfold pick
      rw [List.map_cons, List.filter_cons]
      by_cases h : c k = 0 <;> simp [h]
    rw [hp, coef_app, ih]
    by_cases h : e = k
    · subst h
      rw [if_neg nd.1, if_pos List.mem_cons_self]
      by_cases h2 : c e = 0
      · rw [if_pos h2, h2]
        rfl
      · rw [if_neg h2, coef_cons, if_pos rfl, coef_nil, Int.add_zero, Int.add_zero]
    · have z : coef (if c k = 0 then [] else [(k, c k)]) e = 0 := by
        split
        · rfl
        · rw [coef_cons, if_neg (fun q => h q.symm)]
          rfl
      rw [z, Int.zero_add]
      by_cases h2 : e ∈ ks
      · rw [if_pos h2, if_pos (List.mem_cons_of_mem _ h2)]
      · rw [if_neg h2, if_neg fun q => by
          rcases List.mem_cons.mp q with x | x
          · exact h x
          · exact h2 x]
theorem pick_canon {m : Nat} {d : Poly} {ks : List (List Int)} (t : Terms m d) (hp : ks.Perm (d.map (·.1))) (hs : ks.Pairwise fun a b => HT.lexLt b a = false) :
    Canon m (pick (coef d) ks) ∧ (∀ e, coef (pick (coef d) ks) e = coef d e) ∧ (pick (coef d) ks).length ≤ d.length := by
  have nd : ks.Nodup := hp.nodup_iff.mpr t.nd
  have kl : ∀ e ∈ ks, e.length = m := fun e he => by
    obtain ⟨u, hu, q⟩ := List.mem_map.mp (hp.mem_iff.mp he)
    rw [← q]; exact t.len u hu
  refine ⟨⟨fun u hu => kl _ (pick_mem hu).1, fun u hu => ?_, fun u hu => (pick_mem hu).2.2, ?_⟩, fun e => ?_, ?_⟩
  · obtain ⟨w, hw, q⟩ := List.mem_map.mp (hp.mem_iff.mp (pick_mem hu).1)
    rw [← q]; exact t.nn w hw
  · refine List.Pairwise.filter _ (List.pairwise_map.mpr ?_)
    have h2 : ks.Pairwise fun a b => HT.lexLt a b = true := by
      refine ((hs.and nd).imp_of_mem fun {a b} ha hb h => ?_)
      rcases lx_cases (a := a) (b := b) ((kl a ha).trans (kl b hb).symm) with z | z | z
      · exact z
      · exact absurd z h.2
      · rw [h.1] at z; cases z
    exact h2
  · rw [coef_pick _ _ nd]
    split
    · rfl
    · rename_i h
      exact (Classical.byContradiction fun z => h (hp.mem_iff.mpr (coef_mem z))).symm
  · have := pick_len (coef d) ks
    rw [hp.length_eq, List.length_map] at this
    exact this
/-- the numbers of a tuple of ints -/
def intsAt (H : Hp) (b : Addr) : List Int := match H b with
  | some (.tup xs) => xs.map fun v => match v with | .int i => i | _ => 0
  | _ => []
theorem intsAt_of {H : Hp} {b : Addr} {e : List Int} (h : MonoAt H b e) : intsAt H b = e := by
  unfold intsAt
  rw [h]
  show (e.map V.int).map _ = e
  rw [List.map_map]
  exact (List.map_congr_left fun _ _ => rfl).trans (List.map_id e)
theorem keys_of {H : Hp} : ∀ {d : Poly} {bs : List Addr}, IsKeys H (keyed d) bs → Paired (fun b (t : List Int × Int) => MonoAt H b t.1) bs d
  | [], bs, h => by
    have h' : Paired (fun p b => H b = some (.tup (p.1.map kV))) ([] : List (List Key × V)) bs := h
    cases h'
    exact .nil
  | t :: d, bs, h => by
    have h' : Paired (fun p b => H b = some (.tup (p.1.map kV))) ((key t.1, V.int t.2) :: keyed d) bs := h
    cases h' with
    | cons h1 h2 => exact .cons (show H _ = some (.tup (t.1.map V.int)) by rw [← key_kV]; exact h1) (keys_of h2)
theorem keys_map {H : Hp} {d : Poly} {bs : List Addr} (h : Paired (fun b (t : List Int × Int) => MonoAt H b t.1) bs d) : bs.map (intsAt H) = d.map (·.1) := by
  induction h with
  | nil => rfl
  | cons h r ih => rw [List.map_cons, List.map_cons, ih, intsAt_of h]
/-! ### drawn numbers of a wider range -/
def spPickW : Sp := fun vs H Q _ => ∃ (d l : Addr) (n : Int), vs = [.ref d, .int n] ∧ SrcAt H d l ∧ n < 1000000000000000000000000000000 ∧
  ∀ r H', 0 ≤ r → (r < n ∨ n < 2 ∧ r = 0) → SrcAt H' d l → But d l H H' → Q (.int r) H'
theorem log_lt {x : Nat} (h : x < 1000000000000000000000000000000) : x.log2 < 9000 := by
  by_cases z : x = 0
  · rw [z]; decide
  · exact (Nat.log2_lt z).mpr (Nat.lt_of_lt_of_le h (Nat.le_of_ble_eq_true rfl))
theorem lt_size {n : Nat} (h : n ≤ 1000) : n ≤ sizeLine := Nat.le_of_lt (small1000 h)
/-! ### sizes in bits -/
def Lt2 (n : Nat) (a : Int) : Prop := a.natAbs < 2 ^ n
theorem Lt2.mono {n m : Nat} {a : Int} (h : Lt2 n a) (l : n ≤ m) : Lt2 m a := Nat.lt_of_lt_of_le h (Nat.pow_le_pow_right (by decide) l)
theorem Lt2.le {n : Nat} {a b : Int} (h : Lt2 n b) (l : a.natAbs ≤ b.natAbs) : Lt2 n a := Nat.lt_of_le_of_lt l h
theorem Lt2.mul {n m : Nat} {a b : Int} (ha : Lt2 n a) (hb : Lt2 m b) : Lt2 (n + m) (a * b) := wide_lt ha hb
theorem Lt2.add {n : Nat} {a b : Int} (ha : Lt2 n a) (hb : Lt2 n b) : Lt2 (n + 1) (a + b) := by
  unfold Lt2 at *
  have := Int.natAbs_add_le a b
  rw [Nat.pow_succ]
  omega
theorem Lt2.sub {n : Nat} {a b : Int} (ha : Lt2 n a) (hb : Lt2 n b) : Lt2 (n + 1) (a - b) := by
  unfold Lt2 at *
  have := Int.natAbs_sub_le a b
  rw [Nat.pow_succ]
  omega
theorem Lt2.div {n : Nat} {i j : Int} (h : Lt2 n j) (h0 : j ≠ 0) (hn : 0 < n) (h9 : n ≤ 9000) : CDivG i j := ⟨h0, Nat.lt_of_lt_of_le (PySem.Flt.log2_lt_of hn h) h9⟩
theorem Lt2.mulC {n m : Nat} {a b : Int} (ha : Lt2 n a) (hb : Lt2 m b) (h0 : 0 < n) (h1 : 0 < m) (h : n + m ≤ 1000000) : CMulW a b := wide_mul ha hb h0 h1 h
/-- how great a drawn polynomial's parts are -/
def Small (dg sz : Int) (p : Poly) : Prop := ∀ t ∈ p, t.2.natAbs ≤ 2 + sz.natAbs ∧ ∀ x ∈ t.1, x ≤ 1 + dg
/-- all numbers of a polynomial are below 2 ^ B in size -/
def Wd (B : Nat) (p : Poly) : Prop := ∀ t ∈ p, Lt2 B t.2
end Kx
namespace Kx
open PySem PySem.Spec PyProof.Rows L2
theorem paired_right {α β : Type} {F : α → β → Prop} : ∀ {l₁ : List α} {l₂ : List β} {i : Nat} {y : β}, Paired F l₁ l₂ → l₂[i]? = some y → ∃ x, l₁[i]? = some x ∧ F x y
  | _, _, i, x, .nil, h => by simp at h
  | _, _, 0, x, .cons h r, e => by
    simp only [List.getElem?_cons_zero] at e
    cases e
    exact ⟨_, by simp, h⟩
  | _, _, i + 1, x, .cons h r, e => by
    simp only [List.getElem?_cons_succ] at e
    obtain ⟨y, h1, h2⟩ := paired_right r e
    exact ⟨y, by simpa using h1, h2⟩
theorem walk_zipT {K : PySem.W.Frag} {a b : Addr} {xs ys : List V} {n : Nat} (hn : n = min xs.length ys.length) : Walk (RZ.ItzT K a b) n (fun H => SqT K H a xs ∧ SqT K H b ys) (YPair (fun i => xs[i]?) (fun i => ys[i]?)) := by
  subst hn
  refine ⟨fun i _ hi q => ?_, fun _ q => ⟨xs, ys, q.1, q.2, by omega⟩, fun i H v H' _ q y => ?_⟩
  · have h1 : i < xs.length := by omega
    have h2 : i < ys.length := by omega
    exact ⟨xs, ys, xs[i], ys[i], q.1, q.2, by simp [h1], by simp [h2]⟩
  · obtain ⟨T, x, z, h1, h2, h3, h4, h5⟩ := y
    exact ⟨T, x, z, h1, h2, h3, h4 xs q.1, h5 ys q.2⟩
theorem conv_app (q : Poly) : ∀ p p' : Poly, conv (p ++ p') q = conv p q ++ conv p' q
  | [], _ => rfl
  | s :: p, p' => by
    show row s q ++ conv (p ++ p') q = row s q ++ conv p q ++ conv p' q
    rw [conv_app q p p', List.append_assoc]
theorem conv_take (p q : Poly) (i : Nat) (s : List Int × Int) (h : p[i]? = some s) (e : List Int) : coef (conv (p.take (i + 1)) q) e = coef (conv (p.take i) q) e + coef (row s q) e := by
  rw [List.take_add_one, h, conv_app, coef_app]
  show _ + coef (row s q ++ []) e = _
  rw [List.append_nil]
theorem row_take (s : List Int × Int) (q : Poly) (j : Nat) (t : List Int × Int) (h : q[j]? = some t) (e : List Int) : coef (row s (q.take (j + 1))) e = coef (row s (q.take j)) e + if e = addE s.1 t.1 then s.2 * t.2 else 0 := by
  rw [List.take_add_one, h]
  show coef (row s (q.take j ++ [t])) e = _
  unfold row
  rw [List.map_append, coef_app]
  show _ + coef [(addE s.1 t.1, s.2 * t.2)] e = _
  rw [coef_cons, coef_nil, Int.add_zero]
  by_cases z : addE s.1 t.1 = e
  · rw [if_pos z, if_pos z.symm]
  · rw [if_neg z, if_neg fun y => z y.symm]
theorem addE_len {a b : List Int} {m : Nat} (ha : a.length = m) (hb : b.length = m) : (addE a b).length = m := by
  unfold addE
  rw [List.length_zipWith, ha, hb, Nat.min_self]
theorem addE_nn : ∀ {a b : List Int}, (∀ x ∈ a, 0 ≤ x) → (∀ x ∈ b, 0 ≤ x) → ∀ x ∈ addE a b, 0 ≤ x
  | [], _, _, _, x, h => by simp [addE] at h
  | _ :: _, [], _, _, x, h => by simp [addE] at h
  | y :: a, z :: b, ha, hb, x, h => by
    have h' : x ∈ (y + z) :: addE a b := h
    rcases List.mem_cons.mp h' with e | e
    · have := ha y List.mem_cons_self
      have := hb z List.mem_cons_self
      omega
    · exact addE_nn (fun u hu => ha u (List.mem_cons_of_mem _ hu)) (fun u hu => hb u (List.mem_cons_of_mem _ hu)) x e
theorem addE_at {a b : List Int} {i : Nat} {x y : Int} (ha : a[i]? = some x) (hb : b[i]? = some y) : (addE a b)[i]? = some (x + y) := by
  unfold addE
  rw [List.getElem?_zipWith, ha, hb]
/-! ### dict(pairs), the keys tuples of ints -/
section
variable {X : Cx}
theorem tpairs_of {pins : List (Addr × Obj)} {σ : L2.St} {H : Hp} {s : Shared} (I : Inv X pins σ H s) : ∀ {ts : List Addr} {p : Poly}, Paired (TermAt H) ts p →
    ∃ prs : List (List Key × Addr × Value), KT H (keyed p) prs ∧ prs.length = ts.length ∧ ∀ (j : Nat) (q : List Key × Addr × Value), prs[j]? = some q → ∃ t, ts[j]? = some t ∧ PairAt s.heap t (.ref q.2.1) q.2.2
  | _, _, .nil => ⟨[], .nil, rfl, fun j q e => by simp at e⟩
  | _, _, .cons (a := t) (b := u) h r => by
    obtain ⟨prs, rel, hl, hp⟩ := tpairs_of I r
    obtain ⟨b, h1, h2⟩ := h
    obtain ⟨its, rv, ht, _⟩ := I.tuple (SqT.of h1)
    obtain ⟨v, y, ei, ru, ry⟩ := vals2 rv
    subst ei
    obtain rfl : v = Value.ref b := ru
    refine ⟨(key u.1, b, y) :: prs, .cons ⟨rfl, by rw [key_kV]; exact h2, ry⟩ rel, by rw [List.length_cons, List.length_cons, hl], fun j q e => ?_⟩
    cases j with
    | zero =>
      have e' : (key u.1, b, y) = q := Option.some.inj e
      subst e'
      obtain ⟨o, g1, g2, n, g3⟩ := ht
      exact ⟨t, rfl, .inl ⟨o, g1, g2, n, g3⟩⟩
    | succ j =>
      obtain ⟨t', e1, e2⟩ := hp j q (by simpa using e)
      exact ⟨t', by simpa using e1, e2⟩
theorem kt_keys {H : Hp} : ∀ {p : Poly} {prs : List (List Key × Addr × Value)}, KT H (keyed p) prs → prs.map (·.1) = p.map fun t => key t.1
  | [], prs, h => by
    have h' : KT H [] prs := h
    cases h'
    rfl
  | t :: p, prs, h => by
    have h' : KT H ((key t.1, V.int t.2) :: keyed p) prs := h
    cases h' with
    | cons a r =>
      rw [List.map_cons, List.map_cons, kt_keys r, ← a.1]
theorem nodup_key {p : Poly} (nd : (p.map (·.1)).Nodup) : (p.map fun t => key t.1).Nodup := by
  have e : (p.map fun t => key t.1) = (p.map (·.1)).map key := by rw [List.map_map]; rfl
  rw [e]
  exact List.Pairwise.map _ (fun a b h z => h (key_inj z)) nd
theorem call_dictT (hcalm : X.calm = true) (hu : X.A.units + 8 < cLine) : CallR X (.type "dict") (fun xs H Q => ∃ (a : Addr) (ts : List Addr) (p : Poly), xs = [.ref a] ∧ SqL X.K H a (ts.map V.ref) ∧ Paired (TermAt H) ts p ∧ (p.map (·.1)).Nodup ∧
    ∀ q, H q = none → Q (.ref q) (upd H q (.dT (keyed p)))) := by
  intro pins s σ H xs us Q I r q
  obtain ⟨a, ts, p, ex, hq, hp, nd, q⟩ := q
  subst ex
  obtain ⟨u, eu, rx⟩ := vals1 r
  subst eu
  cases rx
  obtain ⟨its, rv, pl, hz⟩ := I.list hq
  have ei := refs_at rv
  subst ei
  rw [List.length_map] at hz
  obtain ⟨prs, rel, hl, hpr⟩ := tpairs_of I hp
  obtain ⟨o, n, ho, hc, hd, hdat⟩ := pl
  have hkeys : (prs.map (·.1)).Nodup := by
    rw [kt_keys rel]
    exact nodup_key nd
  have P := PairArg.list (prog := X.prog) (w := X.w) a (ts.map Value.ref).toArray (fun j => (ts[j]?).getD 0) (prs.map fun q => (Value.ref q.2.1, q.2.2))
  have n0 : ∀ x ∈ prs, H x.2.1 = some (.tup (x.1.map kV)) := fun x hx => by
    obtain ⟨j, hj⟩ := List.getElem?_of_mem hx
    have r0 : Paired _ (keyed p) prs := rel
    obtain ⟨y, hy, h1⟩ := paired_right r0 hj
    rw [← h1.1]
    exact h1.2.1
  refine PySem.call_dict_pairsH (knd := tupleKind (mixKind X.prog X.w)) (ps := prs) P (I.ok.hd hcalm) (by show X.A.units + 1 + 1 < cLine; omega) ⟨⟨o, n, ho, hc, hd, hdat⟩, by simp [hl], fun j k v hj => ?_⟩ ⟨by simp, fun i k v e => ?_⟩ (fun h' hk x hx => ?_) (by rw [List.length_map, hl]; exact hz) fun h' tk hd' k => ?_
  · rw [List.getElem?_map] at hj
    cases e : prs[j]? with
    | none => rw [e] at hj; cases hj
    | some q' =>
      rw [e] at hj
      cases hj
      obtain ⟨t, e1, e2⟩ := hpr j q' e
      refine ⟨by simp [e1], ?_⟩
      show PairAt s.heap ((ts[j]?).getD 0) _ _
      rw [e1]
      exact e2
  · have e' : (prs.map fun q => (Value.ref q.2.1, q.2.2))[i]? = some (k, v) := e
    rw [List.getElem?_map] at e'
    cases e2 : prs[i]? with
    | none => rw [e2] at e'; cases e'
    | some q' =>
      rw [e2] at e'
      cases e'
      exact ⟨_, _, rfl, rfl⟩
  · obtain ⟨ob, items, m, h1, h2, h3, h4⟩ := (show (tupleKind (mixKind X.prog X.w)).is s.heap x.1 x.2.1 from key_of I.hok (n0 x hx))
    exact ⟨ob, items, m, hk _ _ (Nat.ne_of_lt (Heap.lt_size h1)) (by simp) h1, h2, h3, h4⟩
  · have hm : (s.heap.objs.size == sysModules) = false := beq_eq_false_iff_ne.mpr (Nat.ne_of_gt I.big)
    rw [PySem.storedAllH_nil_of_nodup prs hkeys] at hd'
    obtain ⟨od, es, ep, g1, g2, g3, g4, g5, g6⟩ := hd'
    have hn : H s.heap.objs.size = none := I.hok.fresh (Nat.le_refl _)
    have lk : (keyed p).length = prs.length := Paired.length (show Paired _ (keyed p) prs from rel)
    refine ⟨.ref s.heap.objs.size, upd H s.heap.objs.size (.dT (keyed p)), I.laid (t' := tk) (fun b o e => k b o (by simp) e) (Nat.le_refl _) (show ObjOk X.prog X.w _ _ _ (.dT (keyed p)) from ⟨by rw [lk, hl]; exact hz, hm, prs, ?_, od, es, ep, g1, g2, g3, g4, g6⟩), rfl, q _ hn⟩
    exact Paired.mono (fun x y h => ⟨h.1, by rw [upd_ne (ne_of_none h.2.1 hn)]; exact h.2.1, h.2.2⟩) (show Paired _ (keyed p) prs from rel)
end
end Kx
namespace Kx
open PySem PySem.Spec PyProof.Rows L2
/-! ### max(xs, default=d) of a list of ints -/
namespace Mxd
abbrev kwD (d : Value) : List (Str × Value) := [(Str.ofString "default", d)]
theorem nm : (toString "max" ++ toString ".loop" : String) = "max.loop" := by decide
section
variable {prog : Program} {w : World} {A : Around} {R : Result → Shared → Prop} {I : Addr} {fp wr : List Addr} {n : Nat} {P : Nat → Value → Prop} {St : Nat → Heap → Prop}
abbrev held (h : Heap) (S : Addr) (xs : Array Value) : Prop := ∃ c : Nat, h.get? S = some { cls := .type "list", dict := none, data := .seq xs c, slots := #[] }
/-- one turn of the loop is its code -/
theorem turn {d : Value} {s : Shared} {S : Addr} {xs : Array Value} (hS : held s.heap S xs)
    (h : ∀ c, s.heap.get? S = some { cls := .type "list", dict := none, data := .seq xs c, slots := #[] } → wpAny (model prog w) A.in1 (Builtin.«max.loop» ⟨[.ref I, .none, .ref S], kwD d⟩) (fun fin s' => match fin with
      | .done f => R (.ok f) s'
      | .again c' => c'.quiet = true ∧ codeAny (model prog w) A c' R s') (fun e s' => R (.error e) s') s) :
    codeAny (model prog w) A (.builtin "max.loop" ⟨[.ref I, .none, .ref S], kwD d⟩) R s := by
  obtain ⟨c, hc⟩ := hS
  refine codeAny_builtin F.entry_max_loop ?_
  rw [Around.under_plainId F.plain_max_loop _]
  exact h c hc
theorem later (W : Walks prog w A.in1 I fp wr n P St) (bt : Nat → Nat → Bool) (hb : CmpOf prog w A.in1 .Gt P bt) (S : Addr) (hf : S ∉ fp) (d : Value) :
    ∀ (left i : Nat) (s : Shared) (v : Value), i + 1 + left = n → St (i + 1) s.heap → P (argBest bt i) v → held s.heap S #[v, v] →
      (∀ (u : Value) (h' : Heap) (tk : Nat), P (argBest bt (n - 1)) u → (∀ b o, b ∉ wr → b ≠ S → s.heap.get? b = some o → h'.get? b = some o) → R (.ok (.ret u)) { s with heap := h', toks := tk }) →
      codeAny (model prog w) A (.builtin "max.loop" ⟨[.ref I, .none, .ref S], kwD d⟩) R s := by
  have hw : S ∉ wr := fun z => hf (W.sub _ z)
  intro left
  induction left with
  | zero =>
    intro i s v hn st pv hS done
    refine turn hS fun c hc => ?_
    show wpAny _ A.in1 (seqItems? (Value.ref S) >>= _) _ _ s
    refine wpAny_bind (wpAny_seqItems hc rfl ?_)
    show wpAny _ A.in1 (tryCatch (pyNext (Value.ref I)) _ >>= _) _ _ s
    have st' : St n s.heap := by rw [← hn]; exact st
    refine wpAny_bind (wpAny_tryCatch (W.done s _ _ st' fun h1 tk k1 => ?_))
    have hc1 := k1 S _ hw hc
    show wpAny _ A.in1 (updateSeq S (fun _ => #[]) >>= _) _ _ _
    refine wpAny_bind (wpAny_updateSeq hc1 rfl (wpAny_bind (wpAny_letGo (wpAny_pure ?_))))
    refine done v _ tk ?_ fun b o n1 n2 e => (Heap.get?_update_other _ _ (fun z => n2 z.symm)).trans (k1 b o n1 e)
    rw [← hn]
    exact pv
  | succ left ih =>
    intro i s v hn st pv hS done
    refine turn hS fun c hc => ?_
    show wpAny _ A.in1 (seqItems? (Value.ref S) >>= _) _ _ s
    refine wpAny_bind (wpAny_seqItems hc rfl ?_)
    show wpAny _ A.in1 (tryCatch (pyNext (Value.ref I)) _ >>= _) _ _ s
    refine wpAny_bind (wpAny_tryCatch (W.item (i + 1) s _ _ (by omega) st fun u h1 tk pu st1 k1 => ?_))
    have hc1 := k1 S _ hw hc
    show wpAny _ A.in1 (tryCatch (holding [u, u] (richCompare .Gt u v >>= _)) _ >>= _) _ _ _
    refine wpAny_bind (wpAny_tryCatch (wpAny_holding (wpAny_bind (hb (i + 1) (argBest bt i) u v _ _ _ pu pv (wpAny_bind (wpAny_holding (wpAny_truthy_bool (wpAny_bind (wpAny_letGo (wpAny_pure ?_))))))))))
    cases q : bt (i + 1) (argBest bt i) with
    | true =>
      simp only [if_true]
      refine wpAny_bind (wpAny_updateSeq hc1 rfl (wpAny_bind (wpAny_letGo ?_)))
      rw [nm]
      have fr : ∀ b o, b ≠ S → h1.get? b = some o → (h1.update S (Obj.mapSeq fun _ => #[u, u])).get? b = some o := fun b o ne e => (Heap.get?_update_other _ _ (fun z => ne z.symm)).trans e
      refine wpAny_pure ⟨plainId_quiet F.plain_max_loop _, ih (i + 1) _ u (by omega) (W.frame _ _ _ st1 fun b hbf o e => fr b o (fun z => hf (z ▸ hbf)) e) ?_ ⟨_, Heap.get?_update_self _ hc1 rfl⟩ fun x h2 tk2 px k2 => ?_⟩
      · simp only [argBest, q, if_true]
        exact pu
      · exact done x h2 tk2 px fun b o n1 n2 e => k2 b o n1 n2 (fr b o n2 (k1 b o n1 e))
    | false =>
      simp only [Bool.false_eq_true, if_false]
      refine wpAny_bind (wpAny_letGo ?_)
      rw [nm]
      refine wpAny_pure ⟨plainId_quiet F.plain_max_loop _, ih (i + 1) _ v (by omega) st1 ?_ ⟨_, hc1⟩ fun x h2 tk2 px k2 => ?_⟩
      · simp only [argBest, q, Bool.false_eq_true, if_false]
        exact pv
      · exact done x h2 tk2 px fun b o n1 n2 e => k2 b o n1 n2 (k1 b o n1 e)
theorem first (W : Walks prog w A.in1 I fp wr n P St) (bt : Nat → Nat → Bool) (hb : CmpOf prog w A.in1 .Gt P bt) (S : Addr) (hf : S ∉ fp) (d : Value) {s : Shared} (st : St 0 s.heap) (hS : held s.heap S #[])
    (some' : ∀ (u : Value) (h' : Heap) (tk : Nat), 0 < n → P (argBest bt (n - 1)) u → (∀ b o, b ∉ wr → b ≠ S → s.heap.get? b = some o → h'.get? b = some o) → R (.ok (.ret u)) { s with heap := h', toks := tk })
    (none' : ∀ (h' : Heap) (tk : Nat), n = 0 → (∀ b o, b ∉ wr → b ≠ S → s.heap.get? b = some o → h'.get? b = some o) → R (.ok (.ret d)) { s with heap := h', toks := tk }) :
    codeAny (model prog w) A (.builtin "max.loop" ⟨[.ref I, .none, .ref S], kwD d⟩) R s := by
  have hw : S ∉ wr := fun z => hf (W.sub _ z)
  refine turn hS fun c hc => ?_
  show wpAny _ A.in1 (seqItems? (Value.ref S) >>= _) _ _ s
  refine wpAny_bind (wpAny_seqItems hc rfl ?_)
  show wpAny _ A.in1 (tryCatch (pyNext (Value.ref I)) _ >>= _) _ _ s
  by_cases h0 : n = 0
  · have st' : St n s.heap := by rw [h0]; exact st
    refine wpAny_bind (wpAny_tryCatch (W.done s _ _ st' fun h1 tk k1 => ?_))
    show wpAny _ A.in1 (rule _ >>= _) _ _ _
    exact wpAny_bind (wpAny_rule (wpAny_pure (none' h1 tk h0 fun b o n1 _ e => k1 b o n1 e)))
  · refine wpAny_bind (wpAny_tryCatch (W.item 0 s _ _ (by omega) st fun u h1 tk pu st1 k1 => ?_))
    have hc1 := k1 S _ hw hc
    show wpAny _ A.in1 (updateSeq S (fun _ => #[u, u]) >>= _) _ _ _
    refine wpAny_bind (wpAny_updateSeq hc1 rfl ?_)
    rw [nm]
    have fr : ∀ b o, b ≠ S → h1.get? b = some o → (h1.update S (Obj.mapSeq fun _ => #[u, u])).get? b = some o := fun b o ne e => (Heap.get?_update_other _ _ (fun z => ne z.symm)).trans e
    refine wpAny_pure ⟨plainId_quiet F.plain_max_loop _, later W bt hb S hf d (n - 1) 0 _ u (by omega) (W.frame _ _ _ st1 fun b hbf o e => fr b o (fun z => hf (z ▸ hbf)) e) pu ⟨_, Heap.get?_update_self _ hc1 rfl⟩ fun x h2 tk2 px k2 => ?_⟩
    exact some' x h2 tk2 (by omega) px fun b o n1 n2 e => k2 b o n1 n2 (fr b o n2 (k1 b o n1 e))
end
theorem okD (a d : Value) : argsOk "max" ⟨[a], kwD d⟩ := by unfold argsOk; kernel_rfl
section
variable {prog : Program} {w : World} {A : Around} {E : Value → Shared → Prop} {s : Shared} {l : Addr} {its : List Value} {ns : List Int}
theorem run {d : Value} {Q : Value → Shared → Prop} (hh : A.handled = none) (hl : s.heap.IsList l its.toArray) (hi : IntsAre its ns)
    (some' : ∀ h' tk M t, (∀ b o, s.heap.get? b = some o → h'.get? b = some o) → M ∈ ns → (∀ a ∈ ns, a ≤ M) → Q (.int M t) { s with heap := h', toks := tk })
    (none' : ∀ h' tk, (∀ b o, s.heap.get? b = some o → h'.get? b = some o) → ns = [] → Q d { s with heap := h', toks := tk }) :
    wpAny (model prog w) A (call (.builtin "max") [.ref l] (kwD d)) Q E s := by
  obtain ⟨xs, e⟩ := hi.allInts.items
  have hn : numsOf (intItems xs).toList = ns := by rw [← e]; exact hi.numsOf
  rw [nums_intItems] at hn
  subst hn
  rw [e] at hl
  have hlt : l < s.heap.objs.size := let ⟨_, z, _⟩ := hl; Heap.lt_size z
  refine wpAny_call (codeAny_call_builtin F.plain_max F.entry_max ?_)
  simp only [checkBuiltinCall, F.kind_max]
  have hfin : wpAny (model prog w) A.in1 (Builtin.«max» ⟨[Value.ref l], kwD d⟩) (fun fin s' => match fin with
      | .done f => (match (Except.ok f : Result) with | .ok (.ret v) => Q v s' | .ok _ => False | .error e => E e s')
      | .again c' => c'.quiet = true ∧ codeAny (model prog w) A c' (fun r s' => match r with | .ok (.ret v) => Q v s' | .ok _ => False | .error e => E e s') s') E s := by
    show wpAny _ A.in1 (Builtin.Builtins.bindParams "max" ["key", "default"] 0 ⟨[], kwD d⟩ >>= _) _ _ s
    refine wpAny_bind (wpAny_of_eq (show Builtin.Builtins.bindParams "max" ["key", "default"] 0 ⟨[], kwD d⟩ = pure [none, some d] from rfl) ?_)
    refine wpAny_bind (wpAny_pure (wpAny_bind (iter_intList hl fun s2 e2 st hfp hne => ?_)))
    refine wpAny_bind (wpAny_newObj_type ?_)
    rw [nm]
    have W := Walks.list (prog := prog) (w := w) (A := A.in1) hh s.heap.objs.size l hne (intItems xs)
    have hS : s2.heap.objs.size ∉ [s.heap.objs.size, l] := fun z => Nat.lt_irrefl _ (hfp _ z)
    have old : ∀ {h' : Heap}, (∀ b o, b ∉ [s.heap.objs.size] → b ≠ s2.heap.objs.size → (s2.heap.push { cls := .type "list", data := .seq ([] : List Value).toArray }).get? b = some o → h'.get? b = some o) →
        ∀ b o, s.heap.get? b = some o → h'.get? b = some o := fun {h'} k b o g => by
      have hb := Heap.lt_size g
      have g2 : s2.heap.get? b = some o := by rw [e2]; exact Heap.get?_push_of_some _ g
      refine k b o (fun z => ?_) (Nat.ne_of_lt (Heap.lt_size g2)) (Heap.get?_push_of_some _ g2)
      rw [List.mem_singleton.mp z] at hb
      exact Nat.lt_irrefl _ hb
    have hos : ∀ (h' : Heap) (tk : Nat), ({ s2 with heap := h', toks := tk } : Shared) = { s with heap := h', toks := tk } := fun h' tk => by rw [e2]
    refine wpAny_pure ⟨plainId_quiet F.plain_max_loop _, ?_⟩
    refine (first (s := { s2 with heap := s2.heap.push { cls := .type "list", data := .seq ([] : List Value).toArray } }) (W := W) (bt := fun i j => decide (numAt xs i > numAt xs j)) (CmpOf.ints_gt (numAt xs) (fun _ _ => intItems_at)) s2.heap.objs.size hS d
      (W.frame _ _ _ st fun b _ o e => Heap.get?_push_of_some _ e) ⟨_, Heap.get?_push_size _ rfl⟩ (fun u h' tk h0 pu k => ?_) fun h' tk h0 k => ?_)
    · obtain ⟨t, rfl⟩ := intItems_at pu
      obtain ⟨b1, b2⟩ := argBest_gt (numAt xs) ((intItems xs).size - 1)
      have hsz : (intItems xs).size = xs.size := by simp [intItems]
      rw [hsz] at b1 b2 h0
      show Q _ _
      rw [hsz]
      have := some' h' tk (numAt xs (argBest (fun i j => decide (numAt xs i > numAt xs j)) (xs.size - 1))) t (old k) (by rw [numAt_eq]; exact PySem.getD_mem (by rw [List.length_map, Array.length_toList]; omega)) fun a ha => by
        obtain ⟨j, hj, rfl⟩ := mem_getD ha
        rw [List.length_map, Array.length_toList] at hj
        rw [← numAt_eq]
        exact b2 j (by omega)
      rw [← hos] at this
      exact this
    · have hsz : (intItems xs).size = xs.size := by simp [intItems]
      have := none' h' tk (old k) (by
        rw [hsz] at h0
        have z : xs = #[] := Array.eq_empty_of_size_eq_zero h0
        rw [z]
        rfl)
      rw [← hos] at this
      exact this
  cases hsig : Manifest.signature? "max" with
  | none => exact wpAny_pure hfin
  | some sig =>
    have ok : Bind.checkArgs "max" sig ⟨[Value.ref l], kwD d⟩ = pure () := by
      have z := okD (.ref l) d
      simpa only [argsOk, hsig] using z
    simp only [ok]
    exact wpAny_pure hfin
end
end Mxd
/-- max(xs, default=d), xs a list of ints -/
def rMaxDef (K : PySem.W.Frag) : List V → List V → Hp → VK → Prop := fun xs zs H Q => ∃ (a : Addr) (ns : List Int) (d : Int), xs = [.ref a] ∧ zs = [.int d] ∧ SqL K H a (ns.map V.int) ∧
  (∀ m, m ∈ ns → (∀ y ∈ ns, y ≤ m) → Q (.int m) H) ∧ (ns = [] → Q (.int d) H)
theorem cr_maxDef {X : Cx} (hc : X.calm = true) : CallRK X (.builtin "max") ["default"] (rMaxDef X.K) := by
  intro pins s σ H xs zs us ws Q I r r2 h
  obtain ⟨a, ns, d, rfl, rfl, hs, q1, q2⟩ := h
  obtain ⟨its, rv, hl, _⟩ := I.list hs
  rw [Vals.ref1 r]
  obtain ⟨u, rfl, ru⟩ := vals1 r2
  exact Mxd.run (d := u) (I.ok.hd hc) hl.isList rv.ints (fun h' tk M t hk h1 h2 => ⟨.int _, H, I.kept hk, ⟨_, rfl⟩, q1 M h1 h2⟩) fun h' tk hk e => ⟨.int d, H, I.kept hk, ru, q2 e⟩
end Kx
namespace Kx
open PySem PySem.Spec PyProof.Rows L2
/-! ### sorted of what is walked: any source, any order -/
section
variable {prog : Program} {w : World} {A : Around} {E : Value → Shared → Prop} {s : Shared}
theorem sorted_src {T : String} {r d : Addr} {n : Nat} {Pv : Nat → Value → Prop} {Ok : Heap → Prop} {lt : Value → Value → Bool} {Q : Value → Shared → Prop} (O : SrtO.Swo lt)
    (src : PySem.W.KdlSrc prog w T r d n Pv Ok) (hh : A.handled = none) (ok : Ok s.heap) (hn : n ≤ sizeLine)
    (h : ∀ (h1 : Heap) (tk : Nat) (acc : List Value), (∀ b o, s.heap.get? b = some o → h1.get? b = some o) → acc.length = n → (∀ j v, acc[j]? = some v → Pv j v) →
      (2 ≤ acc.length → ∀ (h2 : Heap) (a : Addr), (∀ b o, h1.get? b = some o → b ≠ a ∧ h2.get? b = some o) → h2.get? a = some (seqObj "list" acc.toArray 0) → SrtO.SortableO prog w A.in1.in1 { s with heap := h2, toks := tk } a acc lt) ∧
      ∀ (out : List Value) (h2 : Heap) (p : Addr), SrtO.Srtd lt out → SrtO.Stb lt out acc → h1.objs.size ≤ p → (∀ b o, h1.get? b = some o → h2.get? b = some o) → (∃ e, h2.get? p = some (seqObj "list" out.toArray e)) → Q (.ref p) { s with heap := h2, toks := tk }) :
    wpAny (model prog w) A (call (.builtin "sorted") [.ref r]) Q E s := by
  refine Calls.call_function_entry PyProof.Rows.kind_sorted PyProof.Rows.plain_sorted PyProof.Rows.entry_sorted (PyProof.Rows.args_sorted1 _) ?_
  unfold Builtin.«sorted»
  refine wpAny_bind (m := checkCount "sorted" 1 1 _) (wpAny_pure (wpAny_bind (PySem.W.kdu_collect (A := A.in1) src hh ok hn fun h1 tk acc hk hi => ?_)))
  have hl : acc.toList.length = n := by rw [Array.length_toList, hi.1]
  obtain ⟨sb, fin⟩ := h h1 tk acc.toList hk hl fun j v e => hi.2 j v (by rw [← Array.getElem?_toList]; exact e)
  refine wpAny_bind (wpAny_newList ?_ (by rw [hl]; exact hn))
  have hL : (h1.push (seqObj "list" acc.toList.toArray 0)).get? h1.objs.size = some (seqObj "list" acc.toList.toArray 0) := Heap.get?_push_size _ rfl
  show wpAny _ _ _ _ _ { s with heap := h1.push (seqObj "list" acc.toList.toArray 0), toks := tk }
  refine wpAny_bind (wpAny_holding (wpAny_call_entry PyProof.Rows.slot_list_sort ⟨_, hL, rfl⟩ PyProof.Rows.entry_list_sort (SrtO.list_sort_ord (s := { s with heap := h1.push (seqObj "list" acc.toList.toArray 0), toks := tk }) O hL (by rw [hl]; exact hn)
    (fun h2 => sb h2 _ _ (fun b o e => ⟨Nat.ne_of_lt (Heap.lt_size e), Heap.get?_push_of_some _ e⟩) hL) fun out g1 g2 => ⟨_, rfl, wpAny_pure ⟨_, rfl, ?_⟩⟩) (PyProof.Rows.args_list_sort _)))
  obtain ⟨e', he'⟩ := PyProof.Rows.sortedHeap_at (vs := acc.toList) (out := out.toArray) hL
  refine fin out _ _ g1 g2 (Nat.le_refl _) (fun b o e => ?_) ⟨e', he'⟩
  have hb : b < h1.objs.size := Heap.lt_size e
  rw [PyProof.Rows.sortedHeap_old (Nat.ne_of_lt hb) (by rw [size_push']; exact Nat.lt_succ_of_lt hb)]
  exact Heap.get?_push_of_some _ e
end
/-! ### sorted(d): a dict's keys, tuples of ints -/
/-- sorted(d), d a dict with tuples of ints as keys -/
def rSortKT : List V → Hp → VK → Prop := fun xs H Q => ∃ (a : Addr) (d : Poly) (m : Nat), xs = [.ref a] ∧ H a = some (.dT (keyed d)) ∧ (∀ t ∈ d, t.1.length = m) ∧ (1 ≤ m ∨ d.length < 2) ∧
  ∀ (bs ts : List Addr) (p : Addr), IsKeys H (keyed d) bs → ts.Perm bs → ts.Pairwise (fun p q => HT.lexLt (intsAt H q) (intsAt H p) = false) → H p = none → Q (.ref p) (upd H p (.lst (ts.map V.ref)))
theorem ad_refs (l : List Addr) : (l.map Value.ref).map adO = l := by
  rw [List.map_map]
  exact (List.map_congr_left fun _ _ => rfl).trans (List.map_id l)
theorem cr_sortKT {X : Cx} (hc : X.calm = true) : CallR X (.builtin "sorted") rSortKT := by
  intro pins s σ H xs us Q I r h
  obtain ⟨a, d, m, rfl, ha, hm, h1m, q⟩ := h
  obtain ⟨u, rfl, rx⟩ := r.one
  cases rx
  obtain ⟨z, hs, ks, pr, o, es, ep, ho, hx, hdt, he, hn⟩ := (show ObjOk X.prog X.w H s.heap a (.dT (keyed d)) from I.hok a _ ha)
  have l1 : es.size = ks.length := size_of_entries he
  have l2 : (keyed d).length = ks.length := Paired.length pr
  have ik := isKeys_of pr
  have pk := keys_of ik
  have kl : (ks.map fun x => x.2.1).length = d.length := Paired.length pk
  refine sorted_src (NtL.swo_lexL fun u => intsAt H (adO u)) (kdl_raw hs hx hdt) (I.ok.hd hc) ho (by rw [l1, ← l2]; exact z) fun h1 tk acc hk hl hi => ?_
  have ea : acc = (ks.map fun x => x.2.1).map Value.ref := by
    apply List.ext_getElem?
    intro j
    rw [List.map_map, List.getElem?_map]
    cases hj : acc[j]? with
    | none =>
      have g := List.getElem?_eq_none_iff.mp hj
      rw [List.getElem?_eq_none (by omega)]
      rfl
    | some v =>
      obtain ⟨en, g1, g2⟩ := hi j v hj
      have g3 := entry_at he j
      rw [g1] at g3
      cases hb : ks[j]? with
      | none => rw [hb] at g3; cases (show some en = none from g3)
      | some b =>
        rw [hb] at g3
        have g4 : en = entryOfKey (tupleKind (mixKind X.prog X.w)) b := Option.some.inj g3
        rw [g2, g4]
        rfl
  have I1 : Inv X pins σ H { s with heap := h1, toks := tk } := I.kept hk
  have at_b : ∀ b ∈ ks.map fun x => x.2.1, ∃ e ∈ d.map (·.1), MonoAt H b e := fun b hb => by
    obtain ⟨i, hi⟩ := List.getElem?_of_mem hb
    obtain ⟨t, ht, g⟩ := paired_get pk hi
    exact ⟨t.1, List.mem_map.mpr ⟨t, List.mem_of_getElem? ht, rfl⟩, g⟩
  refine ⟨fun h2 h' b' kk _ => ?_, fun out h2 p g1 g2 hp kk hat => ?_⟩
  · have hd : 1 ≤ m := by
      rcases h1m with y | y
      · exact y
      · rw [ea, List.length_map, kl] at h2
        omega
    refine tups_sortL (d := m) (s := { s with heap := h', toks := tk }) hd h2 (fun v hv => ?_) fun o' e' => ?_
    · rw [ea] at hv
      obtain ⟨b, hb, rfl⟩ := List.mem_map.mp hv
      obtain ⟨e, hm', hmo⟩ := at_b b hb
      have t0 : TS.TupInts h1 (.ref b) (intsAt H b) := by
        rw [intsAt_of hmo]
        exact tupI_raw I1 (SqT.of hmo)
      refine ⟨t0.keeps fun c o e _ => (kk c o e).2, ?_⟩
      show (intsAt H b).length = m
      rw [intsAt_of hmo]
      obtain ⟨t, ht, rfl⟩ := List.mem_map.mp hm'
      exact hm t ht
    · intro y
      rename_i hh'
      have e2 : some o' = some (seqObj "list" acc.toArray 0) := e'.symm.trans hh'
      cases e2
      exact absurd (Value.type.inj y) (by decide)
  · have eo : out = (out.map adO).map Value.ref := ref_map fun u hu => by
      have hu' : u ∈ acc := g2.perm.mem_iff.mp hu
      rw [ea] at hu'
      obtain ⟨t, _, e⟩ := List.mem_map.mp hu'
      exact ⟨t, e.symm⟩
    have hp2 : (out.map adO).Perm (ks.map fun x => x.2.1) := by
      have p1 := g2.perm.map adO
      rw [ea, ad_refs] at p1
      exact p1
    have hso : (out.map adO).Pairwise (fun p q => HT.lexLt (intsAt H q) (intsAt H p) = false) := List.pairwise_map.mpr (g1.imp fun {x y} z => z)
    have rvo : Vals ((out.map adO).map V.ref) out := by
      have y := of_nts (out.map adO)
      rw [← eo] at y
      exact y
    obtain ⟨ep', hat⟩ := hat
    exact ⟨.ref p, upd H p (.lst ((out.map adO).map V.ref)), I1.laid (t' := tk) kk hp ⟨by rw [List.length_map, hp2.length_eq, kl]; unfold keyed at z; rw [List.length_map] at z; exact z, out, ep', rvo, hat⟩, rfl, q _ _ p ik hp2 hso (I1.hok.fresh hp)⟩
/-! ### sorted(d): a dict's keys, ints -/
def rSortKI : List V → Hp → VK → Prop := fun xs H Q => ∃ (a : Addr) (kvs : List (Key × V)) (ks : List Int), xs = [.ref a] ∧ H a = some (.dK kvs) ∧ kvs.map (·.1) = ks.map Sum.inl ∧
  ∀ (ys : List Int) (p : Addr), ys.Perm ks → ys.Pairwise (· ≤ ·) → H p = none → Q (.ref p) (upd H p (.lst (ys.map V.int)))
theorem cr_sortKI {X : Cx} (hc : X.calm = true) : CallR X (.builtin "sorted") rSortKI := by
  intro pins s σ H xs us Q I r h
  obtain ⟨a, kvs, ks, rfl, ha, hks, q⟩ := h
  obtain ⟨u, rfl, rx⟩ := r.one
  cases rx
  obtain ⟨z, lo, vs, rel, dd⟩ := dk_of I.hok ha
  obtain ⟨ep, hat⟩ := dd.dictAt
  have hkeys : vs.map (·.1) = ks.map Sum.inl := rel.keys.symm.trans hks
  have hl1 : vs.length = ks.length := by
    have e := congrArg List.length hkeys
    rw [List.length_map, List.length_map] at e
    exact e
  have hl2 : kvs.length = ks.length := by
    have e := congrArg List.length hks
    rw [List.length_map, List.length_map] at e
    exact e
  refine sorted_src SrtO.swo_int (PySem.W.kdl_dict (knd := mixKind X.prog X.w) (kvs := vs) (ep := ep) lo) (I.ok.hd hc) hat (by rw [hl1, ← hl2]; exact z) fun h1 tk acc hk hl hi => ?_
  have hS : IntsAre acc ks := ints_each (hl.trans hl1) fun j v e => by
    obtain ⟨k, x, e1, e2⟩ := hi j v e
    have e3 : (vs.map (·.1))[j]? = some k := by rw [List.getElem?_map, e1]; rfl
    rw [hkeys, List.getElem?_map] at e3
    cases e4 : ks[j]? with
    | none => rw [e4] at e3; cases e3
    | some y =>
      rw [e4] at e3
      obtain rfl : Sum.inl y = k := Option.some.inj e3
      rcases keyIs_shape (show keyIs (Sum.inl y) v = true from e2) with ⟨i, t, ek, ev⟩ | ⟨_, t, ek, _⟩
      · cases ek
        exact ⟨y, t, rfl, ev⟩
      · cases ek
  have I1 : Inv X pins σ H { s with heap := h1, toks := tk } := I.kept hk
  refine ⟨fun h2 h' b' kk _ => SrtO.ints_sortable hS h2, fun out h2 p g1 g2 hp kk hat => ?_⟩
  obtain ⟨k1, k2, k3⟩ := SrtO.ints_out hS g1 g2
  obtain ⟨ep', hat⟩ := hat
  exact ⟨.ref p, upd H p (.lst ((out.map SrtO.iv).map V.int)), I1.laid (t' := tk) kk hp ⟨by rw [List.length_map, k2.length_eq, ← hl2]; exact z, out, ep', vals_of_ints k1, hat⟩, rfl, q _ p k2 k3 (I1.hok.fresh hp)⟩
end Kx
namespace Kx
open PySem PySem.Spec PyProof.Rows L2
/-! ### {k: v for ..}, keys of any kind that a dict of ours has -/
section
variable {X : Cx}
/-- an entry put into the dict of a comprehension -/
theorem dc_put {pins : List (Addr × Obj)} {σ : L2.St} {H H' : Hp} {s : Shared} {E : Value → Shared → Prop} {D : Addr} {y v : V} {u r : Value} {Q : Unit → Shared → Prop} (hu : X.A.units < cLine) (I : Inv X pins σ H s) (g : DPut H D y v H')
    (ry : RelV y u) (rv : RelV v r) (h : ∀ s', Inv X pins σ H' s' → Q () s') : wpAny (model X.prog X.w) X.A (dictSet D u r) Q E s := by
  rcases g with ⟨kvs, k, e, rfl, l, rfl⟩ | ⟨kvs, k, b, e, rfl, eb, l, rfl⟩
  · exact d_dictSet I e l ry rv h
  · cases (show u = Value.ref b from ry)
    obtain ⟨z, hd, xs, rel, dd⟩ := dt_of I.hok e
    have lx : xs.length ≤ sizeLine := by rw [← Paired.length rel]; exact z
    have ln : (putK kvs k v).length ≤ sizeLine := Nat.le_trans (length_putK kvs k v) l
    refine wpAny_dictSet_heap (hsz := lx) (show X.A.units < cLine from hu) (key_of I.hok eb) dd fun h1 dd1 sb => h _ ?_
    obtain ⟨q, es, ep, hq, a1, a2, a3, _, a4⟩ := dd1
    have kt : KT (upd H D (.dT (putK kvs k v))) (putK kvs k v) (storedH xs k b r) := (rel.put k eb rv).keeps fun c ys ec => by
      rw [upd_ne (ne_of ec e (fun z => nomatch z))]
      exact ec
    exact d_write I (by rw [e]; trivial) sb ⟨q, hq⟩ ⟨ln, hd, _, kt, q, es, ep, hq, a1, a2, a3, a4⟩
/-- what a dict comprehension asks: e0 the empty dict as it begins -/
def tDcG (e0 : HO) (wi : TI) (g : TG) (tt : TT) (tk tv : TE) (own : List Nat) : TE := fun σ H Q => wi σ H fun J H1 => ∀ D, H1 D = none → ∃ W : Nat → Nat → Hp → Prop, (∃ m, W 0 m (upd H1 D e0)) ∧ ∀ i m H', W i m H' →
  (J.stop i H' ∧ Q (.ref D) H') ∨ (J.go i H' ∧ ∃ N : Hp → Prop, (∀ H2, N H2 → ∃ m', m' < m ∧ W (i + 1) m' H2) ∧ ∀ x H2, J.yld i H' x H2 → g x (wipe σ own) H2 fun σ3 H3 => wipe σ3 own = wipe σ own ∧ tt σ3 H3 fun b H4 =>
    if b = true then tk σ3 H4 fun y H5 => tv σ3 H5 fun z H6 => ∃ H7, DPut H6 D y z H7 ∧ N H7 else N H4)
/-- the empty dicts of ours -/
def Void (e0 : HO) : Prop := e0 = .dK [] ∨ e0 = .dT []
theorem void_at {P : Program} {w : World} {H : Hp} {e0 : HO} (v : Void e0) (h : Heap) (hb : sysModules < h.objs.size) : ObjOk P w H (h.push { cls := .type "dict", data := .dict #[] }) h.objs.size e0 := by
  rcases v with rfl | rfl
  · exact dk_empty h hb
  · exact dt_empty h hb
theorem dcG_core {e0 : HO} (hv : Void e0) {pins : List (Addr × Obj)} {s : Shared} {σ : L2.St} {H : Hp} {Q : VK} {kx vx tg iter : Expr} {ifs : List Expr} {scope : Scope} {own : List (Str × Nat)} {pos pos' : Pos} {wi : TI} {g : TG} {tt : TT} {tk tv : TE} {use : Option (Value → Sem Unit)} {Qf : Value → Shared → Prop}
    (hu : X.A.units < cLine) (hc : X.calm = true) (hN : X.N.Nodup) (I : Inv X pins σ H s) (hi : PI X tg iter wi) (ok : BlkOk X.N X.env.scope scope own)
    (hg : ∀ (s : Shared) (H : Hp) (C : Addr) (cl : List (Str × Addr)) (fp : List Addr), PG (X.blk s H scope (compEnvC scope cl C X.env) fp) tg g)
    (ht : ∀ (s : Shared) (H : Hp) (C : Addr) (cl : List (Str × Addr)) (fp : List Addr), PTs (X.blk s H scope (compEnvC scope cl C X.env) fp) ifs tt)
    (hk : ∀ (s : Shared) (H : Hp) (C : Addr) (cl : List (Str × Addr)) (fp : List Addr), PE (X.blk s H scope (compEnvC scope cl C X.env) fp) kx tk)
    (hx : ∀ (s : Shared) (H : Hp) (C : Addr) (cl : List (Str × Addr)) (fp : List Addr), PE (X.blk s H scope (compEnvC scope cl C X.env) fp) vx tv)
    (hs : ∀ x, foldedSetIterable iter X.env x = pure x) (h : tDcG e0 wi g tt tk tv (own.map (·.2)) σ H Q)
    (out : ∀ D C s' m H', Inv X pins σ H' s' → Q (.ref D) H' → s'.heap.Ns C m → FpOk X pins H' C → compPost (model X.prog X.w) X.A X.xe use Qf (.ref D) C (.ok .next) s') :
    wpAny (model X.prog X.w) X.A (comprehension (.DictComp kx vx [⟨tg, iter, ifs, 0⟩] scope pos) scope X.env pos' newDict false (eval iter X.env) use) Qf X.xe s := by
  have free : ∀ y ∈ scope.names, y.2 = .free → ∃ c, X.env.cells.lookup y.1 = some c := fun y hy e => (ok.free y hy e).elim (fun k => I.ok.has _ (.inl k)) fun k => I.ok.has _ (.inr k)
  refine wpAny_comprehension_free (use := use) rfl hs (closure_ok free) ok.kind (fun y hy e => by rw [ok.uniq y hy, e]) (thn (hi.run pins s σ H _ I h) fun _ s1 h1 => thn h1 fun _ s2 h2 => ?_)
  obtain ⟨it, fp, tn, J, H2, rfl, I2, T, t2, f2, q⟩ := h2
  refine wpAny_newObj_type (newEnv_comp ?_)
  generalize hD : s2.heap.objs.size = D
  obtain ⟨W, ⟨m0, w0⟩, turn⟩ := q D (I2.hok.fresh (Nat.le_of_eq hD))
  generalize hs3 : ({ s2 with heap := s2.heap.push { cls := .type "dict", data := .dict #[] } } : Shared) = s3
  have e3 : s3.heap = s2.heap.push { cls := .type "dict", data := .dict #[] } := by rw [← hs3]
  have I3 : Inv X pins σ (upd H2 D e0) s3 := by
    rw [← hs3]
    refine I2.laid (t' := s2.toks) (fun b o e => Heap.get?_push_of_some _ e) (Nat.le_of_eq hD) ?_
    rw [← hD]
    exact void_at hv s2.heap I2.big
  have lt : ∀ b ∈ fp, b < s2.heap.objs.size := fun b hb => let ⟨_, e, _⟩ := T.obj _ _ t2 b hb; Heap.lt_size e
  have f3 : ∀ b ∈ fp, FpOk X pins (upd H2 D e0) b ∧ b < s3.heap.objs.size := fun b hb => by
    have l := lt b hb
    refine ⟨⟨?_, (f2 b hb).2⟩, by rw [e3, Heap.size_push]; exact Nat.lt_succ_of_lt l⟩
    rw [upd_ne (by rw [← hD]; exact Nat.ne_of_lt l)]
    exact (f2 b hb).1
  have t3 : tn 0 s3.heap := T.keep _ _ _ t2 fun b _ o e => by rw [e3]; exact Heap.get?_push_of_some _ e
  have I4 := block_start I3 ok hN f3
  have n3 : ∀ b ∈ fp, (upd H2 D e0) b = none := fun b hb => (f3 b hb).1.1
  have rule := fun cl => (⟨hg s3 (upd H2 D e0) s3.heap.objs.size cl fp, ht s3 (upd H2 D e0) s3.heap.objs.size cl fp, hk s3 (upd H2 D e0) s3.heap.objs.size cl fp, hx s3 (upd H2 D e0) s3.heap.objs.size cl fp⟩ :
    PG (X.blk s3 (upd H2 D e0) scope (compEnvC scope cl s3.heap.objs.size X.env) fp) tg g ∧ PTs (X.blk s3 (upd H2 D e0) scope (compEnvC scope cl s3.heap.objs.size X.env) fp) ifs tt ∧
    PE (X.blk s3 (upd H2 D e0) scope (compEnvC scope cl s3.heap.objs.size X.env) fp) kx tk ∧ PE (X.blk s3 (upd H2 D e0) scope (compEnvC scope cl s3.heap.objs.size X.env) fp) vx tv)
  have rule := rule (cellsFrom (s3.heap.objs.size + 1) scope.names (cloFrom X.env.cells scope.names []))
  have cN : (compEnvC scope (cellsFrom (s3.heap.objs.size + 1) scope.names (cloFrom X.env.cells scope.names [])) s3.heap.objs.size X.env).locals = s3.heap.objs.size := rfl
  show codeAny _ _ (.compStart _ 0 (.ref it) (.ref D) (compEnvC scope (cellsFrom (s3.heap.objs.size + 1) scope.names (cloFrom X.env.cells scope.names [])) s3.heap.objs.size X.env)) _ { s3 with heap := pushCells (s3.heap.push { cls := .type "dict", data := .dict #[] }) scope.names }
  generalize compEnvC scope (cellsFrom (s3.heap.objs.size + 1) scope.names (cloFrom X.env.cells scope.names [])) s3.heap.objs.size X.env = ce at I4 rule cN ⊢
  generalize upd H2 D e0 = H3 at I3 I4 rule w0 n3 f3
  have t4 : tn 0 (pushCells (s3.heap.push { cls := .type "dict", data := .dict #[] }) scope.names) := T.keep _ _ _ t3 fun b _ o e => pushCells_keeps _ _ _ _ (Heap.get?_push_of_some _ e)
  generalize h4 : ({ s3 with heap := pushCells (s3.heap.push { cls := .type "dict", data := .dict #[] }) scope.names } : Shared) = s4 at I4 ⊢
  have t4' : tn 0 s4.heap := by rw [← h4]; exact t4
  obtain ⟨rg, rt, rk, rx⟩ := rule
  have fit : ∀ {σ' : L2.St} {H' : Hp} {s' : Shared}, Inv (X.blk s3 H3 scope ce fp) [] σ' H' s' → (∀ b ∈ fp, H' b = none) → ∀ b ∈ fp, FpOk (X.blk s3 H3 scope ce fp) [] H' b := fun {_ _ _} I' hn b hb =>
    ⟨hn b hb, (I'.ok.exf b hb).1, I'.ok.exfs b hb, .inl hb, fun x c e => (I'.ok.exf b hb).2 x c e, fun p hp => absurd (show p ∈ ([] : List (Addr × Obj)) ++ [] from hp) (by simp)⟩
  let Word : Nat → Shared → Prop := fun m s' => ∃ i H', Inv (X.blk s3 H3 scope ce fp) [] (wipe σ (own.map (·.2))) H' s' ∧ tn i s'.heap ∧ (∀ b ∈ fp, H' b = none) ∧ W i m H'
  refine codeAny_compStart_dict ?loop (T.self X.A 0 _ _ _ t4' ?loop)
  case loop =>
    refine compLoop_anyD Word ?_ m0 ⟨0, H3, I4, t4', n3, w0⟩
    rintro m s5 ⟨i, H5, I5, t5, n5, w5⟩
    rcases turn i m H5 w5 with ⟨stop, qq⟩ | ⟨go, N, hN', step⟩
    · refine thnF (T.done (X.blk s3 H3 scope ce fp) rfl rfl rfl hc i [] s5 _ H5 (fun _ _ => False) I5 (fit I5 n5) t5 stop) fun r s6 ⟨hr, I6⟩ => ?_
      subst hr
      have I7 : Inv X pins σ H5 s6 := I3.call' (ch := fp) I6.os I6.base I6.hok I6.bare fun b hb => let z := (f3 b hb).1.2; ⟨z.2.2.1, z.1, z.2.2.2.1, z.2.2.2.2⟩
      have nC : H5 s3.heap.objs.size = none := by rw [← cN]; exact I6.free
      obtain ⟨mm, hn, _⟩ := I6.loc
      have hn' : s6.heap.Ns s3.heap.objs.size mm := by rw [← cN]; exact hn
      exact out D s3.heap.objs.size s6 mm H5 I7 qq hn' (I3.fpOk (Nat.le_refl _) nC)
    · refine thnF (T.item (X.blk s3 H3 scope ce fp) rfl rfl rfl hc i [] s5 _ H5 (fun _ _ => False) I5 (fit I5 n5) t5 go) fun r s6 ⟨u, hr, h6⟩ => ?_
      subst hr
      refine thnF h6 fun _ s7 ⟨x, H7, I7, r7, y7, t7, n7⟩ => ?_
      refine thnF (rg.run _ s7 _ H7 x u _ (I7.pinned (fit I7 n7) (T.obj _ _ t7)) r7 (step x H7 y7)) fun _ s8 ⟨σ8, H8, I8, hw8, q8⟩ => ?_
      refine thnF (rt.run _ s8 σ8 H8 _ I8 q8) fun b s9 ⟨H9, I9, q9⟩ => ?_
      have fin : ∀ {s' : Shared} {H' : Hp}, Inv (X.blk s3 H3 scope ce fp) ([] ++ pinsAt fp s7.heap) σ8 H' s' → N H' → ∃ m', m' < m ∧ Word m' s' := fun {s' H'} I' nx => by
        obtain ⟨m', hm, w'⟩ := hN' H' nx
        have stay : ∀ b ∈ fp, ∀ o, s7.heap.get? b = some o → s'.heap.get? b = some o ∧ H' b = none := fun b hb o e =>
          have z := I'.pin (b, o) (List.mem_append_right _ (List.mem_append_right _ (mem_pinsAt hb e)))
          ⟨z.1, z.2.1⟩
        have hl : (wipe σ (own.map (·.2))).length = σ8.length := by rw [← hw8, wipe_length]
        refine ⟨m', hm, i + 1, H', (I'.unpinned (pins := [])).weak hl (fun j v e => ?_), T.keep _ _ _ t7 (fun b hb o e => (stay b hb o e).1), (fun b hb => let ⟨o, e, _⟩ := T.obj _ _ t7 b hb; (stay b hb o e).2), w'⟩
        rw [← hw8] at e
        exact (wipe_some e).1
      cases b with
      | false =>
        simp only [Bool.false_eq_true, if_false] at q9 ⊢
        exact fin I9 q9
      | true =>
        simp only [if_true] at q9 ⊢
        refine thnF (rk.run _ s9 σ8 H9 _ I9 q9) fun z s10 ⟨yk, H10, I10, r10, q10⟩ => ?_
        refine thnF (rx.run _ s10 σ8 H10 _ I10 q10) fun z2 s11 ⟨yv, H11, I11, r11, H12, put, nx⟩ => ?_
        exact dc_put (X := X.blk s3 H3 scope ce fp) hu I11 put r10 r11 fun s12 I12 => fin I12 nx
theorem pe_dcG {e0 : HO} (hv : Void e0) {kx vx tg iter : Expr} {ifs : List Expr} {scope : Scope} {own : List (Str × Nat)} {pos : Pos} {wi : TI} {g : TG} {tt : TT} {tk tv : TE} (hu : X.A.units < cLine) (hc : X.calm = true) (hN : X.N.Nodup) (hi : PI X tg iter wi) (ok : BlkOk X.N X.env.scope scope own)
    (hg : ∀ (s : Shared) (H : Hp) (C : Addr) (cl : List (Str × Addr)) (fp : List Addr), PG (X.blk s H scope (compEnvC scope cl C X.env) fp) tg g)
    (ht : ∀ (s : Shared) (H : Hp) (C : Addr) (cl : List (Str × Addr)) (fp : List Addr), PTs (X.blk s H scope (compEnvC scope cl C X.env) fp) ifs tt)
    (hk : ∀ (s : Shared) (H : Hp) (C : Addr) (cl : List (Str × Addr)) (fp : List Addr), PE (X.blk s H scope (compEnvC scope cl C X.env) fp) kx tk)
    (hx : ∀ (s : Shared) (H : Hp) (C : Addr) (cl : List (Str × Addr)) (fp : List Addr), PE (X.blk s H scope (compEnvC scope cl C X.env) fp) vx tv)
    (hs : ∀ x, foldedSetIterable iter X.env x = pure x := by intro _; rfl) : PE X (.DictComp kx vx [⟨tg, iter, ifs, 0⟩] scope pos) (tDcG e0 wi g tt tk tv (own.map (·.2))) := by
  refine ⟨fun pins s σ H Q I h => ?_⟩
  rw [arm_eval_DictComp]
  refine dcG_core hv hu hc hN I hi ok hg ht hk hx hs h fun D C s' m H' I' q hn f => ⟨m, hn, fun h'' sb => ?_⟩
  obtain ⟨g0, g1, g2, g3, g4, g5⟩ := f
  exact ⟨.ref D, H', I'.turned (t' := s'.toks) (fun b o hb e => (sb.2 b hb).trans e) g0 g1 g3 g4 g5, rfl, q⟩
/-- a dict comprehension stored under a local name of its own line -/
theorem ps_setDcG {e0 : HO} (hv : Void e0) {i : Nat} {y : Str} {py : Pos} {kx vx tg iter : Expr} {ifs : List Expr} {scope : Scope} {own : List (Str × Nat)} {pos spos : Pos} {wi : TI} {g : TG} {tt : TT} {tk tv : TE} (hu : X.A.units < cLine) (hc : X.calm = true) (hN : X.N.Nodup)
    (hy : X.N[i]? = some y) (hyl : X.env.scope.names.lookup y = some .local) (hsw : swapsWith (.DictComp kx vx [⟨tg, iter, ifs, 0⟩] scope pos) (some (.Name y py)) spos.line X.env = pure true) (hi : PI X tg iter wi) (ok : BlkOk X.N X.env.scope scope own)
    (hg : ∀ (s : Shared) (H : Hp) (C : Addr) (cl : List (Str × Addr)) (fp : List Addr), PG (X.blk s H scope (compEnvC scope cl C X.env) fp) tg g)
    (ht : ∀ (s : Shared) (H : Hp) (C : Addr) (cl : List (Str × Addr)) (fp : List Addr), PTs (X.blk s H scope (compEnvC scope cl C X.env) fp) ifs tt)
    (hk : ∀ (s : Shared) (H : Hp) (C : Addr) (cl : List (Str × Addr)) (fp : List Addr), PE (X.blk s H scope (compEnvC scope cl C X.env) fp) kx tk)
    (hx : ∀ (s : Shared) (H : Hp) (C : Addr) (cl : List (Str × Addr)) (fp : List Addr), PE (X.blk s H scope (compEnvC scope cl C X.env) fp) vx tv)
    (hs : ∀ x, foldedSetIterable iter X.env x = pure x := by intro _; rfl) :
    PS X (.Assign [.Name y py] (.DictComp kx vx [⟨tg, iter, ifs, 0⟩] scope pos) spos) (tAsg (tDcG e0 wi g tt tk tv (own.map (·.2))) (gName i)) := by
  refine ⟨fun pins s σ H D I h => ?_⟩
  rw [exec_Assign_Name_used _ _ _ _ hsw]
  refine wpAny_bind (wpAny_standAt (wpAny_bind ?_))
  show wpAny _ X.A (do let _ ← comprehension (.DictComp kx vx [⟨tg, iter, ifs, 0⟩] scope pos) scope X.env (firstIterPos [⟨tg, iter, ifs, 0⟩] pos) newDict false (eval iter X.env) (some (assign (.Name y py) X.env))) _ _ s
  have h' : tDcG e0 wi g tt tk tv (own.map (·.2)) σ H (fun x H1 => gName i x σ H1 D.nx) := h
  refine wpAny_bind (thn (dcG_core (Qf := fun _ s' => SP X pins D .next s') hv hu hc hN I hi ok hg ht hk hx hs h' fun L C s' m H' I' q hn f => ?_) fun _ s' hq => wpAny_pure (wpAny_pure hq))
  show wpAny _ _ (assign (.Name y py) X.env (.ref L)) _ _ _
  refine wpAny_assign_Name (store_ok2 (v := V.ref L) I' hN hy (.inl hyl) rfl (fun s2 I2 ⟨a, sb, ha⟩ => ?_) (.inr hyl))
  obtain ⟨g0, g1, g2, g3, g4, g5⟩ := f
  have ne : C ≠ a := ha.elim (fun z => by rw [z]; exact g1) fun z e => g4 y a z e.symm
  exact ⟨m, hn.sameBut sb ne, fun h3 sb3 => ⟨_, H', I2.turned (t' := s2.toks) (fun b o hb e => (sb3.2 b hb).trans e) g0 g1 g3 g4 g5, q⟩⟩
end
end Kx
/-! zip of two sequences, each a list or a tuple -/
namespace Zb
open PySem
open PySem.Sem (wp)
/-- an iterator of a list (b true) or of a tuple, at its place k -/
def It (b : Bool) (h : Heap) (i l : Addr) (k : Nat) : Prop := match b with
  | true => h.IsListIter i l k
  | false => h.IsTupleIter i l k
def Sq (b : Bool) (h : Heap) (l : Addr) (xs : Array Value) : Prop := match b with
  | true => h.IsList l xs
  | false => h.IsTuple l xs
theorem It.ext {b : Bool} {h h' : Heap} {i l c : Addr} {k : Nat} (x : It b h i l k) (e : Heap.ExtBut c h h') (n : i ≠ c) : It b h' i l k := by
  cases b with
  | true => exact Heap.IsListIter.extBut x e n
  | false => exact Heap.IsTupleIter.extBut x e n
theorem Sq.ext {b : Bool} {h h' : Heap} {l c : Addr} {xs : Array Value} (x : Sq b h l xs) (e : Heap.ExtBut c h h') (n : l ≠ c) : Sq b h' l xs := by
  cases b with
  | true => exact Heap.IsList.extBut x e n
  | false => exact Heap.IsTuple.extBut x e n
theorem It.keep {b : Bool} {h h' : Heap} {i l : Addr} {k : Nat} (x : It b h i l k) (e : ∀ o, h.get? i = some o → h'.get? i = some o) : It b h' i l k := by
  cases b with
  | true => exact Heap.IsListIter.at x e
  | false => exact Heap.IsTupleIter.at x e
theorem It.obj {b : Bool} {h : Heap} {i l : Addr} {k : Nat} (x : It b h i l k) : ∃ o, h.get? i = some o ∧ ∀ v, o.data ≠ .cell v := by
  cases b with
  | true =>
    obtain ⟨o, e, _, d⟩ := (show h.IsListIter i l k from x)
    exact ⟨o, e, fun v q => by rw [d] at q; cases q⟩
  | false =>
    obtain ⟨o, e, _, d⟩ := (show h.IsTupleIter i l k from x)
    exact ⟨o, e, fun v q => by rw [d] at q; cases q⟩
theorem It.lt {b : Bool} {h : Heap} {i l : Addr} {k : Nat} (x : It b h i l k) : i < h.objs.size := let ⟨_, e, _⟩ := x.obj; Heap.lt_size e
theorem Sq.lt {b : Bool} {h : Heap} {l : Addr} {xs : Array Value} (x : Sq b h l xs) : l < h.objs.size := by
  cases b with
  | true =>
    obtain ⟨_, e, _⟩ := (show h.IsList l xs from x)
    exact Heap.lt_size e
  | false =>
    obtain ⟨_, e, _⟩ := (show h.IsTuple l xs from x)
    exact Heap.lt_size e
section
variable {prog : Program} {w : World} {A : Around} {E : Value → Shared → Prop} {s : Shared}
theorem step {b : Bool} {i l : Addr} {k : Nat} {xs : Array Value} {x : Value} {Q : Value → Shared → Prop} (hi : It b s.heap i l k) (hl : Sq b s.heap l xs) (hx : xs[k]? = some x)
    (h : ∀ h', It b h' i l (k + 1) → Heap.SameBut i s.heap h' → Q x { s with heap := h' }) : wpAny (model prog w) A (Builtin.SmallTypes.nextOf (.ref i)) Q E s := by
  cases b with
  | true => exact wpAny_nextOf_list_item hi hl hx h
  | false => exact RZ.nextOf_tuple_item hi hl hx h
theorem over {b : Bool} {i l : Addr} {k : Nat} {xs : Array Value} {Q : Value → Shared → Prop} (hh : A.handled = none) (hi : It b s.heap i l k) (hl : Sq b s.heap l xs) (hx : xs[k]? = none)
    (h : ∀ h' e, Heap.ExtBut i s.heap h' → (∃ o, h'.get? e = some o ∧ o.cls = .type "StopIteration") → E (.ref e) { s with heap := h' }) : wpAny (model prog w) A (Builtin.SmallTypes.nextOf (.ref i)) Q E s := by
  cases b with
  | true => exact wpAny_nextOf_list_end hh hi hl hx h
  | false => exact RZ.nextOf_tuple_end hh hi hl hx h
variable {b c : Bool} {z P O i j l m : Addr} {n : Nat} {xs ys : Array Value} {u v : Value}
/-- what stands when a zip has been made, or has handed out a pair -/
structure St (b c : Bool) (h : Heap) (z P O i j l m : Addr) (n : Nat) : Prop where
  zip : IsZip h z P O .none
  ins : IsPair h P (.ref i) (.ref j)
  out : ∃ u v, IsPair h O u v
  one : It b h i l n
  two : It c h j m n

theorem St.keep {h h' : Heap} (S : St b c h z P O i j l m n) (k : ∀ a ∈ [z, P, O, i, j], ∀ o, h.get? a = some o → h'.get? a = some o) : St b c h' z P O i j l m n :=
  ⟨k z (by simp) _ S.zip, k P (by simp) _ S.ins, let ⟨u, v, e⟩ := S.out; ⟨u, v, k O (by simp) _ e⟩, S.one.keep fun o e => k i (by simp) o e, S.two.keep fun o e => k j (by simp) o e⟩
theorem item_core {x y : Value} {Q : Value → Shared → Prop} (D : ZipApart z P O i j l m) (S : St b c s.heap z P O i j l m n) (hl : Sq b s.heap l xs) (hm : Sq c s.heap m ys) (hx : xs[n]? = some x) (hy : ys[n]? = some y)
    (fin : ∀ h', IsZip h' z P O (rawInt s.heap.objs.size) → IsPair h' O x y → It b h' i l (n + 1) → It c h' j m (n + 1) → IsPair h' s.heap.objs.size x y →
      (∀ a o, a ≠ z → a ≠ O → a ≠ i → a ≠ j → s.heap.get? a = some o → h'.get? a = some o) → Q (.ref s.heap.objs.size) { s with heap := h' }) :
    wpAny (model prog w) A (Builtin.«zip.__next__» ⟨[.ref z], []⟩) (fun f s' => ∃ v, f = .done (.ret v) ∧ Q v s') E s := by
  obtain ⟨zp, pi, ⟨u, v, po⟩, i1, i2⟩ := S
  show wpAny _ _ (field (Value.ref z) 2 >>= _) _ _ _
  refine wpAny_bind (wpAny_field zp rfl (x := .bool false) rfl ?_)
  show wpAny _ _ (field (Value.ref z) 3 >>= _) _ _ _
  refine wpAny_bind (wpAny_field zp rfl (x := .ref P) rfl (wpAny_bind (wpAny_seqItems pi rfl ?_)))
  show wpAny _ _ (Builtin.SmallTypes.ownedTupleIsFree (Value.ref z) >>= _) _ _ _
  refine wpAny_bind ?_
  unfold Builtin.SmallTypes.ownedTupleIsFree
  refine wpAny_bind (wpAny_field zp rfl (x := .none) rfl (wpAny_pure ?_))
  simp only [if_true]
  refine wpAny_bind (wpAny_rule (wpAny_bind (wpAny_field zp rfl (x := .ref O) rfl (wpAny_bind (wpAny_setField_rec zp (by simp) fun h1 z1 b1 => ?_)))))
  have z1 : IsZip h1 z P O .ellipsis := z1
  refine wpAny_bind ?_
  simp only [List.zipIdx_cons, List.zipIdx_nil, List.forIn_cons, List.forIn_nil]
  refine wpAny_bind (wpAny_bind (wpAny_onRaise ?_))
  show wpAny _ _ (Builtin.SmallTypes.nextOf (Value.ref i) >>= _) _ _ _
  refine wpAny_bind (step (i1.ext b1.extBut D.i1z) (hl.ext b1.extBut D.l1z) hx fun h2 j1 b2 => wpAny_pure ?_)
  have o2 : IsPair h2 O u v := b2.extBut _ _ D.TOi1 (b1.extBut _ _ D.TOz po)
  refine wpAny_bind (wpAny_seqItems o2 rfl (wpAny_bind (wpAny_updateSeq_pair o2 fun h3 o3 b3 => wpAny_bind (wpAny_letGo (wpAny_pure ?_)))))
  have o3 : IsPair h3 O x v := o3
  refine wpAny_bind (wpAny_bind (wpAny_onRaise ?_))
  show wpAny _ _ (Builtin.SmallTypes.nextOf (Value.ref j) >>= _) _ _ _
  have b13 : ∀ a, a ≠ z → a ≠ i → a ≠ O → ∀ o, s.heap.get? a = some o → h3.get? a = some o := fun a n1 n2 n3 o e => b3.extBut _ _ n3 (b2.extBut _ _ n2 (b1.extBut _ _ n1 e))
  refine wpAny_bind (step (((i2.ext b1.extBut D.i2z).ext b2.extBut D.i12.symm).ext b3.extBut D.TOi2.symm) (((hm.ext b1.extBut D.l2z).ext b2.extBut D.l2i1).ext b3.extBut D.l2TO) hy fun h4 j2 b4 => wpAny_pure ?_)
  have o4 : IsPair h4 O x v := b4.extBut _ _ D.TOi2 o3
  refine wpAny_bind (wpAny_seqItems o4 rfl (wpAny_bind (wpAny_updateSeq_pair o4 fun h5 o5 b5 => wpAny_bind (wpAny_letGo (wpAny_pure (wpAny_pure ?_))))))
  have o5 : IsPair h5 O x y := o5
  refine wpAny_bind (wpAny_seqItems o5 rfl (wpAny_bind (wpAny_newTuple ?_)))
  have sz : h5.objs.size = s.heap.objs.size := by rw [b5.1, b4.1, b3.1, b2.1, b1.1]
  have z5 : IsZip h5 z P O .ellipsis := b5.extBut _ _ D.TOz.symm (b4.extBut _ _ D.i2z.symm (b3.extBut _ _ D.TOz.symm (b2.extBut _ _ D.i1z.symm z1)))
  have k5 : ∀ a o, a ≠ z → a ≠ O → a ≠ i → a ≠ j → s.heap.get? a = some o → h5.get? a = some o := fun a o n1 n2 n3 n4 e => b5.extBut _ _ n2 (b4.extBut _ _ n4 (b13 a n1 n3 n2 o e))
  have j15 := ((j1.ext b3.extBut D.TOi1.symm).ext b4.extBut D.i12).ext b5.extBut D.TOi1.symm
  have j25 := j2.ext b5.extBut D.TOi2.symm
  have zl : z < h5.objs.size := Heap.lt_size z5
  show wpAny _ _ (Builtin.SmallTypes.ownedTupleHandOut (Value.ref z) (Value.ref h5.objs.size) >>= _) _ _ _
  refine wpAny_bind ?_
  unfold Builtin.SmallTypes.ownedTupleHandOut
  have z6 : IsZip (h5.push { cls := .type "tuple", data := .seq #[x, y] }) z P O .ellipsis := Heap.get?_push_of_some _ z5
  refine wpAny_bind (wpAny_setField_rec z6 (by simp) fun h7 z7 b7 => ?_)
  have z7 : IsZip h7 z P O (rawInt h5.objs.size) := z7
  refine wpAny_setField_rec z7 (by simp) fun h8 z8 b8 => ?_
  have z8 : IsZip h8 z P O (rawInt h5.objs.size) := z8
  have up : ∀ a o, a ≠ z → h5.get? a = some o → h8.get? a = some o := fun a o n1 e => b8.extBut _ _ n1 (b7.extBut _ _ n1 (Heap.get?_push_of_some _ e))
  have p8 : IsPair h8 h5.objs.size x y := b8.extBut _ _ (Nat.ne_of_gt zl) (b7.extBut _ _ (Nat.ne_of_gt zl) (Heap.get?_push_size _ rfl))
  rw [sz] at z8 p8
  refine wpAny_pure ⟨_, rfl, ?_⟩
  show Q (.ref h5.objs.size) _
  rw [sz]
  exact fin h8 z8 (up _ _ D.TOz o5) (j15.keep fun o e => up _ o D.i1z e) (j25.keep fun o e => up _ o D.i2z e) p8 fun a o n1 n2 n3 n4 e => up a o n1 (k5 a o n1 n2 n3 n4 e)
theorem end_core {Q : Fin → Shared → Prop} (hh : A.handled = none) (D : ZipApart z P O i j l m) (S : St b c s.heap z P O i j l m n) (hl : Sq b s.heap l xs) (hm : Sq c s.heap m ys) (hend : xs[n]? = none ∨ ys[n]? = none)
    (fin : ∀ h' e, (∀ a o, a ≠ z → a ≠ O → a ≠ i → a ≠ j → s.heap.get? a = some o → h'.get? a = some o) → (∃ o, h'.get? e = some o ∧ o.cls = .type "StopIteration") → E (.ref e) { s with heap := h' }) :
    wpAny (model prog w) A (Builtin.«zip.__next__» ⟨[.ref z], []⟩) Q E s := by
  obtain ⟨zp, pi, ⟨u, v, po⟩, i1, i2⟩ := S
  show wpAny _ _ (field (Value.ref z) 2 >>= _) _ _ _
  refine wpAny_bind (wpAny_field zp rfl (x := .bool false) rfl ?_)
  show wpAny _ _ (field (Value.ref z) 3 >>= _) _ _ _
  refine wpAny_bind (wpAny_field zp rfl (x := .ref P) rfl (wpAny_bind (wpAny_seqItems pi rfl ?_)))
  show wpAny _ _ (Builtin.SmallTypes.ownedTupleIsFree (Value.ref z) >>= _) _ _ _
  refine wpAny_bind ?_
  unfold Builtin.SmallTypes.ownedTupleIsFree
  refine wpAny_bind (wpAny_field zp rfl (x := .none) rfl (wpAny_pure ?_))
  simp only [if_true]
  refine wpAny_bind (wpAny_rule (wpAny_bind (wpAny_field zp rfl (x := .ref O) rfl (wpAny_bind (wpAny_setField_rec zp (by simp) fun h1 z1 b1 => ?_)))))
  have z1 : IsZip h1 z P O .ellipsis := z1
  refine wpAny_bind ?_
  simp only [List.zipIdx_cons, List.zipIdx_nil, List.forIn_cons, List.forIn_nil]
  refine wpAny_bind (wpAny_bind (wpAny_onRaise ?_))
  show wpAny _ _ (Builtin.SmallTypes.nextOf (Value.ref i) >>= _) _ _ _
  have notz : ∀ {h' : Heap} {e : Addr} {o : Obj} {f : Value}, IsZip h' z P O f → h'.get? e = some o → o.cls = .type "StopIteration" → e ≠ z := fun {h' e o f} zz he hc q => by
    rw [q, show h'.get? z = _ from zz] at he
    cases he
    simp at hc
  cases hx : xs[n]? with
  | none =>
    refine wpAny_bind (over hh (i1.ext b1.extBut D.i1z) (hl.ext b1.extBut D.l1z) hx fun h2 e b2 ⟨oe, he, hc⟩ => ?_)
    have z2 : IsZip h2 z P O .ellipsis := b2 _ _ D.i1z.symm z1
    exact wpAny_setField_rec z2 (by simp) fun h3 _ b3 => fin h3 e (fun a o n1 _ n3 _ q => b3.extBut _ _ n1 (b2 _ _ n3 (b1.extBut _ _ n1 q))) ⟨oe, b3.extBut _ _ (notz z2 he hc) he, hc⟩
  | some x =>
    have hy : ys[n]? = none := hend.resolve_left fun q => by rw [hx] at q; cases q
    refine wpAny_bind (step (i1.ext b1.extBut D.i1z) (hl.ext b1.extBut D.l1z) hx fun h2 j1 b2 => wpAny_pure ?_)
    have o2 : IsPair h2 O u v := b2.extBut _ _ D.TOi1 (b1.extBut _ _ D.TOz po)
    refine wpAny_bind (wpAny_seqItems o2 rfl (wpAny_bind (wpAny_updateSeq_pair o2 fun h3 o3 b3 => wpAny_bind (wpAny_letGo (wpAny_pure ?_)))))
    refine wpAny_bind (wpAny_bind (wpAny_onRaise ?_))
    show wpAny _ _ (Builtin.SmallTypes.nextOf (Value.ref j) >>= _) _ _ _
    refine wpAny_bind (over hh (((i2.ext b1.extBut D.i2z).ext b2.extBut D.i12.symm).ext b3.extBut D.TOi2.symm) (((hm.ext b1.extBut D.l2z).ext b2.extBut D.l2i1).ext b3.extBut D.l2TO) hy fun h4 e b4 ⟨oe, he, hc⟩ => ?_)
    have z4 : IsZip h4 z P O .ellipsis := b4 _ _ D.i2z.symm (b3.extBut _ _ D.TOz.symm (b2.extBut _ _ D.i1z.symm z1))
    exact wpAny_setField_rec z4 (by simp) fun h5 _ b5 => fin h5 e (fun a o n1 n2 n3 n4 q => b5.extBut _ _ n1 (b4 _ _ n4 (b3.extBut _ _ n2 (b2.extBut _ _ n3 (b1.extBut _ _ n1 q))))) ⟨oe, b5.extBut _ _ (notz z4 he hc) he, hc⟩
theorem next_item {x y : Value} {Q : Option Value → Shared → Prop} (D : ZipApart z P O i j l m) (S : St b c s.heap z P O i j l m n) (hl : Sq b s.heap l xs) (hm : Sq c s.heap m ys) (hx : xs[n]? = some x) (hy : ys[n]? = some y)
    (fin : ∀ h', IsZip h' z P O (rawInt s.heap.objs.size) → IsPair h' O x y → It b h' i l (n + 1) → It c h' j m (n + 1) → IsPair h' s.heap.objs.size x y →
      (∀ a o, a ≠ z → a ≠ O → a ≠ i → a ≠ j → s.heap.get? a = some o → h'.get? a = some o) → Q (some (.ref s.heap.objs.size)) { s with heap := h' }) :
    wpAny (model prog w) A (pyNext (.ref z)) Q E s := by
  have ty : s.TypeIs (.ref z) "zip" := ⟨_, S.zip, rfl⟩
  unfold pyNext
  exact wpAny_bind (wpAny_attempt (wpAny_callSpecial?_slot (name := Str.ofString "__next__") ty F.slot_zip_next
    (wpAny_call_entry F.slot_zip_next ty F.entry_zip_next (item_core D S hl hm hx hy fun h' a1 a2 a3 a4 a5 a6 => wpAny_pure (fin h' a1 a2 a3 a4 a5 a6)) (F.args_zip_next_1 _))))
theorem next_end {Q : Option Value → Shared → Prop} (hh : A.handled = none) (D : ZipApart z P O i j l m) (S : St b c s.heap z P O i j l m n) (hl : Sq b s.heap l xs) (hm : Sq c s.heap m ys) (hend : xs[n]? = none ∨ ys[n]? = none)
    (fin : ∀ h', (∀ a o, a ≠ z → a ≠ O → a ≠ i → a ≠ j → s.heap.get? a = some o → h'.get? a = some o) → Q none { s with heap := h' }) : wpAny (model prog w) A (pyNext (.ref z)) Q E s := by
  have ty : s.TypeIs (.ref z) "zip" := ⟨_, S.zip, rfl⟩
  unfold pyNext
  refine wpAny_bind (wpAny_attempt (wpAny_callSpecial?_slot (name := Str.ofString "__next__") ty F.slot_zip_next
    (wpAny_call_entry F.slot_zip_next ty F.entry_zip_next (end_core hh D S hl hm hend fun h' e hk ⟨o, ho, hc⟩ => ?_) (F.args_zip_next_1 _))))
  exact wpAny_bind (wpAny_isInstance (T := "StopIteration") (b := true) ⟨o, ho, hc⟩ isSubtype_stop (wpAny_pure (fin _ hk)))
end
/-- the iterator that a sequence of the sort b gives -/
def itObj (b : Bool) (l : Addr) : Obj := match b with
  | true => { cls := .type "list_iterator", data := .fields #[.ref l, .int 0 0] }
  | false => { cls := .type "tuple_iterator", data := .fields #[.ref l, .int 0 0] }
theorem itObj_at {b : Bool} {h : Heap} {i l : Addr} (e : h.get? i = some (itObj b l)) : It b h i l 0 := by
  cases b with
  | true => exact ⟨_, e, rfl, rfl⟩
  | false => exact ⟨_, e, rfl, rfl⟩
abbrev p1 (b : Bool) (h : Heap) (l : Addr) : Heap := h.push (itObj b l)
abbrev p2 (b c : Bool) (h : Heap) (l m : Addr) : Heap := (p1 b h l).push (itObj c m)
abbrev p3 (b c : Bool) (h : Heap) (l m : Addr) : Heap := (p2 b c h l m).push { cls := .type "tuple", data := .seq #[.ref h.objs.size, .ref (p1 b h l).objs.size] }
abbrev p4 (b c : Bool) (h : Heap) (l m : Addr) : Heap := (p3 b c h l m).push { cls := .type "tuple", data := .seq #[.none, .none] }
abbrev p5 (b c : Bool) (h : Heap) (l m : Addr) : Heap := (p4 b c h l m).push { cls := .type "zip", data := .fields #[.none, .bool false, .bool false, .ref (p2 b c h l m).objs.size, .ref (p3 b c h l m).objs.size] }
theorem made (b c : Bool) (l m : Addr) (xs ys : Array Value) :
    Meets (Builtin.«zip.__new__» ⟨[.type "zip", .ref l, .ref m], []⟩) (fun _ R s => Sq b s.heap l xs ∧ Sq c s.heap m ys ∧ R (.ok (.ret (.ref (p4 b c s.heap l m).objs.size))) { s with heap := p5 b c s.heap l m }) :=
  .of_wp fun prog w A R s q => by
    obtain ⟨hp, g, d, tk, os⟩ := s
    obtain ⟨hl, hm, q⟩ := q
    have hs := sub_zip
    cases b with
    | true =>
      have e1 : Heap.IsList (Shared.heap ⟨hp, g, d, tk, os⟩) l xs := hl
      cases c with
      | true =>
        have e2 : Heap.IsList (Shared.heap ⟨hp.push { cls := .type "list_iterator", data := .fields #[.ref l, .int 0 0] }, g, d, tk, os⟩) m ys := Heap.IsList.push hm _
        wp_walk using wpAny_pyIter_list e1, wpAny_pyIter_list e2
        exact ⟨_, rfl, q⟩
      | false =>
        have e2 : Heap.IsTuple (Shared.heap ⟨hp.push { cls := .type "list_iterator", data := .fields #[.ref l, .int 0 0] }, g, d, tk, os⟩) m ys := Heap.IsTuple.push hm _
        wp_walk using wpAny_pyIter_list e1, wpAny_pyIter_tuple e2
        exact ⟨_, rfl, q⟩
    | false =>
      have e1 : Heap.IsTuple (Shared.heap ⟨hp, g, d, tk, os⟩) l xs := hl
      cases c with
      | true =>
        have e2 : Heap.IsList (Shared.heap ⟨hp.push { cls := .type "tuple_iterator", data := .fields #[.ref l, .int 0 0] }, g, d, tk, os⟩) m ys := Heap.IsList.push hm _
        wp_walk using wpAny_pyIter_tuple e1, wpAny_pyIter_list e2
        exact ⟨_, rfl, q⟩
      | false =>
        have e2 : Heap.IsTuple (Shared.heap ⟨hp.push { cls := .type "tuple_iterator", data := .fields #[.ref l, .int 0 0] }, g, d, tk, os⟩) m ys := Heap.IsTuple.push hm _
        wp_walk using wpAny_pyIter_tuple e1, wpAny_pyIter_tuple e2
        exact ⟨_, rfl, q⟩
section
variable {prog : Program} {w : World} {A : Around} {E : Value → Shared → Prop} {s : Shared}
theorem call {b c : Bool} {l m : Addr} {xs ys : Array Value} {Q : Value → Shared → Prop} (hl : Sq b s.heap l xs) (hm : Sq c s.heap m ys)
    (fin : ∀ h', St b c h' (s.heap.objs.size + 4) (s.heap.objs.size + 2) (s.heap.objs.size + 3) s.heap.objs.size (s.heap.objs.size + 1) l m 0 → (∀ a o, s.heap.get? a = some o → h'.get? a = some o) → Q (.ref (s.heap.objs.size + 4)) { s with heap := h' }) :
    wpAny (model prog w) A (PySem.call (.type "zip") [.ref l, .ref m]) Q E s := by
  refine callType_new F.called_zip (by decide) (F.typeCall_zip_2 _ _) (F.newCall_zip_2 _ _) (fun obj => F.args_object_init_3 obj _ _) F.entry_zip_new (made b c l m xs ys) ⟨hl, hm, ?_⟩
  have s1 : (p1 b s.heap l).objs.size = s.heap.objs.size + 1 := Heap.size_push ..
  have s2 : (p2 b c s.heap l m).objs.size = s.heap.objs.size + 2 := by rw [Heap.size_push, s1]
  have s3 : (p3 b c s.heap l m).objs.size = s.heap.objs.size + 3 := by rw [Heap.size_push, s2]
  have s4 : (p4 b c s.heap l m).objs.size = s.heap.objs.size + 4 := by rw [Heap.size_push, s3]
  have up4 : ∀ {a o}, (p4 b c s.heap l m).get? a = some o → (p5 b c s.heap l m).get? a = some o := fun e => Heap.get?_push_of_some _ e
  have up3 : ∀ {a o}, (p3 b c s.heap l m).get? a = some o → (p5 b c s.heap l m).get? a = some o := fun e => up4 (Heap.get?_push_of_some _ e)
  have up2 : ∀ {a o}, (p2 b c s.heap l m).get? a = some o → (p5 b c s.heap l m).get? a = some o := fun e => up3 (Heap.get?_push_of_some _ e)
  have up1 : ∀ {a o}, (p1 b s.heap l).get? a = some o → (p5 b c s.heap l m).get? a = some o := fun e => up2 (Heap.get?_push_of_some _ e)
  have g5 : (p5 b c s.heap l m).get? (p4 b c s.heap l m).objs.size = some _ := Heap.get?_push_size _ rfl
  have g4 : (p5 b c s.heap l m).get? (p3 b c s.heap l m).objs.size = some _ := up4 (Heap.get?_push_size _ rfl)
  have g3 : (p5 b c s.heap l m).get? (p2 b c s.heap l m).objs.size = some _ := up3 (Heap.get?_push_size _ rfl)
  have g2 : (p5 b c s.heap l m).get? (p1 b s.heap l).objs.size = some (itObj c m) := up2 (Heap.get?_push_size _ (by cases c <;> rfl))
  have g1 : (p5 b c s.heap l m).get? s.heap.objs.size = some (itObj b l) := up1 (Heap.get?_push_size _ (by cases b <;> rfl))
  show _ ∧ _
  rw [s2, s3, s4] at g5
  rw [s1, s2] at g3
  rw [s3] at g4
  rw [s1] at g2
  rw [s4]
  exact ⟨⟨_, g5, rfl⟩, fin _ ⟨g5, g3, ⟨_, _, g4⟩, itObj_at g1, itObj_at g2⟩ fun a o e => up1 (Heap.get?_push_of_some _ e)⟩
end
end Zb
namespace Kx
open PySem PySem.Spec PyProof.Rows L2
/-- a list (b true) or a tuple at a -/
def SqB (K : PySem.W.Frag) (b : Bool) (H : Hp) (a : Addr) (xs : List V) : Prop := match b with
  | true => SqL K H a xs
  | false => SqT K H a xs
section
variable {X : Cx} {pins : List (Addr × Obj)} {σ : L2.St} {H : Hp} {s : Shared}
theorem SqB.get {b : Bool} {a : Addr} {xs : List V} (h : SqB X.K b H a xs) (I : Inv X pins σ H s) : ∃ its : List Value, Vals xs its ∧ Zb.Sq b s.heap a its.toArray ∧ xs.length ≤ sizeLine := by
  cases b with
  | true =>
    obtain ⟨its, r, p, z⟩ := I.list (show SqL X.K H a xs from h)
    exact ⟨its, r, p.isList, z⟩
  | false =>
    obtain ⟨its, r, p, z⟩ := I.tuple (show SqT X.K H a xs from h)
    exact ⟨its, r, p, z⟩
theorem SqB.inj {b : Bool} {a : Addr} {xs ys : List V} (h : SqB X.K b H a xs) (h' : SqB X.K b H a ys) (I : Inv X pins σ H s) : xs = ys := by
  cases b with
  | true => exact I.list_inj h h'
  | false => exact I.tuple_inj h h'
end
theorem SqB.same {K : PySem.W.Frag} {b : Bool} {H H' : Hp} {a : Addr} {xs : List V} (h : SqB K b H a xs) (s : Same H H') : SqB K b H' a xs := by
  cases b with
  | true => exact s.seq h
  | false => exact tup_same s h
/-- zip over two sequences: what comes at each turn is a new pair -/
def ItzB (K : PySem.W.Frag) (b c : Bool) (l m : Addr) : It :=
  ⟨fun i H => ∃ (xs ys : List V) (x y : V), SqB K b H l xs ∧ SqB K c H m ys ∧ xs[i]? = some x ∧ ys[i]? = some y,
    fun i H v H' => ∃ T x y, v = .ref T ∧ H T = none ∧ H' = upd H T (.tup [x, y]) ∧ (∀ xs, SqB K b H l xs → xs[i]? = some x) ∧ ∀ ys, SqB K c H m ys → ys[i]? = some y,
    fun i H => ∃ xs ys : List V, SqB K b H l xs ∧ SqB K c H m ys ∧ (xs.length ≤ i ∨ ys.length ≤ i)⟩
theorem turn_zipB {P : Program} {w : World} {K : PySem.W.Frag} {b c : Bool} {elts : List Expr} {kk : Nat} {tpos : Pos} {l m z p o i j : Addr} (D : ZipApart z p o i j l m) :
    Turn P w K (.Tuple elts kk tpos) (ItzB K b c l m) [z, p, o, i, j] z (fun n h => Zb.St b c h z p o i j l m n) where
  mem := by simp
  obj := fun n h S a ha => by
    obtain ⟨zp, pi, ⟨u, v, po⟩, i1, i2⟩ := S
    have e : a = z ∨ a = p ∨ a = o ∨ a = i ∨ a = j := by simpa using ha
    rcases e with rfl | rfl | rfl | rfl | rfl
    · exact ⟨_, zp, fun v q => nomatch q⟩
    · exact ⟨_, pi, fun v q => nomatch q⟩
    · exact ⟨_, po, fun v q => nomatch q⟩
    · exact i1.obj
    · exact i2.obj
  keep := fun n h h' S k => S.keep k
  item := by
    intro X hP hw hK hc n pins s σ H E I hf S hg
    subst hP hw hK
    obtain ⟨xs, ys, x, y, qx, qy, hx, hy⟩ := hg
    obtain ⟨its, rv, g1, _⟩ := qx.get I
    obtain ⟨its2, rv2, g2, _⟩ := qy.get I
    obtain ⟨u, hu, ru⟩ := rv.get hx
    obtain ⟨v, hv, rv'⟩ := rv2.get hy
    have zl : z < s.heap.objs.size := Heap.lt_size S.zip
    have pl : p < s.heap.objs.size := Heap.lt_size S.ins
    have ol : o < s.heap.objs.size := let ⟨_, _, e⟩ := S.out; Heap.lt_size e
    have il := S.one.lt
    have jl := S.two.lt
    refine Zb.next_item D S g1 g2 (x := u) (y := v) (by simpa using hu) (by simpa using hv) fun h1 z1 o1 i1 i2 hT hk => ?_
    refine ⟨_, rfl, wpAny_letOwnedTupleGo_zip (s := { s with heap := h1 }) z1 fun h2 z2 sb => ?_⟩
    have hT2 : h2.get? s.heap.objs.size = some { cls := .type "tuple", data := .seq #[u, v] } := (sb.2 _ (Nat.ne_of_gt zl)).trans hT
    have new : ObjOk X.prog X.w (upd H s.heap.objs.size (.tup [x, y])) h2 s.heap.objs.size (.tup [x, y]) := ⟨by show 2 ≤ sizeLine; decide, [u, v], .cons ru (.cons rv' .nil), ⟨_, hT2, rfl, _, rfl⟩⟩
    have I1 : Inv X pins σ (upd H s.heap.objs.size (.tup [x, y])) { s with heap := h2 } :=
      I.turnedNew (t' := s.toks) (ch := [z, p, o, i, j]) (fun a ob hb q => (sb.2 a (fun e => hb (by simp [e]))).trans (hk a ob (fun e => hb (by simp [e])) (fun e => hb (by simp [e])) (fun e => hb (by simp [e])) (fun e => hb (by simp [e])) q)) hf (Nat.le_refl _) new
    refine ⟨.ref s.heap.objs.size, _, I1, rfl, ⟨_, x, y, rfl, I.hok.fresh (Nat.le_refl _), rfl, fun l' hl => by rw [hl.inj qx I]; exact hx, fun l' hl => by rw [hl.inj qy I]; exact hy⟩,
      ⟨z2, (sb.2 _ D.TIz).trans (hk _ _ D.TIz D.TITO D.TIi1 D.TIi2 S.ins), ⟨u, v, (sb.2 _ D.TOz).trans o1⟩, i1.keep fun ob q => (sb.2 _ D.i1z).trans q, i2.keep fun ob q => (sb.2 _ D.i2z).trans q⟩, fun a ha => ?_⟩
    have hlt : a < s.heap.objs.size := by
      have e : a = z ∨ a = p ∨ a = o ∨ a = i ∨ a = j := by simpa using ha
      rcases e with rfl | rfl | rfl | rfl | rfl
      · exact zl
      · exact pl
      · exact ol
      · exact il
      · exact jl
    rw [upd_ne (Nat.ne_of_lt hlt)]
    exact (hf a ha).1
  done := by
    intro X hP hw hK hc n pins s σ H E I hf S hg
    subst hP hw hK
    obtain ⟨xs, ys, qx, qy, hend⟩ := hg
    obtain ⟨its, rv, g1, _⟩ := qx.get I
    obtain ⟨its2, rv2, g2, _⟩ := qy.get I
    have l1 := rv.length
    have l2 := rv2.length
    have he : its.toArray[n]? = none ∨ its2.toArray[n]? = none := hend.imp (fun q => by simp; omega) fun q => by simp; omega
    exact Zb.next_end (I.ok.hd hc) D S g1 g2 he fun h' hk => ⟨rfl, I.turnedL (t' := s.toks) (ch := [z, p, o, i, j]) (fun a ob hb q =>
      hk a ob (fun e => hb (by simp [e])) (fun e => hb (by simp [e])) (fun e => hb (by simp [e])) (fun e => hb (by simp [e])) q) hf⟩
  self := fun A n s Q E S h => wpAny_pyIter_zip S.zip h
def iZipB (K : PySem.W.Frag) (b c : Bool) (ta : TA) : TI := fun σ H R => ta σ H fun vs H1 => ∃ l m xs ys, vs = [.ref l, .ref m] ∧ SqB K b H1 l xs ∧ SqB K c H1 m ys ∧ R (ItzB K b c l m) H1
theorem pi_zipB (b c : Bool) {X : Cx} {e e2 : Expr} {ta : TA} {p pos tpos : Pos} {elts : List Expr} {kk : Nat} (hg : Gl X "zip") (hm : X.mg "zip" = none) (ha : PA X [e, e2] ta)
    (hs : starEach [e, e2] X.env = (false, eval e X.env) :: starEach [e2] X.env := by rfl) (hpl : (backTo pos (starEach [e2] X.env)).any (·.1) = false := by rfl) :
    PI X (.Tuple elts kk tpos) (.Call (.Name "zip" p) [e, e2] [] pos) (iZipB X.K b c ta) := by
  refine ⟨fun pins s σ H R I h => ?_⟩
  refine Call_ (ld_blt I hg hm PyProof.Rows.boot_zip (PyProof.Rows.callWith_type1 (thn (ha.run pos pins s σ H _ I h) fun us s1 ⟨vs, H1, I1, r1, l, m, xs, ys, ex, q1, q2, q⟩ => ?_) hs hpl))
  subst ex
  obtain ⟨u, v, rfl, ru, rv⟩ := vals2 r1
  obtain rfl : u = Value.ref l := ru
  obtain rfl : v = Value.ref m := rv
  obtain ⟨its, _, g1, _⟩ := q1.get I1
  obtain ⟨its2, _, g2, _⟩ := q2.get I1
  refine Zb.call g1 g2 fun h' S hk => wpAny_pyIter_zip S.zip ?_
  have I2 : Inv X pins σ H1 { s1 with heap := h' } := I1.kept (t' := s1.toks) hk
  refine ⟨s1.heap.objs.size + 4, [s1.heap.objs.size + 4, s1.heap.objs.size + 2, s1.heap.objs.size + 3, s1.heap.objs.size, s1.heap.objs.size + 1], _, _, H1, rfl, I2, turn_zipB (PySem.W.ktu_apart s1.heap.objs.size l m g1.lt g2.lt), S, fun a ha => ?_, q⟩
  have e : a = s1.heap.objs.size + 4 ∨ a = s1.heap.objs.size + 2 ∨ a = s1.heap.objs.size + 3 ∨ a = s1.heap.objs.size ∨ a = s1.heap.objs.size + 1 := by simpa using ha
  have le : s1.heap.objs.size ≤ a := by
    rcases e with y | y | y | y | y <;> rw [y] <;> first | exact Nat.le_add_right _ _ | exact Nat.le_refl _
  exact I1.fpOk le (I1.hok.fresh le)
theorem walk_zipB {K : PySem.W.Frag} {b c : Bool} {l m : Addr} {xs ys : List V} {n : Nat} (hn : n = min xs.length ys.length) :
    Walk (ItzB K b c l m) n (fun H => SqB K b H l xs ∧ SqB K c H m ys) (YPair (fun i => xs[i]?) (fun i => ys[i]?)) := by
  subst hn
  refine ⟨fun i _ hi q => ?_, fun _ q => ⟨xs, ys, q.1, q.2, by omega⟩, fun i H v H' _ q ⟨T, x, y, h1, h2, h3, h4, h5⟩ => ⟨T, x, y, h1, h2, h3, h4 xs q.1, h5 ys q.2⟩⟩
  have h1 : i < xs.length := by omega
  have h2 : i < ys.length := by omega
  exact ⟨xs, ys, xs[i], ys[i], q.1, q.2, by simp [h1], by simp [h2]⟩
/-- a dict comprehension over it -/
theorem dcG_it {J : It} {n : Nat} {G : Hp → Prop} {Y : Nat → Hp → V → Hp → Prop} (w : Walk J n G Y) {e0 : HO} {g : TG} {tt : TT} {tk tv : TE} {own : List Nat} {σ : L2.St} {H1 : Hp} {D : Addr} {Qd : Hp → Prop} (Pv : Nat → Hp → Prop) (h0 : Pv 0 (upd H1 D e0)) (hG : ∀ i H, i ≤ n → Pv i H → G H)
    (hs : ∀ i x H H', i < n → Pv i H → Y i H x H' → g x (wipe σ own) H' fun σ2 H2 => wipe σ2 own = wipe σ own ∧ tt σ2 H2 fun b H3 =>
      if b = true then tk σ2 H3 fun y H4 => tv σ2 H4 fun z H5 => ∃ H6, DPut H5 D y z H6 ∧ Pv (i + 1) H6 else Pv (i + 1) H3) (hd : ∀ H, Pv n H → Qd H) :
    ∃ W : Nat → Nat → Hp → Prop, (∃ m, W 0 m (upd H1 D e0)) ∧ ∀ i m H', W i m H' →
      (J.stop i H' ∧ Qd H') ∨ (J.go i H' ∧ ∃ N : Hp → Prop, (∀ H2, N H2 → ∃ m', m' < m ∧ W (i + 1) m' H2) ∧ ∀ x H2, J.yld i H' x H2 → g x (wipe σ own) H2 fun σ3 H3 => wipe σ3 own = wipe σ own ∧ tt σ3 H3 fun b H4 =>
        if b = true then tk σ3 H4 fun y H5 => tv σ3 H5 fun z H6 => ∃ H7, DPut H6 D y z H7 ∧ N H7 else N H4) := by
  refine ⟨fun i m H => m = n - i ∧ i ≤ n ∧ Pv i H, ⟨n, by simp, Nat.zero_le _, h0⟩, fun i m H ⟨em, hi, p⟩ => ?_⟩
  subst em
  have q := hG i H hi p
  by_cases lt : i < n
  · exact .inr ⟨w.goes i H lt q, Pv (i + 1), fun H' p' => ⟨n - (i + 1), by omega, rfl, lt, p'⟩, fun x H' y => hs i x H H' lt p (w.yields i H x H' lt q y)⟩
  · obtain rfl : i = n := by omega
    exact .inl ⟨w.stops H q, hd H p⟩
end Kx
/-! enumerate(t), t a tuple -/
namespace EnT
open PySem
open PySem.Sem (wp)
theorem en_new {v : Value} {o : Obj} {G : Heap → Prop} (B : Begins v o G) :
    Meets (Builtin.«enumerate.__new__» ⟨[.type "enumerate", v], []⟩) (fun _ R s => G s.heap ∧
      R (.ok (.ret (.ref (s.heap.push o).objs.size))) { s with heap := (s.heap.push o).push { cls := .type "enumerate", data := .fields #[.none, .bool false, .ref s.heap.objs.size, rawInt 0, .none, .none] } }) := by
  refine .of_wp fun prog w A R s hh => ?_
  obtain ⟨h0, g0, d0, t0, os0⟩ := s
  obtain ⟨hG, hR⟩ := hh
  have hs := sub_enumerate
  have it1 : ∀ {A2 : Around} {E2 : Value → Shared → Prop} {Q2 : Value → Shared → Prop}, Q2 (.ref h0.objs.size) ⟨h0.push o, g0, d0, t0, os0⟩ → wpAny (model prog w) A2 (pyIter v) Q2 E2 ⟨h0, g0, d0, t0, os0⟩ := fun z => B.iter prog w _ _ ⟨h0, g0, d0, t0, os0⟩ _ hG z
  wp_walk using it1
  refine wpAny_stack_any fun st => wpAny_pure ?_
  split
  · rename_i c _ _ _ _ _
    cases (c == Value.type "enumerate") <;> (wp_walk using it1; exact ⟨_, rfl, hR⟩)
  · wp_walk using it1
    exact ⟨_, rfl, hR⟩
section
variable {prog : Program} {w : World} {A : Around} {E : Value → Shared → Prop} {s : Shared}
theorem en_begins {v : Value} {o : Obj} {G : Heap → Prop} {Q : Value → Shared → Prop} (B : Begins v o G) (hG : G s.heap)
    (k : ∀ h', IsEnum h' (s.heap.objs.size + 1) s.heap.objs.size 0 .none → h'.get? s.heap.objs.size = some o → h'.objs.size = s.heap.objs.size + 2 → (∀ b u, s.heap.get? b = some u → h'.get? b = some u) →
      Q (.ref (s.heap.objs.size + 1)) { s with heap := h' }) : wpAny (model prog w) A (call (.type "enumerate") [v]) Q E s := by
  refine callType_new F.called_enumerate (by decide) (F.typeCall_enumerate_1 _) (F.newCall_enumerate_1 _) (fun x => F.args_object_init_2 x _) F.entry_enumerate_new (en_new B) ⟨hG, ?_⟩
  have sz : (s.heap.push o).objs.size = s.heap.objs.size + 1 := by rw [Heap.size_push]
  have hE : IsEnum ((s.heap.push o).push { cls := .type "enumerate", data := .fields #[.none, .bool false, .ref s.heap.objs.size, rawInt 0, .none, .none] }) (s.heap.objs.size + 1) s.heap.objs.size 0 .none := by
    rw [← sz]
    exact Heap.get?_push_size (s.heap.push o) rfl
  show _ ∧ _
  rw [sz]
  exact ⟨⟨_, hE, rfl⟩, k _ hE (Heap.get?_push_of_some _ (Heap.get?_push_size _ B.free)) (by rw [Heap.size_push, sz]) fun b u x => Heap.get?_push_of_some _ (Heap.get?_push_of_some _ x)⟩
theorem en_end {e it t : Addr} {i : Nat} {xs : Array Value} {n : Int} {old : Value} {Q : Option Value → Shared → Prop} (hh : A.handled = none) (he : IsEnum s.heap e it n old) (hi : s.heap.IsTupleIter it t i) (ht : s.heap.IsTuple t xs) (hx : xs[i]? = none)
    (k : ∀ h', Heap.ExtBut it s.heap h' → Q none { s with heap := h' }) : wpAny (model prog w) A (pyNext (.ref e)) Q E s := by
  have ty : s.TypeIs (.ref e) "enumerate" := ⟨_, he, rfl⟩
  unfold pyNext
  refine wpAny_bind (wpAny_attempt (wpAny_callSpecial?_slot (name := Str.ofString "__next__") ty F.slot_enumerate_next (wpAny_call_entry F.slot_enumerate_next ty F.entry_enumerate_next ?_ (F.args_enumerate_next_1 _))))
  show wpAny _ _ (field (Value.ref e) 2 >>= _) _ _ _
  refine wpAny_bind (wpAny_field he rfl (x := .ref it) rfl (wpAny_bind (RZ.nextOf_tuple_end hh hi ht hx fun h' x eb ⟨o, ho, hc⟩ => ?_)))
  exact wpAny_bind (wpAny_isInstance (T := "StopIteration") (b := true) ⟨o, ho, hc⟩ isSubtype_stop (wpAny_pure (k _ eb)))
end
end EnT
namespace Kx
open PySem PySem.Spec PyProof.Rows L2
/-- the tuple at a, each item in a new pair with its number -/
def Itu (K : PySem.W.Frag) (a : Addr) : It :=
  ⟨fun i H => ∃ (xs : List V) (x : V), SqT K H a xs ∧ xs[i]? = some x, fun i H v H' => ∃ T x, v = .ref T ∧ H T = none ∧ H' = upd H T (.tup [.int (i : Nat), x]) ∧ ∀ xs, SqT K H a xs → xs[i]? = some x,
    fun i H => ∃ xs : List V, SqT K H a xs ∧ xs.length ≤ i⟩
theorem tup_it_ne {h : Heap} {a it : Addr} {xs : Array Value} {i : Nat} (t : IsTup h a xs) (z : h.IsTupleIter it a i) : a ≠ it := fun e => by
  obtain ⟨o, e1, c1, _⟩ := t
  obtain ⟨o2, e2, c2, _⟩ := z
  rw [e, e2] at e1
  cases e1
  rw [c2] at c1
  injection c1 with z3
  exact absurd z3 (by decide)
theorem tup_en_ne {h : Heap} {a e it : Addr} {xs : Array Value} {i : Int} {old : Value} (t : IsTup h a xs) (z : IsEnum h e it i old) : e ≠ a := fun q => by
  obtain ⟨o, e1, c1, _⟩ := t
  have z' : h.get? e = _ := z
  rw [q, e1] at z'
  cases z'
  injection c1 with z3
  exact absurd z3 (by decide)
theorem turn_enT {P : Program} {w : World} {K : PySem.W.Frag} {elts : List Expr} {kk : Nat} {tpos : Pos} (a e it : Addr) :
    Turn P w K (.Tuple elts kk tpos) (Itu K a) [e, it] e (fun i h => (∃ old, IsEnum h e it ((i : Nat) : Int) old) ∧ h.IsTupleIter it a i ∧ e ≠ it) where
  mem := List.mem_cons_self ..
  obj := fun i h st b hb => by
    obtain ⟨⟨old, he⟩, ⟨o, ho, hc, hd⟩, _⟩ := st
    rcases List.mem_cons.mp hb with z | z
    · exact ⟨_, by rw [z]; exact he, fun v q => by cases q⟩
    · rw [List.mem_singleton.mp z]
      exact ⟨o, ho, fun v q => by rw [hd] at q; cases q⟩
  keep := fun i h h' st k => let ⟨⟨old, x1⟩, x2, x3⟩ := st; ⟨⟨old, k e (by simp) _ x1⟩, x2.at fun o q => k it (by simp) o q, x3⟩
  item := by
    intro X hP hw hK hc i pins s σ H E I hf st hg
    subst hP hw hK
    obtain ⟨⟨old, he⟩, hit, hne⟩ := st
    obtain ⟨xs, x, hq, hx⟩ := hg
    obtain ⟨its, rv, p, hz⟩ := I.tuple hq
    obtain ⟨u, hu, ru⟩ := rv.get hx
    have el : e < s.heap.objs.size := Heap.lt_size he
    have il : it < s.heap.objs.size := by
      obtain ⟨_, q, _⟩ := hit
      exact Heap.lt_size q
    have n1 := tup_it_ne p hit
    have n2 := tup_en_ne p he
    have hi : i < its.toArray.size := by
      have z : i < its.length := (List.getElem?_eq_some_iff.mp hu).1
      simpa using z
    refine wpAny_pyNext_enum_itemD (Draws.tuple (show X.A.in1.handled = none from I.ok.hd hc) it a n1 its.toArray) he ⟨hit, p⟩ hi hne (by simp [hne, n2]) fun u' h' tk hu' ho hit' hT hsz hk => ?_
    obtain rfl : u' = u := by
      have z : its.toArray[i]? = some u := by simpa using hu
      rw [z] at hu'
      exact (Option.some.inj hu').symm
    refine ⟨_, rfl, wpAny_letOwnedTupleGo_enum (s := { s with heap := h', toks := tk + 1 }) ho fun h2 he' sb => ?_⟩
    have hT2 : h2.get? s.heap.objs.size = some { cls := .type "tuple", data := .seq #[.int i tk, u'] } := (sb.2 _ (Nat.ne_of_gt el)).trans hT
    have nw : ObjOk X.prog X.w (upd H s.heap.objs.size (.tup [.int (i : Nat), x])) h2 s.heap.objs.size (.tup [.int (i : Nat), x]) :=
      ⟨by show 2 ≤ sizeLine; decide, [.int i tk, u'], .cons ⟨_, rfl⟩ (.cons ru .nil), ⟨_, hT2, rfl, _, rfl⟩⟩
    have J : Inv X pins σ (upd H s.heap.objs.size (.tup [.int (i : Nat), x])) { s with heap := h2, toks := tk + 1 } :=
      I.turnedNew (ch := [e, it]) (fun b ob hb q => (sb.2 b fun z => hb (by simp [z])).trans (hk b ob (fun z => hb (by simp [z])) (fun z => hb (by simp [z])) q)) hf (Nat.le_refl _) nw
    refine ⟨.ref s.heap.objs.size, _, J, rfl, ⟨_, x, rfl, I.hok.fresh (Nat.le_refl _), rfl, fun ys hy => by rw [I.tuple_inj hy hq]; exact hx⟩, ⟨⟨u', ?_⟩, hit'.1.at fun o q => (sb.2 it hne.symm).trans q, hne⟩, fun b hb => ?_⟩
    · rw [show ((i + 1 : Nat) : Int) = (i : Int) + 1 by omega]
      exact he'
    · have bl : b < s.heap.objs.size := by
        rcases List.mem_cons.mp hb with z | z
        · rw [z]; exact el
        · rw [List.mem_singleton.mp z]; exact il
      rw [upd_ne (Nat.ne_of_lt bl)]
      exact (hf b hb).1
  done := by
    intro X hP hw hK hc i pins s σ H E I hf st hg
    subst hP hw hK
    obtain ⟨⟨old, he⟩, hit, hne⟩ := st
    obtain ⟨xs, hq, hx⟩ := hg
    obtain ⟨its, rv, p, hz⟩ := I.tuple hq
    obtain ⟨f0, f1, f2, f3, f4, f5⟩ := hf it (by simp)
    have hl := rv.length
    have over : its.toArray[i]? = none := by
      simp
      omega
    exact EnT.en_end (I.ok.hd hc) he hit p over fun h' eb => ⟨rfl, I.turned (t' := s.toks) (fun b o hb q => eb b o hb q) f0 f1 f3 f4 f5⟩
  self := fun A i s Q E st h => let ⟨⟨_, x1⟩, _⟩ := st; wpAny_pyIter_enum x1 h
def iEnT (K : PySem.W.Frag) (ta : TA) : TI := fun σ H R => ta σ H fun vs H1 => ∃ a xs, vs = [.ref a] ∧ SqT K H1 a xs ∧ R (Itu K a) H1
theorem pi_enT {X : Cx} {e : Expr} {ta : TA} {p pos tpos : Pos} {elts : List Expr} {kk : Nat} (hg : Gl X "enumerate") (hm : X.mg "enumerate" = none) (ha : PA X [e] ta) (hs : starEach [e] X.env = [(false, eval e X.env)] := by rfl) :
    PI X (.Tuple elts kk tpos) (.Call (.Name "enumerate" p) [e] [] pos) (iEnT X.K ta) := by
  constructor
  intro pins s σ H R I h
  refine Call_ (ld_blt I hg hm boot_enumerate (PyProof.Rows.callWith_type1 (thn (ha.run pos pins s σ H _ I h) ?_) hs rfl))
  rintro us s1 ⟨vs, H1, I1, r1, a, xs, rfl, hq, q⟩
  cases r1 with
  | cons r rr =>
    cases rr
    cases r
    obtain ⟨its, rv, ht, hz⟩ := I1.tuple hq
    refine EnT.en_begins (begins_tuple a its.toArray) ht fun h' he hi hsz hk => wpAny_pyIter_enum he ?_
    refine ⟨s1.heap.objs.size + 1, [s1.heap.objs.size + 1, s1.heap.objs.size], _, _, H1, rfl, I1.kept (t' := s1.toks) hk, turn_enT a (s1.heap.objs.size + 1) s1.heap.objs.size, ⟨⟨.none, he⟩, ⟨_, hi, rfl, rfl⟩, Nat.succ_ne_self _⟩, fun b hb => ?_, q⟩
    have hle : s1.heap.objs.size ≤ b := by
      rcases List.mem_cons.mp hb with z | z
      · rw [z]; omega
      · rw [List.mem_singleton.mp z]; exact Nat.le_refl _
    exact I1.fpOk hle (I1.hok.fresh hle)
theorem walk_enT {K : PySem.W.Frag} {a : Addr} {xs : List V} : Walk (Itu K a) xs.length (fun H => SqT K H a xs) (YPair (fun i => some (.int (i : Nat))) (fun i => xs[i]?)) := by
  refine ⟨fun i _ hi q => ⟨xs, xs[i], q, by simp [hi]⟩, fun _ q => ⟨xs, q, Nat.le_refl _⟩, ?_⟩
  rintro i H v H' _ q ⟨T, x, e1, e2, e3, e4⟩
  exact ⟨T, .int (i : Nat), x, e1, e2, e3, rfl, e4 xs q⟩
end Kx
namespace Kx
open PySem PySem.Spec PyProof.Rows L2
/-! ### data that can be shown -/
/-- data of depth l at most whose text has c signs at most -/
structure Fn (l c : Nat) (d : PyData) : Prop where
  lay : d.canLay0 = true
  dep : d.depth ≤ l
  sh : d.showable = true
  len : d.shown.length ≤ c
theorem Fn.shaped {l c : Nat} {d : PyData} (f : Fn l c d) (h : l ≤ 64) : SeqAt.shaped d = true := by
  unfold SeqAt.shaped
  rw [f.lay, decide_eq_true (Nat.le_trans f.dep h)]
  rfl
theorem Fn.int {i : Int} {k : Nat} (hk : 0 < k) (h8 : k ≤ 1920) (h : Lt2 k i) : Fn 1 (k + 1) (.int i) := by
  have hl : i.natAbs.log2 < k := PySem.Flt.log2_lt_of hk h
  refine ⟨rfl, by simp [PyData.depth], ?_, ?_⟩
  · simp only [PyData.showable, decide_eq_true_eq]
    omega
  · show (Str.ofString (toString i)).length ≤ k + 1
    rw [PySem.ofString_length]
    exact int_text_length_le hk hl
theorem Fn.non : Fn 1 4 .none := ⟨rfl, by simp [PyData.depth], rfl, Nat.le_of_eq rfl⟩
theorem Fn.mono {l l' c c' : Nat} {d : PyData} (f : Fn l c d) (h1 : l ≤ l') (h2 : c ≤ c') : Fn l' c' d := ⟨f.lay, Nat.le_trans f.dep h1, f.sh, Nat.le_trans f.len h2⟩
theorem fn_all {l c : Nat} : ∀ {ds : List PyData}, (∀ d ∈ ds, Fn l c d) → PyData.canLayAll0 ds = true ∧ PyData.depthAll ds ≤ l ∧ PyData.showableAll ds = true ∧ ((PyData.shownAll ds).map (·.length)).sum ≤ ds.length * c
  | [], _ => ⟨by simp only [PyData.canLayAll0], by simp [PyData.depthAll], by simp only [PyData.showableAll], by simp [PyData.shownAll]⟩
  | d :: ds, h => by
    obtain ⟨a1, a2, a3, a4⟩ := fn_all fun x hx => h x (List.mem_cons_of_mem _ hx)
    have f := h d List.mem_cons_self
    have fd := f.dep
    have fl := f.len
    refine ⟨by simp only [PyData.canLayAll0, f.lay, a1, Bool.and_self], by simp only [PyData.depthAll]; omega, by simp only [PyData.showableAll, f.sh, a3, Bool.and_self], ?_⟩
    simp only [PyData.shownAll, List.map_cons, List.sum_cons, List.length_cons, Nat.add_mul, Nat.one_mul]
    omega
theorem Fn.tup {l c : Nat} {ds : List PyData} (h : ∀ d ∈ ds, Fn l c d) : Fn (l + 1) (ds.length * (c + 2) + 3) (.tuple ds) := by
  obtain ⟨a1, a2, a3, a4⟩ := fn_all h
  refine ⟨by simpa only [PyData.canLay0] using a1, by simp only [PyData.depth]; omega, by simpa only [PyData.showable] using a3, ?_⟩
  have h2 := tupleText_len_le (PyData.shownAll ds)
  have h3 := PyData.shownAll_length ds
  simp only [PyData.shown]
  rw [Nat.mul_add]
  omega
theorem Fn.lst {l c : Nat} {ds : List PyData} (h : ∀ d ∈ ds, Fn l c d) : Fn (l + 1) (ds.length * (c + 2) + 3) (.list ds) := by
  obtain ⟨a1, a2, a3, a4⟩ := fn_all h
  refine ⟨by simpa only [PyData.canLay0] using a1, by simp only [PyData.depth]; omega, by simpa only [PyData.showable] using a3, ?_⟩
  have h2 := listText_len_le (PyData.shownAll ds)
  have h3 := PyData.shownAll_length ds
  simp only [PyData.shown]
  rw [Nat.mul_add]
  omega
/-- how long the text of a polynomial is: m exponents of ke bits, numbers of kc bits -/
def polyC (n m ke kc : Nat) : Nat := n * (2 * (m * (ke + 3) + 3 + (kc + 1) + 2) + 3 + 2) + 3
theorem fn_mono {m ke : Nat} {e : List Int} (hk : 0 < ke) (h8 : ke ≤ 1920) (hl : e.length = m) (h : ∀ x ∈ e, Lt2 ke x) : Fn 2 (m * (ke + 3) + 3) (monoD e) := by
  have f := Fn.tup (l := 1) (c := ke + 1) (ds := e.map PyData.int) fun d hd => by
    obtain ⟨x, hx, rfl⟩ := List.mem_map.mp hd
    exact Fn.int hk h8 (h x hx)
  rw [List.length_map, hl] at f
  exact f
theorem fn_term {m ke kc : Nat} {t : List Int × Int} (hk : 0 < ke) (h8 : ke ≤ 1920) (ck : 0 < kc) (c8 : kc ≤ 1920) (hl : t.1.length = m) (h : ∀ x ∈ t.1, Lt2 ke x) (hc : Lt2 kc t.2) : Fn 3 (2 * (m * (ke + 3) + 3 + (kc + 1) + 2) + 3) (termD t) := by
  refine Fn.tup (l := 2) (c := m * (ke + 3) + 3 + (kc + 1)) (ds := [monoD t.1, .int t.2]) fun d hd => ?_
  simp only [List.mem_cons, List.not_mem_nil, or_false] at hd
  rcases hd with z | z
  · rw [z]
    exact (fn_mono hk h8 hl h).mono (Nat.le_refl _) (by omega)
  · rw [z]
    exact (Fn.int ck c8 hc).mono (by decide) (by omega)
theorem fn_poly {m ke kc : Nat} {p : Poly} (hk : 0 < ke) (h8 : ke ≤ 1920) (ck : 0 < kc) (c8 : kc ≤ 1920) (c : Canon m p) (h : ∀ t ∈ p, ∀ x ∈ t.1, Lt2 ke x) (hc : ∀ t ∈ p, Lt2 kc t.2) : Fn 4 (polyC p.length m ke kc) (polyD p) := by
  have f := Fn.tup (l := 3) (c := 2 * (m * (ke + 3) + 3 + (kc + 1) + 2) + 3) (ds := p.map termD) fun d hd => by
    obtain ⟨t, ht, rfl⟩ := List.mem_map.mp hd
    exact fn_term hk h8 ck c8 (c.len t ht) (h t ht) (hc t ht)
  rw [List.length_map] at f
  exact f
theorem polyC_mono {n n' m m' ke ke' kc kc' : Nat} (h1 : n ≤ n') (h2 : m ≤ m') (h3 : ke ≤ ke') (h4 : kc ≤ kc') : polyC n m ke kc ≤ polyC n' m' ke' kc' := by
  unfold polyC
  have a : m * (ke + 3) ≤ m' * (ke' + 3) := Nat.mul_le_mul h2 (by omega)
  have b := Nat.mul_le_mul h1 (show 2 * (m * (ke + 3) + 3 + (kc + 1) + 2) + 3 + 2 ≤ 2 * (m' * (ke' + 3) + 3 + (kc' + 1) + 2) + 3 + 2 by omega)
  omega
end Kx
namespace Kx
open PySem PySem.Spec PyProof.Rows L2
/-! ### repr of any tracked data -/
section
variable {X : Cx}
/-- repr(x) -/
def rShowR : List V → Hp → VK → Prop := fun xs H Q => ∃ (v : V) (d : PyData), xs = [v] ∧ Dr H v d ∧ d.depth ≤ 60 ∧ d.showable = true ∧ d.shown.length ≤ sizeLine ∧ Q (.str d.shown) H
theorem call_showR (hG : X.A.guards = some []) (hu : X.A.units + 66 < cLine) : CallR X (.builtin "repr") rShowR := by
  intro pins s σ H xs us Q I r h
  obtain ⟨v, d, rfl, hd, sd, hs, hz, q⟩ := h
  obtain ⟨u, rfl, ru⟩ := vals1 r
  cases hd with
  | non =>
    cases ru
    exact PySem.P.repr_of_none ⟨.str _, H, I.tok _, ⟨_, rfl⟩, q⟩
  | bl b =>
    cases ru
    refine PySem.P.repr_of_bool ⟨.str _, H, I.tok _, ⟨_, rfl⟩, ?_⟩
    exact q
  | int i =>
    obtain ⟨t, rfl⟩ := ru
    exact PySem.P.repr_of_int (by simpa [PyData.showable] using hs) ⟨.str _, H, I.tok _, ⟨_, rfl⟩, q⟩
  | str x =>
    obtain ⟨t, rfl⟩ := ru
    exact PySem.P.repr_of_str ⟨.str _, H, I.tok _, ⟨_, rfl⟩, q⟩ (by simpa only [PyData.shown] using hz)
  | @lst a xs ds hh ha =>
    exact call_showD hG hu pins s σ H _ _ Q I r ⟨a, ds, rfl, .lst hh ha, by omega, hs, hz, q⟩
  | @tup a xs ds hh ha =>
    cases ru
    simp only [PyData.depth] at sd
    have hz' : (tupleText (PyData.shownAll ds)).length ≤ sizeLine := by simpa only [PyData.shown] using hz
    obtain ⟨its, rv, ⟨o, ho, hc, n, hdt⟩, _⟩ := I.tuple (SqT.of hh)
    obtain ⟨as, hr, bs, hb, hk⟩ := shows_all I (Dr.shows I _) ds _ its (Nat.le_refl _) ha rv (by simpa only [PyData.showable] using hs) (fun t ht => Nat.le_trans (tupleText_mem_le ht) hz')
    have rd : Reads s.heap (.ref a) (.tuple ds) _ := .tuple ho hc hdt hr
    have hna : a ∉ bs := not_mem_of_deeper rd (by simp only [PyData.depth]; omega) hb
    simp only [PyData.shown] at q
    refine call_repr_slot (by omega) ⟨o, ho, hc⟩ PySem.F.slot_tuple_repr ?_
    refine call_tuple_reprK ho hc hdt hna hk hG (fun b _ => Clear.nil b) ?_ (fun b o e => e) (fun h' u' tk k => ?_) hz'
    · show X.A.units + 1 + _ < cLine
      omega
    · exact ⟨_, _, rfl, ⟨.str _, H, I.kept k, ⟨_, rfl⟩, q⟩⟩
  | @dct a kvs ps hh hk hv =>
    cases ru
    simp only [PyData.depth] at sd
    have d1 := PyData.depthAll_keys_le ps
    have d2 := PyData.depthAll_vals_le ps
    have hz' : (dictText (PyData.shownKv ps)).length ≤ sizeLine := by simpa only [PyData.shown] using hz
    obtain ⟨hs1, hs2⟩ := PyData.showableKv_split ps (by simpa only [PyData.showable] using hs)
    have oo : ObjOk X.prog X.w H s.heap a (.dK kvs) := I.hok a _ hh
    obtain ⟨_, hsys, us', ku, o, es, ep, ho, hx, hdt, _, hp, _⟩ := oo
    have q1 := vals_fst hp
    rw [← kv_fst ku] at q1
    have q2 := kv_snd ku
    rw [← pairs_snd hp] at q2
    obtain ⟨as, r1, b1, n1, k1⟩ := shows_all I (Dr.shows I _) (ps.map (·.1)) _ _ (Nat.le_refl _) hk q1 hs1 (fun t ht => let ⟨p, hp, hl⟩ := PyData.shownKv_key_le ps t ht; Nat.le_trans hl (Nat.le_trans (dictText_mem_le hp) hz'))
    obtain ⟨bs, r2, b2, n2, k2⟩ := shows_all I (Dr.shows I _) (ps.map (·.2)) _ _ (Nat.le_refl _) hv q2 hs2 (fun t ht => let ⟨p, hp, hl⟩ := PyData.shownKv_val_le ps t ht; Nat.le_trans hl (Nat.le_trans (dictText_mem_le hp) hz'))
    have rd : Reads s.heap (.ref a) (.dict ps) _ := .dict ho hx.1 hdt r1 r2
    have hb : ReadAtMost s.heap (PyData.depthKv ps) (b1 ++ b2) := (n1.mono d1).append (n2.mono d2)
    have hna : a ∉ b1 ++ b2 := not_mem_of_deeper rd (by simp only [PyData.depth]; omega) hb
    simp only [PyData.shown, PyData.shownKv_eq] at q
    refine call_repr_slot (by omega) ⟨o, ho, hx.1⟩ PySem.F.slot_dict_repr ?_
    refine call_dict_reprK ho hx.1 hdt hsys hna (ReprEntriesK.of_two es.toList _ _ (k1.more_le (fun b z => List.mem_append_left _ z) d1) (k2.more_le (fun b z => List.mem_append_right _ z) d2)) hG (fun b _ => Clear.nil b) ?_ (fun b o e => e) (fun h' u' tk k => ?_) (by rw [← PyData.shownKv_eq]; exact hz')
    · show X.A.units + 1 + _ < cLine
      omega
    · exact ⟨_, _, rfl, ⟨.str _, H, I.kept k, ⟨_, rfl⟩, q⟩⟩
end
end Kx
namespace Kx
open PySem PySem.Spec PyProof.Rows L2
/-! ### the heap without the source -/
def cut (d l : Addr) (H : Hp) : Hp := fun b => if b = d ∨ b = l then none else H b
theorem cut_some {d l b : Addr} {H : Hp} {o : HO} (h : cut d l H b = some o) : H b = some o ∧ b ≠ d ∧ b ≠ l := by
  unfold cut at h
  by_cases e : b = d ∨ b = l
  · rw [if_pos e] at h
    cases h
  · rw [if_neg e] at h
    exact ⟨h, fun z => e (.inl z), fun z => e (.inr z)⟩
theorem cut_at {d l b : Addr} {H : Hp} {o : HO} (h : H b = some o) (n1 : b ≠ d) (n2 : b ≠ l) : cut d l H b = some o := by
  unfold cut
  rw [if_neg (fun z => z.elim n1 n2)]
  exact h
theorem cut_sub {d l : Addr} {H : Hp} : Same (cut d l H) H := fun _ _ h => (cut_some h).1
theorem cut_but {d l : Addr} {H H' : Hp} (B : But d l H H') : Same (cut d l H) (cut d l H') := fun b o h => let ⟨h, n1, n2⟩ := cut_some h; cut_at (B b o h n1 n2) n1 n2
theorem cut_same {d l : Addr} {H H' : Hp} (s : Same H H') : Same (cut d l H) (cut d l H') := cut_but (But.of s)
theorem cut_new {d l p : Addr} {H : Hp} {o : HO} (S : SrcAt H d l) (hp : H p = none) : cut d l (upd H p o) p = some o := cut_at upd_same (S.nd hp).1 (S.nd hp).2
theorem cut_tup {d l p : Addr} {H : Hp} {xs : List V} (S : SrcAt H d l) (hp : H p = some (.tup xs)) : cut d l H p = some (.tup xs) := cut_at hp (S.nt hp).1 (S.nt hp).2
theorem dr_get {H : Hp} : ∀ {vs : List V} {ds : List PyData} {i : Nat} {v : V}, DrAll H vs ds → vs[i]? = some v → ∃ dat, ds[i]? = some dat ∧ Dr H v dat
  | _, _, _, _, .nil, h => by simp at h
  | _, _, 0, _, .cons x t, h => by
    simp at h
    subst h
    exact ⟨_, rfl, x⟩
  | _, _, i + 1, _, .cons x t, h => by
    obtain ⟨dat, h1, h2⟩ := dr_get (i := i) t (by simpa using h)
    exact ⟨dat, by simpa using h1, h2⟩
theorem dr_len {H : Hp} : ∀ {vs : List V} {ds : List PyData}, DrAll H vs ds → vs.length = ds.length
  | _, _, .nil => rfl
  | _, _, .cons _ t => congrArg Nat.succ (dr_len t)
theorem dr_ints {H : Hp} : ∀ ns : List Int, DrAll H (ns.map V.int) (ns.map PyData.int)
  | [] => .nil
  | n :: ns => .cons (.int n) (dr_ints ns)
theorem dr_app {H : Hp} : ∀ {vs ws : List V} {ds es : List PyData}, DrAll H vs ds → DrAll H ws es → DrAll H (vs ++ ws) (ds ++ es)
  | _, _, _, _, .nil, h => h
  | _, _, _, _, .cons x t, h => .cons x (dr_app t h)
theorem dr_take {H : Hp} : ∀ (n : Nat) {vs : List V} {ds : List PyData}, DrAll H vs ds → DrAll H (vs.take n) (ds.take n)
  | 0, _, _, _ => by rw [List.take_zero, List.take_zero]; exact .nil
  | _ + 1, _, _, .nil => .nil
  | n + 1, _, _, .cons x t => .cons x (dr_take n t)
theorem dr_drop {H : Hp} : ∀ (n : Nat) {vs : List V} {ds : List PyData}, DrAll H vs ds → DrAll H (vs.drop n) (ds.drop n)
  | 0, _, _, h => h
  | _ + 1, _, _, .nil => .nil
  | n + 1, _, _, .cons x t => dr_drop n t
theorem MonoAt.dr {H : Hp} {b : Addr} {e : List Int} (h : MonoAt H b e) : Dr H (.ref b) (monoD e) := .tup h (dr_ints e)
theorem TermAt.dr {H : Hp} {b : Addr} {e : List Int × Int} (h : TermAt H b e) : Dr H (.ref b) (termD e) := let ⟨_, h1, h2⟩ := h; .tup h1 (.cons h2.dr (.cons (.int _) .nil))
theorem dr_terms {H : Hp} : ∀ {ts : List Addr} {p : Poly}, Paired (TermAt H) ts p → DrAll H (ts.map V.ref) (p.map termD)
  | _, _, .nil => .nil
  | _, _, .cons h r => .cons h.dr (dr_terms r)
theorem PolyAt.dr {H : Hp} {b : Addr} {p : Poly} (h : PolyAt H b p) : Dr H (.ref b) (polyD p) := let ⟨_, h1, h2⟩ := h; .tup h1 (dr_terms h2)
theorem MonoAt.cut {d l : Addr} {H : Hp} {b : Addr} {e : List Int} (S : SrcAt H d l) (h : MonoAt H b e) : MonoAt (cut d l H) b e := cut_tup S h
theorem TermAt.cut {d l : Addr} {H : Hp} {b : Addr} {e : List Int × Int} (S : SrcAt H d l) (h : TermAt H b e) : TermAt (Kx.cut d l H) b e := let ⟨c, h1, h2⟩ := h; ⟨c, cut_tup S h1, h2.cut S⟩
theorem PolyAt.cut {d l : Addr} {H : Hp} {b : Addr} {p : Poly} (S : SrcAt H d l) (h : PolyAt H b p) : PolyAt (Kx.cut d l H) b p := let ⟨ts, h1, h2⟩ := h; ⟨ts, cut_tup S h1, Paired.mono (fun _ _ t => t.cut S) h2⟩
/-! ### bounds of data -/
/-- data of depth k at most whose text has c signs at most -/
structure Fd (k c : Nat) (d : PyData) : Prop where
  dep : d.depth ≤ k
  sh : d.showable = true
  len : d.shown.length ≤ c
theorem Fd.mono {k k' c c' : Nat} {d : PyData} (f : Fd k c d) (h1 : k ≤ k') (h2 : c ≤ c') : Fd k' c' d := ⟨Nat.le_trans f.dep h1, f.sh, Nat.le_trans f.len h2⟩
theorem Fd.of {k c : Nat} {d : PyData} (f : Fn k c d) : Fd k c d := ⟨f.dep, f.sh, f.len⟩
def fdB (k c : Nat) (d : PyData) : Bool := decide (d.depth ≤ k) && d.showable && decide (d.shown.length ≤ c)
theorem fd_of {k c : Nat} {d : PyData} (h : fdB k c d = true) : Fd k c d := by
  unfold fdB at h
  simp only [Bool.and_eq_true, decide_eq_true_eq] at h
  exact ⟨h.1.1, h.1.2, h.2⟩
theorem fd_all {k c : Nat} : ∀ {ds : List PyData}, (∀ d ∈ ds, Fd k c d) → PyData.depthAll ds ≤ k ∧ PyData.showableAll ds = true ∧ ((PyData.shownAll ds).map (·.length)).sum ≤ ds.length * c
  | [], _ => ⟨by simp [PyData.depthAll], by simp only [PyData.showableAll], by simp [PyData.shownAll]⟩
  | d :: ds, h => by
    obtain ⟨a2, a3, a4⟩ := fd_all fun x hx => h x (List.mem_cons_of_mem _ hx)
    have f := h d List.mem_cons_self
    have f1 := f.dep
    have f2 := f.len
    refine ⟨by simp only [PyData.depthAll]; omega, by simp only [PyData.showableAll, f.sh, a3, Bool.and_self], ?_⟩
    simp only [PyData.shownAll, List.map_cons, List.sum_cons, List.length_cons, Nat.add_mul, Nat.one_mul]
    omega
theorem Fd.tup {k c : Nat} {ds : List PyData} (h : ∀ d ∈ ds, Fd k c d) : Fd (k + 1) (ds.length * (c + 2) + 3) (.tuple ds) := by
  obtain ⟨a2, a3, a4⟩ := fd_all h
  refine ⟨by simp only [PyData.depth]; omega, by simpa only [PyData.showable] using a3, ?_⟩
  have h2 := tupleText_len_le (PyData.shownAll ds)
  have h3 := PyData.shownAll_length ds
  simp only [PyData.shown]
  rw [Nat.mul_add]
  omega
theorem Fd.lst {k c : Nat} {ds : List PyData} (h : ∀ d ∈ ds, Fd k c d) : Fd (k + 1) (ds.length * (c + 2) + 3) (.list ds) := by
  obtain ⟨a2, a3, a4⟩ := fd_all h
  refine ⟨by simp only [PyData.depth]; omega, by simpa only [PyData.showable] using a3, ?_⟩
  have h2 := listText_len_le (PyData.shownAll ds)
  have h3 := PyData.shownAll_length ds
  simp only [PyData.shown]
  rw [Nat.mul_add]
  omega
/-! ### types -/
def tyN : PyData → String
  | .none => "NoneType"
  | .bool _ => "bool"
  | .int _ => "int"
  | .str _ => "str"
  | .list _ => "list"
  | .tuple _ => "tuple"
  | .dict _ => "dict"
theorem Dr.ty {K : PySem.W.Frag} {H : Hp} {v : V} {d : PyData} (h : Dr H v d) : TyX K H v (.type (tyN d)) := by
  cases h with
  | non => exact .base .non
  | bl b => exact .base (.bl b)
  | int i => exact .base (.int i)
  | str x => exact .base (.str x)
  | lst h _ => exact .base (.lst h)
  | tup h _ => exact .base (.tup h)
  | dct h _ _ => exact .base (.dK h)
def isT : PyData → Bool
  | .tuple _ => true
  | _ => false
def isI : PyData → Bool
  | .int _ => true
  | .bool _ => true
  | _ => false
def isB : PyData → Bool
  | .bool _ => true
  | _ => false
theorem kit_tup : ∀ d : PyData, kitB (tyN d) "tuple" = some (isT d)
  | .none => (by decide +kernel : kitB "NoneType" "tuple" = some false)
  | .bool _ => (by decide +kernel : kitB "bool" "tuple" = some false)
  | .int _ => (by decide +kernel : kitB "int" "tuple" = some false)
  | .str _ => (by decide +kernel : kitB "str" "tuple" = some false)
  | .list _ => (by decide +kernel : kitB "list" "tuple" = some false)
  | .tuple _ => (by decide +kernel : kitB "tuple" "tuple" = some true)
  | .dict _ => (by decide +kernel : kitB "dict" "tuple" = some false)
theorem kit_int : ∀ d : PyData, kitB (tyN d) "int" = some (isI d)
  | .none => (by decide +kernel : kitB "NoneType" "int" = some false)
  | .bool _ => (by decide +kernel : kitB "bool" "int" = some true)
  | .int _ => (by decide +kernel : kitB "int" "int" = some true)
  | .str _ => (by decide +kernel : kitB "str" "int" = some false)
  | .list _ => (by decide +kernel : kitB "list" "int" = some false)
  | .tuple _ => (by decide +kernel : kitB "tuple" "int" = some false)
  | .dict _ => (by decide +kernel : kitB "dict" "int" = some false)
theorem kit_bool : ∀ d : PyData, kitB (tyN d) "bool" = some (isB d)
  | .none => (by decide +kernel : kitB "NoneType" "bool" = some false)
  | .bool _ => (by decide +kernel : kitB "bool" "bool" = some true)
  | .int _ => (by decide +kernel : kitB "int" "bool" = some false)
  | .str _ => (by decide +kernel : kitB "str" "bool" = some false)
  | .list _ => (by decide +kernel : kitB "list" "bool" = some false)
  | .tuple _ => (by decide +kernel : kitB "tuple" "bool" = some false)
  | .dict _ => (by decide +kernel : kitB "dict" "bool" = some false)
section
variable {X : Cx}
/-- isinstance(x, T), T a built-in class, x any data -/
def rIsiD (n : String) : List V → Hp → VK → Prop := fun xs H Q => ∃ (v : V) (d : PyData) (b : Bool), xs = [v, .ty n] ∧ Dr H v d ∧ kitB (tyN d) n = some b ∧ Q (.bl b) H
theorem call_isiD (n : String) : CallR X (.builtin "isinstance") (rIsiD n) := by
  intro pins s σ H xs us Q I r h
  obtain ⟨v, d, b, rfl, hd, hk, q⟩ := h
  exact call_isi pins s σ H _ us Q I r ⟨v, .ty n, .type (tyN d), .type n, b, rfl, .ty n, hd.ty, kit_ty hk, q⟩
theorem pe_tyN {x : Str} {n : String} {pos : Pos} (hg : Gl X x) (hm : X.mg x = none) (hv : bootBuiltins x = some (.type n)) (hn : x ≠ "__name__" := by decide) (hd : (x == ("__debug__" : Str)) = false := by decide) : PE X (.Name x pos) (tC (.ty n)) := pe_bltn hg hm hv rfl hn hd
end
/-! ### which part of a polynomial is wrong -/
def numB : PyData → Bool
  | .int n => decide (0 ≤ n)
  | _ => false
def badNum : Nat → List PyData → Option Nat
  | _, [] => none
  | j, d :: ds => if numB d = true then badNum (j + 1) ds else some j
def intOf : PyData → Int
  | .int n => n
  | _ => 0
def okCoef : PyData → Bool
  | .int n => decide (n ≠ 0)
  | _ => false
/-- exponents that don't go up -/
def notUp (bf : Option (List Int)) (e : List Int) : Bool := match bf with
  | some f => !HT.lexLt f e
  | none => false
def expPath (m : Int) (bf : Option (List Int)) (b : PyData) : PyData → Option (List Int)
  | .tuple es => if (es.length : Int) = m then match badNum 0 es with
      | some j => some [0, (j : Int)]
      | none => if notUp bf (es.map intOf) = true then some [0] else if okCoef b = true then none else some [1]
    else some [0]
  | _ => some [0]
def termPath (m : Int) (bf : Option (List Int)) : PyData → Option (List Int)
  | .tuple [a, b] => expPath m bf b a
  | _ => some []
def expsOf : PyData → List Int
  | .tuple [.tuple es, _] => es.map intOf
  | _ => []
def pathFrom (m : Int) : Nat → Option (List Int) → List PyData → Option (List Int)
  | _, _, [] => none
  | k, bf, t :: ts => match termPath m bf t with
    | some p => some ((k : Int) :: p)
    | none => pathFrom m (k + 1) (some (expsOf t)) ts
def polyPath (m : Int) : PyData → Option (List Int)
  | .tuple ts => pathFrom m 0 none ts
  | _ => some []
theorem badNum_none : ∀ {es : List PyData} {j : Nat}, badNum j es = none → es = (es.map intOf).map PyData.int ∧ ∀ x ∈ es.map intOf, 0 ≤ x
  | [], _, _ => ⟨rfl, fun x hx => nomatch hx⟩
  | d :: ds, j, h => by
    unfold badNum at h
    by_cases hn : numB d = true
    · rw [if_pos hn] at h
      obtain ⟨h1, h2⟩ := badNum_none h
      cases d with
      | int n =>
        unfold numB at hn
        refine ⟨?_, fun x hx => ?_⟩
        · rw [List.map_cons, List.map_cons, ← h1]
          rfl
        · rcases List.mem_cons.mp (show x ∈ n :: ds.map intOf from hx) with z | z
          · rw [z]; exact of_decide_eq_true hn
          · exact h2 x z
      | _ => unfold numB at hn; cases hn
    · rw [if_neg hn] at h
      cases h
theorem badNum_at : ∀ {es : List PyData} {j i : Nat}, badNum j es = some i → j ≤ i ∧ i < j + es.length ∧ (∀ t, t < i - j → ∃ x, es[t]? = some x ∧ numB x = true) ∧ ∃ x, es[i - j]? = some x ∧ numB x = false
  | [], j, i, h => by cases h
  | d :: ds, j, i, h => by
    unfold badNum at h
    by_cases hn : numB d = true
    · rw [if_pos hn] at h
      obtain ⟨h1, h2, h3, h4⟩ := badNum_at h
      refine ⟨by omega, by rw [List.length_cons]; omega, fun t ht => ?_, ?_⟩
      · cases t with
        | zero => exact ⟨d, rfl, hn⟩
        | succ t =>
          obtain ⟨x, e1, e2⟩ := h3 t (by omega)
          exact ⟨x, by simpa using e1, e2⟩
      · obtain ⟨x, e1, e2⟩ := h4
        rw [show i - j = (i - (j + 1)) + 1 by omega]
        exact ⟨x, by simpa using e1, e2⟩
    · rw [if_neg hn] at h
      cases h
      refine ⟨Nat.le_refl _, by rw [List.length_cons]; omega, fun t ht => by omega, d, by simp, by simpa using hn⟩
end Kx
namespace Kx
open PySem PySem.Spec PyProof.Rows L2
def topLen : PyData → Nat
  | .tuple xs => xs.length
  | _ => 0
end Kx
namespace Kx
open PySem PySem.Spec PyProof.Rows L2
/-! ### the heap without some places -/
open Classical in
noncomputable def cutP (N : Addr → Prop) (H : Hp) : Hp := fun b => if N b then none else H b
theorem cutP_some {N : Addr → Prop} {b : Addr} {H : Hp} {o : HO} (h : cutP N H b = some o) : H b = some o ∧ ¬ N b := by
  unfold cutP at h
  by_cases e : N b
  · rw [if_pos e] at h
    cases h
  · rw [if_neg e] at h
    exact ⟨h, e⟩
theorem cutP_at {N : Addr → Prop} {b : Addr} {H : Hp} {o : HO} (h : H b = some o) (n : ¬ N b) : cutP N H b = some o := by
  unfold cutP
  rw [if_neg n]
  exact h
theorem cutP_sub {N : Addr → Prop} {H : Hp} : Same (cutP N H) H := fun _ _ h => (cutP_some h).1
theorem cutP_same {N : Addr → Prop} {H H' : Hp} (s : Same H H') : Same (cutP N H) (cutP N H') := fun b o h => cutP_at (s b o (cutP_some h).1) (cutP_some h).2
theorem cutP_but {N : Addr → Prop} {d l : Addr} {H H' : Hp} (Nd : N d) (Nl : N l) (B : But d l H H') : Same (cutP N H) (cutP N H') := fun b o h => by
  obtain ⟨h1, h2⟩ := cutP_some h
  exact cutP_at (B b o h1 (fun z => h2 (z ▸ Nd)) (fun z => h2 (z ▸ Nl))) h2
theorem cutP_less {N N' : Addr → Prop} {H : Hp} (h : ∀ b, N' b → N b) : Same (cutP N H) (cutP N' H) := fun b o e => cutP_at (cutP_some e).1 fun z => (cutP_some e).2 (h b z)
/-- what stood there, tuples apart -/
def old (H : Hp) : Addr → Prop := fun b => ∃ o, H b = some o ∧ ∀ xs, o ≠ .tup xs
theorem old_d {d l : Addr} {H : Hp} (S : SrcAt H d l) : old H d := let ⟨_, _, _, _, S⟩ := S; ⟨_, S.dc, fun xs z => by cases z⟩
theorem old_l {d l : Addr} {H : Hp} (S : SrcAt H d l) : old H l := let ⟨_, _, _, _, S⟩ := S; ⟨_, S.ls, fun xs z => by cases z⟩
theorem old_new {d l t : Addr} {H H' : Hp} (S : SrcAt H' d l) (B : But d l H H') (n : H' t = none) : ¬ old H t := fun ⟨o, e, _⟩ => by
  have y := S.nd n
  rw [B t o e y.1 y.2] at n
  cases n
theorem old_tup {d l t : Addr} {H H' : Hp} {xs : List V} (S : SrcAt H' d l) (B : But d l H H') (h : H' t = some (.tup xs)) : ¬ old H t := fun ⟨o, e, nt⟩ => by
  have y := S.nt h
  rw [B t o e y.1 y.2] at h
  exact nt xs (Option.some.inj h)
end Kx
namespace Kx
open PySem PySem.Spec PyProof.Rows L2
theorem old_sub {d l : Addr} {H H' : Hp} (S : SrcAt H' d l) (B : But d l H H') (b : Addr) (h : old H b) : old H' b := by
  by_cases e1 : b = d
  · rw [e1]; exact old_d S
  by_cases e2 : b = l
  · rw [e2]; exact old_l S
  exact let ⟨o, e, nt⟩ := h; ⟨o, B b o e e1 e2, nt⟩
end Kx
namespace Kx
open PySem PySem.Spec PyProof.Rows L2
/-! ### tuple * int, any int from 0 on -/
theorem tuple_mul1 (l : Addr) (items : Array Value) (n : Nat) (dd : Option Addr) (sl : Array (Option Value)) (u : Tok) :
    Meets (Builtin.«tuple.__mul__» ⟨[.ref l, .int 1 u], []⟩) (fun _ R s => s.heap.get? l = some { cls := .type "tuple", dict := dd, data := .seq items n, slots := sl } ∧ R (.ok (.ret (Value.ref l))) s) :=
  .of_wp fun prog w A R s h => by
    obtain ⟨hp, g, d, tk, os⟩ := s
    obtain ⟨hl, h⟩ := h
    have f1 := AutoSeq1.idx_int
    have c1 : (items.isEmpty || (1 : Int) == 1) = true := by simp
    wp_walk using wpAny_loadPart' hl
    repeat (first
      | (refine wpAny_ite_true (by rw [c1]) ?_; wp_walk using wpAny_loadPart' hl)
      | (refine wpAny_ite_false (by decide) ?_; wp_walk using wpAny_loadPart' hl))
    exact ⟨_, rfl, h⟩
theorem tuple_mul0 (l : Addr) (items : Array Value) (n : Nat) (dd : Option Addr) (sl : Array (Option Value)) (u : Tok) (hi : items.isEmpty = false) :
    Meets (Builtin.«tuple.__mul__» ⟨[.ref l, .int 0 u], []⟩) (fun _ R s => s.heap.get? l = some { cls := .type "tuple", dict := dd, data := .seq items n, slots := sl } ∧
      R (.ok (.ret (Value.ref s.heap.objs.size))) { s with heap := s.heap.push { cls := Value.type "tuple", data := Data.seq #[] }, toks := s.toks }) :=
  .of_wp fun prog w A R s h => by
    obtain ⟨hp, g, d, tk, os⟩ := s
    obtain ⟨hl, h⟩ := h
    have f1 := AutoSeq1.idx_int
    have c1 : (items.isEmpty || (0 : Int) == 1) = false := by rw [hi]; decide
    have c2 : (decide ((0 : Int) ≤ 0) || items.isEmpty) = true := by rw [hi]; decide
    wp_walk using wpAny_loadPart' hl
    repeat (first
      | (refine wpAny_ite_false (decide_eq_false (by rw [c1]; exact Bool.false_ne_true)) ?_; wp_walk using wpAny_loadPart' hl)
      | (refine wpAny_ite_true (by rw [c2]) ?_; wp_walk using wpAny_loadPart' hl)
      | (refine wpAny_ite_false (by decide) ?_; wp_walk using wpAny_loadPart' hl))
    exact ⟨_, rfl, h⟩
def rRepN (K : PySem.W.Frag) : R2 := fun x y H Q => ∃ l k xs, x = .ref l ∧ y = .int k ∧ H l = some (.tup xs) ∧ xs ≠ [] ∧ 0 ≤ k ∧ k ≤ 1000 ∧ xs.length ≤ 1000 ∧ ∀ (p : Addr) (H' : Hp), Same H H' → H' p = some (.tup (List.replicate k.toNat xs).flatten) → Q (.ref p) H'
section
variable {X : Cx}
theorem op_repN : OpR X (binaryOp .Mult) (rRepN X.K) := by
  intro pins s σ H x y v u Q I rx ry h
  obtain ⟨l, k, xs, rfl, rfl, hT0, hne, h1, h2, hz, q⟩ := h
  have hT : SqT X.K H l xs := SqT.of hT0
  have q2 : ∀ p, H p = none → Q (.ref p) (upd H p (.tup (List.replicate k.toNat xs).flatten)) := fun p hp => q p _ (same_new hp) upd_same
  by_cases k2 : 2 ≤ k
  · exact op_repT pins s σ H _ _ v u Q I rx ry ⟨l, k, xs, rfl, rfl, hT, hne, k2, h2, hz, q2⟩
  cases rx
  obtain ⟨t, rfl⟩ := ry
  obtain ⟨its, r, ⟨⟨cls, dd, data, sl⟩, ho, hc, n, hd⟩, hs⟩ := I.tuple hT
  simp only at hc hd
  subst hc hd
  have hle : its.length = xs.length := r.length.symm
  have hn : its ≠ [] := fun e => hne (by
    rw [e] at hle
    exact List.eq_nil_of_length_eq_zero hle.symm)
  have hi : its.toArray.isEmpty = false := by
    cases its with
    | nil => exact absurd rfl hn
    | cons a b => rfl
  rcases (show k = 1 ∨ k = 0 by omega) with z | z
  · subst z
    refine wpAny_binaryOp_repeat_ref (T := "tuple") (U := "int") (by decide) ⟨_, ho, rfl⟩ (fun s' => typeIs_int s' 1 t) noFill_tuple_mul F.fills_int_mul F.slot_int_rmul repeat_tuple F.slot_int_index.lookup
      (call_meets F.slot_int_rmul (typeIs_int s 1 t) F.entry_int_rmul (F.args_int_rmul_2 _ _) (int_rmul_tuple 1 t l its.toArray n dd sl)
        ⟨ho, rfl, ⟨_, ho, rfl⟩, call_meets F.slot_tuple_mul ⟨_, ho, rfl⟩ F.entry_tuple_mul (F.args_tuple_mul_2 _ _) (tuple_mul1 l its.toArray n dd sl t) ⟨ho, ?_⟩⟩)
    refine ⟨.ref l, H, I, rfl, q l H (Same.refl _) ?_⟩
    rw [hT0]
    show some (HO.tup xs) = some (HO.tup (xs ++ []))
    rw [List.append_nil]
  · subst z
    refine wpAny_binaryOp_repeat_ref (T := "tuple") (U := "int") (by decide) ⟨_, ho, rfl⟩ (fun s' => typeIs_int s' 0 t) noFill_tuple_mul F.fills_int_mul F.slot_int_rmul repeat_tuple F.slot_int_index.lookup
      (call_meets F.slot_int_rmul (typeIs_int s 0 t) F.entry_int_rmul (F.args_int_rmul_2 _ _) (int_rmul_tuple 0 t l its.toArray n dd sl)
        ⟨ho, rfl, ⟨_, ho, rfl⟩, call_meets F.slot_tuple_mul ⟨_, ho, rfl⟩ F.entry_tuple_mul (F.args_tuple_mul_2 _ _) (tuple_mul0 l its.toArray n dd sl t hi) ⟨ho, ?_⟩⟩)
    refine ⟨.ref s.heap.objs.size, _, I.laid (t' := s.toks) (o := .tup []) (fun b ob q => Heap.get?_push_of_some _ q) (Nat.le_refl _) ⟨by decide, [], .nil, IsTup.new _ _⟩, rfl, ?_⟩
    have q3 := q2 s.heap.objs.size (I.hok.fresh (Nat.le_refl _))
    exact q3
end
end Kx
namespace PySem
section
variable {prog : Program} {w : World} {K : Type} [DecidableEq K] {knd : HeapKind prog w K} {A : Around} {E : Value → Shared → Prop} {s : Shared}
theorem wpAny_Dict_pairsS {env : Env} {keys : List (Option Expr)} {values : List Expr} {pos : Pos} {pairs : List (Sem Value × Sem Value)} {Q : Value → Shared → Prop} (hu : knd.room A)
    (hshape : (evalEachOpt keys env).zip ((evalEach values env).map fun v => do let x ← v; standAt pos; pure x) = pairs.map fun p => (some p.1, p.2)) (h0 : pairs ≠ []) (hlen : pairs.length ≤ 15)
    (h : wpAny (model prog w) A (evalPairs pairs) (fun vs s₁ => ∃ ps, CarriesH knd s₁.heap vs ps ∧ s₁.heap.DictOfH knd s.heap.objs.size [] ∧
      ∀ h' tk, h'.DictOfH knd s.heap.objs.size (storedAllH [] ps) → Heap.SameBut s.heap.objs.size s₁.heap h' → Q (.ref s.heap.objs.size) { s₁ with heap := h', toks := tk }) E
      { s with heap := s.heap.push { cls := .type "dict", data := .dict #[] } }) :
    wpAny (model prog w) A (eval (.Dict keys values pos) env) Q E s := by
  rw [arm_eval_Dict, hshape, dictDisplay_pairs pairs h0 (by omega)]
  exact wpAny_bind (wpAny_standAt (wpAny_bind (wpAny_subDictH (knd := knd) (Q := fun d s' => wpAny (model prog w) A (pure (Value.ref d)) Q E s') hu hlen
    (wpAny_mono h (fun vs s₁ h₁ => by obtain ⟨ps, hc, hm, hq⟩ := h₁; exact ⟨ps, hc, hm, fun h' tk a b => wpAny_pure (hq h' tk a b)⟩) fun _ _ e => e))))
end
end PySem
namespace Kx
open PySem PySem.Spec PyProof.Rows L2
/-! ### a displayed dict, its keys tuples of ints, no key twice -/
theorem carriesT {P : Program} {w : World} {H : Hp} {h : Heap} (ok : HOk P w H h) : ∀ {L : List (Addr × (List Int × Int))} {ws : List (Value × Value)}, VV (L.map fun x => (V.ref x.1, V.int x.2.2)) ws → (∀ x ∈ L, MonoAt H x.1 x.2.1) →
    ∃ prs : List (List Key × Addr × Value), CarriesH (tupleKind (mixKind P w)) h ws prs ∧ KT H (keyed (L.map (·.2))) prs
  | [], _, r, _ => by rw [List.map_nil] at r; cases r; exact ⟨[], True.intro, .nil⟩
  | x :: L, _, r, hm => by
    rw [List.map_cons] at r
    cases r with
    | @cons a b as bs h1 t =>
      obtain ⟨prs, c, q⟩ := carriesT ok t fun y hy => hm y (List.mem_cons_of_mem _ hy)
      obtain ⟨b1, b2⟩ := b
      have m1 := hm x List.mem_cons_self
      have k1 : H x.1 = some (.tup ((key x.2.1).map kV)) := by rw [key_kV]; exact m1
      exact ⟨(key x.2.1, x.1, b2) :: prs, ⟨h1.1, rfl, key_of ok k1, c⟩, .cons ⟨rfl, k1, h1.2⟩ q⟩
def tDispT (trs : List (TE × TE)) : TE := fun σ H Q => ∀ p, H p = none → tPairs trs σ (upd H p (.dT [])) fun ps H2 => H2 p = some (.dT []) ∧ ∃ L : List (Addr × (List Int × Int)), ps = L.map (fun x => (V.ref x.1, V.int x.2.2)) ∧
  (∀ x ∈ L, MonoAt H2 x.1 x.2.1) ∧ (L.map (·.2.1)).Nodup ∧ L.length ≤ 15 ∧ Q (.ref p) (upd H2 p (.dT (keyed (L.map (·.2)))))
theorem pe_dispT {X : Cx} {pos : Pos} {keys : List (Option Expr)} {values : List Expr} {trs : List (TE × TE)} (hu : X.A.units < cLine) (h : PPs X pos keys values trs) (hall : keys.all (·.isSome) = true) (hl : keys.length = values.length) (h0 : keys ≠ [])
    (h15 : keys.length ≤ 15) : PE X (.Dict keys values pos) (tDispT trs) := by
  refine ⟨fun pins s σ H Q I q => ?_⟩
  have hn := I.hok.fresh (Nat.le_refl s.heap.objs.size)
  have I1 := I.laid (a := s.heap.objs.size) (o := .dT []) (h' := s.heap.push { cls := .type "dict", data := .dict #[] }) (t' := s.toks) (fun _ _ q => Heap.get?_push_of_some _ q) (Nat.le_refl _) (dt_empty s.heap I.big)
  have hlen := pairTrees_length keys values X.env pos hall hl
  refine PySem.wpAny_Dict_pairsS (knd := tupleKind (mixKind X.prog X.w)) (pairs := pairTrees keys values X.env pos) hu (zip_pairTrees keys values X.env pos hall hl) (fun he => ?_) (by rw [hlen]; exact h15)
    (thn (h.run pins _ σ _ _ I1 (q _ hn)) fun ws s2 ⟨ps, H2, I2, rel, e, L, ep, hm, nd, l15, q2⟩ => ?_)
  · rw [he] at hlen
    exact h0 (List.eq_nil_of_length_eq_zero hlen.symm)
  subst ep
  obtain ⟨prs, c, kt⟩ := carriesT I2.hok rel hm
  obtain ⟨z, hd, xs, r0, dd⟩ := dt_of I2.hok e
  have r0' : Paired _ ([] : List (List Key × V)) xs := r0
  cases r0'
  refine ⟨prs, c, dd, fun h' tk dd' hs => ⟨.ref s.heap.objs.size, upd H2 s.heap.objs.size (.dT (keyed (L.map (·.2)))), ?_, rfl, q2⟩⟩
  have hkeys : (prs.map (·.1)).Nodup := by
    rw [kt_keys kt]
    refine nodup_key ?_
    rw [List.map_map]
    exact nd
  rw [PySem.storedAllH_nil_of_nodup prs hkeys] at dd'
  obtain ⟨od, es, ep, g1, g2, g3, g4, g5, g6⟩ := dd'
  refine d_write I2 (by rw [e]; exact True.intro) hs ⟨_, g1⟩ (show ObjOk X.prog X.w _ _ _ (.dT (keyed (L.map (·.2)))) from ⟨?_, hd, prs, ?_, od, es, ep, g1, g2, g3, g4, g6⟩)
  · unfold keyed
    rw [List.length_map, List.length_map, sizeLine_eq]
    omega
  · refine Paired.mono (fun x y h => ⟨h.1, ?_, h.2.2⟩) (show Paired _ (keyed (L.map (·.2))) prs from kt)
    rw [upd_ne (ne_of h.2.1 e (by intro z; cases z))]
    exact h.2.1
end Kx
namespace Kx
open PySem PySem.Spec PyProof.Rows L2
/-! ### how great numbers and exponents are -/
def Bd (B : Nat) (X : Int) (p : Poly) : Prop := ∀ t ∈ p, Lt2 B t.2 ∧ ∀ x ∈ t.1, x ≤ X
theorem nodup_of {m : Nat} {p : Poly} (c : Canon m p) : (p.map (·.1)).Nodup := List.pairwise_map.mpr (c.up.imp fun h => lx_ne h)
theorem canon_coef {m : Nat} {p : Poly} (c : Canon m p) : ∀ t ∈ p, coef p t.1 = t.2 := coef_at (nodup_of c)
theorem coef_lt {m B : Nat} {p : Poly} (c : Canon m p) (h : ∀ t ∈ p, Lt2 B t.2) (e : List Int) : Lt2 B (coef p e) := by
  by_cases z : coef p e = 0
  · rw [z]
    exact Nat.two_pow_pos B
  · obtain ⟨t, ht, rfl⟩ := List.mem_map.mp (coef_mem z)
    rw [canon_coef c t ht]
    exact h t ht
theorem bd_mono {B C : Nat} {X Y : Int} {p : Poly} (h : Bd B X p) (h1 : B ≤ C) (h2 : X ≤ Y) : Bd C Y p := fun t ht => ⟨(h t ht).1.mono h1, fun x hx => Int.le_trans ((h t ht).2 x hx) h2⟩
theorem bd_of {m B : Nat} {X : Int} {s : Poly} (c : Canon m s) (h1 : ∀ e, Lt2 B (coef s e)) (h2 : ∀ e, coef s e ≠ 0 → ∀ x ∈ e, x ≤ X) : Bd B X s := fun t ht => by
  have e := canon_coef c t ht
  exact ⟨by rw [← e]; exact h1 t.1, h2 t.1 (by rw [e]; exact c.nz t ht)⟩
theorem bd_add {m B N : Nat} {X n : Int} {p q s : Poly} (cp : Canon m p) (cq : Canon m q) (cs : Canon m s) (bp : Bd B X p) (bq : Bd B X q) (hn : Lt2 N n) (h : ∀ e, coef s e = coef p e + n * coef q e) : Bd (B + N + 1) X s := by
  refine bd_of cs (fun e => ?_) fun e he => ?_
  · rw [h]
    exact Lt2.mono (((coef_lt cp (fun t ht => (bp t ht).1) e).mono (show B ≤ B + N by omega)).add ((hn.mul (coef_lt cq (fun t ht => (bq t ht).1) e)).mono (by omega))) (by omega)
  · rw [h] at he
    by_cases z : coef p e = 0
    · have z2 : coef q e ≠ 0 := fun y => he (by rw [z, y]; simp)
      obtain ⟨t, ht, rfl⟩ := List.mem_map.mp (coef_mem z2)
      exact (bq t ht).2
    · obtain ⟨t, ht, rfl⟩ := List.mem_map.mp (coef_mem z)
      exact (bp t ht).2
theorem row_mem {s t : List Int × Int} {q : Poly} (h : t ∈ row s q) : ∃ u ∈ q, t = (addE s.1 u.1, s.2 * u.2) := by
  obtain ⟨u, hu, rfl⟩ := List.mem_map.mp h
  exact ⟨u, hu, rfl⟩
theorem conv_mem {t : List Int × Int} {q : Poly} : ∀ {p : Poly}, t ∈ conv p q → ∃ s ∈ p, ∃ u ∈ q, t = (addE s.1 u.1, s.2 * u.2)
  | [], h => by cases h
  | s :: p, h => by
    rcases List.mem_append.mp (show t ∈ row s q ++ conv p q from h) with z | z
    · obtain ⟨u, hu, e⟩ := row_mem z
      exact ⟨s, List.mem_cons_self, u, hu, e⟩
    · obtain ⟨s', hs, u, hu, e⟩ := conv_mem z
      exact ⟨s', List.mem_cons_of_mem _ hs, u, hu, e⟩
theorem conv_len (q : Poly) : ∀ p : Poly, (conv p q).length = p.length * q.length
  | [] => by simp [conv]
  | s :: p => by
    show (row s q ++ conv p q).length = _
    rw [List.length_append, conv_len q p, List.length_cons, Nat.add_mul, Nat.one_mul, Nat.add_comm]
    unfold row
    rw [List.length_map]
theorem coef_abs {D : Nat} (e : List Int) : ∀ {r : Poly}, (∀ t ∈ r, Lt2 D t.2) → (coef r e).natAbs ≤ r.length * 2 ^ D
  | [], _ => Nat.zero_le _
  | t :: r, h => by
    rw [coef_cons, List.length_cons, Nat.add_mul, Nat.one_mul]
    have h1 := coef_abs e fun u hu => h u (List.mem_cons_of_mem _ hu)
    have h2 : t.2.natAbs < 2 ^ D := h t List.mem_cons_self
    generalize 2 ^ D = Z at *
    generalize r.length * Z = W at *
    split <;> omega
theorem addE_le {X Y : Int} : ∀ {a b : List Int}, (∀ x ∈ a, x ≤ X) → (∀ x ∈ b, x ≤ Y) → ∀ x ∈ addE a b, x ≤ X + Y
  | [], _, _, _, x, h => by simp [addE] at h
  | _ :: _, [], _, _, x, h => by simp [addE] at h
  | y :: a, z :: b, ha, hb, x, h => by
    have h' : x ∈ (y + z) :: addE a b := h
    rcases List.mem_cons.mp h' with e | e
    · have := ha y List.mem_cons_self
      have := hb z List.mem_cons_self
      omega
    · exact addE_le (fun u hu => ha u (List.mem_cons_of_mem _ hu)) (fun u hu => hb u (List.mem_cons_of_mem _ hu)) x e
theorem bd_mul {m B C L : Nat} {X Y : Int} {p q s : Poly} (cs : Canon m s) (bp : Bd B X p) (bq : Bd C Y q) (hl : p.length * q.length ≤ 2 ^ L) (h : ∀ e, coef s e = coef (conv p q) e) : Bd (B + C + L + 1) (X + Y) s := by
  have hm : ∀ t ∈ conv p q, Lt2 (B + C) t.2 := fun t ht => by
    obtain ⟨s', hs, u, hu, rfl⟩ := conv_mem ht
    exact (bp s' hs).1.mul (bq u hu).1
  refine bd_of cs (fun e => ?_) fun e he => ?_
  · rw [h]
    have h1 := coef_abs e hm
    rw [conv_len] at h1
    have h2 := Nat.mul_le_mul_right (2 ^ (B + C)) hl
    rw [← Nat.pow_add] at h2
    refine Nat.lt_of_le_of_lt (Nat.le_trans h1 h2) (Nat.lt_of_le_of_lt (Nat.pow_le_pow_right (by decide) (show L + (B + C) ≤ B + C + L by omega)) ?_)
    rw [Nat.pow_succ]
    have := Nat.two_pow_pos (B + C + L)
    omega
  · rw [h] at he
    obtain ⟨t, ht, rfl⟩ := List.mem_map.mp (coef_mem he)
    obtain ⟨s', hs, u, hu, rfl⟩ := conv_mem ht
    exact addE_le (bp s' hs).2 (bq u hu).2
theorem lt2_of {x X : Int} {ke : Nat} (h0 : 0 ≤ x) (h1 : x ≤ X) (h2 : X.natAbs < 2 ^ ke) : Lt2 ke x := Nat.lt_of_le_of_lt (by omega) h2
theorem bd_fn {m n mm B ke : Nat} {X : Int} {p : Poly} (c : Canon m p) (b : Bd B X p) (hX : X.natAbs < 2 ^ ke) (hk : 0 < ke) (h8 : ke ≤ 1920) (B0 : 0 < B) (B8 : B ≤ 1920) (hl : p.length ≤ n) (hm : m ≤ mm) : Fn 4 (polyC n mm ke B) (polyD p) :=
  (fn_poly hk h8 B0 B8 c (fun t ht x hx => lt2_of (c.nn t ht x hx) ((b t ht).2 x hx) hX) fun t ht => (b t ht).1).mono (Nat.le_refl _) (polyC_mono hl hm (Nat.le_refl _) (Nat.le_refl _))

/-! ### the one form of any list of terms -/
def insP (t : List Int × Int) : Poly → Poly
  | [] => if t.2 = 0 then [] else [t]
  | s :: p => if HT.lexLt t.1 s.1 = true then (if t.2 = 0 then s :: p else t :: s :: p) else if t.1 = s.1 then (if t.2 + s.2 = 0 then p else (s.1, t.2 + s.2) :: p) else s :: insP t p
def norm (r : Poly) : Poly := r.foldr insP []
theorem coef_ins (t : List Int × Int) (e : List Int) : ∀ p : Poly, coef (insP t p) e = (if t.1 = e then t.2 else 0) + coef p e
  | [] => by
    unfold insP
    by_cases h : t.2 = 0
    · rw [if_pos h, h, coef_nil]
      split <;> rfl
    · rw [if_neg h, coef_cons]
  | s :: p => by
    unfold insP
    by_cases h1 : HT.lexLt t.1 s.1 = true
    · rw [if_pos h1]
      by_cases h : t.2 = 0
      · rw [if_pos h, h]
        split <;> simp
      · rw [if_neg h, coef_cons]
    · rw [if_neg h1]
      by_cases h2 : t.1 = s.1
      · rw [if_pos h2]
        by_cases h : t.2 + s.2 = 0
        · rw [if_pos h, coef_cons, h2]
          by_cases h3 : s.1 = e
          · rw [if_pos h3, if_pos h3]
            omega
          · rw [if_neg h3, if_neg h3]
            omega
        · rw [if_neg h, coef_cons, coef_cons, h2]
          by_cases h3 : s.1 = e
          · rw [if_pos h3, if_pos h3, if_pos h3]
            omega
          · rw [if_neg h3, if_neg h3, if_neg h3]
            omega
      · rw [if_neg h2, coef_cons, coef_cons, coef_ins t e p]
        omega
theorem coef_norm (e : List Int) : ∀ r : Poly, coef (norm r) e = coef r e
  | [] => rfl
  | t :: r => by
    show coef (insP t (norm r)) e = _
    rw [coef_ins, coef_norm e r, coef_cons]
theorem ins_mem {t u : List Int × Int} : ∀ {p : Poly}, u ∈ insP t p → u.1 = t.1 ∨ u ∈ p
  | [], h => by
    unfold insP at h
    split at h
    · cases h
    · exact .inl (by rw [List.mem_singleton.mp h])
  | s :: p, h => by
    unfold insP at h
    split at h
    · split at h
      · exact .inr h
      · rcases List.mem_cons.mp h with z | z
        · exact .inl (by rw [z])
        · exact .inr z
    · split at h
      · rename_i h2
        split at h
        · exact .inr (List.mem_cons_of_mem _ h)
        · rcases List.mem_cons.mp h with z | z
          · exact .inl (by rw [z]; exact h2.symm)
          · exact .inr (List.mem_cons_of_mem _ z)
      · rcases List.mem_cons.mp h with z | z
        · exact .inr (by rw [z]; exact List.mem_cons_self)
        · rcases ins_mem z with y | y
          · exact .inl y
          · exact .inr (List.mem_cons_of_mem _ y)
theorem ins_canon {m : Nat} {t : List Int × Int} (hl : t.1.length = m) (hn : ∀ x ∈ t.1, 0 ≤ x) : ∀ {p : Poly}, Canon m p → Canon m (insP t p)
  | [], _ => by
    unfold insP
    by_cases h : t.2 = 0
    · rw [if_pos h]; exact .nil
    · rw [if_neg h]
      exact ⟨fun u hu => by rw [List.mem_singleton.mp hu]; exact hl, fun u hu => by rw [List.mem_singleton.mp hu]; exact hn, fun u hu => by rw [List.mem_singleton.mp hu]; exact h, List.pairwise_singleton _ _⟩
  | s :: p, c => by
    have up := List.pairwise_cons.mp c.up
    unfold insP
    by_cases h1 : HT.lexLt t.1 s.1 = true
    · rw [if_pos h1]
      by_cases h : t.2 = 0
      · rw [if_pos h]; exact c
      · rw [if_neg h]
        refine ⟨fun u hu => ?_, fun u hu => ?_, fun u hu => ?_, List.pairwise_cons.mpr ⟨fun u hu => ?_, c.up⟩⟩
        · rcases List.mem_cons.mp hu with z | z
          · rw [z]; exact hl
          · exact c.len u z
        · rcases List.mem_cons.mp hu with z | z
          · rw [z]; exact hn
          · exact c.nn u z
        · rcases List.mem_cons.mp hu with z | z
          · rw [z]; exact h
          · exact c.nz u z
        · rcases List.mem_cons.mp hu with z | z
          · rw [z]; exact h1
          · exact lx_trans h1 (up.1 u z)
    · rw [if_neg h1]
      by_cases h2 : t.1 = s.1
      · rw [if_pos h2]
        by_cases h : t.2 + s.2 = 0
        · rw [if_pos h]; exact c.tail
        · rw [if_neg h]
          refine ⟨fun u hu => ?_, fun u hu => ?_, fun u hu => ?_, List.pairwise_cons.mpr ⟨fun u hu => up.1 u hu, up.2⟩⟩
          · rcases List.mem_cons.mp hu with z | z
            · rw [z]; exact c.len s List.mem_cons_self
            · exact c.tail.len u z
          · rcases List.mem_cons.mp hu with z | z
            · rw [z]; exact c.nn s List.mem_cons_self
            · exact c.tail.nn u z
          · rcases List.mem_cons.mp hu with z | z
            · rw [z]; exact h
            · exact c.tail.nz u z
      · rw [if_neg h2]
        have ih := ins_canon hl hn c.tail
        have lt : HT.lexLt s.1 t.1 = true := by
          rcases lx_cases (a := t.1) (b := s.1) (hl.trans (c.len s List.mem_cons_self).symm) with z | z | z
          · exact absurd z h1
          · exact absurd z h2
          · exact z
        refine ⟨fun u hu => ?_, fun u hu => ?_, fun u hu => ?_, List.pairwise_cons.mpr ⟨fun u hu => ?_, ih.up⟩⟩
        · rcases List.mem_cons.mp hu with z | z
          · rw [z]; exact c.len s List.mem_cons_self
          · exact ih.len u z
        · rcases List.mem_cons.mp hu with z | z
          · rw [z]; exact c.nn s List.mem_cons_self
          · exact ih.nn u z
        · rcases List.mem_cons.mp hu with z | z
          · rw [z]; exact c.nz s List.mem_cons_self
          · exact ih.nz u z
        · rcases ins_mem hu with z | z
          · rw [z]; exact lt
          · exact up.1 u z
theorem norm_canon {m : Nat} : ∀ {r : Poly}, (∀ t ∈ r, t.1.length = m ∧ ∀ x ∈ t.1, 0 ≤ x) → Canon m (norm r)
  | [], _ => .nil
  | t :: r, h => ins_canon (h t List.mem_cons_self).1 (h t List.mem_cons_self).2 (norm_canon fun u hu => h u (List.mem_cons_of_mem _ hu))
theorem conv_ok {m : Nat} {p q : Poly} (cp : Canon m p) (cq : Canon m q) : ∀ t ∈ conv p q, t.1.length = m ∧ ∀ x ∈ t.1, 0 ≤ x := fun t ht => by
  obtain ⟨s, hs, u, hu, rfl⟩ := conv_mem ht
  exact ⟨addE_len (cp.len s hs) (cq.len u hu), addE_nn (cp.nn s hs) (cq.nn u hu)⟩
/-- a power, as the law makes it -/
def pwP (m : Nat) (q : Poly) : Nat → Poly
  | 0 => [(List.replicate m 0, 1)]
  | k + 1 => norm (conv (pwP m q k) q)
theorem one_canon (m : Nat) (n : Int) (h : n ≠ 0) : Canon m [(List.replicate m 0, n)] :=
  ⟨fun u hu => by rw [List.mem_singleton.mp hu]; simp, fun u hu x hx => by
    rw [List.mem_singleton.mp hu] at hx
    rw [List.eq_of_mem_replicate hx]
    decide, fun u hu => by rw [List.mem_singleton.mp hu]; exact h, List.pairwise_singleton _ _⟩
theorem pw_canon {m : Nat} {q : Poly} (c : Canon m q) : ∀ k, Canon m (pwP m q k)
  | 0 => one_canon m 1 (by decide)
  | k + 1 => norm_canon (conv_ok (pw_canon c k) c)
end Kx
namespace Kx
open PySem PySem.Spec PyProof.Rows L2
/-! ### what the program's polynomials promise -/
structure PIn (m : Nat) (p : Poly) : Prop where
  c : Canon m p
  b : Bd 1000 1000 p
  l : p.length ≤ 3000
def spP2 (ok : Poly → Poly → Prop) (out : Poly → Poly → List Int → Int) : Sp := fun vs H Q _ => ∃ (a b : Addr) (p q : Poly) (m : Nat), vs = [.ref a, .ref b] ∧ PolyAt H a p ∧ PolyAt H b q ∧ m ≤ 10 ∧ PIn m p ∧ PIn m q ∧ ok p q ∧
  ∀ (r : Addr) (s : Poly) (H' : Hp), Canon m s → (∀ e, coef s e = out p q e) → Same H H' → PolyAt H' r s → Q (.ref r) H'
def outSum (p q : Poly) (e : List Int) : Int := coef p e + coef q e
def outLess (p q : Poly) (e : List Int) : Int := coef p e - coef q e
def outTimes (p q : Poly) (e : List Int) : Int := coef (conv p q) e
def okAny (_ _ : Poly) : Prop := True
def okTimes (p q : Poly) : Prop := p.length * q.length ≤ 10000
def spPBy : Sp := fun vs H Q _ => ∃ (a : Addr) (p : Poly) (m : Nat) (n : Int), vs = [.ref a, .int n] ∧ PolyAt H a p ∧ m ≤ 10 ∧ PIn m p ∧ Lt2 1000 n ∧
  ∀ (r : Addr) (s : Poly) (H' : Hp), Canon m s → (∀ e, coef s e = n * coef p e) → Same H H' → PolyAt H' r s → Q (.ref r) H'
def spPPower : Sp := fun vs H Q _ => ∃ (a : Addr) (p : Poly) (m n : Int), vs = [.int m, .ref a, .int n] ∧ PolyAt H a p ∧ 0 ≤ m ∧ m ≤ 10 ∧ Canon m.toNat p ∧ Bd 100 50 p ∧ 0 ≤ n ∧ n ≤ 20 ∧ p.length ^ n.toNat ≤ 3000 ∧
  ∀ (r : Addr) (H' : Hp), Same H H' → PolyAt H' r (pwP m.toNat p n.toNat) → Q (.ref r) H'
def constP (m : Nat) (n : Int) : Poly := if n = 0 then [] else [(List.replicate m 0, n)]
def unitE (m k : Nat) : List Int := (List.range m).map fun j => if j = k then 1 else 0
def spPConst : Sp := fun vs H Q _ => ∃ m n : Int, vs = [.int m, .int n] ∧ 0 ≤ m ∧ m ≤ 10 ∧ Lt2 1000 n ∧ ∀ (r : Addr) (H' : Hp), Same H H' → PolyAt H' r (constP m.toNat n) → Q (.ref r) H'
def spPUnknown : Sp := fun vs H Q _ => ∃ m k : Int, vs = [.int m, .int k] ∧ 0 ≤ k ∧ k < m ∧ m ≤ 10 ∧ ∀ (r : Addr) (H' : Hp), Same H H' → PolyAt H' r [(unitE m.toNat k.toNat, 1)] → Q (.ref r) H'
theorem ins_len (t : List Int × Int) : ∀ p : Poly, (insP t p).length ≤ p.length + 1
  | [] => by unfold insP; split <;> simp
  | s :: p => by
    have ih := ins_len t p
    unfold insP
    split
    · split <;> simp
    · split
      · split
        · rw [List.length_cons]; omega
        · simp
      · simp only [List.length_cons]
        omega
theorem norm_len : ∀ r : Poly, (norm r).length ≤ r.length
  | [] => Nat.le_refl _
  | t :: r => by
    have h1 := ins_len t (norm r)
    have h2 := norm_len r
    show (insP t (norm r)).length ≤ _
    rw [List.length_cons]
    omega
theorem app_ok {m : Nat} {p q : Poly} (n : Int) (cp : Canon m p) (cq : Canon m q) : ∀ t ∈ p ++ sc n q, t.1.length = m ∧ ∀ x ∈ t.1, 0 ≤ x := fun t ht => by
  rcases List.mem_append.mp ht with z | z
  · exact ⟨cp.len t z, cp.nn t z⟩
  · obtain ⟨u, hu, rfl⟩ := List.mem_map.mp z
    exact ⟨cq.len u hu, cq.nn u hu⟩
/-- p + n q, n q being some multiples -/
def lin (p : Poly) (n : Int) (q : Poly) : Poly := norm (p ++ sc n q)
def mulP (p q : Poly) : Poly := norm (conv p q)
theorem lin_canon {m : Nat} {p q : Poly} (n : Int) (cp : Canon m p) (cq : Canon m q) : Canon m (lin p n q) := norm_canon (app_ok n cp cq)
theorem mulP_canon {m : Nat} {p q : Poly} (cp : Canon m p) (cq : Canon m q) : Canon m (mulP p q) := norm_canon (conv_ok cp cq)
theorem coef_lin (p : Poly) (n : Int) (q : Poly) (e : List Int) : coef (lin p n q) e = coef p e + n * coef q e := by
  unfold lin
  rw [coef_norm, coef_app]
  congr 1
  exact ev_sc n _ q
theorem coef_mulP (p q : Poly) (e : List Int) : coef (mulP p q) e = coef (conv p q) e := coef_norm e _
theorem lin_len (p : Poly) (n : Int) (q : Poly) : (lin p n q).length ≤ p.length + q.length := by
  have := norm_len (p ++ sc n q)
  rw [List.length_append] at this
  unfold sc at this
  rw [List.length_map] at this
  exact this
theorem mulP_len (p q : Poly) : (mulP p q).length ≤ p.length * q.length := by
  have := norm_len (conv p q)
  rw [conv_len] at this
  exact this
theorem lin_bd {m B N : Nat} {X n : Int} {p q : Poly} (cp : Canon m p) (cq : Canon m q) (bp : Bd B X p) (bq : Bd B X q) (hn : Lt2 N n) : Bd (B + N + 1) X (lin p n q) := bd_add cp cq (lin_canon n cp cq) bp bq hn (coef_lin p n q)
theorem mulP_bd {m B C L : Nat} {X Y : Int} {p q : Poly} (cp : Canon m p) (cq : Canon m q) (bp : Bd B X p) (bq : Bd C Y q) (hl : p.length * q.length ≤ 2 ^ L) : Bd (B + C + L + 1) (X + Y) (mulP p q) := bd_mul (mulP_canon cp cq) bp bq hl (coef_mulP p q)
end Kx
namespace Kx
open PySem PySem.Spec PyProof.Rows L2
theorem iteF' {c : Bool} {A B : Prop} (e : c = false) (h : B) : if c = true then A else B := by rw [e]; exact iteF h
theorem iteT' {c : Bool} {A B : Prop} (e : c = true) (h : A) : if c = true then A else B := by rw [e]; exact iteT h
theorem strF {a b : Str} (h : a = b) : (!decide (V.str a = V.str b)) = false := by
  rw [h, decide_eq_true rfl]
  rfl
theorem intF {a b : Int} (h : a = b) : (!decide (V.int a = V.int b)) = false := by
  rw [h, decide_eq_true rfl]
  rfl
/-- a polynomial whose text is short enough -/
structure Shw (m : Nat) (p : Poly) : Prop where
  c : Canon m p
  b : Bd 400 200 p
  l : p.length ≤ 3000
  m4 : m ≤ 4
def C0 : Nat := polyC 3000 4 8 400
theorem Shw.fn {m : Nat} {p : Poly} (s : Shw m p) : Fn 4 C0 (polyD p) := bd_fn s.c s.b (by decide) (by decide) (by decide) (by decide) (by decide) s.l s.m4
theorem C0_fit : 5 * (C0 + 2) + 3 ≤ sizeLine := by
  rw [sizeLine_eq]
  decide +kernel
section
variable {K : PySem.W.Frag} {H : Hp} {t : Addr} {xs : List V} {ds : List PyData}
/-- repr of a list of at most five polynomials -/
theorem show_lst (h : H t = some (.lst xs)) (dp : DpAll K H xs ds) (fn : ∀ d ∈ ds, Fn 4 C0 d) (h5 : ds.length ≤ 5) : Dp K H (.ref t) (.list ds) ∧ SeqAt.shaped (.list ds) = true ∧ (PyData.list ds).showable = true ∧ (PyData.list ds).shown.length ≤ sizeLine := by
  have f := Fn.lst fn
  exact ⟨.lst (SqL.of h) dp, f.shaped (by decide), f.sh, Nat.le_trans f.len (Nat.le_trans (Nat.add_le_add_right (Nat.mul_le_mul_right _ h5) 3) C0_fit)⟩
/-- repr of a polynomial -/
theorem show_poly {m : Nat} {p : Poly} (h : PolyAt H t p) (s : Shw m p) : Dp K H (.ref t) (polyD p) ∧ SeqAt.shaped (polyD p) = true ∧ (polyD p).showable = true ∧ (polyD p).shown.length ≤ sizeLine :=
  ⟨h.dp, s.fn.shaped (by decide), s.fn.sh, Nat.le_trans s.fn.len (Nat.le_trans (show C0 ≤ 5 * (C0 + 2) + 3 by omega) C0_fit)⟩
end
/-- what is drawn -/
structure Drn (m : Nat) (p : Poly) : Prop where
  c : Canon m p
  b : Bd 67 6 p
  l : p.length ≤ 7
  m4 : m ≤ 4
theorem Drn.shw {m : Nat} {p : Poly} (d : Drn m p) : Shw m p := ⟨d.c, bd_mono d.b (by decide) (by decide), Nat.le_trans d.l (by decide), d.m4⟩
theorem Drn.pin {m : Nat} {p : Poly} (d : Drn m p) : PIn m p := ⟨d.c, bd_mono d.b (by decide) (by decide), Nat.le_trans d.l (by decide)⟩
theorem Shw.pin {m : Nat} {p : Poly} (d : Shw m p) : PIn m p := ⟨d.c, bd_mono d.b (by decide) (by decide), d.l⟩
theorem drn_of {m : Nat} {sz : Int} {p : Poly} (h4 : m ≤ 4) (c : Canon m p) (s : Small 5 sz p) (hs : sz.natAbs ≤ 100000000000000000000) (l : p.length ≤ 7) : Drn m p :=
  ⟨c, fun t ht => ⟨Nat.lt_of_le_of_lt (s t ht).1 (Nat.lt_of_le_of_lt (show 2 + sz.natAbs ≤ 100000000000000000002 by omega) (by decide)), fun x hx => (s t ht).2 x hx⟩, l, h4⟩
/-! ### the law's results -/
theorem as_lin {m : Nat} {p q s : Poly} {n : Int} (cp : Canon m p) (cq : Canon m q) (cs : Canon m s) (h : ∀ e, coef s e = coef p e + n * coef q e) : s = lin p n q := canon_ext cs (lin_canon n cp cq) fun e => (h e).trans (coef_lin p n q e).symm
theorem as_mul {m : Nat} {p q s : Poly} (cp : Canon m p) (cq : Canon m q) (cs : Canon m s) (h : ∀ e, coef s e = coef (conv p q) e) : s = mulP p q := canon_ext cs (mulP_canon cp cq) fun e => (h e).trans (coef_mulP p q e).symm
theorem lin_swap {m : Nat} {p q : Poly} (cp : Canon m p) (cq : Canon m q) : lin q 1 p = lin p 1 q := canon_ext (lin_canon 1 cq cp) (lin_canon 1 cp cq) fun e => by
  rw [coef_lin, coef_lin]
  omega
theorem mul_swap {m : Nat} {p q : Poly} (cp : Canon m p) (cq : Canon m q) : mulP q p = mulP p q := canon_ext (mulP_canon cq cp) (mulP_canon cp cq) fun e => by
  rw [coef_mulP, coef_mulP, conv_comm]
theorem ev_lin (p : Poly) (n : Int) (q : Poly) (f : List Int → Int) : ev (lin p n q) f = ev p f + n * ev q f := by
  show ev (norm (p ++ sc n q)) f = _
  rw [ev_congr (q := p ++ sc n q) fun e => coef_norm e _, ev_app, ev_sc]
theorem mul_lin {m : Nat} {p q r : Poly} (cp : Canon m p) (cq : Canon m q) (cr : Canon m r) : mulP (lin p 1 q) r = lin (mulP p r) 1 (mulP q r) :=
  canon_ext (mulP_canon (lin_canon 1 cp cq) cr) (lin_canon 1 (mulP_canon cp cr) (mulP_canon cq cr)) fun e => by
    rw [coef_mulP, coef_lin, coef_mulP, coef_mulP]
    show ev _ _ = ev _ _ + 1 * ev _ _
    rw [ev_conv, ev_conv, ev_conv, ev_lin]
theorem lt1 {n : Int} (h : n.natAbs ≤ 1) : Lt2 1 n := by
  unfold Lt2
  omega
theorem Drn.wd {m : Nat} {p : Poly} (d : Drn m p) : Wd 100000 p := fun t ht => Lt2.mono (d.b t ht).1 (Nat.le_of_ble_eq_true rfl)
theorem Drn.mulLen {m : Nat} {p q : Poly} (dp : Drn m p) (dq : Drn m q) : p.length * q.length ≤ 49 := Nat.mul_le_mul dp.l dq.l
theorem Drn.add {m : Nat} {p q : Poly} {n : Int} (dp : Drn m p) (dq : Drn m q) (hn : Lt2 41 n) : Canon m (lin p n q) ∧ Bd 109 6 (lin p n q) ∧ (lin p n q).length ≤ 14 :=
  ⟨lin_canon n dp.c dq.c, bd_mono (lin_bd dp.c dq.c dp.b dq.b hn) (by decide) (by decide), Nat.le_trans (lin_len p n q) (by have := dp.l; have := dq.l; omega)⟩
theorem Drn.nil {m : Nat} (h : m ≤ 4) : Drn m [] := ⟨.nil, (fun t ht => nomatch ht), by decide, h⟩
theorem Drn.mul {m : Nat} {p q : Poly} (dp : Drn m p) (dq : Drn m q) : Canon m (mulP p q) ∧ Bd 141 12 (mulP p q) ∧ (mulP p q).length ≤ 49 :=
  ⟨mulP_canon dp.c dq.c, bd_mono (mulP_bd (L := 6) dp.c dq.c dp.b dq.b (Nat.le_trans (dp.mulLen dq) (by decide))) (by decide) (by decide), Nat.le_trans (mulP_len p q) (dp.mulLen dq)⟩
theorem shw_of {m : Nat} {p : Poly} {B l : Nat} {X : Int} (m4 : m ≤ 4) (h : Canon m p ∧ Bd B X p ∧ p.length ≤ l) (h1 : B ≤ 400) (h2 : X ≤ 200) (h3 : l ≤ 3000) : Shw m p := ⟨h.1, bd_mono h.2.1 h1 h2, Nat.le_trans h.2.2 h3, m4⟩
theorem rep0 (k : Nat) : (List.replicate k [V.int 0]).flatten = (List.replicate k (0 : Int)).map V.int := by
  rw [List.flatten_replicate_singleton, List.map_replicate]
theorem pw_bd {m : Nat} {q : Poly} (dq : Drn m q) : ∀ j : Nat, j ≤ 4 → Bd (1 + 80 * j) (6 * (j : Int)) (pwP m q j) ∧ (pwP m q j).length ≤ 7 ^ j
  | 0, _ => by
    refine ⟨fun t ht => ?_, Nat.le_refl _⟩
    rw [List.mem_singleton.mp ht]
    refine ⟨?_, fun x hx => ?_⟩
    · show (1 : Int).natAbs < 2 ^ (1 + 80 * 0)
      decide
    rw [List.eq_of_mem_replicate hx]
    decide
  | j + 1, h => by
    obtain ⟨b, l⟩ := pw_bd dq j (by omega)
    have h7 : (7 : Nat) ^ j ≤ 7 ^ 3 := Nat.pow_le_pow_right (by decide) (by omega)
    have hl : (pwP m q j).length * q.length ≤ 2 ^ 12 := Nat.le_trans (Nat.mul_le_mul (Nat.le_trans l h7) dq.l) (by decide)
    refine ⟨bd_mono (mulP_bd (L := 12) (pw_canon dq.c j) dq.c b dq.b hl) (by omega) (by omega), ?_⟩
    refine Nat.le_trans (mulP_len (pwP m q j) q) ?_
    rw [Nat.pow_succ]
    exact Nat.mul_le_mul l dq.l
theorem pw_shw {m : Nat} {q : Poly} (dq : Drn m q) (j : Nat) (h : j ≤ 4) : Shw m (pwP m q j) := by
  obtain ⟨b, l⟩ := pw_bd dq j h
  exact ⟨pw_canon dq.c j, bd_mono b (by omega) (by omega), Nat.le_trans l (Nat.le_trans (Nat.pow_le_pow_right (by decide) h) (by decide)), dq.m4⟩
theorem const_eq {m : Nat} {n : Int} {s : Poly} (cs : Canon m s) (h : ∀ e, coef s e = coef [(List.replicate m 0, n)] e) : s = constP m n := by
  unfold constP
  by_cases z : n = 0
  · rw [if_pos z]
    refine canon_ext cs .nil fun e => ?_
    rw [h, z, coef_cons, coef_nil]
    split <;> rfl
  · rw [if_neg z]
    exact canon_ext cs (one_canon m n z) h
theorem const_shw {m : Nat} {n : Int} (m4 : m ≤ 4) (hn : Lt2 41 n) : Shw m (constP m n) := by
  unfold constP
  by_cases z : n = 0
  · rw [if_pos z]
    exact (Drn.nil m4).shw
  · rw [if_neg z]
    refine ⟨one_canon m n z, fun t ht => ?_, by show 1 ≤ 3000; decide, m4⟩
    rw [List.mem_singleton.mp ht]
    refine ⟨hn.mono (by decide), fun x hx => ?_⟩
    rw [List.eq_of_mem_replicate hx]
    decide
theorem one_terms {m : Nat} {n : Int} : Terms m [(List.replicate m 0, n)] :=
  ⟨by simp, fun u hu => by rw [List.mem_singleton.mp hu]; simp, fun u hu x hx => by
    rw [List.mem_singleton.mp hu] at hx
    rw [List.eq_of_mem_replicate hx]
    decide⟩
theorem unit_canon (m k : Nat) : Canon m [(unitE m k, 1)] :=
  ⟨fun u hu => by rw [List.mem_singleton.mp hu]; simp [unitE], fun u hu x hx => by
    rw [List.mem_singleton.mp hu] at hx
    obtain ⟨j, _, rfl⟩ := List.mem_map.mp hx
    split <;> decide, fun u hu => by rw [List.mem_singleton.mp hu]; show (1 : Int) ≠ 0; decide, List.pairwise_singleton _ _⟩
theorem unit_shw {m k : Nat} (m4 : m ≤ 4) : Shw m [(unitE m k, 1)] := ⟨unit_canon m k, fun t ht => by
  rw [List.mem_singleton.mp ht]
  refine ⟨by show (1 : Int).natAbs < 2 ^ 400; decide, fun x hx => ?_⟩
  obtain ⟨j, _, rfl⟩ := List.mem_map.mp hx
  split <;> decide, by show 1 ≤ 3000; decide, m4⟩
/-! ### the law's example by hand -/
def exP : Poly := [([0, 1], -2), ([1, 0], 3), ([1, 1], 1)]
def exN : Poly := [([0, 1], 2), ([1, 0], -3), ([1, 1], -1)]
def exQ : Poly := [([0, 2], 4), ([1, 1], -12), ([1, 2], -4), ([2, 0], 9), ([2, 1], 6), ([2, 2], 1)]
theorem ex_canon : Canon 2 exP := by
  have h : norm exP = exP := by decide +kernel
  rw [← h]
  exact norm_canon (by decide)
theorem exN_canon : Canon 2 exN := by
  have h : norm exN = exN := by decide +kernel
  rw [← h]
  exact norm_canon (by decide)
theorem ex_bd : ∀ p ∈ [exP, exN, [([0, 0], 1)], [([9], 1)], []], Bd 10 20 p := by
  intro p hp t ht
  have h : ∀ p ∈ [exP, exN, [([0, 0], 1)], [([9], 1)], []], ∀ t ∈ p, t.2.natAbs < 2 ^ 10 ∧ ∀ x ∈ t.1, x ≤ 20 := by decide +kernel
  exact h p hp t ht
theorem exQ_eq : mulP exP exP = exQ := by decide +kernel
theorem exN_eq : lin [] (-1) exP = exN := by decide +kernel
theorem ex9_eq : pwP 1 [(unitE 1 0, 1)] 9 = [([9], 1)] := by decide +kernel
def exD : List PyData := [termD ([2, 2], 1), polyD [], polyD [([0, 0], 1)], polyD [([0, 0], 1)], polyD [([9], 1)]]
theorem exD_fn : ∀ d ∈ exD, Fn 4 C0 d := fun d hd => by
  have one : Shw 2 [([0, 0], 1)] := ⟨one_canon 2 1 (by decide), bd_mono (ex_bd _ (by simp)) (by decide) (by decide), by decide, by decide⟩
  have nine : Shw 1 [([9], 1)] := ⟨by rw [← ex9_eq]; exact pw_canon (unit_canon 1 0) 9, bd_mono (ex_bd _ (by simp)) (by decide) (by decide), by decide, by decide⟩
  simp only [exD, List.mem_cons, List.not_mem_nil, or_false] at hd
  rcases hd with z | z | z | z | z
  · rw [z]
    refine (fn_term (m := 2) (ke := 8) (kc := 400) (by decide) (by decide) (by decide) (by decide) rfl (fun x hx => ?_) ?_).mono (by decide) (by unfold C0 polyC; omega)
    · have h : ∀ x ∈ ([2, 2] : List Int), x.natAbs < 2 ^ 8 := by decide
      exact h x hx
    · exact (lt1 (n := 1) (by decide)).mono (by decide)
  · rw [z]; exact (Drn.nil (m := 2) (by decide)).shw.fn
  · rw [z]; exact one.fn
  · rw [z]; exact one.fn
  · rw [z]; exact nine.fn
theorem six_of {α β : Type} {F : α → β → Prop} {ts : List α} {a b c d e g : β} (h : Paired F ts [a, b, c, d, e, g]) : ∃ t1 t2 t3 t4 t5 t6, ts = [t1, t2, t3, t4, t5, t6] ∧ F t6 g := by
  match ts, h with
  | [t1, t2, t3, t4, t5, t6], .cons _ (.cons _ (.cons _ (.cons _ (.cons _ (.cons h .nil))))) => exact ⟨t1, t2, t3, t4, t5, t6, rfl, h⟩
end Kx
namespace Kx
open PySem PySem.Spec PyProof.Rows L2
/-! ### facts of polynomials that several texts use -/
theorem canon_nodup {m : Nat} {p : Poly} (c : Canon m p) : (p.map (·.1)).Nodup := List.pairwise_map.mpr (c.up.imp fun h => lx_ne h)
theorem terms_zero {d : Poly} (t : Terms 0 d) : d.length < 2 := by
  match d, t with
  | [], _ => exact Nat.zero_lt_succ _
  | [_], _ => exact Nat.lt_succ_self _
  | s :: u :: r, t =>
    have h := t.nd
    have e1 := t.len s List.mem_cons_self
    have e2 := t.len u (List.mem_cons_of_mem _ List.mem_cons_self)
    rw [List.map_cons, List.nodup_cons] at h
    exact absurd (by rw [List.map_cons, List.eq_nil_of_length_eq_zero e1, List.eq_nil_of_length_eq_zero e2]; exact List.mem_cons_self) h.1
theorem terms_or {m : Nat} {d : Poly} (t : Terms m d) : 1 ≤ m ∨ d.length < 2 := by
  by_cases z : 1 ≤ m
  · exact .inl z
  · have z2 : m = 0 := by omega
    rw [z2] at t
    exact .inr (terms_zero t)
theorem Canon.terms {m : Nat} {p : Poly} (c : Canon m p) : Terms m p := ⟨canon_nodup c, c.len, c.nn⟩
theorem coef_take (q : Poly) (i : Nat) (t : List Int × Int) (h : q[i]? = some t) (e : List Int) : coef (q.take (i + 1)) e = coef (q.take i) e + if e = t.1 then t.2 else 0 := by
  rw [List.take_add_one, h, coef_app]
  show _ + coef [t] e = _
  rw [coef_cons, coef_nil, Int.add_zero]
  by_cases z : t.1 = e
  · rw [if_pos z, if_pos z.symm]
  · rw [if_neg z, if_neg fun y => z y.symm]
theorem none_of_upd {H : Hp} {l D : Addr} {o : HO} (hl : H l = none) (h : upd H l o D = none) : H D = none := by
  by_cases e : D = l
  · rw [e]; exact hl
  · rw [upd_ne e] at h; exact h
/-- the dict's number at e, or 0 -/
theorem get_or {dd : Poly} (nd : (dd.map (·.1)).Nodup) (e : List Int) : (valV (keyed dd) (key e)).getD (V.int 0) = V.int (coef dd e) := by
  rw [val_keyed nd]
  by_cases h : e ∈ dd.map (·.1)
  · rw [if_pos h]
    rfl
  · rw [if_neg h, Classical.byContradiction (p := coef dd e = 0) fun z => h (coef_mem z)]
    rfl
/-! ### rows: polynomials in one unknown, each exponent told as an int alone -/
def hd (e : List Int) : Int := e.headD 0
theorem hd_one {e : List Int} (h : e.length = 1) : e = [hd e] := by
  match e, h with
  | [x], _ => rfl
def PairOf (H : Hp) (t : Addr) (u : List Int × Int) : Prop := H t = some (.tup [.int (hd u.1), .int u.2])
theorem PairOf.tups {H H' : Hp} {t : Addr} {u : List Int × Int} (h : PairOf H t u) (s : Tups H H') : PairOf H' t u := s _ _ h
/-- a list of pairs (code, number) -/
def RowAt (H : Hp) (a : Addr) (q : Poly) : Prop := ∃ ts : List Addr, H a = some (.lst (ts.map V.ref)) ∧ Paired (PairOf H) ts q
theorem RowAt.same {H H' : Hp} {a : Addr} {q : Poly} (h : RowAt H a q) (s : Same H H') : RowAt H' a q := let ⟨ts, h1, h2⟩ := h; ⟨ts, s _ _ h1, Paired.mono (fun _ _ x => x.tups (.of s)) h2⟩
/-- a dict from codes to numbers -/
def kI (d : Poly) : List (Key × V) := d.map fun t => (Sum.inl (hd t.1), V.int t.2)
theorem kI_len (d : Poly) : (kI d).length = d.length := List.length_map _
theorem kI_keys (d : Poly) : (kI d).map (·.1) = (d.map fun t => hd t.1).map Sum.inl := by
  unfold kI
  rw [List.map_map, List.map_map]
  rfl
theorem hd_eq {e : List Int} {c : Int} (h : e.length = 1) : (Sum.inl (hd e) : Key) = Sum.inl c ↔ e = [c] := by
  constructor
  · intro z
    rw [hd_one h, Sum.inl.inj z]
  · intro z
    rw [z]
    rfl
theorem val_kI {c : Int} : ∀ {d : Poly}, (∀ t ∈ d, t.1.length = 1) → (d.map (·.1)).Nodup → valV (kI d) (Sum.inl c) = if [c] ∈ d.map (·.1) then some (V.int (coef d [c])) else none
  | [], _, _ => rfl
  | s :: d, hl, nd => by
    have ih := val_kI (c := c) (fun t ht => hl t (List.mem_cons_of_mem _ ht)) (List.nodup_cons.mp nd).2
    have h1 := hl s List.mem_cons_self
    have nd' := List.nodup_cons.mp nd
    by_cases h : s.1 = [c]
    · rw [show valV (kI (s :: d)) (Sum.inl c) = some (V.int s.2) from valV_pos (p := (Sum.inl (hd s.1), V.int s.2)) ((hd_eq h1).mpr h), if_pos (by rw [← h]; exact List.mem_map.mpr ⟨s, List.mem_cons_self, rfl⟩), ← h, coef_at nd s List.mem_cons_self]
    · rw [show valV (kI (s :: d)) (Sum.inl c) = valV (kI d) (Sum.inl c) from valV_neg (p := (Sum.inl (hd s.1), V.int s.2)) fun z => h ((hd_eq h1).mp z), ih, coef_cons, if_neg h, Int.zero_add]
      by_cases h4 : [c] ∈ d.map (·.1)
      · rw [if_pos h4, if_pos (by rw [List.map_cons]; exact List.mem_cons_of_mem _ h4)]
      · rw [if_neg h4, if_neg fun z => by
          rw [List.map_cons] at z
          rcases List.mem_cons.mp z with q | q
          · exact h q.symm
          · exact h4 q]
theorem put_kI {d : Poly} {c n : Int} (hl : ∀ t ∈ d, t.1.length = 1) : putK (kI d) (Sum.inl c) (V.int n) = kI (putI d [c] n) := by
  have an : ((kI d).any fun kv => decide (kv.1 = Sum.inl c)) = d.any fun t => decide (t.1 = [c]) := by
    induction d with
    | nil => rfl
    | cons s d ih =>
      show (decide ((Sum.inl (hd s.1) : Key) = Sum.inl c) || (kI d).any _) = (decide (s.1 = [c]) || d.any _)
      rw [ih fun t ht => hl t (List.mem_cons_of_mem _ ht)]
      have h1 := hl s List.mem_cons_self
      by_cases h : s.1 = [c]
      · rw [decide_eq_true h, decide_eq_true ((hd_eq h1).mpr h)]
      · rw [decide_eq_false h, decide_eq_false fun z => h ((hd_eq h1).mp z)]
  unfold putK putI
  rw [an]
  split
  · unfold kI
    rw [List.map_map, List.map_map]
    refine List.map_congr_left fun t ht => ?_
    have h1 := hl t ht
    show (if (Sum.inl (hd t.1) : Key) = Sum.inl c then ((Sum.inl (hd t.1) : Key), V.int n) else (Sum.inl (hd t.1), V.int t.2)) = (fun t : List Int × Int => ((Sum.inl (hd t.1) : Key), V.int t.2)) (if t.1 = [c] then (t.1, n) else t)
    by_cases h : t.1 = [c]
    · rw [if_pos h, if_pos ((hd_eq h1).mpr h)]
    · rw [if_neg h, if_neg fun z => h ((hd_eq h1).mp z)]
  · unfold kI
    rw [List.map_append]
    rfl
theorem get_orI {d : Poly} {c : Int} (hl : ∀ t ∈ d, t.1.length = 1) (nd : (d.map (·.1)).Nodup) : (valV (kI d) (Sum.inl c)).getD (V.int 0) = V.int (coef d [c]) := by
  rw [val_kI hl nd]
  by_cases h : [c] ∈ d.map (·.1)
  · rw [if_pos h]
    rfl
  · rw [if_neg h, Classical.byContradiction (p := coef d [c] = 0) fun z => h (coef_mem z)]
    rfl
end Kx
namespace Kx
open PySem PySem.Spec PyProof.Rows L2
/-! ### degrees, heights, powers -/
def mx (ns : List Int) : Int := ns.foldr max 0
theorem mx_of {ns : List Int} {m : Int} (h0 : ∀ x ∈ ns, 0 ≤ x) (h1 : m ∈ ns) (h2 : ∀ y ∈ ns, y ≤ m) : m = mx ns := by
  have up : ∀ (l : List Int), (∀ y ∈ l, y ≤ m) → mx l ≤ max m 0 := fun l => by
    induction l with
    | nil => intro _; show (0 : Int) ≤ _; omega
    | cons x l ih =>
      intro h
      have a := ih fun y hy => h y (List.mem_cons_of_mem _ hy)
      have b := h x List.mem_cons_self
      show max x (mx l) ≤ _
      omega
  have dn : ∀ (l : List Int), m ∈ l → m ≤ mx l := fun l => by
    induction l with
    | nil => intro z; cases z
    | cons x l ih =>
      intro z
      show m ≤ max x (mx l)
      rcases List.mem_cons.mp z with q | q
      · omega
      · have := ih q
        omega
  have a := up ns h2
  have b := dn ns h1
  have c := h0 m h1
  omega
theorem mx_nil : mx [] = 0 := rfl
theorem mx_le {ns : List Int} {x : Int} (h : x ∈ ns) : x ≤ mx ns := by
  induction ns with
  | nil => cases h
  | cons y l ih =>
    show x ≤ max y (mx l)
    rcases List.mem_cons.mp h with q | q
    · omega
    · have := ih q
      omega
theorem mx_nn (ns : List Int) : 0 ≤ mx ns := by
  induction ns with
  | nil => exact Int.le_refl 0
  | cons y l ih => show 0 ≤ max y (mx l); omega
theorem mx_bound {ns : List Int} {X : Int} (h0 : 0 ≤ X) (h : ∀ x ∈ ns, x ≤ X) : mx ns ≤ X := by
  induction ns with
  | nil => exact h0
  | cons y l ih =>
    have a := ih fun x hx => h x (List.mem_cons_of_mem _ hx)
    have b := h y List.mem_cons_self
    show max y (mx l) ≤ X
    omega
/-- the degree in the unknown k -/
def dgk (p : Poly) (k : Nat) : Int := mx (p.map fun t => t.1.getD k 0)
def dgs (m : Nat) (p : Poly) : List Int := (List.range m).map (dgk p)
theorem dgs_len (m : Nat) (p : Poly) : (dgs m p).length = m := by unfold dgs; rw [List.length_map, List.length_range]
theorem dgs_at {m : Nat} {p : Poly} {k : Nat} (h : k < m) : (dgs m p)[k]? = some (dgk p k) := by
  unfold dgs
  rw [List.getElem?_map, List.getElem?_range h]
  rfl
theorem dgs_nn {m : Nat} {p : Poly} : ∀ x ∈ dgs m p, 0 ≤ x := fun x hx => by
  obtain ⟨k, _, rfl⟩ := List.mem_map.mp hx
  exact mx_nn _
theorem dgk_bound {m : Nat} {p : Poly} {X : Int} {k : Nat} (h0 : 0 ≤ X) (h : ∀ t ∈ p, ∀ x ∈ t.1, x ≤ X) : dgk p k ≤ X := mx_bound h0 fun x hx => by
  obtain ⟨t, ht, rfl⟩ := List.mem_map.mp hx
  show t.1.getD k 0 ≤ X
  rw [List.getD_eq_getElem?_getD]
  cases e : t.1[k]? with
  | none => exact h0
  | some y => exact h t ht y (List.mem_of_getElem? e)
theorem dgs_bound {m : Nat} {p : Poly} {X : Int} (h0 : 0 ≤ X) (h : ∀ t ∈ p, ∀ x ∈ t.1, x ≤ X) : ∀ x ∈ dgs m p, x ≤ X := fun x hx => by
  obtain ⟨k, _, rfl⟩ := List.mem_map.mp hx
  exact dgk_bound (m := m) h0 h
/-- no exponent is above the degree -/
theorem le_dgk {p : Poly} {t : List Int × Int} {k : Nat} {x : Int} (ht : t ∈ p) (hx : t.1[k]? = some x) : x ≤ dgk p k := mx_le (List.mem_map.mpr ⟨t, ht, by rw [List.getD_eq_getElem?_getD, hx]; rfl⟩)
/-- the sum of the sizes -/
def hgt (p : Poly) : Int := (p.map fun t => ((t.2.natAbs : Nat) : Int)).sum
/-- all of a polynomial that a comprehension over its terms makes -/
theorem at_term {H : Hp} {p : Poly} {ts : List Addr} {i : Nat} {x : V} (h : Paired (TermAt H) ts p) (hx : (ts.map V.ref)[i]? = some x) : ∃ t u, x = .ref t ∧ ts[i]? = some t ∧ p[i]? = some u ∧ TermAt H t u := by
  rw [List.getElem?_map] at hx
  cases hb : ts[i]? with
  | none => rw [hb] at hx; cases hx
  | some t =>
    rw [hb] at hx
    obtain ⟨u, h1, h2⟩ := paired_get h hb
    exact ⟨t, u, (Option.some.inj hx).symm, rfl, h1, h2⟩
theorem pairs_nd {H : Hp} {D : Addr} {p : Poly} (c : Paired (TermAt H) ts p) (hD : H D = none) : ∀ t ∈ ts, t ≠ D := fun t ht => by
  obtain ⟨i, hi⟩ := List.getElem?_of_mem ht
  obtain ⟨u, _, b, h, _⟩ := paired_get c hi
  exact ne_of_none h hD
/-- what stands ahead of a term has nothing at its exponents -/
theorem coef_before {m : Nat} {p : Poly} (c : Canon m p) {i : Nat} {t : List Int × Int} (h : p[i]? = some t) : coef (p.take i) t.1 = 0 := coef_no fun u hu => by
  obtain ⟨j, hj⟩ := List.getElem?_of_mem hu
  rw [List.getElem?_take] at hj
  by_cases lt : j < i
  · rw [if_pos lt] at hj
    obtain ⟨hj2, ej⟩ := List.getElem?_eq_some_iff.mp hj
    obtain ⟨hi2, ei⟩ := List.getElem?_eq_some_iff.mp h
    rw [← ej, ← ei]
    exact lx_ne (List.pairwise_iff_getElem.mp c.up j i hj2 hi2 lt)
  · rw [if_neg lt] at hj
    cases hj
end Kx
namespace Kx
open PySem PySem.Spec PyProof.Rows L2
/-! ### values: numbers put in from the last unknown on -/
/-- two ways of walking for one place in the text -/
theorem pi_or {X : Cx} {tg l : Expr} {w1 w2 : TI} (h1 : PI X tg l w1) (h2 : PI X tg l w2) : PI X tg l (fun σ H R => w1 σ H R ∨ w2 σ H R) := ⟨fun pins s σ H R I h => h.elim (h1.run pins s σ H R I) (h2.run pins s σ H R I)⟩
theorem eqv_ints : ∀ a b : List Int, PyData.eqvAll (a.map PyData.int) (b.map PyData.int) = decide (a = b)
  | [], [] => rfl
  | [], _ :: _ => by simp [PyData.eqvAll]
  | _ :: _, [] => by simp [PyData.eqvAll]
  | x :: a, y :: b => by
    rw [List.map_cons, List.map_cons, show PyData.eqvAll (PyData.int x :: a.map PyData.int) (PyData.int y :: b.map PyData.int) = (PyData.eqv (.int x) (.int y) && PyData.eqvAll (a.map PyData.int) (b.map PyData.int)) from by rw [PyData.eqvAll], eqv_ints a b]
    by_cases h : x = y
    · subst h
      by_cases h2 : a = b
      · rw [h2, decide_eq_true rfl, decide_eq_true rfl]
        simp [PyData.eqv]
      · rw [decide_eq_false h2, decide_eq_false (fun z => h2 (List.cons.inj z).2)]
        simp
    · rw [decide_eq_false (fun z => h (List.cons.inj z).1)]
      simp [PyData.eqv, h]
theorem eqv_mono (a b : List Int) : PyData.eqv (monoD a) (monoD b) = decide (a = b) := by
  show PyData.eqv (.tuple (a.map PyData.int)) (.tuple (b.map PyData.int)) = _
  rw [← eqv_ints]
  simp only [PyData.eqv]
theorem lay_ints : ∀ a : List Int, PyData.canLayAll0 (a.map PyData.int) = true
  | [] => by simp only [List.map_nil, PyData.canLayAll0]
  | x :: a => by simp only [List.map_cons, PyData.canLayAll0, PyData.canLay0, lay_ints a, Bool.and_self]
theorem dep_ints : ∀ a : List Int, PyData.depthAll (a.map PyData.int) ≤ 1
  | [] => by simp only [List.map_nil, PyData.depthAll]; omega
  | x :: a => by
    have := dep_ints a
    simp only [List.map_cons, PyData.depthAll, PyData.depth]
    omega
theorem shaped_mono (a : List Int) : SeqAt.shaped (monoD a) = true := by
  unfold SeqAt.shaped monoD
  have h := dep_ints a
  rw [show PyData.canLay0 (.tuple (a.map PyData.int)) = true from by simp only [PyData.canLay0, lay_ints a]]
  rw [show (PyData.tuple (a.map PyData.int)).depth = PyData.depthAll (a.map PyData.int) + 1 from by simp only [PyData.depth] <;> omega]
  rw [decide_eq_true (by omega)]
  rfl
theorem paired_last {α β : Type} {F : α → β → Prop} : ∀ {l1 : List α} {l2 : List β} {y : β}, Paired F l1 (l2 ++ [y]) → ∃ l x, l1 = l ++ [x] ∧ Paired F l l2 ∧ F x y
  | _, [], y, h => by
    cases h with
    | cons a r =>
      cases r
      exact ⟨[], _, rfl, .nil, a⟩
  | _, z :: l2, y, h => by
    cases h with
    | cons a r =>
      obtain ⟨l, x, e, p, q⟩ := paired_last r
      exact ⟨_ :: l, x, by rw [e]; rfl, .cons a p, q⟩
theorem at0 {x : V} {l : List V} : atI (x :: l) 0 = some x := atI_nat (j := 0) rfl
theorem at1 {x y : V} {l : List V} : atI (x :: y :: l) 1 = some y := atI_nat (j := 1) rfl
/-- t[:-1] -/
theorem cut_last {xs : List V} {x : V} : cutV (xs ++ [x]) none (some (-1)) = xs := by
  unfold cutV HT.sIx
  simp only [List.length_append, List.length_singleton, List.drop_zero, Nat.sub_zero]
  rw [if_pos (by decide), show (-1 + ((xs.length + 1 : Nat) : Int)).toNat = xs.length from by omega, List.take_left']
  rfl
theorem sIx_last {n : Nat} : HT.sIx (n + 1) (n + 1) (some (-1)) = n := by
  unfold HT.sIx
  show (if (-1 : Int) < 0 then (-1 + ((n + 1 : Nat) : Int)).toNat else _) = n
  rw [if_pos (by decide)]
  omega
/-- the worth of an exponent, from the list of all of them -/
def wv (W : List Int) (x : Int) : Int := W.getD x.toNat 0
def wvs : List (List Int) → List Int → Int
  | W :: Ws, x :: xs => wv W x * wvs Ws xs
  | _, _ => 1
theorem wvs_nil (Ws : List (List Int)) : wvs Ws [] = 1 := by cases Ws <;> rfl
theorem wvs_drop {Ws : List (List Int)} {W : List Int} {e : List Int} {x : Int} {j : Nat} (hW : Ws[j]? = some W) (hx : e[j]? = some x) : wvs (Ws.drop j) (e.drop j) = wv W x * wvs (Ws.drop (j + 1)) (e.drop (j + 1)) := by
  obtain ⟨h1, e1⟩ := List.getElem?_eq_some_iff.mp hW
  obtain ⟨h2, e2⟩ := List.getElem?_eq_some_iff.mp hx
  rw [List.drop_eq_getElem_cons h1, List.drop_eq_getElem_cons h2, e1, e2]
  rfl
/-- what one step of it does to a row of terms: the last unknown's worths put in -/
structure Last (m : Nat) (W : List Int) (p p' : Poly) : Prop where
  len : ∀ t ∈ p', t.1.length = m
  nn : ∀ t ∈ p', ∀ x ∈ t.1, 0 ≤ x
  src : ∀ t ∈ p', ∃ u ∈ p, t.1 = u.1.dropLast
  short : p'.length ≤ p.length
  one : m = 0 → p'.length ≤ 1
  val : ∀ f : List Int → Int, ev p' f = ev p fun e => f e.dropLast * wv W (e.getLastD 0)
theorem ev_snoc (f : List Int → Int) (p : Poly) (t : List Int × Int) : ev (p ++ [t]) f = ev p f + t.2 * f t.1 := by
  rw [ev_app]
  show _ + (t.2 * f t.1 + 0) = _
  omega
theorem ev_takeS (f : List Int → Int) (p : Poly) (i : Nat) (t : List Int × Int) (h : p[i]? = some t) : ev (p.take (i + 1)) f = ev (p.take i) f + t.2 * f t.1 := by
  rw [List.take_add_one, h]
  exact ev_snoc f _ t
/-- the value by the worths, step by step -/
theorem ev_step {m j : Nat} {Ws : List (List Int)} {W : List Int} {p row row' : Poly} (hp : ∀ t ∈ p, t.1.length = m) (hj : j < m) (hW : Ws[j]? = some W)
    (h : ∀ f : List Int → Int, ev row f = ev p fun e => f (e.take (j + 1)) * wvs (Ws.drop (j + 1)) (e.drop (j + 1)))
    (l : ∀ f : List Int → Int, ev row' f = ev row fun e => f e.dropLast * wv W (e.getLastD 0)) :
    ∀ f : List Int → Int, ev row' f = ev p fun e => f (e.take j) * wvs (Ws.drop j) (e.drop j) := fun f => by
  rw [l, h]
  refine ev_fun p fun t ht => ?_
  have tl := hp t ht
  have hx : t.1[j]? = some t.1[j] := List.getElem?_eq_getElem (by omega)
  have tk : t.1.take (j + 1) = t.1.take j ++ [t.1[j]] := by
    rw [List.take_add_one, hx]
    rfl
  rw [tk, List.dropLast_concat, wvs_drop hW hx]
  rw [show (t.1.take j ++ [t.1[j]]).getLastD 0 = t.1[j] from by rw [List.getLastD_concat], Int.mul_assoc]
end Kx
namespace Kx
open PySem PySem.Spec PyProof.Rows L2
/-! ### powers as worths -/
/-- the powers 0 to m of a number -/
def pws (n : Int) (m : Nat) : List Int := (List.range (m + 1)).map fun i => n ^ i
theorem pws_len (n : Int) (m : Nat) : (pws n m).length = m + 1 := by unfold pws; rw [List.length_map, List.length_range]
theorem pws_at {n : Int} {m i : Nat} (h : i ≤ m) : (pws n m)[i]? = some (n ^ i) := by
  unfold pws
  rw [List.getElem?_map, List.getElem?_range (by omega)]
  rfl
theorem wv_pws {n x : Int} {m : Nat} (h0 : 0 ≤ x) (h : x ≤ m) : wv (pws n m) x = n ^ x.toNat := by
  unfold wv
  rw [List.getD_eq_getElem?_getD, pws_at (by omega)]
  rfl
theorem pows_lt {b : Int} {c : Nat} (h : Lt2 c b) : ∀ i : Nat, Lt2 (i * c + 1) (b ^ i)
  | 0 => by
    rw [Int.pow_zero, Nat.zero_mul]
    show (1 : Int).natAbs < 2 ^ (0 + 1)
    decide
  | i + 1 => by
    rw [Int.pow_succ]
    exact ((pows_lt h i).mul h).mono (by rw [Nat.add_mul]; omega)
theorem pws_succ (n : Int) (i : Nat) : pws n (i + 1) = pws n i ++ [n ^ (i + 1)] := by
  unfold pws
  rw [List.range_succ, List.map_append]
  rfl
theorem pws_lt {n : Int} {c m X : Nat} (h : Lt2 c n) (hm : m ≤ X) : ∀ x ∈ pws n m, Lt2 (X * c + 1) x := fun x hx => by
  obtain ⟨i, hi, rfl⟩ := List.mem_map.mp hx
  have := List.mem_range.mp hi
  refine (pows_lt h i).mono ?_
  have := Nat.mul_le_mul_right c (show i ≤ X by omega)
  omega
/-- the worths of a place: each member's powers, up to the degree there -/
def plW (pl dg : List Int) : List (List Int) := List.zipWith (fun n d => pws n d.toNat) pl dg
theorem plW_at {pl dg : List Int} {k : Nat} {n d : Int} (h1 : pl[k]? = some n) (h2 : dg[k]? = some d) : (plW pl dg)[k]? = some (pws n d.toNat) := by
  unfold plW
  rw [List.getElem?_zipWith, h1, h2]
theorem plW_len {pl dg : List Int} (h : pl.length = dg.length) : (plW pl dg).length = pl.length := by
  unfold plW
  rw [List.length_zipWith, h, Nat.min_self]
theorem wvs_mono : ∀ {pl dg e : List Int}, pl.length = e.length → dg.length = e.length → (∀ (k : Nat) (x d : Int), e[k]? = some x → dg[k]? = some d → 0 ≤ x ∧ x ≤ d) → wvs (plW pl dg) e = mono pl e
  | [], dg, [], _, _, _ => by simp [plW, wvs, mono]
  | n :: pl, [], [], h, _, _ => by simp at h
  | n :: pl, d :: dg, [], h, _, _ => by simp at h
  | [], _, x :: e, h, _, _ => by simp at h
  | n :: pl, [], x :: e, _, h, _ => by simp at h
  | n :: pl, d :: dg, x :: e, h1, h2, h3 => by
    obtain ⟨a, b⟩ := h3 0 x d rfl rfl
    show wv (pws n d.toNat) x * wvs (plW pl dg) e = n ^ x.toNat * mono pl e
    rw [wv_pws a (by omega), wvs_mono (by simpa using h1) (by simpa using h2) fun k y z hy hz => h3 (k + 1) y z (by simpa using hy) (by simpa using hz)]
theorem dgs_fit {m : Nat} {p : Poly} (c : Canon m p) : ∀ t ∈ p, ∀ (k : Nat) (x d : Int), t.1[k]? = some x → (dgs m p)[k]? = some d → 0 ≤ x ∧ x ≤ d := fun t ht k x d hx hd => by
  refine ⟨c.nn t ht x (List.mem_of_getElem? hx), ?_⟩
  have hk : k < m := by
    rw [← dgs_len m p]
    exact (List.getElem?_eq_some_iff.mp hd).1
  rw [dgs_at hk] at hd
  rw [← Option.some.inj hd]
  exact le_dgk ht hx
theorem ev_place {m : Nat} {p : Poly} {pl : List Int} (c : Canon m p) (h : pl.length = m) : ev p (wvs (plW pl (dgs m p))) = ev p (mono pl) :=
  ev_fun p fun t ht => wvs_mono (by rw [h, c.len t ht]) (by rw [dgs_len, c.len t ht]) (dgs_fit c t ht)
theorem ne_lists {H : Hp} {x D : Addr} {W : List Int} {bs : List Addr} (h1 : H x = some (.lst (W.map V.int))) (h2 : H D = some (.lst (bs.map V.ref))) (hW : W ≠ []) : x ≠ D := fun z => by
  rw [z, h2] at h1
  have e : bs.map V.ref = W.map V.int := HO.lst.inj (Option.some.inj h1)
  match W, bs, hW, e with
  | [], _, hW, _ => exact hW rfl
  | _ :: _, [], _, e => cases e
  | _ :: _, _ :: _, _, e => cases (List.cons.inj e).1
theorem pws_ne (n : Int) (m : Nat) : pws n m ≠ [] := fun z => by
  have := pws_len n m
  rw [z] at this
  cases this
/-- no exponent lies beyond the worths that are told -/
def Inn (Ws : List (List Int)) (p : Poly) : Prop := ∀ t ∈ p, ∀ (k : Nat) (x : Int) (W : List Int), t.1[k]? = some x → Ws[k]? = some W → x < (W.length : Int)
theorem inn_place {m : Nat} {p : Poly} {pl : List Int} (c : Canon m p) (h : pl.length = m) : Inn (plW pl (dgs m p)) p := fun t ht k x W hx hW => by
  have hk : k < m := by
    rw [← c.len t ht]
    exact (List.getElem?_eq_some_iff.mp hx).1
  have h1 : pl[k]? = some pl[k] := List.getElem?_eq_getElem (by omega)
  rw [plW_at h1 (dgs_at hk)] at hW
  rw [← Option.some.inj hW, pws_len]
  have := dgs_fit c t ht k x _ hx (dgs_at hk)
  omega
end Kx
namespace Kx
open PySem PySem.Spec PyProof.Rows L2
/-! ### fractions -/
/-- what both members are divided by -/
def dv (a b : Int) : Int := if b < 0 then -((Nat.gcd a.natAbs b.natAbs : Nat) : Int) else ((Nat.gcd a.natAbs b.natAbs : Nat) : Int)
theorem gcd_pos {a b : Int} (h : b ≠ 0) : 0 < Nat.gcd a.natAbs b.natAbs := Nat.gcd_pos_of_pos_right _ (by omega)
theorem dv_ne {a b : Int} (h : b ≠ 0) : dv a b ≠ 0 := by
  have := gcd_pos (a := a) h
  unfold dv
  split <;> omega
theorem dv_abs (a b : Int) : (dv a b).natAbs = Nat.gcd a.natAbs b.natAbs := by
  unfold dv
  split <;> omega
theorem dv_dvd_r (a b : Int) : dv a b ∣ b := Int.natAbs_dvd_natAbs.mp (by rw [dv_abs]; exact Nat.gcd_dvd_right _ _)
theorem dv_dvd_l (a b : Int) : dv a b ∣ a := Int.natAbs_dvd_natAbs.mp (by rw [dv_abs]; exact Nat.gcd_dvd_left _ _)
theorem dv_le {a b : Int} (h : b ≠ 0) : (dv a b).natAbs ≤ b.natAbs := by
  rw [dv_abs]
  exact Nat.le_of_dvd (by omega) (Nat.gcd_dvd_right _ _)
def nu (a b : Int) : Int := a.fdiv (dv a b)
def de (a b : Int) : Int := b.fdiv (dv a b)
abbrev frV (a b : Int) : List V := [.int (nu a b), .int (de a b)]
theorem nu_mul {a b : Int} (h : b ≠ 0) : nu a b * dv a b = a := by
  obtain ⟨q, e⟩ := dv_dvd_l a b
  unfold nu
  conv => lhs; arg 1; arg 1; rw [e]
  rw [Int.mul_fdiv_cancel_left _ (dv_ne h), Int.mul_comm, ← e]
theorem de_mul {a b : Int} (h : b ≠ 0) : de a b * dv a b = b := by
  obtain ⟨q, e⟩ := dv_dvd_r a b
  unfold de
  conv => lhs; arg 1; arg 1; rw [e]
  rw [Int.mul_fdiv_cancel_left _ (dv_ne h), Int.mul_comm, ← e]
theorem dv_pos {a b : Int} (h : 0 < b) : 0 < dv a b := by
  have := gcd_pos (a := a) (b := b) (by omega)
  unfold dv
  rw [if_neg (by omega)]
  omega
theorem de_pos {a b : Int} (h : 0 < b) : 0 < de a b := by
  have h1 := de_mul (a := a) (b := b) (by omega)
  have h2 := dv_pos (a := a) h
  by_cases z : 0 < de a b
  · exact z
  · have : de a b * dv a b ≤ 0 := Int.mul_nonpos_of_nonpos_of_nonneg (by omega) (by omega)
    omega
theorem cop_nd {a b : Int} (h : b ≠ 0) : Nat.Coprime (nu a b).natAbs (de a b).natAbs := by
  have h1 := congrArg Int.natAbs (nu_mul (a := a) h)
  have h2 := congrArg Int.natAbs (de_mul (a := a) h)
  rw [Int.natAbs_mul, dv_abs] at h1 h2
  have gp := gcd_pos (a := a) h
  have key : Nat.gcd ((nu a b).natAbs * Nat.gcd a.natAbs b.natAbs) ((de a b).natAbs * Nat.gcd a.natAbs b.natAbs) = Nat.gcd (nu a b).natAbs (de a b).natAbs * Nat.gcd a.natAbs b.natAbs := Nat.gcd_mul_right _ _ _
  rw [h1, h2] at key
  show Nat.gcd _ _ = 1
  have : 1 * Nat.gcd a.natAbs b.natAbs = Nat.gcd (nu a b).natAbs (de a b).natAbs * Nat.gcd a.natAbs b.natAbs := by rw [Nat.one_mul]; exact key
  exact (Nat.eq_of_mul_eq_mul_right gp this).symm
/-- one form for one fraction -/
theorem frac_one {a b c d : Int} (hb : 0 < b) (hd : 0 < d) (h : a * d = c * b) : nu a b = nu c d ∧ de a b = de c d := by
  have b0 : b ≠ 0 := by omega
  have d0 : d ≠ 0 := by omega
  have c1 := cop_nd (a := a) b0
  have c2 := cop_nd (a := c) d0
  have p1 := de_pos (a := a) hb
  have p2 := de_pos (a := c) hd
  have g1 := dv_pos (a := a) hb
  have g2 := dv_pos (a := c) hd
  have x : nu a b * de c d = nu c d * de a b := by
    have e1 := nu_mul (a := a) b0
    have e2 := de_mul (a := a) b0
    have e3 := nu_mul (a := c) d0
    have e4 := de_mul (a := c) d0
    have l : (nu a b * de c d) * (dv a b * dv c d) = (nu c d * de a b) * (dv a b * dv c d) := by
      calc (nu a b * de c d) * (dv a b * dv c d) = (nu a b * dv a b) * (de c d * dv c d) := by ac_rfl
        _ = c * b := by rw [e1, e4, h]
        _ = (nu c d * dv c d) * (de a b * dv a b) := by rw [e3, e2]
        _ = _ := by ac_rfl
    exact Int.eq_of_mul_eq_mul_right (Int.mul_ne_zero (by omega) (by omega)) l
  have n := congrArg Int.natAbs x
  rw [Int.natAbs_mul, Int.natAbs_mul] at n
  have d1 : (de a b).natAbs ∣ (de c d).natAbs := Nat.Coprime.dvd_of_dvd_mul_left c1.symm (by rw [n]; exact Nat.dvd_mul_left _ _)
  have d2 : (de c d).natAbs ∣ (de a b).natAbs := Nat.Coprime.dvd_of_dvd_mul_left c2.symm (by rw [← n]; exact Nat.dvd_mul_left _ _)
  have e : de a b = de c d := by
    have := Nat.dvd_antisymm d1 d2
    omega
  refine ⟨?_, e⟩
  rw [← e] at x
  exact Int.eq_of_mul_eq_mul_right (by omega) x
end Kx
namespace Kx
open PySem PySem.Spec PyProof.Rows L2
/-! ### values at places of fractions -/
/-- the worths of one fraction, all over one number -/
def fw (q : Int × Int) (d : Nat) : List Int := (List.range (d + 1)).map fun i => q.1 ^ i * q.2 ^ (d - i)
def frW (prs : List (Int × Int)) (dg : List Int) : List (List Int) := List.zipWith (fun q d => fw q d.toNat) prs dg
def bel : List (Int × Int) → List Int → Int
  | q :: qs, d :: ds => q.2 ^ d.toNat * bel qs ds
  | _, _ => 1
theorem fw_len (q : Int × Int) (d : Nat) : (fw q d).length = d + 1 := by unfold fw; rw [List.length_map, List.length_range]
theorem fw_ne (q : Int × Int) (d : Nat) : fw q d ≠ [] := fun z => by
  have := fw_len q d
  rw [z] at this
  cases this
theorem fw_at {q : Int × Int} {d i : Nat} (h : i ≤ d) : (fw q d)[i]? = some (q.1 ^ i * q.2 ^ (d - i)) := by
  unfold fw
  rw [List.getElem?_map, List.getElem?_range (by omega)]
  rfl
theorem wv_fw {q : Int × Int} {x : Int} {d : Nat} (h0 : 0 ≤ x) (h : x ≤ d) : wv (fw q d) x = q.1 ^ x.toNat * q.2 ^ (d - x.toNat) := by
  unfold wv
  rw [List.getD_eq_getElem?_getD, fw_at (by omega)]
  rfl
theorem frW_at {prs : List (Int × Int)} {dg : List Int} {k : Nat} {q : Int × Int} {d : Int} (h1 : prs[k]? = some q) (h2 : dg[k]? = some d) : (frW prs dg)[k]? = some (fw q d.toNat) := by
  unfold frW
  rw [List.getElem?_zipWith, h1, h2]
theorem frW_len {prs : List (Int × Int)} {dg : List Int} (h : prs.length = dg.length) : (frW prs dg).length = prs.length := by
  unfold frW
  rw [List.length_zipWith, h, Nat.min_self]
theorem fw_lt {q : Int × Int} {c d X : Nat} (h1 : Lt2 c q.1) (h2 : Lt2 c q.2) (hd : d ≤ X) : ∀ x ∈ fw q d, Lt2 (X * c + 2) x := fun x hx => by
  obtain ⟨i, hi, rfl⟩ := List.mem_map.mp hx
  have il := List.mem_range.mp hi
  refine ((pows_lt h1 i).mul (pows_lt h2 (d - i))).mono ?_
  have e : i * c + (d - i) * c = d * c := by rw [← Nat.add_mul]; congr 1; omega
  have := Nat.mul_le_mul_right c hd
  omega
theorem bel_take {prs : List (Int × Int)} {dg : List Int} {k : Nat} {q : Int × Int} {d : Int} (h1 : prs[k]? = some q) (h2 : dg[k]? = some d) : bel (prs.take (k + 1)) (dg.take (k + 1)) = bel (prs.take k) (dg.take k) * q.2 ^ d.toNat := by
  induction k generalizing prs dg with
  | zero =>
    match prs, dg, h1, h2 with
    | q' :: _, d' :: _, h1, h2 =>
      cases h1
      cases h2
      show q.2 ^ d.toNat * bel [] [] = 1 * q.2 ^ d.toNat
      rw [Int.one_mul]
      show q.2 ^ d.toNat * 1 = _
      rw [Int.mul_one]
  | succ k ih =>
    match prs, dg, h1, h2 with
    | q' :: prs, d' :: dg, h1, h2 =>
      show q'.2 ^ d'.toNat * bel (prs.take (k + 1)) (dg.take (k + 1)) = q'.2 ^ d'.toNat * bel (prs.take k) (dg.take k) * q.2 ^ d.toNat
      rw [ih (by simpa using h1) (by simpa using h2), Int.mul_assoc]
theorem bel_pos : ∀ {prs : List (Int × Int)} {dg : List Int}, (∀ q ∈ prs, 0 < q.2) → 0 < bel prs dg
  | [], _, _ => by simp [bel]
  | _ :: _, [], _ => by simp [bel]
  | q :: prs, d :: dg, h => Int.mul_pos (Int.pow_pos (h q List.mem_cons_self)) (bel_pos fun x hx => h x (List.mem_cons_of_mem _ hx))
/-- what a term's fractions come to: all above, all below -/
def monoN : List (Int × Int) → List Int → Int
  | q :: qs, x :: xs => q.1 ^ x.toNat * monoN qs xs
  | _, _ => 1
def monoD' : List (Int × Int) → List Int → Int
  | q :: qs, x :: xs => q.2 ^ x.toNat * monoD' qs xs
  | _, _ => 1
theorem wvs_fr : ∀ {prs : List (Int × Int)} {dg e : List Int}, prs.length = e.length → dg.length = e.length → (∀ (k : Nat) (x d : Int), e[k]? = some x → dg[k]? = some d → 0 ≤ x ∧ x ≤ d) →
    wvs (frW prs dg) e * monoD' prs e = monoN prs e * bel prs dg
  | [], dg, [], _, _, _ => by simp [frW, wvs, monoN, monoD', bel]
  | n :: pl, [], [], h, _, _ => by simp at h
  | n :: pl, d :: dg, [], h, _, _ => by simp at h
  | [], _, x :: e, h, _, _ => by simp at h
  | n :: pl, [], x :: e, _, h, _ => by simp at h
  | q :: prs, d :: dg, x :: e, h1, h2, h3 => by
    obtain ⟨a, b⟩ := h3 0 x d rfl rfl
    have ih := wvs_fr (prs := prs) (dg := dg) (e := e) (by simpa using h1) (by simpa using h2) fun k y z hy hz => h3 (k + 1) y z (by simpa using hy) (by simpa using hz)
    show wv (fw q d.toNat) x * wvs (frW prs dg) e * (q.2 ^ x.toNat * monoD' prs e) = q.1 ^ x.toNat * monoN prs e * (q.2 ^ d.toNat * bel prs dg)
    rw [wv_fw a (by omega)]
    have pw : q.2 ^ (d.toNat - x.toNat) * q.2 ^ x.toNat = q.2 ^ d.toNat := by rw [← Int.pow_add]; congr 1; omega
    calc q.1 ^ x.toNat * q.2 ^ (d.toNat - x.toNat) * wvs (frW prs dg) e * (q.2 ^ x.toNat * monoD' prs e)
        = q.1 ^ x.toNat * (q.2 ^ (d.toNat - x.toNat) * q.2 ^ x.toNat) * (wvs (frW prs dg) e * monoD' prs e) := by ac_rfl
      _ = q.1 ^ x.toNat * q.2 ^ d.toNat * (monoN prs e * bel prs dg) := by rw [pw, ih]
      _ = _ := by ac_rfl
/-- the law's own sum over the terms: above and below -/
def frAcc (prs : List (Int × Int)) : Poly → Int × Int
  | p => p.foldl (fun ab t => (ab.1 * monoD' prs t.1 + t.2 * monoN prs t.1 * ab.2, ab.2 * monoD' prs t.1)) (0, 1)
theorem frAcc_snoc (prs : List (Int × Int)) (p : Poly) (t : List Int × Int) : frAcc prs (p ++ [t]) = ((frAcc prs p).1 * monoD' prs t.1 + t.2 * monoN prs t.1 * (frAcc prs p).2, (frAcc prs p).2 * monoD' prs t.1) := by
  unfold frAcc
  rw [List.foldl_append]
  rfl
theorem frAcc_eq {m : Nat} {p : Poly} {prs : List (Int × Int)} {dg : List Int} (h : ∀ t ∈ p, prs.length = t.1.length ∧ dg.length = t.1.length ∧ ∀ (k : Nat) (x d : Int), t.1[k]? = some x → dg[k]? = some d → 0 ≤ x ∧ x ≤ d) :
    ∀ i, i ≤ p.length → ev (p.take i) (wvs (frW prs dg)) * (frAcc prs (p.take i)).2 = (frAcc prs (p.take i)).1 * bel prs dg
  | 0, _ => by
    show (0 : Int) * _ = 0 * _
    omega
  | i + 1, hi => by
    have ht : p[i]? = some p[i] := List.getElem?_eq_getElem (by omega)
    obtain ⟨h1, h2, h3⟩ := h p[i] (List.getElem_mem _)
    have ih := frAcc_eq (m := m) h i (by omega)
    have w := wvs_fr h1 h2 h3
    rw [ev_takeS _ p i _ ht, List.take_add_one, ht]
    show _ * (frAcc prs (p.take i ++ [p[i]])).2 = (frAcc prs (p.take i ++ [p[i]])).1 * _
    rw [frAcc_snoc]
    show (ev (p.take i) _ + p[i].2 * wvs (frW prs dg) p[i].1) * ((frAcc prs (p.take i)).2 * monoD' prs p[i].1) = ((frAcc prs (p.take i)).1 * monoD' prs p[i].1 + p[i].2 * monoN prs p[i].1 * (frAcc prs (p.take i)).2) * bel prs dg
    generalize ev (p.take i) (wvs (frW prs dg)) = N at ih ⊢
    generalize (frAcc prs (p.take i)).1 = A at ih ⊢
    generalize (frAcc prs (p.take i)).2 = B at ih ⊢
    generalize wvs (frW prs dg) p[i].1 = v at w ⊢
    generalize monoD' prs p[i].1 = D at w ⊢
    generalize monoN prs p[i].1 = M at w ⊢
    rw [Int.add_mul, Int.add_mul]
    calc N * (B * D) + p[i].2 * v * (B * D) = (N * B) * D + p[i].2 * B * (v * D) := by
          congr 1
          · ac_rfl
          · ac_rfl
      _ = (A * bel prs dg) * D + p[i].2 * B * (M * bel prs dg) := by rw [ih, w]
      _ = A * D * bel prs dg + p[i].2 * M * B * bel prs dg := by
          congr 1
          · ac_rfl
          · ac_rfl
theorem monoD_pos : ∀ {prs : List (Int × Int)} {e : List Int}, (∀ q ∈ prs, 0 < q.2) → 0 < monoD' prs e
  | [], _, _ => by simp [monoD']
  | _ :: _, [], _ => by simp [monoD']
  | q :: prs, x :: e, h => Int.mul_pos (Int.pow_pos (h q List.mem_cons_self)) (monoD_pos fun y hy => h y (List.mem_cons_of_mem _ hy))
theorem inn_fr {m : Nat} {p : Poly} {prs : List (Int × Int)} (c : Canon m p) (h : prs.length = m) : Inn (frW prs (dgs m p)) p := fun t ht k x W hx hW => by
  have hk : k < m := by
    rw [← c.len t ht]
    exact (List.getElem?_eq_some_iff.mp hx).1
  have h1 : prs[k]? = some prs[k] := List.getElem?_eq_getElem (by omega)
  rw [frW_at h1 (dgs_at hk)] at hW
  rw [← Option.some.inj hW, fw_len]
  have := dgs_fit c t ht k x _ hx (dgs_at hk)
  omega
end Kx
namespace Kx
open PySem PySem.Spec PyProof.Rows L2
/-! ### exponents in one number -/
def prodD : List Int → Int
  | [] => 1
  | d :: ds => (d + 1) * prodD ds
def strd : List Int → List Int
  | [] => []
  | _ :: ds => prodD ds :: strd ds
/-- the code of exponents, by any strides -/
def cod (e S : List Int) : Int := (List.zipWith (· * ·) e S).sum
def fits : List Int → List Int → Prop
  | [], [] => True
  | x :: e, d :: ds => 0 ≤ x ∧ x ≤ d ∧ fits e ds
  | _, _ => False
theorem fits_len : ∀ {e ds : List Int}, fits e ds → e.length = ds.length
  | [], [], _ => rfl
  | x :: e, d :: ds, h => by rw [List.length_cons, List.length_cons, fits_len h.2.2]
  | [], _ :: _, h => h.elim
  | _ :: _, [], h => h.elim
theorem fits_nn : ∀ {e ds : List Int}, fits e ds → (∀ x ∈ e, 0 ≤ x) ∧ ∀ d ∈ ds, 0 ≤ d
  | [], [], _ => ⟨(fun x hx => nomatch hx), (fun x hx => nomatch hx)⟩
  | x :: e, d :: ds, h => by
    obtain ⟨a, b⟩ := fits_nn h.2.2
    refine ⟨fun y hy => ?_, fun y hy => ?_⟩
    · rcases List.mem_cons.mp hy with z | z
      · rw [z]; exact h.1
      · exact a y z
    · rcases List.mem_cons.mp hy with z | z
      · have := h.1
        have := h.2.1
        omega
      · exact b y z
  | [], _ :: _, h => h.elim
  | _ :: _, [], h => h.elim
theorem fits_of : ∀ {e ds : List Int}, e.length = ds.length → (∀ (k : Nat) (x d : Int), e[k]? = some x → ds[k]? = some d → 0 ≤ x ∧ x ≤ d) → fits e ds
  | [], [], _, _ => trivial
  | x :: e, d :: ds, h, g => ⟨(g 0 x d rfl rfl).1, (g 0 x d rfl rfl).2, fits_of (by simpa using h) fun k y z hy hz => g (k + 1) y z (by simpa using hy) (by simpa using hz)⟩
  | [], _ :: _, h, _ => by simp at h
  | _ :: _, [], h, _ => by simp at h
theorem fits_drop : ∀ {e ds : List Int} (i : Nat), fits e ds → fits (e.drop i) (ds.drop i)
  | [], [], i, _ => by simp [fits]
  | x :: e, d :: ds, 0, h => h
  | x :: e, d :: ds, i + 1, h => fits_drop i h.2.2
  | [], _ :: _, _, h => h.elim
  | _ :: _, [], _, h => h.elim
theorem prodD_pos : ∀ {ds : List Int}, (∀ d ∈ ds, 0 ≤ d) → 0 < prodD ds
  | [], _ => by show (0 : Int) < 1; decide
  | d :: ds, h => Int.mul_pos (by have := h d List.mem_cons_self; omega) (prodD_pos fun x hx => h x (List.mem_cons_of_mem _ hx))
theorem strd_len : ∀ ds : List Int, (strd ds).length = ds.length
  | [] => rfl
  | _ :: ds => by show (strd ds).length + 1 = ds.length + 1; rw [strd_len ds]
theorem strd_drop : ∀ (ds : List Int) (i : Nat), (strd ds).drop i = strd (ds.drop i)
  | [], i => by rw [List.drop_nil]; show [].drop i = []; exact List.drop_nil
  | _ :: _, 0 => rfl
  | d :: ds, i + 1 => strd_drop ds i
theorem cod_nil (S : List Int) : cod [] S = 0 := rfl
theorem cod_cons (x s : Int) (e S : List Int) : cod (x :: e) (s :: S) = x * s + cod e S := by
  unfold cod
  rw [List.zipWith_cons_cons, List.sum_cons]
theorem cod_bound : ∀ {e ds : List Int}, fits e ds → 0 ≤ cod e (strd ds) ∧ cod e (strd ds) < prodD ds
  | [], [], _ => ⟨Int.le_refl 0, by show (0 : Int) < 1; decide⟩
  | x :: e, d :: ds, h => by
    obtain ⟨a, b⟩ := cod_bound h.2.2
    have pp := prodD_pos (fits_nn h.2.2).2
    show 0 ≤ cod (x :: e) (prodD ds :: strd ds) ∧ cod (x :: e) (prodD ds :: strd ds) < (d + 1) * prodD ds
    rw [cod_cons]
    have h1 : 0 ≤ x * prodD ds := Int.mul_nonneg h.1 (by omega)
    have h2 : x * prodD ds ≤ d * prodD ds := Int.mul_le_mul_of_nonneg_right h.2.1 (by omega)
    rw [Int.add_mul, Int.one_mul]
    omega
  | [], _ :: _, h => h.elim
  | _ :: _, [], h => h.elim
theorem cod_lt : ∀ {e f ds : List Int}, fits e ds → fits f ds → HT.lexLt e f = true → cod e (strd ds) < cod f (strd ds)
  | [], [], [], _, _, h => by rw [lx_irr] at h; cases h
  | x :: e, y :: f, d :: ds, h1, h2, h => by
    have pp := prodD_pos (fits_nn h1.2.2).2
    show cod (x :: e) (prodD ds :: strd ds) < cod (y :: f) (prodD ds :: strd ds)
    rw [cod_cons, cod_cons]
    rw [HT.lexLt_cons] at h
    by_cases z : x = y
    · rw [if_pos z] at h
      have := cod_lt h1.2.2 h2.2.2 h
      rw [z]
      omega
    · rw [if_neg z] at h
      have lt := of_decide_eq_true h
      obtain ⟨_, b1⟩ := cod_bound h1.2.2
      obtain ⟨a2, _⟩ := cod_bound h2.2.2
      have : (x + 1) * prodD ds ≤ y * prodD ds := Int.mul_le_mul_of_nonneg_right (by omega) (by omega)
      rw [Int.add_mul, Int.one_mul] at this
      omega
  | [], [], _ :: _, h, _, _ => h.elim
  | [], _ :: _, [], _, h, _ => h.elim
  | [], _ :: _, _ :: _, h, _, _ => h.elim
  | _ :: _, _, [], h, _, _ => h.elim
  | _ :: _, [], _ :: _, _, h, _ => h.elim
theorem cod_add : ∀ {e f S : List Int}, e.length = S.length → f.length = S.length → cod (addE e f) S = cod e S + cod f S
  | [], [], [], _, _ => rfl
  | x :: e, y :: f, s :: S, h1, h2 => by
    show cod ((x + y) :: addE e f) (s :: S) = _
    rw [cod_cons, cod_cons, cod_cons, cod_add (by simpa using h1) (by simpa using h2), Int.add_mul]
    omega
  | [], _ :: _, [], _, h => by simp at h
  | _ :: _, _, [], h, _ => by simp at h
  | [], _, _ :: _, h, _ => by simp at h
  | _ :: _, [], _ :: _, _, h => by simp at h
theorem cod_step {e ds : List Int} {i : Nat} {x d : Int} (h : fits e ds) (hx : e[i]? = some x) (hd : ds[i]? = some d) :
    cod (e.drop i) (strd (ds.drop i)) / prodD (ds.drop (i + 1)) = x ∧ cod (e.drop i) (strd (ds.drop i)) % prodD (ds.drop (i + 1)) = cod (e.drop (i + 1)) (strd (ds.drop (i + 1))) := by
  obtain ⟨h1, e1⟩ := List.getElem?_eq_some_iff.mp hx
  obtain ⟨h2, e2⟩ := List.getElem?_eq_some_iff.mp hd
  have f2 := fits_drop (i + 1) h
  obtain ⟨a, b⟩ := cod_bound f2
  have pp := prodD_pos (fits_nn f2).2
  rw [List.drop_eq_getElem_cons h1, List.drop_eq_getElem_cons h2, e1, e2]
  rw [show strd (d :: ds.drop (i + 1)) = prodD (ds.drop (i + 1)) :: strd (ds.drop (i + 1)) from rfl, cod_cons]
  generalize prodD (ds.drop (i + 1)) = P at *
  generalize cod (e.drop (i + 1)) (strd (ds.drop (i + 1))) = c at *
  constructor
  · rw [Int.add_comm, Int.add_mul_ediv_right _ _ (by omega), Int.ediv_eq_zero_of_lt a b, Int.zero_add]
  · rw [Int.add_comm, Int.add_mul_emod_self_right, Int.emod_eq_of_lt a b]
/-- the row of a polynomial -/
def codT (S : List Int) (p : Poly) : Poly := p.map fun t => ([cod t.1 S], t.2)
theorem ev_codT (S : List Int) (f : List Int → Int) : ∀ p : Poly, ev (codT S p) f = ev p fun e => f [cod e S]
  | [] => rfl
  | t :: p => by
    show t.2 * f [cod t.1 S] + ev (codT S p) f = t.2 * f [cod t.1 S] + _
    rw [ev_codT S f p]
theorem coef_codT {S : List Int} {p q : Poly} (h : ∀ e, coef p e = coef q e) (x : List Int) : coef (codT S p) x = coef (codT S q) x := by
  show ev _ _ = ev _ _
  rw [ev_codT, ev_codT]
  exact ev_congr h _
theorem codT_row {S : List Int} {s : List Int × Int} {q : Poly} (hs : s.1.length = S.length) (hq : ∀ t ∈ q, t.1.length = S.length) : row ([cod s.1 S], s.2) (codT S q) = codT S (row s q) := by
  unfold row codT
  rw [List.map_map, List.map_map]
  refine List.map_congr_left fun t ht => ?_
  show (addE [cod s.1 S] [cod t.1 S], s.2 * t.2) = ([cod (addE s.1 t.1) S], s.2 * t.2)
  rw [cod_add hs (hq t ht)]
  rfl
theorem codT_conv {S : List Int} {q : Poly} (hq : ∀ t ∈ q, t.1.length = S.length) : ∀ {p : Poly}, (∀ t ∈ p, t.1.length = S.length) → conv (codT S p) (codT S q) = codT S (conv p q)
  | [], _ => rfl
  | s :: p, hp => by
    show row ([cod s.1 S], s.2) (codT S q) ++ conv (codT S p) (codT S q) = codT S (row s q ++ conv p q)
    rw [codT_row (hp s List.mem_cons_self) hq, codT_conv hq fun t ht => hp t (List.mem_cons_of_mem _ ht)]
    unfold codT
    rw [List.map_append]
theorem codT_canon {m : Nat} {ds : List Int} {p : Poly} (c : Canon m p) (h : ∀ t ∈ p, fits t.1 ds) : Canon 1 (codT (strd ds) p) := by
  refine ⟨fun t ht => ?_, fun t ht x hx => ?_, fun t ht => ?_, List.pairwise_map.mpr (c.up.imp_of_mem fun {s t} hs ht lt => ?_)⟩
  · obtain ⟨u, _, rfl⟩ := List.mem_map.mp ht
    rfl
  · obtain ⟨u, hu, rfl⟩ := List.mem_map.mp ht
    rw [List.mem_singleton.mp hx]
    exact (cod_bound (h u hu)).1
  · obtain ⟨u, hu, rfl⟩ := List.mem_map.mp ht
    exact c.nz u hu
  · show HT.lexLt [cod s.1 (strd ds)] [cod t.1 (strd ds)] = true
    have := cod_lt (h s hs) (h t ht) lt
    rw [HT.lexLt_cons, if_neg (by omega)]
    exact decide_eq_true this
/-- the degrees of a product -/
def dgs2 (m : Nat) (p q : Poly) : List Int := addE (dgs m p) (dgs m q)
theorem dgs2_len (m : Nat) (p q : Poly) : (dgs2 m p q).length = m := by
  unfold dgs2
  exact addE_len (dgs_len m p) (dgs_len m q)
theorem dgs2_at {m k : Nat} {p q : Poly} (h : k < m) : (dgs2 m p q)[k]? = some (dgk p k + dgk q k) := addE_at (dgs_at h) (dgs_at h)
theorem fits_l {m : Nat} {p q : Poly} (c : Canon m p) : ∀ t ∈ p, fits t.1 (dgs2 m p q) := fun t ht => fits_of (by rw [c.len t ht, dgs2_len]) fun k x d hx hd => by
  have hk : k < m := by
    rw [← c.len t ht]
    exact (List.getElem?_eq_some_iff.mp hx).1
  rw [dgs2_at hk] at hd
  have a := le_dgk ht hx
  have b : 0 ≤ dgk q k := mx_nn _
  have e := Option.some.inj hd
  exact ⟨c.nn t ht x (List.mem_of_getElem? hx), by omega⟩
theorem fits_r {m : Nat} {p q : Poly} (c : Canon m q) : ∀ t ∈ q, fits t.1 (dgs2 m p q) := fun t ht => fits_of (by rw [c.len t ht, dgs2_len]) fun k x d hx hd => by
  have hk : k < m := by
    rw [← c.len t ht]
    exact (List.getElem?_eq_some_iff.mp hx).1
  rw [dgs2_at hk] at hd
  have a := le_dgk ht hx
  have b : 0 ≤ dgk p k := mx_nn _
  have e := Option.some.inj hd
  exact ⟨c.nn t ht x (List.mem_of_getElem? hx), by omega⟩
theorem ins_from {t u : List Int × Int} {p : Poly} (h : u ∈ insP t p) : u.1 = t.1 ∨ ∃ v ∈ p, u.1 = v.1 := (ins_mem h).imp id fun z => ⟨u, z, rfl⟩
theorem norm_from : ∀ {r : Poly} {u : List Int × Int}, u ∈ norm r → ∃ v ∈ r, u.1 = v.1
  | [], u, h => nomatch h
  | t :: r, u, h => by
    rcases ins_from (show u ∈ insP t (norm r) from h) with z | ⟨v, hv, z⟩
    · exact ⟨t, List.mem_cons_self, z⟩
    · obtain ⟨y, hy, e⟩ := norm_from hv
      exact ⟨y, List.mem_cons_of_mem _ hy, z.trans e⟩
theorem addE_get {a b : List Int} {k : Nat} {z : Int} (h : (addE a b)[k]? = some z) : ∃ x y, a[k]? = some x ∧ b[k]? = some y ∧ z = x + y := by
  unfold addE at h
  rw [List.getElem?_zipWith] at h
  cases ha : a[k]? with
  | none => rw [ha] at h; cases h
  | some x =>
    cases hb : b[k]? with
    | none => rw [ha, hb] at h; cases h
    | some y =>
      rw [ha, hb] at h
      exact ⟨x, y, rfl, rfl, (Option.some.inj h).symm⟩
theorem fits_mul {m : Nat} {p q : Poly} (cp : Canon m p) (cq : Canon m q) : ∀ t ∈ mulP p q, fits t.1 (dgs2 m p q) := fun t ht => by
  obtain ⟨v, hv, e⟩ := norm_from ht
  obtain ⟨s, hs, u, hu, rfl⟩ := conv_mem hv
  have e : t.1 = addE s.1 u.1 := e
  rw [e]
  refine fits_of (by rw [addE_len (cp.len s hs) (cq.len u hu), dgs2_len]) fun k x d hx hd => ?_
  obtain ⟨x1, y1, h1, h2, rfl⟩ := addE_get hx
  have hk : k < m := by
    rw [← cp.len s hs]
    exact (List.getElem?_eq_some_iff.mp h1).1
  rw [dgs2_at hk] at hd
  have a := le_dgk hs h1
  have b := le_dgk hu h2
  have a0 := cp.nn s hs x1 (List.mem_of_getElem? h1)
  have b0 := cq.nn u hu y1 (List.mem_of_getElem? h2)
  have z := Option.some.inj hd
  omega
/-- the product's row is the row of the product -/
theorem row_of_mul {m : Nat} {p q s : Poly} (cp : Canon m p) (cq : Canon m q) (cs : Canon 1 s) (h : ∀ e, coef s e = coef (conv (codT (strd (dgs2 m p q)) p) (codT (strd (dgs2 m p q)) q)) e) : s = codT (strd (dgs2 m p q)) (mulP p q) := by
  have l : (strd (dgs2 m p q)).length = m := by rw [strd_len, dgs2_len]
  refine canon_ext cs (codT_canon (mulP_canon cp cq) (fits_mul cp cq)) fun e => ?_
  rw [h, codT_conv (fun t ht => by rw [cq.len t ht, l]) (fun t ht => by rw [cp.len t ht, l])]
  exact coef_codT (fun x => (coef_mulP p q x).symm) e
theorem prodD_lt {c : Nat} : ∀ {ds : List Int}, (∀ d ∈ ds, Lt2 c (d + 1)) → Lt2 (ds.length * c + 1) (prodD ds)
  | [], _ => by
    show (1 : Int).natAbs < 2 ^ (0 * c + 1)
    rw [Nat.zero_mul]
    decide
  | d :: ds, h => by
    have a := h d List.mem_cons_self
    have b := prodD_lt fun x hx => h x (List.mem_cons_of_mem _ hx)
    exact (a.mul b).mono (by rw [List.length_cons, Nat.add_mul]; omega)
end Kx
namespace Kx
open PySem PySem.Spec PyProof.Rows L2
theorem SqB.bt {K : PySem.W.Frag} {c : Bool} {H H' : Hp} {D x : Addr} {xs : List V} (h : SqB K c H x xs) (e : Bt D H H') (hD : H D = none) : SqB K c H' x xs := by
  cases c with
  | true =>
    rcases (show SqL K H x xs from h) with (z | ⟨o, z⟩) | z
    · exact .inl (.inl (e _ _ z (ne_of_none z hD)))
    · exact .inl (.inr ⟨o, e _ _ z (ne_of_none z hD)⟩)
    · exact .inr z
  | false =>
    rcases (show SqT K H x xs from h) with (z | ⟨o, z⟩) | z
    · exact .inl (.inl (e _ _ z (ne_of_none z hD)))
    · exact .inl (.inr ⟨o, e _ _ z (ne_of_none z hD)⟩)
    · exact .inr z
theorem walk_revT {K : PySem.W.Frag} {a : Addr} {xs : List V} : Walk (RT.ItvT K a xs.length) xs.length (fun H => SqT K H a xs) (fun i H x H' => H' = H ∧ xs[xs.length - 1 - i]? = some x) :=
  ⟨fun i _ hi q => ⟨hi, xs, xs[xs.length - 1 - i]'(by omega), q, by simp [show xs.length - 1 - i < xs.length by omega]⟩, fun _ _ => Nat.le_refl _, fun _ _ _ _ _ q y => ⟨y.1, y.2 xs q⟩⟩
end Kx
namespace Kx
open PySem PySem.Spec PyProof.Rows L2
/-! ### products of rows -/
theorem at_row {H : Hp} {p : Poly} {ts : List Addr} {i : Nat} {x : V} (h : Paired (PairOf H) ts p) (hx : (ts.map V.ref)[i]? = some x) : ∃ t u, x = .ref t ∧ ts[i]? = some t ∧ p[i]? = some u ∧ PairOf H t u := by
  rw [List.getElem?_map] at hx
  cases hb : ts[i]? with
  | none => rw [hb] at hx; cases hx
  | some t =>
    rw [hb] at hx
    obtain ⟨u, h1, h2⟩ := paired_get h hb
    exact ⟨t, u, (Option.some.inj hx).symm, rfl, h1, h2⟩
theorem hd_add {a b : List Int} (ha : a.length = 1) (hb : b.length = 1) : addE a b = [hd a + hd b] := by
  rw [hd_one ha, hd_one hb]
  rfl
/-- what the product of two rows promises; ok: which rows it is asked of -/
def spRow2 (ok : Poly → Poly → Prop) : Sp := fun vs H Q _ => ∃ (a b : Addr) (p q : Poly) (B C : Nat), vs = [.ref a, .ref b] ∧ RowAt H a p ∧ RowAt H b q ∧ Canon 1 p ∧ Canon 1 q ∧ Wd B p ∧ Wd C q ∧ 0 < B ∧ 0 < C ∧ B + C ≤ 50000 ∧ p.length * q.length ≤ 900000 ∧ ok p q ∧
  ∀ (r : Addr) (s : Poly) (H' : Hp), Canon 1 s → (∀ e, coef s e = coef (conv p q) e) → s.length ≤ p.length * q.length → Same H H' → RowAt H' r s → Q (.ref r) H'
theorem lex_addE : ∀ {z x y : List Int}, x.length = z.length → y.length = z.length → HT.lexLt x y = true → HT.lexLt (addE z x) (addE z y) = true
  | [], [], [], _, _, h => by rw [lx_irr] at h; cases h
  | k :: z, x :: xs, y :: ys, h1, h2, h => by
    show HT.lexLt ((k + x) :: addE z xs) ((k + y) :: addE z ys) = true
    rw [HT.lexLt_cons] at h ⊢
    by_cases e : x = y
    · rw [if_pos e] at h
      rw [if_pos (by rw [e])]
      exact lex_addE (by simpa using h1) (by simpa using h2) h
    · rw [if_neg e] at h
      have := of_decide_eq_true h
      rw [if_neg (by omega)]
      exact decide_eq_true (by omega)
  | [], _ :: _, _, h, _, _ => by simp at h
  | [], [], _ :: _, _, h, _ => by simp at h
  | _ :: _, [], _, h, _, _ => by simp at h
  | _ :: _, _ :: _, [], _, h, _ => by simp at h
theorem row_canon {m : Nat} {s : List Int × Int} {q : Poly} (hs : s.1.length = m) (hn : ∀ x ∈ s.1, 0 ≤ x) (h0 : s.2 ≠ 0) (c : Canon m q) : Canon m (row s q) := by
  refine ⟨fun t ht => ?_, fun t ht => ?_, fun t ht => ?_, List.pairwise_map.mpr (c.up.imp_of_mem fun {a b} ha hb lt => lex_addE ((c.len a ha).trans hs.symm) ((c.len b hb).trans hs.symm) lt)⟩
  · obtain ⟨u, hu, rfl⟩ := row_mem ht
    exact addE_len hs (c.len u hu)
  · obtain ⟨u, hu, rfl⟩ := row_mem ht
    exact addE_nn hn (c.nn u hu)
  · obtain ⟨u, hu, rfl⟩ := row_mem ht
    exact Int.mul_ne_zero h0 (c.nz u hu)
/-- a walk, whatever each turn does -/
theorem walk_it {J : It} {n : Nat} {G : Hp → Prop} {Y : Nat → Hp → V → Hp → Prop} (w : Walk J n G Y) {Body : V → Hp → (Hp → Prop) → Prop} {H0 : Hp} {Qd : Hp → Prop} (Pv : Nat → Hp → Prop) (h0 : Pv 0 H0) (hG : ∀ i H, i ≤ n → Pv i H → G H)
    (hs : ∀ i x H H', i < n → Pv i H → Y i H x H' → Body x H' (Pv (i + 1))) (hd : ∀ H, Pv n H → Qd H) :
    ∃ W : Nat → Nat → Hp → Prop, (∃ m, W 0 m H0) ∧ ∀ i m H', W i m H' → (J.stop i H' ∧ Qd H') ∨ (J.go i H' ∧ ∃ N : Hp → Prop, (∀ H2, N H2 → ∃ m', m' < m ∧ W (i + 1) m' H2) ∧ ∀ x H2, J.yld i H' x H2 → Body x H2 N) := by
  refine ⟨fun i m H => m = n - i ∧ i ≤ n ∧ Pv i H, ⟨n, by simp, Nat.zero_le _, h0⟩, fun i m H ⟨em, hi, p⟩ => ?_⟩
  subst em
  have q := hG i H hi p
  by_cases lt : i < n
  · exact .inr ⟨w.goes i H lt q, Pv (i + 1), fun H' p' => ⟨n - (i + 1), by omega, rfl, lt, p'⟩, fun x H' y => hs i x H H' lt p (w.yields i H x H' lt q y)⟩
  · obtain rfl : i = n := by omega
    exact .inl ⟨w.stops H q, hd H p⟩
/-- a row's codes ascend by at least 1 -/
theorem row_span : ∀ {p : Poly} {s u : List Int × Int}, Canon 1 (s :: p) → (s :: p)[p.length]? = some u → hd s.1 + (p.length : Int) ≤ hd u.1
  | [], s, u, _, h => by
    cases h
    show hd s.1 + 0 ≤ hd s.1
    omega
  | t :: p, s, u, c, h => by
    have ih := row_span c.tail (by simpa using h)
    have lt := (List.pairwise_cons.mp c.up).1 t List.mem_cons_self
    rw [hd_one (c.len s List.mem_cons_self), hd_one (c.len t (List.mem_cons_of_mem _ List.mem_cons_self)), HT.lexLt_cons] at lt
    by_cases e : hd s.1 = hd t.1
    · rw [if_pos e, lx_irr] at lt
      cases lt
    · rw [if_neg e] at lt
      have := of_decide_eq_true lt
      rw [List.length_cons]
      omega
theorem last_at {α : Type} {xs : List α} {x : α} (h : xs[xs.length - 1]? = some x) (h0 : 0 < xs.length) : atI xs (-1) = some x := by
  obtain ⟨l, y, rfl⟩ := snoc_of h0
  rw [List.length_append, List.length_singleton, Nat.add_sub_cancel, List.getElem?_append_right (Nat.le_refl _), Nat.sub_self] at h
  cases h
  exact atI_last l _
/-- seven by seven terms are never so dense -/
theorem seven {a b : Nat} (ha : a ≤ 7) (hb : b ≤ 7) (a1 : 1 ≤ a) (b1 : 1 ≤ b) : a * b ≤ 4 * (a + b - 1) := by
  have h : a = 1 ∨ a = 2 ∨ a = 3 ∨ a = 4 ∨ a = 5 ∨ a = 6 ∨ a = 7 := by omega
  rcases h with z | z | z | z | z | z | z <;> subst z <;> omega
def okSeven (p q : Poly) : Prop := p.length ≤ 7 ∧ q.length ≤ 7 ∧ (∀ t ∈ p, ∀ x ∈ t.1, Lt2 60000 x) ∧ ∀ t ∈ q, ∀ x ∈ t.1, Lt2 60000 x
end Kx
namespace Kx
open PySem PySem.Spec PyProof.Rows L2
def topS (i : Nat) : Stmt := PySem.Challenge.pw_figureclaims_k21_polynomials_judged.main.body.getD i (.Pass ⟨0, 0, 0, 0⟩)
abbrev sSource : Stmt := topS 15
abbrev sPick : Stmt := topS 13
/-- the built-in names that are read -/
structure Blt (mg : Str → Option Value) : Prop where
  abs : mg "abs" = none
  int : mg "int" = none
  len : mg "len" = none
  max : mg "max" = none
section
variable {P : Program} {w : World} {K : PySem.W.Frag} {mg : Str → Option Value} {base : Heap} {f : Addr} {fd : FuncData}

theorem scSource : FnScope ["script", "mixed", "cell"] ["script"] (defScope sSource) := ⟨rfl, rfl, rfl, by decide +kernel, rfl, by decide +kernel, by decide +kernel⟩
theorem ok_source (F : L2.Fun K "_law_source" "_law_source" sSource f fd) (T : Blt mg) : FnOk P w K mg base CX0 1 f fd ["script"] (spSource K) := by
  refine F.ok scSource (fun vs H Q E h => ?_) (fun cdv A outer s H vs Q E hr h => ?_)
  · obtain ⟨b, ns, rfl, _⟩ := h
    rfl
  · obtain ⟨b, ns, rfl, hS, hl, hz, k⟩ := h
    refine ⟨_, pss_cons (ps_set (i := 1) scSource.nd rfl (.inl rfl) pe_int)
      (pss_cons (ps_for PassesOwn.never rfl (pi_list (pv 0)) (pg_name (i := 2) scSource.nd rfl (.inl rfl))
        (pss_one (ps_set (i := 1) scSource.nd rfl (.inl rfl) (pe_op op_mod (pe_callTy call_int1 (by rfl) T.int (by decide +kernel)
          (pa_cons (pe_op op_add (pe_op op_add (pe_op op_mul (pv 1) pe_int) (pe_op op_mul (pv 2) pe_int)) pe_int) pa_nil)) pe_int))))
      (pss_one (ps_ret (pe_disp (pps_cons pe_str (pe_revL (pe_lc (own := [("cell", 2)]) (g := gName 2) rfl scSource.nd (pi_list (pv 0))
          (blkOk_by (N := ["script", "mixed", "cell"]) (sc := defScope sSource) (by decide +kernel)) (fun _ _ _ _ _ => pg_name (i := 2) scSource.nd rfl (.inl rfl))
          (fun _ _ _ _ _ => pts_nil) (fun _ _ _ _ _ => pe_callB call_abs (by rfl) T.abs (by decide +kernel) (pa_cons (pv 2) pa_nil))))
        (pps_cons pe_str pe_int (pps_cons pe_str (pv 1) (pps_cons pe_str pe_int pps_nil)))) (by rfl) (by rfl) (fun z => by cases z) (by decide))))), ?_⟩
    refine ⟨_, rfl, b, rfl, ⟨_, hS⟩, for_list (K := K) (a := b) (xs := ns.map V.int) (fun i σ H1 => ∃ (m : Int) (v : Option V), σ = [some (.ref b), some (.int m), v] ∧ H1 = H ∧ 0 ≤ m)
      ⟨11, none, rfl, rfl, by decide⟩ (fun i σ H1 _ ⟨_, _, _, e, _⟩ => by rw [e]; exact hS) ?_ ?_⟩
    · rintro i y σ H1 hi ⟨m, v, rfl, rfl, hm⟩
      obtain ⟨z, rfl⟩ := int_of hi
      refine ⟨_, rfl, _, _, rfl, rfl, .inr ⟨by decide, by decide⟩, _, rfl, _, _, rfl, rfl, .inr ⟨by decide, by decide⟩, _, _, rfl, rfl, _, _, rfl, rfl,
        .inl ⟨_, rfl, _, _, rfl, rfl, (by show (0 : Int) < 2147483629; decide), ?_⟩⟩
      exact ⟨_, _, rfl, rfl, Int.emod_nonneg _ (by decide)⟩
    · rintro σ H1 ⟨m, v, rfl, rfl, hm⟩
      intro p hp
      have s1 : Same H1 (upd H1 p (.dK [])) := same_new hp
      refine ⟨_, rfl, b, rfl, ⟨_, s1.seq hS⟩, fun D hD => lc_list (K := K) (a := b) (xs := ns.map V.int)
        (fun i H2 => H2 = upd (upd H1 p (.dK [])) D (.lst ((ns.take i).map fun z => V.int (if z < 0 then -z else z)))) rfl ?_ ?_ ?_⟩
      · rintro i H2 _ rfl
        exact (same_new hD).seq (s1.seq hS)
      · rintro i x H2 hx rfl
        obtain ⟨z, rfl, hz2⟩ := int_of' hx
        refine ⟨rfl, _, rfl, z, rfl, _, upd_same, ?_, ?_⟩
        · rw [List.length_map, List.length_take]
          exact Nat.lt_of_le_of_lt (Nat.min_le_right _ _) (small1000 (by omega))
        · rw [upd_upd, List.take_add_one, hz2, List.map_append]
          rfl
      · rintro H2 rfl
        rw [List.length_map, List.take_length]
        refine ⟨D, _, rfl, SqL.of upd_same, fun l hL => ?_⟩
        have nDp : D ≠ p := fun e => by
          rw [e, upd_same] at hD
          cases hD
        have nlD : l ≠ D := fun e => by
          rw [e, upd_same] at hL
          cases hL
        rw [upd_ne nlD] at hL
        have nlp : l ≠ p := fun e => by
          rw [e, upd_same] at hL
          cases hL
        rw [upd_ne nlp] at hL
        rw [upd_ne nDp] at hD
        refine ⟨_, rfl, ?_, srcD l 1 m 0, rfl, (by show 4 ≤ 15; decide), ?_⟩
        · rw [upd_ne nlp.symm, upd_ne nDp.symm, upd_same]
        rw [src_made]
        refine k p l _ hp hL ?_ ⟨_, 1, m, 0, upd_same, by rw [upd_ne nlp, upd_same, ← rev_ints], ?_, ?_, by decide, hm, by decide⟩
        · intro c o e
          rw [upd_ne (ne_of_none e hp), upd_ne (ne_of_none e hL), upd_ne (ne_of_none e hD), upd_ne (ne_of_none e hp)]
          exact e
        · intro c hc
          obtain ⟨z, _, rfl⟩ := List.mem_map.mp (List.mem_reverse.mp hc)
          show (0 : Int) ≤ if z < 0 then -z else z
          split <;> omega
        · rw [List.length_reverse, List.length_map]
          exact hl

theorem scPick : FnScope ["source", "many", "left", "mixed"] ["source", "many"] (defScope sPick) := ⟨rfl, rfl, rfl, by decide +kernel, rfl, by decide +kernel, by decide +kernel⟩
theorem ok_pick (F : L2.Fun K "_law_pick" "_law_pick" sPick f fd) (T : Blt mg) : FnOk P w K mg base CX0 1 f fd ["source", "many"] spPickW := by
  refine F.ok scPick (fun vs H Q E h => ?_) (fun cdv A outer s H vs Q E hr h => ?_)
  · obtain ⟨d, l, n, rfl, _⟩ := h
    rfl
  · obtain ⟨d, l, n, rfl, ⟨cs0, a0, m0, t0, S0⟩, hn, k⟩ := h
    have hu := hu_of hr
    refine ⟨_, Evl.pss_cut (ps_while PassesOwn.never (PW.pt (pw_and (pt_cmpR op_gt (pv 1) pe_int (nomark _)) (pw_and (pt_cmpR op_lt (pe_dget hu (pv 0) pe_str (fun _ _ => rfl)) pe_int (nomark _))
          (pw_and1 (pt_cmpR op_gt (pe_callB call_len_seq (by rfl) T.len PySem.boot_len (pa_cons (pe_dget hu (pv 0) pe_str (fun _ _ => rfl)) pa_nil)) pe_int (nomark _))))))
        (pss_one (ps_dput hu (pv 0) pe_str (pe_bm0 PySem.F.plainAttrs_list PySem.F.slot_list_pop PySem.F.type_list_pop mt_pop (pe_dget hu (pv 0) pe_str (fun _ _ => rfl))) rfl)))
      (pss_cons (ps_set (i := 2) scPick.nd rfl (.inl rfl) (pe_dget hu (pv 0) pe_str (fun _ _ => rfl)))
      (pss_cons (ps_if (PW.pt (pw_or (pt_cmpR op_lt (pv 1) pe_int (nomark _)) (pw_or1 (pt_cmpR op_gt (pv 2) pe_int (nomark _)))))
        (pss_cons (ps_dput hu (pv 0) pe_str (pe_op op_fdivG (pv 2) (pe_callB (call_max2 rfl) (by rfl) T.max (by decide +kernel) (pa_cons pe_int (pa_cons (pv 1) pa_nil)))) rfl)
        (pss_one (ps_ret (pe_op op_modN (pe_callTy call_int1 (by rfl) T.int (by decide +kernel) (pa_cons (pv 2) pa_nil)) (pe_callB (call_max2 rfl) (by rfl) T.max (by decide +kernel) (pa_cons pe_int (pa_cons (pv 1) pa_nil)))))))
        pss_nil)
      (pss_cons (ps_dput hu (pv 0) pe_str (pe_op op_add (pe_dget hu (pv 0) pe_str (fun _ _ => rfl)) pe_int) rfl)
      (pss_cons (ps_set (i := 3) scPick.nd rfl (.inl rfl) (pe_op op_mod (pe_callTy call_int1 (by rfl) T.int (by decide +kernel) (pa_cons (pe_op op_add (pe_dget hu (pv 0) pe_str (fun _ _ => rfl))
        (pe_op op_mul (pe_dget hu (pv 0) pe_str (fun _ _ => rfl)) pe_int)) pa_nil)) pe_int))
      (pss_cons (ps_set (i := 3) scPick.nd rfl (.inl rfl) (pe_op op_mod (pe_callTy call_int1 (by rfl) T.int (by decide +kernel) (pa_cons (pe_op op_add (pe_op op_mul (pv 3) (pv 3))
        (pe_op op_mul (pe_dget hu (pv 0) pe_str (fun _ _ => rfl)) pe_int)) pa_nil)) pe_int))
      (pss_cons (ps_dput hu (pv 0) pe_str (pv 3) rfl)
      (pss_one (ps_ret (pe_op op_mod (pe_callTy call_int1 (by rfl) T.int (by decide +kernel) (pa_cons (pe_op op_fdiv (pv 3) pe_int) pa_nil)) (pv 1)))))))))), ?_⟩
    refine ⟨fun σ H1 => σ = [some (.ref d), some (.int n), none, none] ∧ But d l H H1 ∧ SrcAt H1 d l,
      ⟨fun m σ H1 => σ = [some (.ref d), some (.int n), none, none] ∧ But d l H H1 ∧ ∃ cs a b c, Src H1 d l cs a b c ∧ cs.length = m, ⟨_, rfl, But.refl, cs0, a0, m0, t0, S0, rfl⟩, ?_⟩, ?_⟩
    · rintro m σ H1 ⟨rfl, B1, cs, a, b, c, S, hm⟩
      have hdl : d ≠ l := S.ne
      have e1 : DGet H1 d (.str "cells") (some (.ref l)) := by rw [← src_cells (a := a) (m := b) (t := c)]; exact DGet.k (k := kCells) S.dc
      have e2 : DGet H1 d (.str "left") (some (.int a)) := by rw [← src_left (l := l) (m := b) (t := c)]; exact DGet.k (k := kLeft) S.dc
      have stop : [some (V.ref d), some (V.int n), none, none] = [some (V.ref d), some (V.int n), none, none] ∧ But d l H H1 ∧ SrcAt H1 d l := ⟨rfl, B1, cs, a, b, c, S⟩
      refine ⟨_, rfl, _, _, rfl, rfl, _, rfl, ite2 (fun h1 => ?_) (fun h1 => iteF stop)⟩
      refine ⟨_, rfl, d, _, rfl, e2, _, _, rfl, rfl, _, rfl, ite2 (fun h2 => ?_) (fun h2 => iteF stop)⟩
      refine ⟨_, rfl, d, _, rfl, e1, l, _, rfl, .inl (SqL.of S.ls), _, _, rfl, rfl, _, rfl, ite2 (fun h3 => ?_) (fun h3 => stop)⟩
      have h4 : 0 < cs.length := by
        have q := of_decide_eq_true h3
        rw [List.length_map] at q
        omega
      obtain ⟨cs', z, rfl⟩ := snoc_of h4
      have hy : ((cs' ++ [z]).map V.int)[((cs' ++ [z]).map V.int).length - 1]? = some (.int z) := by simp
      have hq : ((cs' ++ [z]).map V.int).dropLast = cs'.map V.int := by simp
      refine ⟨fun σ' H' => ∃ m', m' < m ∧ σ' = [some (.ref d), some (.int n), none, none] ∧ But d l H H' ∧ ∃ cs a b c, Src H' d l cs a b c ∧ cs.length = m',
        fun σ' H' q => q, _, rfl, d, _, rfl, e1, .inl ⟨rfl, _, SqL.of S.ls⟩, l, _, .int z, rfl, rfl, S.ls, hy, _, rfl, d, _, rfl, DPut.k (k := kLeft) (Eq.trans (upd_ne hdl) S.dc) (by show 4 < sizeLine; decide), ?_⟩
      refine ⟨cs'.length, by rw [← hm, List.length_append]; exact Nat.lt_succ_self _, rfl, B1.trans (But.l.trans But.d), cs', z, b, c, ⟨?_, ?_, fun x hx => S.c0 x (List.mem_append_left _ hx), ?_, S.c0 z (by simp), S.m0, S.t0⟩, rfl⟩
      · rw [upd_same, put_left]
      · rw [upd_ne hdl.symm, upd_same, hq]
      · have := S.few
        rw [List.length_append] at this
        omega
    · rintro σ H1 ⟨rfl, B1, cs, a, b, c, S⟩
      have hdl : d ≠ l := S.ne
      have e2 : DGet H1 d (.str "left") (some (.int a)) := by rw [← src_left (l := l) (m := b) (t := c)]; exact DGet.k (k := kLeft) S.dc
      have e3 : DGet H1 d (.str "turn") (some (.int c)) := by rw [← src_turn (l := l) (m := b) (a := a)]; exact DGet.k (k := kTurn) S.dc
      have hM : ∀ M : Int, M = (if n > 1 then n else 1) → M ≠ 0 ∧ M.natAbs.log2 < 9000 ∧ 0 < M := fun M e => by
        have h1 : M ≠ 0 ∧ M.natAbs < 1000000000000000000000000000000 ∧ 0 < M := by
          rw [e]
          split <;> omega
        exact ⟨h1.1, log_lt h1.2.1, h1.2.2⟩
      have put1 : DPut H1 d (.str "left") (.int (a.fdiv (if n > 1 then n else 1))) (upd H1 d (.dK (srcD l (a.fdiv (if n > 1 then n else 1)) b c))) := by
        rw [← put_left (l := l) (a := a) (m := b) (t := c)]
        exact DPut.k (k := kLeft) S.dc (by show 4 < sizeLine; decide)
      have fin1 : Q (.int (a.fmod (if n > 1 then n else 1))) (upd H1 d (.dK (srcD l (a.fdiv (if n > 1 then n else 1)) b c))) := by
        obtain ⟨h1, h2, h3⟩ := hM _ rfl
        refine k _ _ (fmod_nn _ h3) ?_ ⟨cs, _, b, c, upd_same, Eq.trans (upd_ne hdl.symm) S.ls, S.c0, S.few, ?_, S.m0, S.t0⟩ (B1.trans But.d)
        · by_cases c2 : n > 1
          · rw [if_pos c2]
            exact .inl (fmod_lt _ (by omega))
          · rw [if_neg c2]
            exact .inr ⟨by omega, by have q1 := fmod_lt a (show (0 : Int) < 1 by decide); have q2 := fmod_nn a (show (0 : Int) < 1 by decide); omega⟩
        · rw [Int.fdiv_eq_ediv_of_nonneg _ (by omega)]
          exact Int.ediv_nonneg S.a0 (by omega)
      refine ⟨_, rfl, d, _, rfl, e2, _, rfl, _, _, rfl, rfl, _, rfl, ite2 (fun h1 => ?_) (fun h1 => ⟨_, rfl, _, _, rfl, rfl, _, rfl, ite2 (fun h2 => ?_) (fun h2 => ?_)⟩)⟩
      · exact ⟨_, rfl, _, rfl, _, _, rfl, _, _, rfl, rfl, ⟨(hM _ rfl).1, (hM _ rfl).2.1⟩, _, rfl, d, _, rfl, put1, _, rfl, .inl ⟨_, rfl, _, rfl, _, _, rfl, _, _, rfl, rfl, (hM _ rfl).1, fin1⟩⟩
      · exact ⟨_, rfl, _, rfl, _, _, rfl, _, _, rfl, rfl, ⟨(hM _ rfl).1, (hM _ rfl).2.1⟩, _, rfl, d, _, rfl, put1, _, rfl, .inl ⟨_, rfl, _, rfl, _, _, rfl, _, _, rfl, rfl, (hM _ rfl).1, fin1⟩⟩
      · have n2 : ¬ n < 2 := fun z => h1 (decide_eq_true z)
        have S2 : Src (upd H1 d (.dK (srcD l a b (c + 1)))) d l cs a b (c + 1) := ⟨upd_same, Eq.trans (upd_ne hdl.symm) S.ls, S.c0, S.few, S.a0, S.m0, by have := S.t0; omega⟩
        have put2 : DPut H1 d (.str "turn") (.int (c + 1)) (upd H1 d (.dK (srcD l a b (c + 1)))) := by
          rw [← put_turn (l := l) (a := a) (m := b) (t := c)]
          exact DPut.k (k := kTurn) S.dc (by show 4 < sizeLine; decide)
        have e4 : DGet (upd H1 d (.dK (srcD l a b (c + 1)))) d (.str "mixed") (some (.int b)) := by rw [← src_mixed (l := l) (a := a) (t := c + 1)]; exact DGet.k (k := kMixed) S2.dc
        have e5 : DGet (upd H1 d (.dK (srcD l a b (c + 1)))) d (.str "turn") (some (.int (c + 1))) := by rw [← src_turn (l := l) (m := b) (a := a)]; exact DGet.k (k := kTurn) S2.dc
        refine ⟨_, rfl, d, _, rfl, e3, _, _, rfl, rfl, _, rfl, d, _, rfl, put2, _, rfl, d, _, rfl, e4, _, rfl, d, _, rfl, e5, _, _, rfl, rfl, .inr ⟨by decide, by decide⟩, _, _, rfl, rfl, .inl ⟨_, rfl, _, _, rfl, rfl, (by show (0 : Int) < 998244353; decide), ?_⟩⟩
        have x0 : (0 : Int) ≤ (b + (c + 1) * 104729) % 998244353 := Int.emod_nonneg _ (by decide)
        have x1 : (b + (c + 1) * 104729) % 998244353 < 998244353 := Int.emod_lt_of_pos _ (by decide)
        refine ⟨_, rfl, _, rfl, _, _, rfl, rfl, .inl ⟨by omega, by omega⟩, _, rfl, d, _, rfl, e5, _, _, rfl, rfl, .inr ⟨by decide, by decide⟩, _, _, rfl, rfl, .inl ⟨_, rfl, _, _, rfl, rfl, (by show (0 : Int) < 2147483647; decide), ?_⟩⟩
        have put3 : ∀ y : Int, DPut (upd H1 d (.dK (srcD l a b (c + 1)))) d (.str "mixed") (.int y) (upd (upd H1 d (.dK (srcD l a b (c + 1)))) d (.dK (srcD l a y (c + 1)))) := fun y => by
          rw [← put_mixed (l := l) (a := a) (m := b) (t := c + 1)]
          exact DPut.k (k := kMixed) S2.dc (by show 4 < sizeLine; decide)
        refine ⟨_, rfl, _, rfl, d, _, rfl, put3 _, _, rfl, _, _, rfl, rfl, ⟨by decide, by decide⟩, .inl ⟨_, rfl, _, rfl, _, _, rfl, rfl, (by show 0 < n; omega), ?_⟩⟩
        refine k _ _ (Int.emod_nonneg _ (by omega)) (.inl (Int.emod_lt_of_pos _ (by omega))) ⟨cs, a, _, c + 1, upd_same, Eq.trans (upd_ne hdl.symm) S2.ls, S.c0, S.few, S.a0, Int.emod_nonneg _ (by decide), S2.t0⟩ (B1.trans (But.d.trans But.d))
end
end Kx
namespace Kx
open PySem PySem.Spec PyProof.Rows L2
abbrev sOf : Stmt := topS 14
abbrev sTold : Stmt := topS 16
/-- further built-in names that are read -/
structure BltP (mg : Str → Option Value) : Prop where
  tup : mg "tuple" = none
  lst : mg "list" = none
  srt : mg "sorted" = none
  rng : mg "range" = none
/-- the polynomial of a dict -/
def spTold : Sp := fun vs H Q _ => ∃ (a : Addr) (d : Poly) (m : Nat), vs = [.ref a] ∧ H a = some (.dT (keyed d)) ∧ Terms m d ∧ (1 ≤ m ∨ d.length < 2) ∧ d.length < 1000000 ∧
  ∀ (r : Addr) (p : Poly) (H' : Hp), Canon m p → (∀ e, coef p e = coef d e) → p.length ≤ d.length → Same H H' → PolyAt H' r p → Q (.ref r) H'
section
variable {P : Program} {w : World} {K : PySem.W.Frag} {mg : Str → Option Value} {base : Heap} {f : Addr} {fd : FuncData}
theorem scOf : FnScope ["source", "some"] ["source", "some"] (defScope sOf) := ⟨rfl, rfl, rfl, by decide +kernel, rfl, by decide +kernel, by decide +kernel⟩
theorem ok_of (F : L2.Fun K "_law_of" "_law_of" sOf f fd) (D : Def P w K mg base 1 "_law_pick" ["source", "many"] spPickW) (T : Blt mg) :
    FnOk P w K mg base CX0 2 f fd ["source", "some"] (spOf K) := by
  refine F.ok scOf (fun vs H Q E h => ?_) (fun cdv A outer s H vs Q E hr h => ?_)
  · obtain ⟨_, _, _, _, rfl, _⟩ := h
    rfl
  · obtain ⟨d, l, p, xs, rfl, S, hS, n1, n2, h0, hz, k⟩ := h
    refine ⟨_, pss_one (ps_ret (pe_ix ix_list (pv 1) (pe_callD D hr (by rfl) (pa_cons (pv 0) (pa_cons (pe_callB call_len_seq (by rfl) T.len PySem.boot_len (pa_cons (pv 1) pa_nil)) pa_nil))) (fun _ _ => rfl))), ?_⟩
    refine ⟨_, rfl, _, rfl, _, rfl, p, xs, rfl, .inl hS, d, l, _, rfl, S, by omega, fun r H' r0 rl S' B => ?_⟩
    have rl' : r < (xs.length : Int) := by
      rcases rl with q | ⟨q1, q2⟩
      · exact q
      · omega
    have hr1 : r.toNat < xs.length := by omega
    refine ⟨p, xs, r, xs[r.toNat], rfl, rfl, seq_but B n1 n2 hS, at_of (j := r.toNat) (by omega) (List.getElem?_eq_getElem hr1), k _ _ (List.getElem_mem hr1) S' B⟩

theorem scTold : FnScope ["terms", "one"] ["terms"] (defScope sTold) := ⟨rfl, rfl, rfl, by decide +kernel, rfl, by decide +kernel, by decide +kernel⟩
theorem ok_told (F : L2.Fun K "_law_told" "_law_told" sTold f fd) (T : BltP mg) : FnOk P w K mg base CX0 1 f fd ["terms"] spTold := by
  refine F.ok scTold (fun vs H Q E h => ?_) (fun cdv A outer s H vs Q E hr h => ?_)
  · obtain ⟨_, _, _, rfl, _⟩ := h
    rfl
  · obtain ⟨a, d, m, rfl, ha, ht, h1, hz, k⟩ := h
    have hu := hu_of hr
    refine ⟨_, pss_one (ps_ret (pe_callTy call_tuple_of (by rfl) T.tup (by decide +kernel) (pa_cons (pe_lc (own := [("one", 1)]) (g := gName 1) rfl scTold.nd
        (pi_list (pe_callB cr_sortL (by rfl) T.srt (by decide +kernel) (pa_cons (pe_callTy (call_list_dT rfl) (by rfl) T.lst (by decide +kernel) (pa_cons (pv 0) pa_nil)) pa_nil)))
        (blkOk_by (N := ["terms", "one"]) (sc := defScope sTold) (by decide +kernel)) (fun _ _ _ _ _ => pg_name (i := 1) scTold.nd rfl (.inl rfl))
        (fun _ _ _ _ _ => pts_one (pt_cmpR op_ne (pe_dget hu (pv 0) (pv 1) (fun _ _ => rfl)) pe_int (nomark _)))
        (fun _ _ _ _ _ => pe_tup (pa_cons (pv 1) (pa_cons (pe_dget hu (pv 0) (pv 1) (fun _ _ => rfl)) pa_nil)))) pa_nil))), ?_⟩
    refine ⟨_, rfl, a, keyed d, rfl, .inl ha, fun q bs hq hk => ?_⟩
    have pk := keys_of hk
    have kl : bs.length = d.length := Paired.length pk
    have s1 : Same H (upd H q (.lst (bs.map V.ref))) := same_new hq
    refine ⟨q, bs, intsAt H, m, rfl, SqL.of upd_same, ?_, fun t htm => ?_, fun ts r hperm hpw hr' => ?_⟩
    · rw [kl]; exact h1
    · obtain ⟨i, hi⟩ := List.getElem?_of_mem htm
      obtain ⟨u, hu', hm⟩ := paired_get pk hi
      rw [intsAt_of hm]
      exact ⟨SqT.of (s1 _ _ hm), ht.len u (List.mem_of_getElem? hu')⟩
    · have s2 : Same (upd H q (.lst (bs.map V.ref))) (upd (upd H q (.lst (bs.map V.ref))) r (.lst (ts.map V.ref))) := same_new hr'
      have s12 := s1.trans s2
      have at_b : ∀ b ∈ ts, ∃ e ∈ d.map (·.1), MonoAt H b e := fun b hb => by
        obtain ⟨i, hi⟩ := List.getElem?_of_mem (hperm.mem_iff.mp hb)
        obtain ⟨u, hu', hm⟩ := paired_get pk hi
        exact ⟨u.1, List.mem_map.mpr ⟨u, List.mem_of_getElem? hu', rfl⟩, hm⟩
      have hks : (ts.map (intsAt H)).Perm (d.map (·.1)) := by
        rw [← keys_map pk]
        exact hperm.map _
      have tl : ts.length = d.length := hperm.length_eq.trans kl
      obtain ⟨cn, cc, cl⟩ := pick_canon ht hks (List.pairwise_map.mpr hpw)
      have hr2 : (upd (upd H q (.lst (bs.map V.ref))) r (.lst (ts.map V.ref))) r = some (.lst (ts.map V.ref)) := upd_same
      generalize upd (upd H q (.lst (bs.map V.ref))) r (.lst (ts.map V.ref)) = H2 at s2 s12 hr2
      clear s1 s2 hr' hq
      refine ⟨r, rfl, ⟨_, SqL.of hr2⟩, fun D hD => lc_list (K := K) (a := r) (xs := ts.map V.ref)
        (fun i H3 => ∃ rs : List Addr, H3 D = some (.lst (rs.map V.ref)) ∧ Paired (TermAt H3) rs (pick (coef d) ((ts.take i).map (intsAt H))) ∧ Bt D H2 H3)
        ⟨[], upd_same, .nil, Bt.of (same_new hD)⟩ (fun i H3 _ ⟨_, _, _, e⟩ => SqL.of (e _ _ hr2 (ne_of_none hr2 hD))) ?_ ?_⟩
      · rintro i x H3 hx ⟨rs, h3, hp3, e3⟩
        rw [List.getElem?_map] at hx
        cases hb : ts[i]? with
        | none => rw [hb] at hx; cases hx
        | some b =>
          rw [hb] at hx
          cases hx
          obtain ⟨e, hm, hmo⟩ := at_b b (List.mem_of_getElem? hb)
          have nD : ∀ {c : Addr} {o : HO}, H c = some o → c ≠ D := fun {c o} hc => ne_of_none (s12 _ _ hc) hD
          have hmo3 : MonoAt H3 b e := e3 _ _ (s12 _ _ hmo) (nD hmo)
          have hg : DGet H3 a (.ref b) (some (V.int (coef d e))) := by
            have z : valV (keyed d) (key e) = some (V.int (coef d e)) := by rw [val_keyed ht.nd, if_pos hm]
            rw [← z]
            exact DGet.t (e3 _ _ (s12 _ _ ha) (nD ha)) (by rw [key_kV]; exact hmo3)
          have tk : (ts.take (i + 1)).map (intsAt H) = (ts.take i).map (intsAt H) ++ [e] := by
            rw [List.take_add_one, hb, List.map_append]
            show _ ++ [intsAt H b] = _
            rw [intsAt_of hmo]
          refine ⟨rfl, _, rfl, _, rfl, a, _, rfl, hg, rfl, _, rfl, ite2 (fun h2 => ?_) (fun h2 => ?_)⟩
          · have nz : coef d e ≠ 0 := fun z => by
              rw [z] at h2
              exact absurd h2 (by decide)
            refine ⟨_, rfl, _, rfl, _, rfl, a, _, rfl, hg, (by show 2 ≤ sizeLine; decide), fun p hp => ?_⟩
            have sp := same_new (o := .tup [.ref b, .int (coef d e)]) hp
            have npD : D ≠ p := ne_of_none h3 hp
            refine ⟨rs.map V.ref, Eq.trans (upd_ne npD) h3, ?_, rs ++ [p], ?_, ?_, ?_⟩
            · have l1 := Paired.length hp3
              have l2 := pick_len (coef d) ((ts.take i).map (intsAt H))
              rw [List.length_map, List.length_take] at l2
              rw [List.length_map, l1, sizeLine_eq]
              omega
            · rw [upd_same, List.map_append]
              rfl
            · rw [tk, pick_snoc, if_neg nz]
              have tt : Tups H3 (upd (upd H3 p (.tup [.ref b, .int (coef d e)])) D (.lst (rs.map V.ref ++ [.ref p]))) :=
                (Tups.of sp).trans (Tups.bt Bt.at' (Eq.trans (upd_ne npD) h3) (by intro xs z; cases z))
              refine Paired.snoc (Paired.mono (fun _ _ t => t.tups tt) hp3) ⟨b, ?_, hmo3.tups tt⟩
              rw [upd_ne npD.symm, upd_same]
            · exact e3.trans ((Bt.of sp).trans Bt.at')
          · have z0 : coef d e = 0 := Classical.byContradiction fun z => h2 (by
              show (!decide (V.int (coef d e) = V.int 0)) = true
              rw [decide_eq_false (fun q => z (V.int.inj q))]
              rfl)
            refine ⟨rs, h3, ?_, e3⟩
            rw [tk, pick_snoc, if_pos z0, List.append_nil]
            exact hp3
      · rintro H3 ⟨rs, h3, hp3, e3⟩
        rw [List.length_map, List.take_length] at hp3
        refine ⟨D, _, rfl, .inl ⟨SqL.of h3, fun t hn => ?_⟩⟩
        have st := same_new (o := .tup (rs.map V.ref)) hn
        refine k t _ _ cn cc cl ?_ ⟨rs, upd_same, Paired.mono (fun _ _ x => x.tups (.of st)) hp3⟩
        intro c o hc
        exact st _ _ (e3 _ _ (s12 _ _ hc) (ne_of_none (s12 _ _ hc) hD))
end
end Kx
namespace Kx
open PySem PySem.Spec PyProof.Rows L2
abbrev sDrawP : Stmt := topS 17
def nmDP : List Str := ["source", "m", "terms", "degree", "size", "found", "lap", "one", "k"]
def spDrawP : Sp := fun vs H Q _ => ∃ (d l : Addr) (m tm dg sz : Int), vs = [.ref d, .int m, .int tm, .int dg, .int sz] ∧ SrcAt H d l ∧ 0 ≤ m ∧ m ≤ 100 ∧ 0 ≤ tm ∧ tm ≤ 100 ∧ 0 ≤ dg ∧ dg ≤ 100 ∧ 0 ≤ sz ∧ sz ≤ 1000000000000000000000000 ∧
  ∀ (r : Addr) (p : Poly) (H' : Hp), Canon m.toNat p → Small dg sz p → p.length ≤ tm.toNat → SrcAt H' d l → But d l H H' → PolyAt H' r p → Q (.ref r) H'
theorem coef_canon {m : Nat} {p : Poly} (c : Canon m p) : ∀ t ∈ p, coef p t.1 = t.2 := coef_at (canon_nodup c)
section
variable {P : Program} {w : World} {K : PySem.W.Frag} {mg : Str → Option Value} {base : Heap} {f : Addr} {fd : FuncData}
theorem scDP : FnScope nmDP ["source", "m", "terms", "degree", "size"] (defScope sDrawP) := ⟨rfl, rfl, rfl, by decide +kernel, rfl, by decide +kernel, by decide +kernel⟩
theorem ok_drawp (F : L2.Fun K "_law_draw_poly" "_law_draw_poly" sDrawP f fd) (T : BltP mg) (D1 : Def P w K mg base 1 "_law_pick" ["source", "many"] spPickW)
    (D2 : Def P w K mg base 2 "_law_of" ["source", "some"] (spOf K)) (D3 : Def P w K mg base 1 "_law_told" ["terms"] spTold) :
    FnOk P w K mg base CX0 3 f fd ["source", "m", "terms", "degree", "size"] spDrawP := by
  have nd : nmDP.Nodup := scDP.nd
  refine F.ok scDP (fun vs H Q E h => ?_) (fun cdv A outer s H vs Q E hr h => ?_)
  · obtain ⟨_, _, _, _, _, _, rfl, _⟩ := h
    rfl
  · obtain ⟨d, l, m, tm, dg, sz, rfl, S, m0, m1, t0, t1, g0, g1, z0, z1, k⟩ := h
    have hu := hu_of hr
    have hr1 := hr.mono (show 1 ≤ 2 by decide)
    refine ⟨_, pss_cons (ps_set (i := 5) nd rfl (.inl rfl) pe_dnewT)
      (pss_cons (ps_for PassesOwn.never rfl (pi_range1 rfl T.rng (pa_cons (pe_callD D1 hr1 (by rfl) (pa_cons (pv 0) (pa_cons (pe_op op_add (pv 2) pe_int) pa_nil))) pa_nil)) (pg_name (i := 6) nd rfl (.inl rfl))
        (pss_cons (ps_set (i := 7) nd rfl (.inl rfl) (pe_callTy call_tuple_of (by rfl) T.tup (by decide +kernel) (pa_cons (pe_lc (own := [("k", 8)]) (g := gName 8) rfl nd (pi_range1 rfl T.rng (pa_cons (pv 1) pa_nil))
            (blkOk_by (N := nmDP) (sc := defScope sDrawP) (by decide +kernel)) (fun _ _ _ _ _ => pg_name (i := 8) nd rfl (.inl rfl)) (fun _ _ _ _ _ => pts_nil)
            (fun _ _ _ _ _ => pe_callD D2 hr (by rfl) (pa_cons (pv 0) (pa_cons (pe_lst (pa_cons pe_int (pa_cons pe_int (pa_cons pe_int (pa_cons (pe_callD D1 hr1 (by rfl) (pa_cons (pv 0) (pa_cons (pe_op op_add (pv 3) pe_int) pa_nil))) pa_nil))))) pa_nil)))) pa_nil)))
        (pss_one (ps_dput hu (pv 5) (pv 7) (pe_callD D2 hr (by rfl) (pa_cons (pv 0) (pa_cons (pe_lst (pa_cons pe_int (pa_cons (pe_un un_neg pe_int) (pa_cons pe_int (pa_cons
            (pe_op op_sub (pe_callD D1 hr1 (by rfl) (pa_cons (pv 0) (pa_cons (pe_op op_add (pe_op op_mul pe_int (pv 4)) pe_int) pa_nil))) (pv 4)) pa_nil))))) pa_nil))) rfl))))
      (pss_one (ps_ret (pe_callD D3 hr1 (by rfl) (pa_cons (pv 5) pa_nil))))), ?_⟩
    intro p hp
    have s0 := same_new (o := .dT []) hp
    have S0 := S.same s0
    obtain ⟨npd, npl⟩ := S.nd hp
    refine ⟨_, rfl, _, rfl, _, _, rfl, rfl, d, l, _, rfl, S0, by omega, fun r H1 r0 rl S1 B1 => ?_⟩
    have hrn : r ≤ tm := by
      rcases rl with q | ⟨q1, q2⟩ <;> omega
    have hp1 : H1 p = some (.dT []) := B1 _ _ upd_same npd npl
    refine ⟨r, rfl, by omega, by omega, for_range (lo := 0) (n := r.toNat) (fun i σ H2 => ∃ (dd : Poly) (o6 o7 o8 : Option V), σ = [some (.ref d), some (.int m), some (.int tm), some (.int dg), some (.int sz), some (.ref p), o6, o7, o8] ∧
      SrcAt H2 d l ∧ H2 p = some (.dT (keyed dd)) ∧ Terms m.toNat dd ∧ Small dg sz dd ∧ dd.length ≤ i ∧ But d l H H2) ⟨[], none, none, none, rfl, S1, hp1, .nil, (fun t ht => nomatch ht), Nat.le_refl _, (But.of s0).trans B1⟩ ?_ ?_⟩
    · rintro i σ H2 hi ⟨dd, o6, o7, o8, rfl, S2, h2, t2, b2, l2, B2⟩
      refine ⟨_, rfl, m, rfl, by omega, by omega, fun D hD => ?_⟩
      obtain ⟨nDd, nDl⟩ := S2.nd hD
      have sD := same_new (o := .lst []) hD
      refine lc_range (lo := 0) (n := m.toNat) (fun j H3 => ∃ e : List Int, e.length = j ∧ (∀ x ∈ e, 0 ≤ x ∧ x ≤ 1 + dg) ∧ H3 D = some (.lst (e.map V.int)) ∧ SrcAt H3 d l ∧ (∀ b o, H2 b = some o → b ≠ d → b ≠ l → b ≠ D → H3 b = some o))
        ⟨[], rfl, (fun x hx => nomatch hx), upd_same, S2.same sD, fun b o e _ _ _ => sD _ _ e⟩ ?_ ?_
      · rintro j H3 hj ⟨e, el, eb, h3, S3, B3⟩
        refine ⟨rfl, _, rfl, _, rfl, _, rfl, _, _, rfl, rfl, d, l, _, rfl, S3, by omega, fun r2 H4 r20 r2l S4 B4 => ?_⟩
        have r2n : r2 ≤ 1 + dg := by
          rcases r2l with q | ⟨q1, q2⟩ <;> omega
        refine ⟨(by show 4 ≤ sizeLine; exact lt_size (Nat.le_of_ble_eq_true rfl)), fun t ht => ?_⟩
        have s4 := same_new (o := .lst [.int 0, .int 0, .int 1, .int r2]) ht
        obtain ⟨ntd, ntl⟩ := S4.nd ht
        refine ⟨d, l, t, [.int 0, .int 0, .int 1, .int r2], rfl, S4.same s4, SqL.of upd_same, ntd, ntl, Nat.succ_pos _, Nat.le_of_ble_eq_true rfl, fun v H5 hv S5 B5 => ?_⟩
        obtain ⟨x, rfl, x0, x1⟩ : ∃ x, v = V.int x ∧ 0 ≤ x ∧ x ≤ 1 + dg := by
          simp only [List.mem_cons, List.not_mem_nil, or_false] at hv
          rcases hv with z | z | z | z
          · exact ⟨_, z, by omega, by omega⟩
          · exact ⟨_, z, by omega, by omega⟩
          · exact ⟨_, z, by omega, by omega⟩
          · exact ⟨_, z, r20, r2n⟩
        have f5 : ∀ b o, H3 b = some o → b ≠ d → b ≠ l → H5 b = some o := fun b o q n1 n2 => B5 _ _ (s4 _ _ (B4 _ _ q n1 n2)) n1 n2
        have h5 : H5 D = some (.lst (e.map V.int)) := f5 _ _ h3 nDd nDl
        refine ⟨e.map V.int, h5, ?_, e ++ [x], by rw [List.length_append, el]; rfl, ?_, by rw [upd_same, List.map_append]; rfl, ?_, ?_⟩
        · rw [List.length_map, el]
          exact small1000 (by omega)
        · intro y hy
          rcases List.mem_append.mp hy with z | z
          · exact eb y z
          · rw [List.mem_singleton.mp z]
            exact ⟨x0, x1⟩
        · obtain ⟨cs, a, b, c, S5'⟩ := S5
          exact ⟨cs, a, b, c, Eq.trans (upd_ne nDd.symm) S5'.dc, Eq.trans (upd_ne nDl.symm) S5'.ls, S5'.c0, S5'.few, S5'.a0, S5'.m0, S5'.t0⟩
        · intro b o q n1 n2 n3
          rw [upd_ne n3]
          exact f5 _ _ (B3 _ _ q n1 n2 n3) n1 n2
      · rintro H3 ⟨e, el, eb, h3, S3, B3⟩
        refine ⟨D, _, rfl, .inl ⟨SqL.of h3, fun q hq => ?_⟩⟩
        have sq := same_new (o := .tup (e.map V.int)) hq
        have S4 := S3.same sq
        have hq4 : (upd H3 q (.tup (e.map V.int))) q = some (.tup (e.map V.int)) := upd_same
        have hp4 : (upd H3 q (.tup (e.map V.int))) p = some (.dT (keyed dd)) := sq _ _ (B3 _ _ h2 npd npl (ne_of_none h2 hD))
        have B4 : But d l H (upd H3 q (.tup (e.map V.int))) := fun b o z n1 n2 => sq _ _ (B3 _ _ (B2 _ _ z n1 n2) n1 n2 (ne_of_none (B2 _ _ z n1 n2) hD))
        generalize upd H3 q (.tup (e.map V.int)) = H4 at S4 hq4 hp4 B4
        obtain ⟨nqd, nql⟩ := S4.nt hq4
        refine ⟨_, rfl, _, rfl, _, rfl, _, rfl, _, _, rfl, rfl, .inl ⟨by decide, by decide⟩, _, _, rfl, rfl, d, l, _, rfl, S4, by omega, fun r2 H5 r20 r2l S5 B5 => ?_⟩
        have r2n : r2 ≤ 2 * sz := by
          rcases r2l with q | ⟨q1, q2⟩ <;> omega
        refine ⟨_, rfl, _, _, rfl, rfl, (by show 4 ≤ sizeLine; exact lt_size (Nat.le_of_ble_eq_true rfl)), fun t ht => ?_⟩
        have s5 := same_new (o := .lst [.int 1, .int (-1), .int 2, .int (r2 - sz)]) ht
        obtain ⟨ntd, ntl⟩ := S5.nd ht
        refine ⟨d, l, t, [.int 1, .int (-1), .int 2, .int (r2 - sz)], rfl, S5.same s5, SqL.of upd_same, ntd, ntl, Nat.succ_pos _, Nat.le_of_ble_eq_true rfl, fun v H6 hv S6 B6 => ?_⟩
        obtain ⟨n, rfl, hn⟩ : ∃ n, v = V.int n ∧ n.natAbs ≤ 2 + sz.natAbs := by
          simp only [List.mem_cons, List.not_mem_nil, or_false] at hv
          rcases hv with z | z | z | z
          · exact ⟨_, z, by omega⟩
          · exact ⟨_, z, by omega⟩
          · exact ⟨_, z, by omega⟩
          · exact ⟨_, z, by omega⟩
        have f6 : ∀ b o, H4 b = some o → b ≠ d → b ≠ l → H6 b = some o := fun b o q n1 n2 => B6 _ _ (s5 _ _ (B5 _ _ q n1 n2)) n1 n2
        have hp6 := f6 _ _ hp4 npd npl
        have hq6 := f6 _ _ hq4 nqd nql
        have put : DPut H6 p (.ref q) (.int n) (upd H6 p (.dT (keyed (putI dd e n)))) := by
          rw [← put_keyed]
          refine DPut.t hp6 (by rw [key_kV]; exact hq6) ?_
          unfold keyed
          rw [List.length_map]
          exact small1000 (by omega)
        refine ⟨_, rfl, _, rfl, p, _, rfl, put, putI dd e n, _, _, _, rfl, ?_, upd_same, t2.put (by rw [el]) (fun x hx => (eb x hx).1), ?_, ?_, ?_⟩
        · obtain ⟨cs, a, b, c, S'⟩ := S6
          exact ⟨cs, a, b, c, Eq.trans (upd_ne npd.symm) S'.dc, Eq.trans (upd_ne npl.symm) S'.ls, S'.c0, S'.few, S'.a0, S'.m0, S'.t0⟩
        · intro u hu'
          have nd' := (t2.put (n := n) (by rw [el]) (fun x hx => (eb x hx).1)).nd
          have e1 := coef_at nd' u hu'
          rw [coef_put t2.nd] at e1
          have e2 : u.1 ∈ (putI dd e n).map (·.1) := List.mem_map.mpr ⟨u, hu', rfl⟩
          rw [put_keys] at e2
          by_cases c : u.1 = e
          · rw [if_pos c] at e1
            rw [← e1, c]
            exact ⟨hn, fun x hx => (eb x hx).2⟩
          · rw [if_neg c] at e1
            have e3 : u.1 ∈ dd.map (·.1) := by
              split at e2
              · exact e2
              · rcases List.mem_append.mp e2 with z | z
                · exact z
                · exact absurd (List.mem_singleton.mp z) c
            obtain ⟨w, hw, e4⟩ := List.mem_map.mp e3
            have e5 := coef_at t2.nd w hw
            rw [e4] at e5
            have b3 := b2 w hw
            rw [← e5, e1, e4] at b3
            exact b3
        · exact Nat.le_trans (put_len dd e n) (by omega)
        · exact fun b o z n1 n2 => by
            rw [upd_ne (ne_of_none z hp)]
            exact f6 _ _ (B4 _ _ z n1 n2) n1 n2
    · rintro σ H2 ⟨dd, o6, o7, o8, rfl, S2, h2, t2, b2, l2, B2⟩
      refine ⟨_, rfl, p, dd, m.toNat, rfl, h2, t2, ?_, by omega, fun r2 pp H3 cn cc cl s3 pa => ?_⟩
      · by_cases z : 1 ≤ m.toNat
        · exact .inl z
        · refine .inr ?_
          have z2 : m.toNat = 0 := by omega
          rw [z2] at t2
          exact terms_zero t2
      · refine k r2 pp H3 cn ?_ (by omega) (S2.same s3) (B2.trans (But.of s3)) pa
        intro u hu'
        have nz := cn.nz u hu'
        have e1 : coef pp u.1 = u.2 := coef_canon cn u hu'
        rw [cc] at e1
        obtain ⟨w, hw, e4⟩ := List.mem_map.mp (coef_mem (d := dd) (e := u.1) (by rw [e1]; exact nz))
        have e5 := coef_at t2.nd w hw
        have b3 := b2 w hw
        rw [← e5, e4, e1] at b3
        exact b3
end
end Kx
namespace Kx
open PySem PySem.Spec PyProof.Rows L2
abbrev sIsI : Stmt := topS 4
abbrev sIsN : Stmt := topS 5
abbrev sTupOf : Stmt := topS 7
abbrev sTell : Stmt := topS 8
abbrev sTf : Stmt := topS 11
abbrev sChk : Stmt := topS 10
abbrev sIni : Stmt := inClass (topS 2) 0
def spIsI : Sp := fun vs H Q _ => ∃ (v : V) (d : PyData), vs = [v] ∧ Dr H v d ∧ Q (.bl (isI d && !isB d)) H
def spIsN : Sp := fun vs H Q _ => ∃ (v : V) (d : PyData), vs = [v] ∧ Dr H v d ∧ Q (.bl (numB d)) H
def tupOf (d : PyData) (n : Int) : Bool := match d with
  | .tuple xs => decide ((xs.length : Int) = n)
  | _ => false
def spTupOf : Sp := fun vs H Q _ => ∃ (v : V) (d : PyData) (n : Int), vs = [v, .int n] ∧ Dr H v d ∧ Q (.bl (tupOf d n)) H
/-- the exponents ahead, at a value -/
def BfAt (H : Hp) (m : Int) : V → Option (List Int) → Prop
  | .non, none => True
  | .ref a, some f => H a = some (.tup (f.map V.int)) ∧ (f.length : Int) = m
  | _, _ => False
def spTf : Sp := fun vs H Q _ => ∃ (m : Int) (v b : V) (d : PyData) (bf : Option (List Int)), vs = [.int m, v, b] ∧ Dr H v d ∧ BfAt H m b bf ∧
  (termPath m bf d = none → ∀ H', Same H H' → Q .non H') ∧ (∀ p, termPath m bf d = some p → ∀ r H', Same H H' → H' r = some (.tup (p.map V.int)) → Q (.ref r) H')
def spTell (C : Addr) : Sp := fun vs H Q E => (∃ p : Addr, vs = [.non, .ref p] ∧ Q .non H) ∨ (∃ (a p : Addr) (f pp : List Int), vs = [.ref a, .ref p] ∧ H a = some (.tup (f.map V.int)) ∧ H p = some (.tup (pp.map V.int)) ∧ f.length + pp.length ≤ 1000 ∧
  ∀ t dx H', Same H H' → H' t = some (.tup ((pp ++ f).map V.int)) → H' dx = some (.xd [("path", .ref t)]) → E (.ref C) (some dx) H')
def spChk (C : Addr) : Sp := fun vs H Q E => ∃ (m : Int) (v : V) (d : PyData), vs = [.int m, v] ∧ Dr H v d ∧ (polyPath m d = none → ∀ H', Same H H' → Q .non H') ∧
  (∀ p, polyPath m d = some p → ∀ t dx H', Same H H' → H' t = some (.tup (p.map V.int)) → H' dx = some (.xd [("path", .ref t)]) → E (.ref C) (some dx) H')
def spIni (C : Addr) : Sp := fun vs H Q _ => ∃ (a p : Addr) (xs : List V), vs = [.ref a, .ref p] ∧ H a = some (exo a C none) ∧ H p = some (.tup xs) ∧
  ∀ dx, H dx = none → dx ≠ a → Q .non (upd (upd H dx (exd dx [("path", .ref p)])) a (exo a C (some dx)))
/-- a def that may raise, by its name -/
structure DefX (P : Program) (w : World) (K : PySem.W.Frag) (mg : Str → Option Value) (base : Heap) (k : Nat) (x : Str) (ps : List Str) (sp : Sp) : Prop where
  ex : ∃ f fd, FnOk P w K mg base (L2.CX P w) k f fd ps sp ∧ PySem.W.keepIn K (.ref f) = true ∧ Binds K fd ps [] ∧ mg x = some (.ref f)
theorem DefX.of {P : Program} {w : World} {K : PySem.W.Frag} {mg : Str → Option Value} {base : Heap} {k : Nat} {x qual : Str} {st : Stmt} {f : Addr} {fd : FuncData} {ps : List Str} {sp : Sp}
    (F : L2.Fun K x qual st f fd) (G : FnOk P w K mg base (L2.CX P w) k f fd ps sp) (b : Binds K fd ps []) (m : mg x = some (.ref f)) : DefX P w K mg base k x ps sp := ⟨f, fd, G, F.kp, b, m⟩
/-- what is known of BadTree -/
structure BadT (P : Program) (w : World) (K : PySem.W.Frag) (mg : Str → Option Value) (base : Heap) (C : Addr) : Prop where
  gC : mg "BadTree" = some (.ref C)
  ox : OexC K C
  xf : XfC K C
  noP : PySem.W.findIn K (.ref C) "path" = some none
  te : PySem.W.exmOne K (.ref C) (.ref C) = some true
  ini : ∃ fI fdI, PySem.W.findIn K (.ref C) "__init__" = some (some (.ref fI)) ∧ PySem.W.typeIn K (.ref fI) = some (.type "function") ∧ FnOk P w K mg base CX0 1 fI fdI ["self", "path"] (spIni C) ∧ Binds K fdI ["self", "path"] []

theorem lexAt_shift (e r : Nat → Bool) (z : Bool) : ∀ (k i : Nat), Ob.lexAt e r z (i + 1) k = Ob.lexAt (fun j => e (j + 1)) (fun j => r (j + 1)) z i k
  | 0, _ => rfl
  | k + 1, i => by
    rw [Ob.lexAt_succ, Ob.lexAt_succ, lexAt_shift e r z k (i + 1)]
theorem le_not_lt : ∀ {ns ms : List Int}, ns.length = ms.length → Ob.lexAt (fun j => decide (ns.getD j 0 = ms.getD j 0)) (fun j => decide (ns.getD j 0 ≤ ms.getD j 0)) (decide (ns.length ≤ ms.length)) 0 (min ns.length ms.length) = !HT.lexLt ms ns
  | [], [], _ => rfl
  | [], _ :: _, h => by cases h
  | _ :: _, [], h => by cases h
  | x :: ns, y :: ms, h => by
    have h' : ns.length = ms.length := Nat.succ.inj h
    have e : min (x :: ns).length (y :: ms).length = min ns.length ms.length + 1 := by rw [List.length_cons, List.length_cons]; omega
    have ez : decide ((x :: ns).length ≤ (y :: ms).length) = decide (ns.length ≤ ms.length) := by
      rw [List.length_cons, List.length_cons]
      by_cases z : ns.length ≤ ms.length
      · rw [decide_eq_true z, decide_eq_true (Nat.succ_le_succ z)]
      · omega
    rw [e, ez, Ob.lexAt_succ, lexAt_shift]
    show (if decide (x = y) = true then Ob.lexAt (fun j => decide (ns.getD j 0 = ms.getD j 0)) (fun j => decide (ns.getD j 0 ≤ ms.getD j 0)) _ 0 _ else decide (x ≤ y)) = _
    rw [le_not_lt h']
    have u : HT.lexLt (y :: ms) (x :: ns) = if y = x then HT.lexLt ms ns else decide (y < x) := rfl
    rw [u]
    by_cases h1 : x = y
    · rw [decide_eq_true h1, if_pos rfl, if_pos h1.symm]
    · rw [decide_eq_false h1, if_neg (by decide), if_neg fun z => h1 z.symm]
      by_cases h2 : x ≤ y
      · rw [decide_eq_true h2, decide_eq_false (show ¬ y < x by omega)]
        rfl
      · rw [decide_eq_false h2, decide_eq_true (show y < x by omega)]
        rfl
theorem drop_at {α : Type} : ∀ {l : List α} {i : Nat} {x : α}, l[i]? = some x → l.drop i = x :: l.drop (i + 1)
  | [], _, _, h => by simp at h
  | a :: l, 0, x, h => by
    simp at h
    rw [h]
    rfl
  | a :: l, i + 1, x, h => by
    rw [List.drop_succ_cons, List.drop_succ_cons]
    exact drop_at (by simpa using h)
section
variable {P : Program} {w : World} {K : PySem.W.Frag} {mg : Str → Option Value} {base : Heap} {f : Addr} {fd : FuncData} {C : Addr}
theorem scIsI : FnScope ["value"] ["value"] (defScope sIsI) := ⟨rfl, rfl, rfl, by decide +kernel, rfl, by decide +kernel, by decide +kernel⟩
theorem ok_isI (F : L2.Fun K "is_integer" "is_integer" sIsI f fd) (mI : mg "isinstance" = none) (m1 : mg "int" = none) (m2 : mg "bool" = none) : FnOk P w K mg base CX0 1 f fd ["value"] spIsI := by
  refine F.ok scIsI (fun vs H Q E h => ?_) (fun cdv A outer s H vs Q E hr h => ?_)
  · obtain ⟨_, _, rfl, _⟩ := h
    rfl
  · obtain ⟨v, d, rfl, hd, k⟩ := h
    refine ⟨_, pss_one (ps_ret (pe_and (pe_callB (call_isiD "int") (by rfl) mI (by decide +kernel) (pa_cons (pv 0) (pa_cons (pe_tyN (n := "int") (by rfl) m1 (by decide +kernel)) pa_nil)))
      (pe_one (pe_not (pe_callB (call_isiD "bool") (by rfl) mI (by decide +kernel) (pa_cons (pv 0) (pa_cons (pe_tyN (n := "bool") (by rfl) m2 (by decide +kernel)) pa_nil))))))), ?_⟩
    refine ⟨_, rfl, v, d, _, rfl, hd, kit_int d, _, rfl, ?_⟩
    cases h : isI d with
    | true =>
      rw [h] at k
      exact iteT ⟨_, rfl, v, d, _, rfl, hd, kit_bool d, _, rfl, k⟩
    | false =>
      rw [h] at k
      exact iteF k
theorem scIsN : FnScope ["value"] ["value"] (defScope sIsN) := ⟨rfl, rfl, rfl, by decide +kernel, rfl, by decide +kernel, by decide +kernel⟩
theorem ok_isN (F : L2.Fun K "is_number" "is_number" sIsN f fd) (D : Def P w K mg base 1 "is_integer" ["value"] spIsI) : FnOk P w K mg base CX0 2 f fd ["value"] spIsN := by
  refine F.ok scIsN (fun vs H Q E h => ?_) (fun cdv A outer s H vs Q E hr h => ?_)
  · obtain ⟨_, _, rfl, _⟩ := h
    rfl
  · obtain ⟨v, d, rfl, hd, k⟩ := h
    refine ⟨_, pss_one (ps_ret (pe_and (pe_callD D hr (by rfl) (pa_cons (pv 0) pa_nil)) (pe_one (pe_cmpR op_ge (pv 0) pe_int (nomark _))))), ?_⟩
    refine ⟨_, rfl, v, d, rfl, hd, _, rfl, ?_⟩
    cases hd with
    | int i => exact iteT ⟨_, rfl, _, _, rfl, rfl, k⟩
    | non => exact iteF k
    | bl b => exact iteF k
    | str x => exact iteF k
    | lst _ _ => exact iteF k
    | tup _ _ => exact iteF k
    | dct _ _ _ => exact iteF k
theorem scTupOf : FnScope ["value", "many"] ["value", "many"] (defScope sTupOf) := ⟨rfl, rfl, rfl, by decide +kernel, rfl, by decide +kernel, by decide +kernel⟩
theorem ok_tupOf (F : L2.Fun K "is_tuple_of" "is_tuple_of" sTupOf f fd) (mI : mg "isinstance" = none) (m1 : mg "tuple" = none) (mL : mg "len" = none) : FnOk P w K mg base CX0 1 f fd ["value", "many"] spTupOf := by
  refine F.ok scTupOf (fun vs H Q E h => ?_) (fun cdv A outer s H vs Q E hr h => ?_)
  · obtain ⟨_, _, _, rfl, _⟩ := h
    rfl
  · obtain ⟨v, d, n, rfl, hd, k⟩ := h
    refine ⟨_, pss_one (ps_ret (pe_and (pe_callB (call_isiD "tuple") (by rfl) mI (by decide +kernel) (pa_cons (pv 0) (pa_cons (pe_tyN (n := "tuple") (by rfl) m1 (by decide +kernel)) pa_nil)))
      (pe_one (pe_cmpR op_eq (pe_callB call_len_seq (by rfl) mL PySem.boot_len (pa_cons (pv 0) pa_nil)) (pv 1) (nomark _))))), ?_⟩
    refine ⟨_, rfl, v, d, _, rfl, hd, kit_tup d, _, rfl, ?_⟩
    cases hd with
    | @tup a xs ds h1 h2 =>
      refine iteT ⟨_, rfl, a, xs, rfl, .inr (SqT.of h1), _, rfl, rfl, ?_⟩
      have e : decide (V.int (xs.length : Int) = V.int n) = decide ((ds.length : Int) = n) := by
        rw [dr_len h2]
        by_cases z : (ds.length : Int) = n
        · rw [decide_eq_true z, decide_eq_true (congrArg V.int z)]
        · rw [decide_eq_false z, decide_eq_false fun y => z (V.int.inj y)]
      rw [e]
      exact k
    | int i => exact iteF k
    | non => exact iteF k
    | bl b => exact iteF k
    | str x => exact iteF k
    | lst _ _ => exact iteF k
    | dct _ _ _ => exact iteF k
theorem bf_cases {H : Hp} {m : Int} {b : V} {bf : Option (List Int)} (h : BfAt H m b bf) : (b = .non ∧ bf = none) ∨ ∃ a f, b = .ref a ∧ bf = some f ∧ H a = some (.tup (f.map V.int)) ∧ (f.length : Int) = m := by
  cases b with
  | non =>
    cases bf with
    | none => exact .inl ⟨rfl, rfl⟩
    | some f => exact h.elim
  | ref a =>
    cases bf with
    | none => exact h.elim
    | some f => exact .inr ⟨a, f, rfl, rfl, h.1, h.2⟩
  | _ => cases bf <;> exact h.elim
def nmTf : List Str := ["m", "term", "before", "exponents", "number", "j", "exponent"]
theorem scTf : FnScope nmTf ["m", "term", "before"] (defScope sTf) := ⟨rfl, rfl, rfl, by decide +kernel, rfl, by decide +kernel, by decide +kernel⟩
theorem tupOf_two {d : PyData} (h : tupOf d 2 = true) : ∃ a b, d = .tuple [a, b] := by
  cases d with
  | tuple xs =>
    have h : decide ((xs.length : Int) = 2) = true := h
    have h := of_decide_eq_true h
    match xs, h with
    | [a, b], _ => exact ⟨a, b, rfl⟩
    | [], h => simp at h
    | [_], h => simp at h
    | _ :: _ :: _ :: _, h => simp at h; omega
  | _ => cases h
theorem tupOf_no {m : Int} {bf : Option (List Int)} {d : PyData} (h : tupOf d 2 = false) : termPath m bf d = some [] := by
  cases d with
  | tuple xs =>
    have h : decide ((xs.length : Int) = 2) = false := h
    have h := of_decide_eq_false h
    match xs, h with
    | [a, b], h => simp at h
    | [], h => rfl
    | [_], h => rfl
    | _ :: _ :: _ :: _, h => rfl
  | _ => rfl
theorem tupOf_exp {m : Int} {d : PyData} (h : tupOf d m = true) : ∃ es, d = .tuple es ∧ (es.length : Int) = m := by
  cases d with
  | tuple xs => exact ⟨xs, rfl, of_decide_eq_true h⟩
  | _ => cases h
theorem tupOf_noexp {m : Int} {bf : Option (List Int)} {d b : PyData} (h : tupOf d m = false) : expPath m bf b d = some [0] := by
  cases d with
  | tuple xs =>
    have h := of_decide_eq_false h
    show (if (xs.length : Int) = m then _ else _) = _
    rw [if_neg h]
  | _ => rfl
theorem dr_nums {H : Hp} {es : List PyData} {vs : List V} (h : DrAll H vs es) (e : es = (es.map intOf).map PyData.int) : vs = (es.map intOf).map V.int := by
  have key : ∀ {vs : List V} {ns : List Int}, DrAll H vs (ns.map PyData.int) → vs = ns.map V.int := by
    intro vs ns
    induction ns generalizing vs with
    | nil =>
      intro h
      cases h
      rfl
    | cons n ns ih =>
      intro h
      cases h with
      | cons h1 h2 =>
        cases h1
        rw [ih h2]
        rfl
  rw [e] at h
  exact key h
theorem ok_tf (F : L2.Fun K "_term_fault" "_term_fault" sTf f fd) (mE : mg "enumerate" = none) (dI : Def P w K mg base 1 "is_integer" ["value"] spIsI) (dN : Def P w K mg base 2 "is_number" ["value"] spIsN) (dT : Def P w K mg base 1 "is_tuple_of" ["value", "many"] spTupOf) :
    FnOk P w K mg base CX0 3 f fd ["m", "term", "before"] spTf := by
  have nd : nmTf.Nodup := scTf.nd
  refine F.ok scTf (fun vs H Q E h => ?_) (fun cdv A outer s H vs Q E hr h => ?_)
  · obtain ⟨_, _, _, _, _, rfl, _⟩ := h
    rfl
  · obtain ⟨m, v, b, d, bf, rfl, hd, hb, kn, ks⟩ := h
    have r1 : Room 1 (A.deeper (envOfC "_term_fault" (defScope sTf) s.heap.objs.size f cdv)) := hr.mono (by decide)
    have hu := hu_of hr
    refine ⟨_, pss_cons (ps_if (pt_not (pt_val (pe_callD dT r1 (by rfl) (pa_cons (pv 1) (pa_cons pe_int pa_nil))))) (pss_one (ps_ret (pe_tup pa_nil))) pss_nil)
      (pss_cons (ps_asg (pv 1) (pg_tup (by rfl) (pgs_cons (pg_name (i := 3) nd rfl (.inl rfl)) (pgs_cons (pg_name (i := 4) nd rfl (.inl rfl)) pgs_nil))))
      (pss_cons (ps_if (pt_not (pt_val (pe_callD dT r1 (by rfl) (pa_cons (pv 3) (pa_cons (pv 0) pa_nil))))) (pss_one (ps_ret (pe_tup (pa_cons pe_int pa_nil)))) pss_nil)
      (pss_cons (ps_for PassesOwn.never rfl (pi_enT (by rfl) mE (pa_cons (pv 3) pa_nil)) (pg_tup rfl (pgs_cons (pg_name (i := 5) nd rfl (.inl rfl)) (pgs_cons (pg_name (i := 6) nd rfl (.inl rfl)) pgs_nil)))
        (pss_one (ps_if (pt_not (pt_val (pe_callD dN hr (by rfl) (pa_cons (pv 6) pa_nil)))) (pss_one (ps_ret (pe_tup (pa_cons pe_int (pa_cons (pv 5) pa_nil))))) pss_nil)))
      (Evl.pss_cut (ps_if (PW.pt (pw_and (pt_cmpR op_notN (pv 2) pe_non (nomark _)) (pw_and1 (pt_cmpR (op_leT hr.units0) (pv 3) (pv 2) (nomark _))))) (pss_one (ps_ret (pe_tup (pa_cons pe_int pa_nil)))) pss_nil)
      (pss_one (ps_ret (pe_ifExp (PW.pt (pw_and (pt_val (pe_callD dI r1 (by rfl) (pa_cons (pv 4) pa_nil))) (pw_and1 (pt_cmpR op_ne (pv 4) pe_int (nomark _))))) pe_non (pe_tup (pa_cons pe_int pa_nil))))))))), ?_⟩
    refine ⟨_, rfl, v, d, 2, rfl, hd, _, rfl, ?_⟩
    cases ht : tupOf d 2 with
    | false => exact iteT' rfl ⟨lt_size (Nat.le_of_ble_eq_true rfl), fun t n => ks [] (tupOf_no ht) t _ (same_new n) upd_same⟩
    | true =>
    refine iteF' rfl ?_
    obtain ⟨a1, b1, rfl⟩ := tupOf_two ht
    cases hd with
    | @tup ta xs _ h1 h2 =>
    cases h2 with
    | @cons va vs1 _ _ x1 t1 =>
    cases t1 with
    | @cons vb vs2 _ _ x2 t2 =>
    cases t2
    refine ⟨_, rfl, ta, _, rfl, SqT.of h1, rfl, _, _, rfl, _, _, rfl, rfl, ?_⟩
    refine ⟨_, rfl, _, rfl, va, a1, m, rfl, x1, _, rfl, ?_⟩
    cases ht2 : tupOf a1 m with
    | false => exact iteT' rfl ⟨lt_size (Nat.le_of_ble_eq_true rfl), fun t n => ks [0] (tupOf_noexp ht2) t _ (same_new n) upd_same⟩
    | true =>
    refine iteF' rfl ?_
    obtain ⟨es, rfl, hl⟩ := tupOf_exp ht2
    cases x1 with
    | @tup ea ws _ e1 e2 =>
    have wl := dr_len e2
    have tp : ∀ o : Option (List Int), (match badNum 0 es with
      | some j => some [0, (j : Int)]
      | none => if notUp bf (es.map intOf) = true then some [0] else if okCoef b1 = true then none else some [1]) = o → termPath m bf (.tuple [.tuple es, b1]) = o := fun o z => by
      show (if (es.length : Int) = m then _ else _) = _
      rw [if_pos hl]
      exact z
    refine ⟨_, rfl, ea, ws, rfl, SqT.of e1, for_it walk_enT (fun i σ H1 => ∃ o5 o6 : Option V, σ = [some (.int m), some (.ref ta), some b, some (.ref ea), some vb, o5, o6] ∧ Same H H1 ∧ badNum 0 es = badNum i (es.drop i))
      ⟨none, none, rfl, (fun _ _ e => e), rfl⟩ (fun i σ H1 _ ⟨_, _, _, s1, _⟩ => SqT.of (s1 _ _ e1)) ?_ ?_⟩
    · rintro i x σ H1 H2 hi ⟨o5, o6, rfl, s1, eb⟩ ⟨T, x', y, rfl, nT, rfl, ex, ey⟩
      obtain rfl := Option.some.inj ex
      have s2 := s1.trans (same_new (o := .tup [.int (i : Nat), y]) nT)
      obtain ⟨dd, ed, hdd⟩ := dr_get e2 ey
      refine ⟨T, _, rfl, SqT.of upd_same, rfl, _, _, rfl, _, _, rfl, rfl, ?_⟩
      refine ⟨_, rfl, y, dd, rfl, hdd.same s2, _, rfl, ?_⟩
      cases hn : numB dd with
      | false =>
        refine iteT' rfl ⟨_, rfl, lt_size (Nat.le_of_ble_eq_true rfl), fun t n => ks [0, (i : Int)] (tp _ ?_) t _ (s2.trans (same_new n)) upd_same⟩
        rw [eb, drop_at ed]
        unfold badNum
        rw [if_neg (by rw [hn]; decide)]
      | true =>
        refine iteF' rfl ⟨_, _, rfl, s2, ?_⟩
        rw [eb, drop_at ed]
        show (if numB dd = true then _ else _) = _
        rw [if_pos hn]
    rintro σ H1 ⟨o5, o6, rfl, s1, eb⟩
    rw [wl, List.drop_length] at eb
    have eb : badNum 0 es = none := eb
    obtain ⟨ei, e0⟩ := badNum_none eb
    have ew := dr_nums e2 ei
    refine ⟨fun σ H2 => σ = [some (.int m), some (.ref ta), some b, some (.ref ea), some vb, o5, o6] ∧ Same H H2 ∧ notUp bf (es.map intOf) = false, ?_, ?_⟩
    · rcases bf_cases hb with ⟨rfl, rfl⟩ | ⟨ba, bl, rfl, rfl, hba, hbl⟩
      · exact ⟨_, rfl, rfl, _, rfl, iteF' rfl ⟨rfl, s1, rfl⟩⟩
      · refine ⟨_, rfl, rfl, _, rfl, iteT' rfl ⟨_, rfl, _, rfl, ea, ba, es.map intOf, bl, rfl, rfl, SqT.of (by rw [← ew]; exact s1 _ _ e1), SqT.of (s1 _ _ hba), _, rfl, ?_⟩⟩
        have ll : (es.map intOf).length = bl.length := by rw [List.length_map]; omega
        rw [le_not_lt ll]
        cases hx : HT.lexLt bl (es.map intOf) with
        | false =>
          refine iteT' rfl ⟨lt_size (Nat.le_of_ble_eq_true rfl), fun t n => ks [0] (tp _ ?_) t _ (s1.trans (same_new n)) upd_same⟩
          rw [eb]
          show (if (!HT.lexLt bl (es.map intOf)) = true then _ else _) = _
          rw [hx]
          rfl
        | true => exact iteF' rfl ⟨rfl, s1, by show (!HT.lexLt bl (es.map intOf)) = false; rw [hx]; rfl⟩
    rintro σ H2 ⟨rfl, s2, nu⟩
    have tq : ∀ o : Option (List Int), (if okCoef b1 = true then none else some [1]) = o → termPath m bf (.tuple [.tuple es, b1]) = o := fun o z => tp o (by
      rw [eb]
      show (if notUp bf (es.map intOf) = true then _ else _) = _
      rw [nu, if_neg (by decide)]
      exact z)
    have bad : okCoef b1 = false → termPath m bf (.tuple [.tuple es, b1]) = some [1] := fun z => tq _ (by rw [z]; rfl)
    refine ⟨_, rfl, vb, b1, rfl, x2.same s2, _, rfl, ?_⟩
    cases x2 with
    | int n =>
      refine iteT' rfl ⟨_, rfl, rfl, _, rfl, ?_⟩
      by_cases z : n = 0
      · refine iteF' (by rw [z]; rfl) ⟨lt_size (Nat.le_of_ble_eq_true rfl), fun t q => ks [1] (bad (by rw [z]; rfl)) t _ (s2.trans (same_new q)) upd_same⟩
      · refine iteT' (by rw [decide_eq_false fun y => z (V.int.inj y)]; rfl) (kn (tq _ ?_) _ s2)
        show (if decide (n ≠ 0) = true then _ else _) = _
        rw [decide_eq_true z, if_pos rfl]
    | non => exact iteF' rfl ⟨lt_size (Nat.le_of_ble_eq_true rfl), fun t q => ks [1] (bad rfl) t _ (s2.trans (same_new q)) upd_same⟩
    | bl _ => exact iteF' rfl ⟨lt_size (Nat.le_of_ble_eq_true rfl), fun t q => ks [1] (bad rfl) t _ (s2.trans (same_new q)) upd_same⟩
    | str _ => exact iteF' rfl ⟨lt_size (Nat.le_of_ble_eq_true rfl), fun t q => ks [1] (bad rfl) t _ (s2.trans (same_new q)) upd_same⟩
    | lst _ _ => exact iteF' rfl ⟨lt_size (Nat.le_of_ble_eq_true rfl), fun t q => ks [1] (bad rfl) t _ (s2.trans (same_new q)) upd_same⟩
    | tup _ _ => exact iteF' rfl ⟨lt_size (Nat.le_of_ble_eq_true rfl), fun t q => ks [1] (bad rfl) t _ (s2.trans (same_new q)) upd_same⟩
    | dct _ _ _ => exact iteF' rfl ⟨lt_size (Nat.le_of_ble_eq_true rfl), fun t q => ks [1] (bad rfl) t _ (s2.trans (same_new q)) upd_same⟩
theorem scIni : FnScope ["self", "path"] ["self", "path"] (defScope sIni) := ⟨rfl, rfl, rfl, by decide +kernel, rfl, by decide +kernel, by decide +kernel⟩
theorem ok_ini (F : L2.Fun K "__init__" "BadTree.__init__" sIni f fd) (T : OexC K C) (hno : PySem.W.findIn K (.ref C) "path" = some none) (mT : mg "tuple" = none) : FnOk P w K mg base CX0 1 f fd ["self", "path"] (spIni C) := by
  refine F.ok scIni (fun vs H Q E h => ?_) (fun cdv A outer s H vs Q E hr h => ?_)
  · obtain ⟨_, _, _, rfl, _⟩ := h
    rfl
  · obtain ⟨a, p, xs, rfl, ha, hp, k⟩ := h
    refine ⟨_, pss_one (ps_ost (pv 0) (pe_callTy call_tuple_of (by rfl) mT (by decide +kernel) (pa_cons (pv 1) pa_nil))), ?_⟩
    exact ⟨_, rfl, p, xs, rfl, .inr ⟨SqT.of hp, _, rfl, a, C, rfl, T, hno, .inl ⟨ha, k⟩⟩⟩
theorem scTell : FnScope ["fault", "path"] ["fault", "path"] (defScope sTell) := ⟨rfl, rfl, rfl, by decide +kernel, rfl, by decide +kernel, by decide +kernel⟩
/-- where the raised BadTree stands -/
theorem ini_end {H : Hp} {a p d : Addr} {xs : List V} (ha : H a = none) (hp : H p = some (.tup xs)) (hd : (upd H a (exo a C none)) d = none) (nd : d ≠ a) :
    ∃ HF, HF = upd (del (upd (upd (upd H a (exo a C none)) d (exd d [("path", .ref p)])) a (exo a C (some d))) a) d (.xd [("path", .ref p)]) ∧ Same H HF ∧ HF d = some (.xd [("path", .ref p)]) := by
  refine ⟨_, rfl, fun b o e => ?_, upd_same⟩
  have hd' : H d = none := by rw [upd_ne nd] at hd; exact hd
  have n1 : b ≠ a := ne_of_none e ha
  have n2 : b ≠ d := ne_of_none e hd'
  rw [upd_ne n2, del_ne n1, upd_ne n1, upd_ne n2, upd_ne n1]
  exact e
theorem ok_tell (F : L2.Fun K "tell_fault" "tell_fault" sTell f fd) (B : BadT P w K mg base C) : FnOk P w K mg base (L2.CX P w) 3 f fd ["fault", "path"] (spTell C) := by
  obtain ⟨fI, fdI, iC, tI, F1, bI⟩ := B.ini
  refine F.okX scTell (fun vs H Q E h => ?_) (fun cdv A outer s H vs Q E hr h => ?_)
  · rcases h with ⟨_, rfl, _⟩ | ⟨_, _, _, _, rfl, _⟩ <;> rfl
  · refine ⟨_, pss_one (ps_if (pt_cmpR op_notN (pv 0) pe_non (nomark _)) (pss_one (ps_raise rfl (takes_of rfl rfl rfl rfl) (pmk_oex B.ox iC tI F1 hr bI .nil pass0 (by rfl) B.gC (pa_cons (pe_op op_catA (pv 1) (pv 0)) pa_nil)))) pss_nil), ?_⟩
    rcases h with ⟨p, rfl, k⟩ | ⟨a, p, f, pp, rfl, ha, hp, hl, k⟩
    · exact ⟨_, rfl, rfl, _, rfl, iteF' rfl k⟩
    · refine ⟨_, rfl, rfl, _, rfl, iteT' rfl ⟨_, rfl, _, rfl, p, a, _, _, rfl, rfl, SqT.of hp, SqT.of ha, ?_, fun e => ?_, fun e1 e2 => ?_, fun e1 e2 t ht => ?_⟩⟩
      · rw [List.length_map, List.length_map, sizeLine_eq]
        omega
      · have e' : pp = [] := List.map_eq_nil_iff.mp e
        refine ⟨by show 1 ≤ 1000; decide, fun x hx => ⟨x, a, f.map V.int, rfl, upd_same, by rw [upd_ne (ne_of_none ha hx)]; exact ha, fun d hd nd => ⟨rfl, d, _, upd_same, by rw [upd_ne nd, upd_same], ?_, ?_⟩⟩⟩
        · rw [upd_ne nd] at hd; exact hd
        · obtain ⟨HF, eF, sF, dF⟩ := ini_end (C := C) hx ha hd nd
          rw [← eF]
          refine k a d HF sF ?_ dF
          rw [e']
          exact sF _ _ ha
      · have e' : f = [] := List.map_eq_nil_iff.mp e2
        refine ⟨by show 1 ≤ 1000; decide, fun x hx => ⟨x, p, pp.map V.int, rfl, upd_same, by rw [upd_ne (ne_of_none hp hx)]; exact hp, fun d hd nd => ⟨rfl, d, _, upd_same, by rw [upd_ne nd, upd_same], ?_, ?_⟩⟩⟩
        · rw [upd_ne nd] at hd; exact hd
        · obtain ⟨HF, eF, sF, dF⟩ := ini_end (C := C) hx hp hd nd
          rw [← eF]
          refine k p d HF sF ?_ dF
          rw [e', List.append_nil]
          exact sF _ _ hp
      · have st := same_new (o := .tup (pp.map V.int ++ f.map V.int)) ht
        have ht2 : upd H t (.tup (pp.map V.int ++ f.map V.int)) t = some (.tup (pp.map V.int ++ f.map V.int)) := upd_same
        generalize upd H t (.tup (pp.map V.int ++ f.map V.int)) = H2 at st ht2 ⊢
        refine ⟨by show 1 ≤ 1000; decide, fun x hx => ⟨x, t, _, rfl, upd_same, by rw [upd_ne (ne_of_none ht2 hx)]; exact ht2, fun d hd nd => ⟨rfl, d, _, upd_same, by rw [upd_ne nd, upd_same], ?_, ?_⟩⟩⟩
        · rw [upd_ne nd] at hd; exact hd
        · obtain ⟨HF, eF, sF, dF⟩ := ini_end (C := C) hx ht2 hd nd
          rw [← eF]
          refine k t d HF (st.trans sF) ?_ dF
          rw [List.map_append]
          exact sF _ _ ht2
def nmChk : List Str := ["m", "value", "before", "k", "term"]
theorem scChk : FnScope nmChk ["m", "value"] (defScope sChk) := ⟨rfl, rfl, rfl, by decide +kernel, rfl, by decide +kernel, by decide +kernel⟩
theorem termPath_ok {m : Int} {bf : Option (List Int)} {d : PyData} (h : termPath m bf d = none) : ∃ (e : List Int) (n : Int), d = .tuple [.tuple (e.map PyData.int), .int n] ∧ (e.length : Int) = m ∧ expsOf d = e := by
  have two : tupOf d 2 = true := by
    cases z : tupOf d 2 with
    | true => rfl
    | false => rw [tupOf_no z] at h; cases h
  obtain ⟨a, b, rfl⟩ := tupOf_two two
  have h : expPath m bf b a = none := h
  have tm : tupOf a m = true := by
    cases z : tupOf a m with
    | true => rfl
    | false => rw [tupOf_noexp z] at h; cases h
  obtain ⟨es, rfl, hl⟩ := tupOf_exp tm
  have h : (if (es.length : Int) = m then _ else _) = none := h
  rw [if_pos hl] at h
  cases hb : badNum 0 es with
  | some j => rw [hb] at h; cases h
  | none =>
    rw [hb] at h
    dsimp only at h
    obtain ⟨e1, _⟩ := badNum_none hb
    cases hu : notUp bf (es.map intOf) with
    | true =>
      rw [hu] at h
      cases h
    | false =>
      rw [hu, if_neg (by decide)] at h
      cases b with
      | int n => exact ⟨es.map intOf, n, by rw [← e1], by rw [List.length_map]; exact hl, rfl⟩
      | _ => cases h
theorem termPath_len {m : Int} {bf : Option (List Int)} {d : PyData} {p : List Int} (h : termPath m bf d = some p) : p.length ≤ 2 := by
  cases two : tupOf d 2 with
  | false =>
    rw [tupOf_no two] at h
    cases h
    decide
  | true =>
    obtain ⟨a, b, rfl⟩ := tupOf_two two
    have h : expPath m bf b a = some p := h
    cases tm : tupOf a m with
    | false =>
      rw [tupOf_noexp tm] at h
      cases h
      decide
    | true =>
      obtain ⟨es, rfl, hl⟩ := tupOf_exp tm
      have h : (if (es.length : Int) = m then _ else _) = some p := h
      rw [if_pos hl] at h
      cases hb : badNum 0 es with
      | some j =>
        rw [hb] at h
        cases h
        exact Nat.le_refl 2
      | none =>
        rw [hb] at h
        dsimp only at h
        split at h
        · cases h
          decide
        · split at h <;> cases h
          decide
theorem dr_num {H : Hp} {v : V} {e : List Int} (h : Dr H v (.tuple (e.map PyData.int))) : ∃ a, v = .ref a ∧ H a = some (.tup (e.map V.int)) := by
  cases h with
  | @tup a xs _ h1 h2 =>
    have ke : (e.map PyData.int).map intOf = e := by
      rw [List.map_map]
      exact List.map_id e
    have z := dr_nums h2 (by rw [ke])
    rw [ke] at z
    rw [z] at h1
    exact ⟨a, rfl, h1⟩
theorem ok_chk (F : L2.Fun K "check_polynomial" "check_polynomial" sChk f fd) (B : BadT P w K mg base C) (mI : mg "isinstance" = none) (mT : mg "tuple" = none) (mE : mg "enumerate" = none)
    (dTf : Def P w K mg base 3 "_term_fault" ["m", "term", "before"] spTf) (dTell : DefX P w K mg base 3 "tell_fault" ["fault", "path"] (spTell C)) :
    FnOk P w K mg base (L2.CX P w) 4 f fd ["m", "value"] (spChk C) := by
  have nd : nmChk.Nodup := scChk.nd
  obtain ⟨fI, fdI, iC, tI, F1, bI⟩ := B.ini
  obtain ⟨fT, fdT, GT, kT, bT, mTell⟩ := dTell.ex
  refine F.okX scChk (fun vs H Q E h => ?_) (fun cdv A outer s H vs Q E hr h => ?_)
  · obtain ⟨_, _, _, rfl, _⟩ := h
    rfl
  · obtain ⟨m, v, d, rfl, hd, kn, ks⟩ := h
    have r2 : Room 2 (A.deeper (envOfC "check_polynomial" (defScope sChk) s.heap.objs.size f cdv)) := hr.mono (by decide)
    refine ⟨_, pss_cons (ps_if (pt_not (pt_val (pe_callB (call_isiD "tuple") (by rfl) mI (by decide +kernel) (pa_cons (pv 1) (pa_cons (pe_tyN (n := "tuple") (by rfl) mT (by decide +kernel)) pa_nil)))))
        (pss_one (ps_raise rfl (takes_of rfl rfl rfl rfl) (pmk_oex B.ox iC tI F1 r2 bI .nil pass0 (by rfl) B.gC (pa_cons (pe_tup pa_nil) pa_nil)))) pss_nil)
      (pss_cons (ps_set (i := 2) nd rfl (.inl rfl) pe_non)
      (pss_one (ps_for (passes_of rfl) rfl (pi_enT (by rfl) mE (pa_cons (pv 1) pa_nil)) (pg_tup rfl (pgs_cons (pg_name (i := 3) nd rfl (.inl rfl)) (pgs_cons (pg_name (i := 4) nd rfl (.inl rfl)) pgs_nil)))
        (pss_cons (ps_expr (pe_call GT hr (by rfl) mTell kT bT .nil (passes_call (takes_of rfl rfl rfl rfl) (fun _ _ _ _ h => h)) (pa_cons (pe_callD dTf hr (by rfl) (pa_cons (pv 0) (pa_cons (pv 4) (pa_cons (pv 2) pa_nil)))) (pa_cons (pe_tup (pa_cons (pv 3) pa_nil)) pa_nil))))
        (pss_one (ps_set (i := 2) nd rfl (.inl rfl) (pe_ix ix_tup (pv 4) pe_int (fun _ _ => rfl)))))))), ?_⟩
    refine ⟨_, rfl, v, d, _, rfl, hd, kit_tup d, _, rfl, ?_⟩
    cases ht : isT d with
    | false =>
      refine iteT' rfl ⟨lt_size (Nat.le_of_ble_eq_true rfl), fun t nt => ?_⟩
      have st := same_new (o := .tup []) nt
      have ht2 : upd H t (.tup []) t = some (.tup []) := upd_same
      generalize upd H t (.tup []) = H2 at st ht2 ⊢
      refine ⟨by show 1 ≤ 1000; decide, fun x hx => ⟨x, t, _, rfl, upd_same, by rw [upd_ne (ne_of_none ht2 hx)]; exact ht2, fun dx hdx nd => ⟨rfl, dx, _, upd_same, by rw [upd_ne nd, upd_same], ?_, ?_⟩⟩⟩
      · rw [upd_ne nd] at hdx; exact hdx
      · obtain ⟨HF, eF, sF, dF⟩ := ini_end (C := C) hx ht2 hdx nd
        rw [← eF]
        refine ks [] ?_ t dx HF (st.trans sF) (sF _ _ ht2) dF
        cases d with
        | tuple _ => cases ht
        | _ => rfl
    | true =>
    refine iteF' rfl ?_
    cases hd with
    | non => cases ht
    | bl _ => cases ht
    | int _ => cases ht
    | str _ => cases ht
    | lst _ _ => cases ht
    | dct _ _ _ => cases ht
    | @tup a xs ds h1 h2 =>
    have wl := dr_len h2
    refine ⟨_, rfl, a, xs, rfl, SqT.of h1, for_it walk_enT (fun i σ H1 => ∃ (bv : V) (bf : Option (List Int)) (o3 o4 : Option V), σ = [some (.int m), some (.ref a), some bv, o3, o4] ∧ Same H H1 ∧ BfAt H1 m bv bf ∧ pathFrom m 0 none ds = pathFrom m i bf (ds.drop i))
      ⟨.non, none, none, none, rfl, (fun _ _ e => e), True.intro, rfl⟩ (fun i σ H1 _ ⟨_, _, _, _, _, s1, _⟩ => SqT.of (s1 _ _ h1)) ?_ ?_⟩
    · rintro i x σ H1 H2 hi ⟨bv, bf, o3, o4, rfl, s1, hb, eb⟩ ⟨T, x', y, rfl, nT, rfl, ex, ey⟩
      obtain rfl := Option.some.inj ex
      have sT := same_new (o := .tup [.int (i : Nat), y]) nT
      obtain ⟨dd, ed, hdd⟩ := dr_get h2 ey
      have hb2 : BfAt (upd H1 T (.tup [.int (i : Nat), y])) m bv bf := by
        rcases bf_cases hb with ⟨rfl, rfl⟩ | ⟨ba, bl, rfl, rfl, hba, hbl⟩
        · exact True.intro
        · exact ⟨sT _ _ hba, hbl⟩
      refine ⟨T, _, rfl, SqT.of upd_same, rfl, _, _, rfl, _, _, rfl, rfl, ?_⟩
      have s2 := s1.trans sT
      generalize upd H1 T (.tup [.int (i : Nat), y]) = H2 at s2 hb2 ⊢
      refine ⟨_, rfl, _, rfl, _, rfl, m, y, bv, dd, bf, rfl, hdd.same s2, hb2, fun tn H3 s3 => ?_, fun p tp r H3 s3 hr3 => ?_⟩
      · refine ⟨_, rfl, lt_size (Nat.le_of_ble_eq_true rfl), fun t nt => .inl ⟨t, rfl, ?_⟩⟩
        have s4 := (s2.trans s3).trans (same_new (o := .tup [.int (i : Nat)]) nt)
        generalize upd H3 t (.tup [.int (i : Nat)]) = H4 at s4 ⊢
        obtain ⟨e, n, rfl, el, ee⟩ := termPath_ok tn
        have h4 := hdd.same s4
        cases h4 with
        | @tup ya ys _ g1 g2 =>
        cases g2 with
        | @cons v1 vs1 _ _ x1 t1 =>
        obtain ⟨ea, rfl, hea⟩ := dr_num x1
        refine ⟨_, rfl, ya, _, 0, .ref ea, rfl, rfl, SqT.of g1, atI_nat (j := 0) rfl, .ref ea, some e, _, _, rfl, s4, ⟨hea, el⟩, ?_⟩
        rw [eb, drop_at ed]
        show (match termPath m bf (.tuple [.tuple (e.map PyData.int), .int n]) with
          | some p => some ((i : Int) :: p)
          | none => pathFrom m (i + 1) (some (expsOf _)) (ds.drop (i + 1))) = _
        rw [tn, ee]
      · refine ⟨_, rfl, lt_size (Nat.le_of_ble_eq_true rfl), fun t nt => .inr ⟨r, t, p, [(i : Int)], rfl, (same_new nt) _ _ hr3, upd_same, ?_, fun t2 dx H5 s5 ht2 hdx => ?_⟩⟩
        · have := termPath_len tp
          show p.length + 1 ≤ 1000
          omega
        · refine ks ((i : Int) :: p) ?_ t2 dx H5 (((s2.trans s3).trans (same_new nt)).trans s5) ht2 hdx
          show pathFrom m 0 none ds = _
          rw [eb, drop_at ed]
          show (match termPath m bf dd with
            | some p => some ((i : Int) :: p)
            | none => pathFrom m (i + 1) (some (expsOf _)) (ds.drop (i + 1))) = _
          rw [tp]
    · rintro σ H1 ⟨bv, bf, o3, o4, rfl, s1, hb, eb⟩
      rw [wl, List.drop_length] at eb
      exact kn eb H1 s1
end
end Kx
namespace Kx
open PySem PySem.Spec PyProof.Rows L2
abbrev sLPP : Stmt := topS 18
/-- a list of a path, or an empty one -/
def PathAt (H : Hp) (r : Addr) : Option (List Int) → Prop
  | none => H r = some (.lst [])
  | some p => ∃ t, H r = some (.lst [.ref t]) ∧ H t = some (.tup (p.map V.int))
def spLPP : Sp := fun vs H Q _ => ∃ (m : Int) (v : V) (d : PyData), vs = [.int m, v] ∧ Dr H v d ∧ ∀ r H', H r = none → Same H H' → PathAt H' r (polyPath m d) → Q (.ref r) H'
def nmLPP : List Str := ["m", "value", "ahead", "k", "term", "j", "one"]
theorem was_none {H H' : Hp} {r : Addr} (s : Same H H') (n : H' r = none) : H r = none := by
  cases h : H r with
  | none => rfl
  | some o =>
    rw [s r o h] at n
    cases n
theorem pathFrom_some {m : Int} {ds : List PyData} {i : Nat} {bf : Option (List Int)} {dd : PyData} {q : List Int} (eb : pathFrom m 0 none ds = pathFrom m i bf (ds.drop i)) (ed : ds[i]? = some dd) (h : termPath m bf dd = some q) : pathFrom m 0 none ds = some ((i : Int) :: q) := by
  rw [eb, drop_at ed]
  show (match termPath m bf dd with
    | some p => some ((i : Int) :: p)
    | none => pathFrom m (i + 1) (some (expsOf _)) (ds.drop (i + 1))) = _
  rw [h]
theorem pathFrom_next {m : Int} {ds : List PyData} {i : Nat} {bf : Option (List Int)} {dd : PyData} (eb : pathFrom m 0 none ds = pathFrom m i bf (ds.drop i)) (ed : ds[i]? = some dd) (h : termPath m bf dd = none) : pathFrom m 0 none ds = pathFrom m (i + 1) (some (expsOf dd)) (ds.drop (i + 1)) := by
  rw [eb, drop_at ed]
  show (match termPath m bf dd with
    | some p => some ((i : Int) :: p)
    | none => pathFrom m (i + 1) (some (expsOf _)) (ds.drop (i + 1))) = _
  rw [h]
theorem termPath_es {m : Int} {bf : Option (List Int)} {es : List PyData} {b1 : PyData} {o : Option (List Int)} (hl : (es.length : Int) = m) (z : (match badNum 0 es with
      | some j => some [0, (j : Int)]
      | none => if notUp bf (es.map intOf) = true then some [0] else if okCoef b1 = true then none else some [1]) = o) : termPath m bf (.tuple [.tuple es, b1]) = o := by
  show (if (es.length : Int) = m then _ else _) = _
  rw [if_pos hl]
  exact z
section
variable {P : Program} {w : World} {K : PySem.W.Frag} {mg : Str → Option Value} {base : Heap} {f : Addr} {fd : FuncData}
theorem scLPP : FnScope nmLPP ["m", "value"] (defScope sLPP) := ⟨rfl, rfl, rfl, by decide +kernel, rfl, by decide +kernel, by decide +kernel⟩
theorem ok_lpp (F : L2.Fun K "_law_poly_path" "_law_poly_path" sLPP f fd) (mI : mg "isinstance" = none) (mT : mg "tuple" = none) (mB : mg "bool" = none) (mN : mg "int" = none) (mL : mg "len" = none) (mE : mg "enumerate" = none) :
    FnOk P w K mg base CX0 1 f fd ["m", "value"] spLPP := by
  have nd : nmLPP.Nodup := scLPP.nd
  refine F.ok scLPP (fun vs H Q E h => ?_) (fun cdv A outer s H vs Q E hr h => ?_)
  · obtain ⟨_, _, _, rfl, _⟩ := h
    rfl
  · obtain ⟨m, v, d, rfl, hd, k⟩ := h
    have hu := hu_of hr
    refine ⟨_, pss_cons (ps_if (pt_not (pt_val (pe_callB (call_isiD "tuple") (by rfl) mI (by decide +kernel) (pa_cons (pv 1) (pa_cons (pe_tyN (n := "tuple") (by rfl) mT (by decide +kernel)) pa_nil))))) (pss_one (ps_ret (pe_lst (pa_cons (pe_tup pa_nil) pa_nil)))) pss_nil)
      (pss_cons (ps_set (i := 2) nd rfl (.inl rfl) pe_non)
      (pss_cons (ps_for PassesOwn.never rfl (pi_enT (by rfl) mE (pa_cons (pv 1) pa_nil)) (pg_tup rfl (pgs_cons (pg_name (i := 3) nd rfl (.inl rfl)) (pgs_cons (pg_name (i := 4) nd rfl (.inl rfl)) pgs_nil)))
        (pss_cons (ps_if (PW.pt (pw_or (pt_not (pt_val (pe_callB (call_isiD "tuple") (by rfl) mI (by decide +kernel) (pa_cons (pv 4) (pa_cons (pe_tyN (n := "tuple") (by rfl) mT (by decide +kernel)) pa_nil))))) (pw_or1 (pt_cmpR op_ne (pe_callB call_len_seq (by rfl) mL PySem.boot_len (pa_cons (pv 4) pa_nil)) pe_int (nomark _))))) (pss_one (ps_ret (pe_lst (pa_cons (pe_tup (pa_cons (pv 3) pa_nil)) pa_nil)))) pss_nil)
        (pss_cons (ps_if (PW.pt (pw_or (pt_not (pt_val (pe_callB (call_isiD "tuple") (by rfl) mI (by decide +kernel) (pa_cons (pe_ix ix_tup (pv 4) pe_int (fun _ _ => rfl)) (pa_cons (pe_tyN (n := "tuple") (by rfl) mT (by decide +kernel)) pa_nil))))) (pw_or1 (pt_cmpR op_ne (pe_callB call_len_seq (by rfl) mL PySem.boot_len (pa_cons (pe_ix ix_tup (pv 4) pe_int (fun _ _ => rfl)) pa_nil)) (pv 0) (nomark _))))) (pss_one (ps_ret (pe_lst (pa_cons (pe_tup (pa_cons (pv 3) (pa_cons pe_int pa_nil))) pa_nil)))) pss_nil)
        (pss_cons (ps_for PassesOwn.never rfl (pi_enT (by rfl) mE (pa_cons (pe_ix ix_tup (pv 4) pe_int (fun _ _ => rfl)) pa_nil)) (pg_tup rfl (pgs_cons (pg_name (i := 5) nd rfl (.inl rfl)) (pgs_cons (pg_name (i := 6) nd rfl (.inl rfl)) pgs_nil)))
          (pss_one (ps_if (PW.pt (pw_or (pt_val (pe_callB (call_isiD "bool") (by rfl) mI (by decide +kernel) (pa_cons (pv 6) (pa_cons (pe_tyN (n := "bool") (by rfl) mB (by decide +kernel)) pa_nil)))) (pw_or (pt_not (pt_val (pe_callB (call_isiD "int") (by rfl) mI (by decide +kernel) (pa_cons (pv 6) (pa_cons (pe_tyN (n := "int") (by rfl) mN (by decide +kernel)) pa_nil))))) (pw_or1 (pt_cmpR op_lt (pv 6) pe_int (nomark _)))))) (pss_one (ps_ret (pe_lst (pa_cons (pe_tup (pa_cons (pv 3) (pa_cons pe_int (pa_cons (pv 5) pa_nil)))) pa_nil)))) pss_nil)))
        (Evl.pss_cut (ps_if (PW.pt (pw_and (pt_cmpR op_notN (pv 2) pe_non (nomark _)) (pw_and1 (pt_not (pt_cmpR (op_ltT hr.units0) (pv 2) (pe_ix ix_tup (pv 4) pe_int (fun _ _ => rfl)) (nomark _)))))) (pss_one (ps_ret (pe_lst (pa_cons (pe_tup (pa_cons (pv 3) (pa_cons pe_int pa_nil))) pa_nil)))) pss_nil)
        (pss_cons (ps_if (PW.pt (pw_or (pt_val (pe_callB (call_isiD "bool") (by rfl) mI (by decide +kernel) (pa_cons (pe_ix ix_tup (pv 4) pe_int (fun _ _ => rfl)) (pa_cons (pe_tyN (n := "bool") (by rfl) mB (by decide +kernel)) pa_nil)))) (pw_or (pt_not (pt_val (pe_callB (call_isiD "int") (by rfl) mI (by decide +kernel) (pa_cons (pe_ix ix_tup (pv 4) pe_int (fun _ _ => rfl)) (pa_cons (pe_tyN (n := "int") (by rfl) mN (by decide +kernel)) pa_nil))))) (pw_or1 (pt_cmpR op_eq (pe_ix ix_tup (pv 4) pe_int (fun _ _ => rfl)) pe_int (nomark _)))))) (pss_one (ps_ret (pe_lst (pa_cons (pe_tup (pa_cons (pv 3) (pa_cons pe_int pa_nil))) pa_nil)))) pss_nil)
        (pss_one (ps_set (i := 2) nd rfl (.inl rfl) (pe_ix ix_tup (pv 4) pe_int (fun _ _ => rfl))))))))))
      (pss_one (ps_ret (pe_lst pa_nil))))), ?_⟩
    have kq : ∀ p, polyPath m d = some p → ∀ H1 t r, Same H H1 → H1 t = none → (upd H1 t (.tup (p.map V.int))) r = none → Q (.ref r) (upd (upd H1 t (.tup (p.map V.int))) r (.lst [.ref t])) := fun p hp H1 t r s1 nt nr =>
      k r _ (was_none (s1.trans (same_new nt)) nr) (s1.trans ((same_new nt).trans (same_new nr))) (by rw [hp]; exact ⟨t, upd_same, (same_new nr) _ _ upd_same⟩)
    refine ⟨_, rfl, v, d, _, rfl, hd, kit_tup d, _, rfl, ?_⟩
    cases ht : isT d with
    | false =>
      refine iteT' rfl ⟨lt_size (Nat.le_of_ble_eq_true rfl), fun t nt => ⟨lt_size (Nat.le_of_ble_eq_true rfl), fun r nr => kq [] ?_ H t r (fun _ _ e => e) nt nr⟩⟩
      cases d with
      | tuple _ => cases ht
      | _ => rfl
    | true =>
    refine iteF' rfl ?_
    cases hd with
    | non => cases ht
    | bl _ => cases ht
    | int _ => cases ht
    | str _ => cases ht
    | lst _ _ => cases ht
    | dct _ _ _ => cases ht
    | @tup a xs ds h1 h2 =>
    have wl := dr_len h2
    refine ⟨_, rfl, a, xs, rfl, SqT.of h1, for_it walk_enT (fun i σ H1 => ∃ (bv : V) (bf : Option (List Int)) (o3 o4 o5 o6 : Option V), σ = [some (.int m), some (.ref a), some bv, o3, o4, o5, o6] ∧ Same H H1 ∧ BfAt H1 m bv bf ∧ pathFrom m 0 none ds = pathFrom m i bf (ds.drop i))
      ⟨.non, none, none, none, none, none, rfl, (fun _ _ e => e), True.intro, rfl⟩ (fun i σ H1 _ ⟨_, _, _, _, _, _, _, s1, _⟩ => SqT.of (s1 _ _ h1)) ?_ ?_⟩
    · rintro i x σ H1 H2 hi ⟨bv, bf, o3, o4, o5, o6, rfl, s1, hb, eb⟩ ⟨T, x', y, rfl, nT, rfl, ex, ey⟩
      obtain rfl := Option.some.inj ex
      have sT := same_new (o := .tup [.int (i : Nat), y]) nT
      obtain ⟨dd, ed, hdd⟩ := dr_get h2 ey
      have hb2 : BfAt (upd H1 T (.tup [.int (i : Nat), y])) m bv bf := by
        rcases bf_cases hb with ⟨rfl, rfl⟩ | ⟨ba, bl, rfl, rfl, hba, hbl⟩
        · exact True.intro
        · exact ⟨sT _ _ hba, hbl⟩
      refine ⟨T, _, rfl, SqT.of upd_same, rfl, _, _, rfl, _, _, rfl, rfl, ?_⟩
      have s2 := s1.trans sT
      generalize upd H1 T (.tup [.int (i : Nat), y]) = H2 at s2 hb2 ⊢
      have bad : ∀ q, termPath m bf dd = some q → ∀ H1 t r, Same H H1 → H1 t = none → (upd H1 t (.tup ((((i : Int) :: q)).map V.int))) r = none → Q (.ref r) (upd (upd H1 t (.tup ((((i : Int) :: q)).map V.int))) r (.lst [.ref t])) := fun q hq => kq ((i : Int) :: q) (pathFrom_some eb ed hq)
      have hy := hdd.same s2
      refine ⟨_, rfl, y, dd, _, rfl, hy, kit_tup dd, _, rfl, ?_⟩
      cases hy with
      | non => exact iteT' rfl ⟨_, rfl, lt_size (Nat.le_of_ble_eq_true rfl), fun t nt => ⟨lt_size (Nat.le_of_ble_eq_true rfl), fun r nr => bad [] (tupOf_no rfl) H2 t r s2 nt nr⟩⟩
      | str _ => exact iteT' rfl ⟨_, rfl, lt_size (Nat.le_of_ble_eq_true rfl), fun t nt => ⟨lt_size (Nat.le_of_ble_eq_true rfl), fun r nr => bad [] (tupOf_no rfl) H2 t r s2 nt nr⟩⟩
      | lst _ _ => exact iteT' rfl ⟨_, rfl, lt_size (Nat.le_of_ble_eq_true rfl), fun t nt => ⟨lt_size (Nat.le_of_ble_eq_true rfl), fun r nr => bad [] (tupOf_no rfl) H2 t r s2 nt nr⟩⟩
      | dct _ _ _ => exact iteT' rfl ⟨_, rfl, lt_size (Nat.le_of_ble_eq_true rfl), fun t nt => ⟨lt_size (Nat.le_of_ble_eq_true rfl), fun r nr => bad [] (tupOf_no rfl) H2 t r s2 nt nr⟩⟩
      | bl _ => exact iteT' rfl ⟨_, rfl, lt_size (Nat.le_of_ble_eq_true rfl), fun t nt => ⟨lt_size (Nat.le_of_ble_eq_true rfl), fun r nr => bad [] (tupOf_no rfl) H2 t r s2 nt nr⟩⟩
      | int _ => exact iteT' rfl ⟨_, rfl, lt_size (Nat.le_of_ble_eq_true rfl), fun t nt => ⟨lt_size (Nat.le_of_ble_eq_true rfl), fun r nr => bad [] (tupOf_no rfl) H2 t r s2 nt nr⟩⟩
      | @tup ya ys dds g1 g2 =>
      refine iteF' rfl ⟨_, rfl, ya, ys, rfl, .inr (SqT.of g1), rfl, _, rfl, ?_⟩
      have yl := dr_len g2
      by_cases l2 : tupOf (.tuple dds) 2 = true
      case neg =>
        have l2' : tupOf (.tuple dds) 2 = false := by simpa using l2
        have n2 : ¬ (ys.length : Int) = 2 := by rw [yl]; exact of_decide_eq_false l2'
        exact iteT' (by rw [decide_eq_false fun z => n2 (V.int.inj z)]; rfl) ⟨_, rfl, lt_size (Nat.le_of_ble_eq_true rfl), fun t nt => ⟨lt_size (Nat.le_of_ble_eq_true rfl), fun r nr => bad [] (tupOf_no l2') H2 t r s2 nt nr⟩⟩
      have n2 : (ys.length : Int) = 2 := by rw [yl]; exact of_decide_eq_true l2
      refine iteF' (by rw [n2]; rfl) ?_
      obtain ⟨a1, b1, e2⟩ := tupOf_two l2
      cases e2
      cases g2 with
      | @cons va vs1 _ _ x1 t1 =>
      cases t1 with
      | @cons vb vs2 _ _ x2 t2 =>
      cases t2
      have i0 : atI [va, vb] 0 = some va := atI_nat (j := 0) rfl
      have i1 : atI [va, vb] 1 = some vb := atI_nat (j := 1) rfl
      -- the exponents
      refine ⟨_, rfl, ya, _, 0, va, rfl, rfl, SqT.of g1, i0, va, a1, _, rfl, x1, kit_tup a1, _, rfl, ?_⟩
      have noexp : tupOf a1 m = false → termPath m bf (.tuple [a1, b1]) = some [0] := fun z => tupOf_noexp z
      cases x1 with
      | non => exact iteT' rfl ⟨_, rfl, lt_size (Nat.le_of_ble_eq_true rfl), fun t nt => ⟨lt_size (Nat.le_of_ble_eq_true rfl), fun r nr => bad [0] (noexp rfl) H2 t r s2 nt nr⟩⟩
      | str _ => exact iteT' rfl ⟨_, rfl, lt_size (Nat.le_of_ble_eq_true rfl), fun t nt => ⟨lt_size (Nat.le_of_ble_eq_true rfl), fun r nr => bad [0] (noexp rfl) H2 t r s2 nt nr⟩⟩
      | lst _ _ => exact iteT' rfl ⟨_, rfl, lt_size (Nat.le_of_ble_eq_true rfl), fun t nt => ⟨lt_size (Nat.le_of_ble_eq_true rfl), fun r nr => bad [0] (noexp rfl) H2 t r s2 nt nr⟩⟩
      | dct _ _ _ => exact iteT' rfl ⟨_, rfl, lt_size (Nat.le_of_ble_eq_true rfl), fun t nt => ⟨lt_size (Nat.le_of_ble_eq_true rfl), fun r nr => bad [0] (noexp rfl) H2 t r s2 nt nr⟩⟩
      | bl _ => exact iteT' rfl ⟨_, rfl, lt_size (Nat.le_of_ble_eq_true rfl), fun t nt => ⟨lt_size (Nat.le_of_ble_eq_true rfl), fun r nr => bad [0] (noexp rfl) H2 t r s2 nt nr⟩⟩
      | int _ => exact iteT' rfl ⟨_, rfl, lt_size (Nat.le_of_ble_eq_true rfl), fun t nt => ⟨lt_size (Nat.le_of_ble_eq_true rfl), fun r nr => bad [0] (noexp rfl) H2 t r s2 nt nr⟩⟩
      | @tup ea ws es e1 e2 =>
      have el := dr_len e2
      refine iteF' rfl ⟨_, rfl, ya, _, 0, .ref ea, rfl, rfl, SqT.of g1, i0, ea, ws, rfl, .inr (SqT.of e1), _, rfl, rfl, _, rfl, ?_⟩
      by_cases lm : tupOf (.tuple es) m = true
      case neg =>
        have lm' : tupOf (.tuple es) m = false := by simpa using lm
        have nm : ¬ (ws.length : Int) = m := by rw [el]; exact of_decide_eq_false lm'
        exact iteT' (by rw [decide_eq_false fun z => nm (V.int.inj z)]; rfl) ⟨_, rfl, lt_size (Nat.le_of_ble_eq_true rfl), fun t nt => ⟨lt_size (Nat.le_of_ble_eq_true rfl), fun r nr => bad [0] (noexp lm') H2 t r s2 nt nr⟩⟩
      have hl : (es.length : Int) = m := of_decide_eq_true lm
      refine iteF' (by rw [el, hl, decide_eq_true rfl]; rfl) ?_
      -- each exponent
      refine ⟨_, rfl, ya, _, 0, .ref ea, rfl, rfl, SqT.of g1, i0, ea, ws, rfl, SqT.of e1, for_it walk_enT (fun j σ H3 => ∃ o5 o6 : Option V, σ = [some (.int m), some (.ref a), some bv, some (.int (i : Nat)), some (.ref ya), o5, o6] ∧ Same H2 H3 ∧ badNum 0 es = badNum j (es.drop j))
        ⟨o5, o6, rfl, (fun _ _ e => e), rfl⟩ (fun j σ H3 _ ⟨_, _, _, s3, _⟩ => SqT.of (s3 _ _ e1)) ?_ ?_⟩
      · rintro j x σ H3 H4 hj ⟨o5, o6, rfl, s3, ej⟩ ⟨T2, x', z, rfl, nT2, rfl, ex, ez⟩
        obtain rfl := Option.some.inj ex
        have s4 := s3.trans (same_new (o := .tup [.int (j : Nat), z]) nT2)
        obtain ⟨zd, ezd, hz⟩ := dr_get e2 ez
        refine ⟨T2, _, rfl, SqT.of upd_same, rfl, _, _, rfl, _, _, rfl, rfl, ?_⟩
        generalize upd H3 T2 (.tup [.int (j : Nat), z]) = H5 at s4 ⊢
        have hz5 := hz.same s4
        have s5 := s2.trans s4
        have badj : numB zd = false → termPath m bf (.tuple [.tuple es, b1]) = some [0, (j : Int)] := fun q => termPath_es hl (by
          rw [ej, drop_at ezd]
          unfold badNum
          rw [if_neg (by rw [q]; decide)])
        refine ⟨_, rfl, z, zd, _, rfl, hz5, kit_bool zd, _, rfl, ?_⟩
        have ok0 := hz5
        cases hz5 with
        | bl _ => exact iteT' rfl ⟨_, rfl, _, rfl, lt_size (Nat.le_of_ble_eq_true rfl), fun t nt => ⟨lt_size (Nat.le_of_ble_eq_true rfl), fun r nr => bad [0, (j : Int)] (badj rfl) H5 t r s5 nt nr⟩⟩
        | int n =>
          refine iteF' rfl ⟨_, rfl, _, _, _, rfl, ok0, kit_int _, _, rfl, iteF' rfl ⟨_, rfl, n, 0, rfl, rfl, _, rfl, ?_⟩⟩
          by_cases n0 : n < 0
          · exact iteT' (decide_eq_true n0) ⟨_, rfl, _, rfl, lt_size (Nat.le_of_ble_eq_true rfl), fun t nt => ⟨lt_size (Nat.le_of_ble_eq_true rfl), fun r nr => bad [0, (j : Int)] (badj (decide_eq_false (by omega))) H5 t r s5 nt nr⟩⟩
          · refine iteF' (decide_eq_false n0) ⟨_, _, rfl, s4, ?_⟩
            rw [ej, drop_at ezd]
            show (if numB (.int n) = true then _ else _) = _
            rw [if_pos (show numB (.int n) = true from decide_eq_true (by omega))]
        | non => exact iteF' rfl ⟨_, rfl, _, _, _, rfl, ok0, kit_int _, _, rfl, iteT' rfl ⟨_, rfl, _, rfl, lt_size (Nat.le_of_ble_eq_true rfl), fun t nt => ⟨lt_size (Nat.le_of_ble_eq_true rfl), fun r nr => bad [0, (j : Int)] (badj rfl) H5 t r s5 nt nr⟩⟩⟩
        | str _ => exact iteF' rfl ⟨_, rfl, _, _, _, rfl, ok0, kit_int _, _, rfl, iteT' rfl ⟨_, rfl, _, rfl, lt_size (Nat.le_of_ble_eq_true rfl), fun t nt => ⟨lt_size (Nat.le_of_ble_eq_true rfl), fun r nr => bad [0, (j : Int)] (badj rfl) H5 t r s5 nt nr⟩⟩⟩
        | lst _ _ => exact iteF' rfl ⟨_, rfl, _, _, _, rfl, ok0, kit_int _, _, rfl, iteT' rfl ⟨_, rfl, _, rfl, lt_size (Nat.le_of_ble_eq_true rfl), fun t nt => ⟨lt_size (Nat.le_of_ble_eq_true rfl), fun r nr => bad [0, (j : Int)] (badj rfl) H5 t r s5 nt nr⟩⟩⟩
        | tup _ _ => exact iteF' rfl ⟨_, rfl, _, _, _, rfl, ok0, kit_int _, _, rfl, iteT' rfl ⟨_, rfl, _, rfl, lt_size (Nat.le_of_ble_eq_true rfl), fun t nt => ⟨lt_size (Nat.le_of_ble_eq_true rfl), fun r nr => bad [0, (j : Int)] (badj rfl) H5 t r s5 nt nr⟩⟩⟩
        | dct _ _ _ => exact iteF' rfl ⟨_, rfl, _, _, _, rfl, ok0, kit_int _, _, rfl, iteT' rfl ⟨_, rfl, _, rfl, lt_size (Nat.le_of_ble_eq_true rfl), fun t nt => ⟨lt_size (Nat.le_of_ble_eq_true rfl), fun r nr => bad [0, (j : Int)] (badj rfl) H5 t r s5 nt nr⟩⟩⟩
      rintro σ H3 ⟨o5, o6, rfl, s3, ej⟩
      rw [el, List.drop_length] at ej
      have ej : badNum 0 es = none := ej
      obtain ⟨ei, e0⟩ := badNum_none ej
      have ew := dr_nums e2 ei
      have s23 := s2.trans s3
      refine ⟨fun σ H4 => σ = [some (.int m), some (.ref a), some bv, some (.int (i : Nat)), some (.ref ya), o5, o6] ∧ Same H3 H4 ∧ notUp bf (es.map intOf) = false, ?_, ?_⟩
      · rcases bf_cases hb2 with ⟨rfl, rfl⟩ | ⟨ba, bl, rfl, rfl, hba, hbl⟩
        · exact ⟨_, rfl, rfl, _, rfl, iteF' rfl ⟨rfl, (fun _ _ e => e), rfl⟩⟩
        · refine ⟨_, rfl, rfl, _, rfl, iteT' rfl ⟨_, rfl, _, rfl, ya, _, 0, .ref ea, rfl, rfl, SqT.of (s3 _ _ g1), i0, ba, ea, bl, es.map intOf, rfl, rfl, SqT.of (s3 _ _ hba), SqT.of (by rw [← ew]; exact s3 _ _ e1), _, rfl, ?_⟩⟩
          cases hx : HT.lexLt bl (es.map intOf) with
          | false =>
            refine iteT' rfl ⟨_, rfl, lt_size (Nat.le_of_ble_eq_true rfl), fun t nt => ⟨lt_size (Nat.le_of_ble_eq_true rfl), fun r nr => bad [0] (termPath_es hl ?_) H3 t r s23 nt nr⟩⟩
            rw [ej]
            show (if (!HT.lexLt bl (es.map intOf)) = true then _ else _) = _
            rw [hx]
            rfl
          | true => exact iteF' rfl ⟨rfl, (fun _ _ e => e), by show (!HT.lexLt bl (es.map intOf)) = false; rw [hx]; rfl⟩
      rintro σ H4 ⟨rfl, s4, nu⟩
      have s34 := s3.trans s4
      have s24 := s2.trans s34
      have tq : ∀ o : Option (List Int), (if okCoef b1 = true then none else some [1]) = o → termPath m bf (.tuple [.tuple es, b1]) = o := fun o z => termPath_es hl (by
        rw [ej]
        show (if notUp bf (es.map intOf) = true then _ else _) = _
        rw [nu, if_neg (by decide)]
        exact z)
      have badc : okCoef b1 = false → termPath m bf (.tuple [.tuple es, b1]) = some [1] := fun z => tq _ (by rw [z]; rfl)
      have g4 := s34 _ _ g1
      have x4 := x2.same s34
      refine ⟨_, rfl, ya, _, 1, vb, rfl, rfl, SqT.of g4, i1, vb, b1, _, rfl, x4, kit_bool b1, _, rfl, ?_⟩
      have ok1 := x4
      cases x4 with
      | bl _ => exact iteT' rfl ⟨_, rfl, lt_size (Nat.le_of_ble_eq_true rfl), fun t nt => ⟨lt_size (Nat.le_of_ble_eq_true rfl), fun r nr => bad [1] (badc rfl) H4 t r s24 nt nr⟩⟩
      | int n =>
        refine iteF' rfl ⟨_, rfl, ya, _, 1, .int n, rfl, rfl, SqT.of g4, i1, _, _, _, rfl, ok1, kit_int _, _, rfl, iteF' rfl ⟨_, rfl, ya, _, 1, .int n, rfl, rfl, SqT.of g4, i1, rfl, _, rfl, ?_⟩⟩
        by_cases n0 : n = 0
        · exact iteT' (by rw [n0]; rfl) ⟨_, rfl, lt_size (Nat.le_of_ble_eq_true rfl), fun t nt => ⟨lt_size (Nat.le_of_ble_eq_true rfl), fun r nr => bad [1] (badc (by rw [n0]; rfl)) H4 t r s24 nt nr⟩⟩
        · refine iteF' (decide_eq_false fun z => n0 (V.int.inj z)) ⟨_, rfl, ya, _, 0, .ref ea, rfl, rfl, SqT.of g4, i0, ?_⟩
          refine ⟨.ref ea, some (es.map intOf), _, _, _, _, rfl, s24, ⟨by rw [← ew]; exact s34 _ _ e1, by rw [List.length_map]; exact hl⟩, ?_⟩
          exact pathFrom_next eb ed (tq _ (by
            show (if decide (n ≠ 0) = true then _ else _) = _
            rw [decide_eq_true n0, if_pos rfl]))
      | non => exact iteF' rfl ⟨_, rfl, ya, _, 1, _, rfl, rfl, SqT.of g4, i1, _, _, _, rfl, ok1, kit_int _, _, rfl, iteT' rfl ⟨_, rfl, lt_size (Nat.le_of_ble_eq_true rfl), fun t nt => ⟨lt_size (Nat.le_of_ble_eq_true rfl), fun r nr => bad [1] (badc rfl) H4 t r s24 nt nr⟩⟩⟩
      | str _ => exact iteF' rfl ⟨_, rfl, ya, _, 1, _, rfl, rfl, SqT.of g4, i1, _, _, _, rfl, ok1, kit_int _, _, rfl, iteT' rfl ⟨_, rfl, lt_size (Nat.le_of_ble_eq_true rfl), fun t nt => ⟨lt_size (Nat.le_of_ble_eq_true rfl), fun r nr => bad [1] (badc rfl) H4 t r s24 nt nr⟩⟩⟩
      | lst _ _ => exact iteF' rfl ⟨_, rfl, ya, _, 1, _, rfl, rfl, SqT.of g4, i1, _, _, _, rfl, ok1, kit_int _, _, rfl, iteT' rfl ⟨_, rfl, lt_size (Nat.le_of_ble_eq_true rfl), fun t nt => ⟨lt_size (Nat.le_of_ble_eq_true rfl), fun r nr => bad [1] (badc rfl) H4 t r s24 nt nr⟩⟩⟩
      | tup _ _ => exact iteF' rfl ⟨_, rfl, ya, _, 1, _, rfl, rfl, SqT.of g4, i1, _, _, _, rfl, ok1, kit_int _, _, rfl, iteT' rfl ⟨_, rfl, lt_size (Nat.le_of_ble_eq_true rfl), fun t nt => ⟨lt_size (Nat.le_of_ble_eq_true rfl), fun r nr => bad [1] (badc rfl) H4 t r s24 nt nr⟩⟩⟩
      | dct _ _ _ => exact iteF' rfl ⟨_, rfl, ya, _, 1, _, rfl, rfl, SqT.of g4, i1, _, _, _, rfl, ok1, kit_int _, _, rfl, iteT' rfl ⟨_, rfl, lt_size (Nat.le_of_ble_eq_true rfl), fun t nt => ⟨lt_size (Nat.le_of_ble_eq_true rfl), fun r nr => bad [1] (badc rfl) H4 t r s24 nt nr⟩⟩⟩
    · rintro σ H1 ⟨bv, bf, o3, o4, o5, o6, rfl, s1, hb, eb⟩
      rw [wl, List.drop_length] at eb
      refine ⟨lt_size (Nat.le_of_ble_eq_true rfl), fun r nr => k r _ (was_none s1 nr) (s1.trans (same_new nr)) ?_⟩
      show PathAt _ r (pathFrom m 0 none ds)
      rw [eb]
      exact upd_same
end
end Kx
namespace Kx
open PySem PySem.Spec PyProof.Rows L2
abbrev sLP : Stmt := topS 19
abbrev sOdd : Stmt := topS 20
def nmLP : List Str := ["m", "value", "error"]
/-- a value that is some data, apart from N, of bounded depth and text -/
def Val (k c n : Nat) (N : Addr → Prop) (H : Hp) (v : V) : Prop := ∃ D, Dr (cutP N H) v D ∧ Fd k c D ∧ topLen D ≤ n
section
variable {k c n k' c' n' : Nat} {N N' : Addr → Prop} {H H' : Hp} {v : V}
theorem Val.mono (h : Val k c n N H v) (h1 : k ≤ k') (h2 : c ≤ c') (h3 : n ≤ n') : Val k' c' n' N H v := let ⟨D, a, b, e⟩ := h; ⟨D, a, b.mono h1 h2, Nat.le_trans e h3⟩
theorem Val.cs (h : Val k c n N H v) (b : Same (cutP N H) (cutP N H')) : Val k c n N H' v := let ⟨D, a, x, e⟩ := h; ⟨D, a.same b, x, e⟩
theorem Val.same (h : Val k c n N H v) (s : Same H H') : Val k c n N H' v := h.cs (cutP_same s)
theorem Val.less (h : Val k c n N H v) (q : ∀ b, N' b → N b) : Val k c n N' H v := let ⟨D, a, x, e⟩ := h; ⟨D, a.same (cutP_less q), x, e⟩
end
theorem val_all {k c n : Nat} {N : Addr → Prop} {H : Hp} : ∀ {xs : List V}, (∀ v ∈ xs, Val k c n N H v) → ∃ ds, DrAll (cutP N H) xs ds ∧ ∀ D ∈ ds, Fd k c D
  | [], _ => ⟨[], .nil, fun D hD => nomatch hD⟩
  | x :: xs, h => by
    obtain ⟨ds, h1, h2⟩ := val_all fun v hv => h v (List.mem_cons_of_mem _ hv)
    obtain ⟨D, a, b, _⟩ := h x List.mem_cons_self
    exact ⟨D :: ds, .cons a h1, fun E hE => by
      rcases List.mem_cons.mp hE with z | z
      · rw [z]; exact b
      · exact h2 E z⟩
theorem valT {k c n : Nat} {N : Addr → Prop} {a : Addr} {H : Hp} {xs : List V} (h : ∀ v ∈ xs, Val k c n N H v) (ha : cutP N H a = some (.tup xs)) : Val (k + 1) (xs.length * (c + 2) + 3) xs.length N H (.ref a) := by
  obtain ⟨ds, h1, h2⟩ := val_all h
  have e := dr_len h1
  refine ⟨.tuple ds, .tup ha h1, ?_, ?_⟩
  · rw [e]; exact Fd.tup h2
  · rw [e]; exact Nat.le_refl _
theorem valL {k c n : Nat} {N : Addr → Prop} {a : Addr} {H : Hp} {xs : List V} (h : ∀ v ∈ xs, Val k c n N H v) (ha : cutP N H a = some (.lst xs)) : Val (k + 1) (xs.length * (c + 2) + 3) 0 N H (.ref a) := by
  obtain ⟨ds, h1, h2⟩ := val_all h
  refine ⟨.list ds, .lst ha h1, ?_, Nat.le_refl _⟩
  rw [dr_len h1]
  exact Fd.lst h2
section
variable {N : Addr → Prop} {H : Hp}
theorem Val.int {i : Int} (h : Lt2 200 i) : Val 1 201 0 N H (.int i) := ⟨.int i, .int i, .of (Fn.int (by decide) (by decide) h), Nat.le_refl _⟩
theorem Val.non : Val 1 201 0 N H .non := ⟨.none, .non, fd_of (by decide +kernel), Nat.le_refl _⟩
theorem Val.bl (b : Bool) : Val 1 201 0 N H (.bl b) := ⟨.bool b, .bl b, by cases b <;> exact fd_of (by decide +kernel), Nat.le_refl _⟩
theorem Val.str {x : Str} (h : fdB 1 201 (.str x) = true) : Val 1 201 0 N H (.str x) := ⟨.str x, .str x, fd_of h, Nat.le_refl _⟩
end
def spOdd : Sp := fun vs H Q _ => ∃ d l : Addr, vs = [.ref d] ∧ SrcAt H d l ∧ ∀ v H', Val 3 1000 2 (old H) H' v → SrcAt H' d l → But d l H H' → Q v H'
section
variable {P : Program} {w : World} {K : PySem.W.Frag} {mg : Str → Option Value} {base : Heap} {f : Addr} {fd : FuncData} {C : Addr}
theorem scLP : FnScope nmLP ["m", "value"] (defScope sLP) := ⟨rfl, rfl, rfl, by decide +kernel, rfl, by decide +kernel, by decide +kernel⟩
theorem ok_lp (F : L2.Fun K "_law_path" "_law_path" sLP f fd) (B : BadT P w K mg base C) (D : DefX P w K mg base 4 "check_polynomial" ["m", "value"] (spChk C)) : FnOk P w K mg base CX0 5 f fd ["m", "value"] spLPP := by
  have nd : nmLP.Nodup := scLP.nd
  obtain ⟨fT, fdT, GT, kT, bT, mTell⟩ := D.ex
  refine F.ok scLP (fun vs H Q E h => ?_) (fun cdv A outer s H vs Q E hr h => ?_)
  · obtain ⟨_, _, _, rfl, _⟩ := h
    rfl
  · obtain ⟨m, v, d, rfl, hd, k⟩ := h
    refine ⟨_, pss_one (ps_try_as (i := 2) (tb := fun W => tRet (tIf (tTest (tOp (fun x y H Q => y = .non ∧ Q (.bl (decide (x = .non))) H) (tCallS (spChk C) (WE W) (tCons (tVar 0) (tCons (tVar 1) tNil))) (tC .non))) (tLst tNil) (tLst (tCons (tC (.str "told")) tNil))))
        (ts := fun a cls d => tRet (tLst (tCons (tXf a cls d C "path" (tVar 2)) tNil))) (Wout := fun _ _ _ _ => False) rfl rfl nd rfl rfl ⟨rfl, by decide, .inl B.gC⟩ takes0
      (fun W pn xe tk _ => pss_one (ps_ret (pe_ifExp (pt_cmpR op_isN (by exact (pe_callS GT hr rfl mTell kT bT (fun σ => passAt tk σ) (by exact (pa_cons (pv 0) (pa_cons (pv 1) pa_nil))))) pe_non (nomark _)) (pe_lst pa_nil) (pe_lst (pa_cons pe_str pa_nil)))))
      (fun a oe cls d pn hz hf => pss_one (ps_ret (pe_lst (pa_cons (by exact (pe_xf B.xf B.noP hz hf (pv 2))) pa_nil))))), ?_⟩
    refine ⟨_, rfl, _, rfl, m, v, d, rfl, hd, fun hn H1 s1 => ?_, fun p hp t dx H1 s1 ht hdx => ?_⟩
    · refine ⟨rfl, _, rfl, iteT' rfl ⟨lt_size (Nat.le_of_ble_eq_true rfl), fun r nr => k r _ (was_none s1 nr) (s1.trans (same_new nr)) ?_⟩⟩
      rw [hn]
      exact upd_same
    · refine ⟨true, B.te, fun _ a na => ?_, fun q => Bool.noConfusion q⟩
      refine ⟨_, rfl, rfl, rfl, dx, _, .ref t, rfl, hdx, rfl, lt_size (Nat.le_of_ble_eq_true rfl), fun r nr => k r _ (was_none s1 nr) (s1.trans (same_new nr)) ?_⟩
      rw [hp]
      exact ⟨t, upd_same, (same_new nr) _ _ ht⟩
theorem scOdd : FnScope ["source", "some"] ["source"] (defScope sOdd) := ⟨rfl, rfl, rfl, by decide +kernel, rfl, by decide +kernel, by decide +kernel⟩
theorem ok_odd (F : L2.Fun K "_law_odd" "_law_odd" sOdd f fd) (dOf : Def P w K mg base 2 "_law_of" ["source", "some"] (spOf K)) : FnOk P w K mg base CX0 3 f fd ["source"] spOdd := by
  have nd := scOdd.nd
  refine F.ok scOdd (fun vs H Q E h => ?_) (fun cdv A outer s H vs Q E hr h => ?_)
  · obtain ⟨_, _, rfl, _⟩ := h
    rfl
  · obtain ⟨d, l, rfl, S, k⟩ := h
    refine ⟨_, pss_cons (ps_set (i := 1) nd rfl (.inl rfl) (pe_lst (pa_cons pe_non (pa_cons pe_bl (pa_cons pe_bl (pa_cons (pe_un un_neg pe_int) (pa_cons pe_int (pa_cons pe_int (pa_cons (pe_op op_pow pe_int pe_int) (pa_cons pe_str (pa_cons pe_str (pa_cons (pe_tup pa_nil) (pa_cons (pe_lst pa_nil) (pa_cons pe_dnewK pa_nil))))))))))))))
      (pss_one (ps_ret (pe_callD dOf hr (by rfl) (pa_cons (pv 0) (pa_cons (pe_op op_cat (pv 1) (pe_lst (pa_cons (pe_tup (pa_cons pe_int pa_nil)) (pa_cons (pe_tup (pa_cons pe_int (pa_cons pe_int pa_nil))) (pa_cons (pe_lst (pa_cons pe_int (pa_cons pe_int pa_nil))) (pa_cons (pe_tup (pa_cons (pe_tup (pa_cons pe_int pa_nil)) (pa_cons pe_int pa_nil))) pa_nil)))))) pa_nil))))), ?_⟩
    refine ⟨_, rfl, _, _, rfl, rfl, ⟨by decide, by decide, by decide⟩, ?_⟩
    refine ⟨lt_size (Nat.le_of_ble_eq_true rfl), fun t1 n1 => ?_⟩
    have s1 := same_new (o := .tup []) n1
    have h1 : upd H t1 (.tup []) t1 = some (.tup []) := upd_same
    have y1 := (S).nd n1
    generalize upd H t1 (.tup []) = H1 at s1 h1 ⊢
    have S1 := (S).same s1
    refine ⟨lt_size (Nat.le_of_ble_eq_true rfl), fun t2 n2 => ?_⟩
    have s2 := same_new (o := .lst []) n2
    have h2 : upd H1 t2 (.lst []) t2 = some (.lst []) := upd_same
    have y2 := (S1).nd n2
    generalize upd H1 t2 (.lst []) = H2 at s2 h2 ⊢
    have S2 := (S1).same s2
    refine fun t3 n3 => ?_
    have s3 := same_new (o := .dK []) n3
    have h3 : upd H2 t3 (.dK []) t3 = some (.dK []) := upd_same
    have y3 := (S2).nd n3
    generalize upd H2 t3 (.dK []) = H3 at s3 h3 ⊢
    have S3 := (S2).same s3
    refine ⟨lt_size (Nat.le_of_ble_eq_true rfl), fun t4 n4 => ?_⟩
    have s4 := same_new (o := .lst [.non, .bl true, .bl false, .int (-1), .int 0, .int 3, .int (10 ^ (30 : Int).toNat), .str "", .str "1", .ref t1, .ref t2, .ref t3]) n4
    have h4 : upd H3 t4 (.lst [.non, .bl true, .bl false, .int (-1), .int 0, .int 3, .int (10 ^ (30 : Int).toNat), .str "", .str "1", .ref t1, .ref t2, .ref t3]) t4 = some (.lst [.non, .bl true, .bl false, .int (-1), .int 0, .int 3, .int (10 ^ (30 : Int).toNat), .str "", .str "1", .ref t1, .ref t2, .ref t3]) := upd_same
    have y4 := (S3).nd n4
    generalize upd H3 t4 (.lst [.non, .bl true, .bl false, .int (-1), .int 0, .int 3, .int (10 ^ (30 : Int).toNat), .str "", .str "1", .ref t1, .ref t2, .ref t3]) = H4 at s4 h4 ⊢
    have S4 := (S3).same s4
    refine ⟨_, rfl, _, rfl, ?_⟩
    refine ⟨lt_size (Nat.le_of_ble_eq_true rfl), fun t5 n5 => ?_⟩
    have s5 := same_new (o := .tup [.int 0]) n5
    have h5 : upd H4 t5 (.tup [.int 0]) t5 = some (.tup [.int 0]) := upd_same
    have y5 := (S4).nd n5
    generalize upd H4 t5 (.tup [.int 0]) = H5 at s5 h5 ⊢
    have S5 := (S4).same s5
    refine ⟨lt_size (Nat.le_of_ble_eq_true rfl), fun t6 n6 => ?_⟩
    have s6 := same_new (o := .tup [.int 0, .int 1]) n6
    have h6 : upd H5 t6 (.tup [.int 0, .int 1]) t6 = some (.tup [.int 0, .int 1]) := upd_same
    have y6 := (S5).nd n6
    generalize upd H5 t6 (.tup [.int 0, .int 1]) = H6 at s6 h6 ⊢
    have S6 := (S5).same s6
    refine ⟨lt_size (Nat.le_of_ble_eq_true rfl), fun t7 n7 => ?_⟩
    have s7 := same_new (o := .lst [.int 0, .int 1]) n7
    have h7 : upd H6 t7 (.lst [.int 0, .int 1]) t7 = some (.lst [.int 0, .int 1]) := upd_same
    have y7 := (S6).nd n7
    generalize upd H6 t7 (.lst [.int 0, .int 1]) = H7 at s7 h7 ⊢
    have S7 := (S6).same s7
    refine ⟨lt_size (Nat.le_of_ble_eq_true rfl), fun t8 n8 => ?_⟩
    have s8 := same_new (o := .tup [.int 0]) n8
    have h8 : upd H7 t8 (.tup [.int 0]) t8 = some (.tup [.int 0]) := upd_same
    have y8 := (S7).nd n8
    generalize upd H7 t8 (.tup [.int 0]) = H8 at s8 h8 ⊢
    have S8 := (S7).same s8
    refine ⟨lt_size (Nat.le_of_ble_eq_true rfl), fun t9 n9 => ?_⟩
    have s9 := same_new (o := .tup [.ref t8, .int 1]) n9
    have h9 : upd H8 t9 (.tup [.ref t8, .int 1]) t9 = some (.tup [.ref t8, .int 1]) := upd_same
    have y9 := (S8).nd n9
    generalize upd H8 t9 (.tup [.ref t8, .int 1]) = H9 at s9 h9 ⊢
    have S9 := (S8).same s9
    refine ⟨lt_size (Nat.le_of_ble_eq_true rfl), fun t10 n10 => ?_⟩
    have s10 := same_new (o := .lst [.ref t5, .ref t6, .ref t7, .ref t9]) n10
    have h10 : upd H9 t10 (.lst [.ref t5, .ref t6, .ref t7, .ref t9]) t10 = some (.lst [.ref t5, .ref t6, .ref t7, .ref t9]) := upd_same
    have y10 := (S9).nd n10
    generalize upd H9 t10 (.lst [.ref t5, .ref t6, .ref t7, .ref t9]) = H10 at s10 h10 ⊢
    have S10 := (S9).same s10
    have e4 := (s5.trans (s6.trans (s7.trans (s8.trans (s9.trans s10))))) _ _ h4
    refine ⟨t4, t10, _, _, rfl, rfl, e4, h10, lt_size (Nat.le_of_ble_eq_true rfl), fun t11 n11 => ?_⟩
    have s11 := same_new (o := .lst (([.non, .bl true, .bl false, .int (-1), .int 0, .int 3, .int (10 ^ (30 : Int).toNat), .str "", .str "1", .ref t1, .ref t2, .ref t3] : List V) ++ [.ref t5, .ref t6, .ref t7, .ref t9])) n11
    have h11 : upd H10 t11 (.lst (([.non, .bl true, .bl false, .int (-1), .int 0, .int 3, .int (10 ^ (30 : Int).toNat), .str "", .str "1", .ref t1, .ref t2, .ref t3] : List V) ++ [.ref t5, .ref t6, .ref t7, .ref t9])) t11 = some (.lst (([.non, .bl true, .bl false, .int (-1), .int 0, .int 3, .int (10 ^ (30 : Int).toNat), .str "", .str "1", .ref t1, .ref t2, .ref t3] : List V) ++ [.ref t5, .ref t6, .ref t7, .ref t9])) := upd_same
    have y11 := (S10).nd n11
    generalize upd H10 t11 (.lst (([.non, .bl true, .bl false, .int (-1), .int 0, .int 3, .int (10 ^ (30 : Int).toNat), .str "", .str "1", .ref t1, .ref t2, .ref t3] : List V) ++ [.ref t5, .ref t6, .ref t7, .ref t9])) = H11 at s11 h11 ⊢
    have S11 := (S10).same s11
    have c11 : Same H11 H11 := fun _ _ e => e
    have c10 := s11.trans c11
    have c9 := s10.trans c10
    have c8 := s9.trans c9
    have c7 := s8.trans c8
    have c6 := s7.trans c7
    have c5 := s6.trans c6
    have c4 := s5.trans c5
    have c3 := s4.trans c4
    have c2 := s3.trans c3
    have c1 := s2.trans c2
    have g1 := c1 _ _ h1
    have g2 := c2 _ _ h2
    have g3 := c3 _ _ h3
    have g4 := c4 _ _ h4
    have g5 := c5 _ _ h5
    have g6 := c6 _ _ h6
    have g7 := c7 _ _ h7
    have g8 := c8 _ _ h8
    have g9 := c9 _ _ h9
    have g10 := c10 _ _ h10
    have g11 := c11 _ _ h11
    have z0 : But d l H H := But.refl
    have w1 := old_new S z0 n1
    have z1 : But d l H H1 := z0.trans (But.of s1)
    have w2 := old_new S1 z1 n2
    have z2 : But d l H H2 := z1.trans (But.of s2)
    have w3 := old_new S2 z2 n3
    have z3 : But d l H H3 := z2.trans (But.of s3)
    have w4 := old_new S3 z3 n4
    have z4 : But d l H H4 := z3.trans (But.of s4)
    have w5 := old_new S4 z4 n5
    have z5 : But d l H H5 := z4.trans (But.of s5)
    have w6 := old_new S5 z5 n6
    have z6 : But d l H H6 := z5.trans (But.of s6)
    have w7 := old_new S6 z6 n7
    have z7 : But d l H H7 := z6.trans (But.of s7)
    have w8 := old_new S7 z7 n8
    have z8 : But d l H H8 := z7.trans (But.of s8)
    have w9 := old_new S8 z8 n9
    have z9 : But d l H H9 := z8.trans (But.of s9)
    have w10 := old_new S9 z9 n10
    have z10 : But d l H H10 := z9.trans (But.of s10)
    have w11 := old_new S10 z10 n11
    have hval : ∀ v ∈ ([.non, .bl true, .bl false, .int (-1), .int 0, .int 3, .int (10 ^ (30 : Int).toNat), .str "", .str "1", .ref t1, .ref t2, .ref t3] : List V) ++ [.ref t5, .ref t6, .ref t7, .ref t9], Val 3 1000 2 (old H) H11 v := fun v hv => by
      simp only [List.cons_append, List.nil_append, List.mem_cons, List.not_mem_nil, or_false] at hv
      rcases hv with rfl | rfl | rfl | rfl | rfl | rfl | rfl | rfl | rfl | rfl | rfl | rfl | rfl | rfl | rfl | rfl
      · exact Val.mono (Val.non) (Nat.le_of_ble_eq_true rfl) (Nat.le_of_ble_eq_true rfl) (Nat.le_of_ble_eq_true rfl)
      · exact Val.mono (Val.bl true) (Nat.le_of_ble_eq_true rfl) (Nat.le_of_ble_eq_true rfl) (Nat.le_of_ble_eq_true rfl)
      · exact Val.mono (Val.bl false) (Nat.le_of_ble_eq_true rfl) (Nat.le_of_ble_eq_true rfl) (Nat.le_of_ble_eq_true rfl)
      · exact Val.mono (Val.int (by unfold Lt2; decide)) (Nat.le_of_ble_eq_true rfl) (Nat.le_of_ble_eq_true rfl) (Nat.le_of_ble_eq_true rfl)
      · exact Val.mono (Val.int (by unfold Lt2; decide)) (Nat.le_of_ble_eq_true rfl) (Nat.le_of_ble_eq_true rfl) (Nat.le_of_ble_eq_true rfl)
      · exact Val.mono (Val.int (by unfold Lt2; decide)) (Nat.le_of_ble_eq_true rfl) (Nat.le_of_ble_eq_true rfl) (Nat.le_of_ble_eq_true rfl)
      · exact Val.mono (Val.int (by unfold Lt2; decide +kernel)) (Nat.le_of_ble_eq_true rfl) (Nat.le_of_ble_eq_true rfl) (Nat.le_of_ble_eq_true rfl)
      · exact Val.mono (Val.str (by decide +kernel)) (Nat.le_of_ble_eq_true rfl) (Nat.le_of_ble_eq_true rfl) (Nat.le_of_ble_eq_true rfl)
      · exact Val.mono (Val.str (by decide +kernel)) (Nat.le_of_ble_eq_true rfl) (Nat.le_of_ble_eq_true rfl) (Nat.le_of_ble_eq_true rfl)
      · exact Val.mono ((valT (k := 1) (c := 201) (n := 0) (fun v hv => absurd hv (by simp)) (cutP_at g1 w1))) (Nat.le_of_ble_eq_true rfl) (Nat.le_of_ble_eq_true rfl) (Nat.le_of_ble_eq_true rfl)
      · exact Val.mono ((valL (k := 1) (c := 201) (n := 0) (fun v hv => absurd hv (by simp)) (cutP_at g2 w2))) (Nat.le_of_ble_eq_true rfl) (Nat.le_of_ble_eq_true rfl) (Nat.le_of_ble_eq_true rfl)
      · exact Val.mono ((⟨.dict [], .dct (cutP_at g3 w3) .nil .nil, fd_of (by decide +kernel), Nat.le_refl 0⟩ : Val 1 201 0 (old H) H11 (.ref t3))) (Nat.le_of_ble_eq_true rfl) (Nat.le_of_ble_eq_true rfl) (Nat.le_of_ble_eq_true rfl)
      · exact Val.mono ((valT (fun v hv => by
        simp only [List.mem_cons, List.not_mem_nil, or_false] at hv
        rcases hv with rfl <;> exact Val.int (by unfold Lt2; decide)) (cutP_at g5 w5))) (Nat.le_of_ble_eq_true rfl) (Nat.le_of_ble_eq_true rfl) (Nat.le_of_ble_eq_true rfl)
      · exact Val.mono ((valT (fun v hv => by
        simp only [List.mem_cons, List.not_mem_nil, or_false] at hv
        rcases hv with rfl | rfl <;> exact Val.int (by unfold Lt2; decide)) (cutP_at g6 w6))) (Nat.le_of_ble_eq_true rfl) (Nat.le_of_ble_eq_true rfl) (Nat.le_of_ble_eq_true rfl)
      · exact Val.mono ((valL (fun v hv => by
        simp only [List.mem_cons, List.not_mem_nil, or_false] at hv
        rcases hv with rfl | rfl <;> exact Val.int (by unfold Lt2; decide)) (cutP_at g7 w7))) (Nat.le_of_ble_eq_true rfl) (Nat.le_of_ble_eq_true rfl) (Nat.le_of_ble_eq_true rfl)
      · exact Val.mono ((valT (k := 2) (c := 300) (n := 1) (fun v hv => by
        simp only [List.mem_cons, List.not_mem_nil, or_false] at hv
        rcases hv with rfl | rfl
        · exact (valT (fun v hv => by
        simp only [List.mem_cons, List.not_mem_nil, or_false] at hv
        rcases hv with rfl <;> exact Val.int (by unfold Lt2; decide)) (cutP_at g8 w8)).mono (Nat.le_of_ble_eq_true rfl) (Nat.le_of_ble_eq_true rfl) (Nat.le_of_ble_eq_true rfl)
        · exact (Val.int (by unfold Lt2; decide)).mono (by decide) (by decide) (by decide)) (cutP_at g9 w9))) (Nat.le_of_ble_eq_true rfl) (Nat.le_of_ble_eq_true rfl) (Nat.le_of_ble_eq_true rfl)
    exact ⟨d, l, t11, _, rfl, S11, SqL.of g11, y11.1, y11.2, Nat.succ_pos _, Nat.le_of_ble_eq_true rfl, fun v H' hv S' B' => k v H' ((hval v hv).cs (cutP_but (old_d S) (old_l S) B')) S' ((But.of (s1.trans c1)).trans B')⟩
end
end Kx
/-! t[::-1], t a tuple; parts and sums of tuples in one form -/
namespace TRv
open PySem PyProof.Rows HT
open PySem.Sem (wp)
theorem adj (n : Nat) : Builtin.Slice.sliceAdjust none none (-1) (n : Int) = ((n : Int) - 1, -1) := by
  unfold Builtin.Slice.sliceAdjust
  simp
theorem plc (n : Nat) : Builtin.Slice.slicePlaces ((n : Int) - 1) (-1) (-1) = n := by
  unfold Builtin.Slice.slicePlaces
  simp
  split <;> omega
theorem pck (xs : Array Value) : ((List.range xs.size).filterMap fun (m : Nat) => xs[(((xs.size : Int) - 1) + (m : Int) * (-1)).toNat]?).toArray = xs.toList.reverse.toArray := by
  congr 1
  apply List.ext_getElem?
  intro i
  obtain ⟨l⟩ := xs
  have e : ∀ k, k ≤ l.length → (List.range k).filterMap (fun (m : Nat) => l.toArray[(((l.toArray.size : Int) - 1) + (m : Int) * (-1)).toNat]?) = (l.reverse.take k) := by
    intro k
    induction k with
    | zero => intro _; rfl
    | succ k ih =>
      intro hk
      have hi : (((l.toArray.size : Int) - 1) + (k : Int) * (-1)).toNat = l.length - 1 - k := by
        rw [List.size_toArray]
        omega
      have hl : l.length - 1 - k < l.length := by omega
      rw [List.range_succ, List.filterMap_append, ih (by omega), List.take_add_one]
      congr 1
      simp only [List.filterMap_cons, List.filterMap_nil]
      rw [hi, List.getElem?_toArray, List.getElem?_eq_getElem hl, List.getElem?_reverse (by omega), List.getElem?_eq_getElem hl]
      rfl
  have e2 := e l.length (Nat.le_refl _)
  rw [List.size_toArray] at *
  rw [e2, ← List.length_reverse, List.take_length]
section
variable {prog : Program} {w : World} {A : Around} {E : Value → Shared → Prop} {s : Shared}
theorem get {t sl : Addr} {items : Array Value} {vl vu vs : Value} {Q : Value → Shared → Prop} (ht : IsTup s.heap t items) (hs : s.heap.IsSliceOf sl vl vu vs) (pl : IsPart vl none) (pu : IsPart vu none) (ps : IsPart vs (some (-1)))
    (h : Q (.ref s.heap.objs.size) { s with heap := s.heap.push { cls := .type "tuple", data := .seq items.toList.reverse.toArray } }) (hz : items.size ≤ sizeLine) : wpAny (model prog w) A (getItem (.ref t) (.ref sl)) Q E s := by
  have zok : sizeOk (.seq items.toList.reverse.toArray) := by
    show items.toList.reverse.toArray.size ≤ sizeLine
    rw [List.size_toArray, List.length_reverse, Array.length_toList]
    exact hz
  obtain ⟨os, hos, hcs, hds⟩ := id hs
  have tsl : s.TypeIs (.ref sl) "slice" := ⟨os, hos, hcs⟩
  unfold getItem
  try with_reducible refine wpAny_holding ?_
  first | refine wpAny_bind (wpAny_pure ?_) | skip
  refine wpAny_bind (wpAny_sequenceKey ht.typeIs (by decide) (wpAny_bind (wpAny_callSpecial?_slot (name := Str.ofString "__getitem__") ht.typeIs PyProof.Rows.slot_tuple_getitem
    (wpAny_call_entry PyProof.Rows.slot_tuple_getitem ht.typeIs entry_tuple_getitem ?_ (args_tuple_getitem _ _)))))
  show wpAny _ _ (Builtin.Tuple.tupleItemsOf (Value.ref t) >>= _) _ _ s
  refine wpAny_bind (PyProof.Rows.tupleItemsOf_ ht (wpAny_bind (wpAny_typeOf tsl ?_)))
  rw [if_pos (by decide)]
  refine wpAny_bind ?_
  unfold Builtin.Slice.sliceApplied Builtin.Slice.sliceFields
  refine wpAny_bind (wpAny_bind (wpAny_field hos hds (x := vl) rfl (wpAny_bind (wpAny_field hos hds (x := vu) rfl (wpAny_bind (wpAny_field hos hds (x := vs) rfl (wpAny_pure ?_)))))))
  refine wpAny_bind (slicePart_ ps ?_)
  show wpAny _ _ (if ((-1 : Int) == 0) = true then _ else _) _ _ s
  rw [if_neg (by decide)]
  refine wpAny_bind (slicePart_ pl (wpAny_bind (slicePart_ pu (wpAny_bind (wpAny_pure ?_)))))
  show wpAny _ _ (match Builtin.Slice.sliceAdjust none none (-1) (items.size : Int) with | (lo, hi) => pure (lo, (-1 : Int), Builtin.Slice.slicePlaces lo hi (-1))) _ _ s
  rw [adj]
  show wpAny _ _ (pure (((items.size : Int) - 1), (-1 : Int), Builtin.Slice.slicePlaces ((items.size : Int) - 1) (-1) (-1))) _ _ s
  rw [plc]
  refine wpAny_pure ?_
  show wpAny _ _ (if ((((items.size : Int) - 1) == 0 && (-1 : Int) == 1 && items.size == items.size)) = true then _ else _) _ _ s
  rw [if_neg (by rw [show ((-1 : Int) == 1) = false from by decide, Bool.and_false, Bool.false_and]; decide), pck]
  first
    | exact wpAny_bind (m := Builtin.Tuple.tupleExact _) (wpAny_newObj_type (wpAny_pure ⟨_, rfl, wpAny_pure h⟩) zok)
    | exact wpAny_bind (m := Builtin.Tuple.tupleExact _) (wpAny_newObj_type (wpAny_bind (wpAny_pure (wpAny_pure ⟨_, rfl, wpAny_pure h⟩))) zok)
    | exact wpAny_bind (wpAny_bind (m := Builtin.Tuple.tupleExact _) (wpAny_newObj_type (wpAny_pure (wpAny_pure ⟨_, rfl, wpAny_pure h⟩)) zok))
    | exact wpAny_bind (wpAny_bind (m := Builtin.Tuple.tupleExact _) (wpAny_newObj_type (wpAny_pure ⟨_, rfl, wpAny_pure h⟩) zok))
end
end TRv
namespace Kx
open PySem PySem.Spec PyProof.Rows L2
/-- t[::-1] -/
def tRevT (K : PySem.W.Frag) (te : TE) : TE := fun σ H Q => te σ H fun x H1 => ∃ a xs, x = .ref a ∧ SqT K H1 a xs ∧ ∀ p, H1 p = none → Q (.ref p) (upd H1 p (.tup xs.reverse))
theorem pe_revT {X : Cx} {e : Expr} {te : TE} {k : Nat} {p1 p2 p3 pos : Pos} (he : PE X e te) : PE X (.Subscript e (.Slice none none (some (.UnaryOp .USub (.Constant (.int 1) k p1) p2)) p3) pos) (tRevT X.K te) := by
  constructor
  intro pins s σ H Q I h
  refine Subscript_ (thn (he.run pins s σ H _ I h) ?_)
  rintro v s1 ⟨x, H1, I1, r1, a, xs, rfl, hx, q⟩
  cases r1
  have part : PO X (some (.UnaryOp .USub (.Constant (.int 1) k p1) p2)) (tPart (tUn (rU fun i => .int (-i)) (tC (.int 1)))) := po_some (pe_un un_neg pe_int)
  refine wpAny_Slice (thn (po_none.run pins s1 σ H1 (fun o H2 => o = none ∧ H2 = H1) I1 ⟨rfl, rfl⟩) ?_)
  rintro vl s2 ⟨_, _, I2, pl, rfl, rfl⟩
  refine thn (po_none.run pins s2 σ _ (fun o H3 => o = none ∧ H3 = _) I2 ⟨rfl, rfl⟩) ?_
  rintro vu s3 ⟨_, _, I3, pu, rfl, rfl⟩
  refine thn (part.run pins s3 σ _ (fun o H4 => o = some (-1) ∧ H4 = _) I3 ⟨1, rfl, -1, rfl, rfl, rfl⟩) ?_
  rintro vs s4 ⟨_, H4, I4, ps, rfl, rfl⟩
  have I5 : Inv X pins σ H4 { s4 with heap := s4.heap.push { cls := .type "slice", data := .fields #[vl, vu, vs] } } := I4.kept (t' := s4.toks) fun b ob z => Heap.get?_push_of_some _ z
  obtain ⟨its, r, ht, hz⟩ := I5.tuple hx
  have hl := r.length
  show wpAny (model X.prog X.w) X.A (subscriptTail e (.Slice none none (some (.UnaryOp .USub (.Constant (.int 1) k p1) p2)) p3) (.ref a) (.ref s4.heap.objs.size)) (EP X pins σ Q) X.xe _
  refine tail_any (ops := [.ref a, .ref s4.heap.objs.size]) ht.typeIs PyProof.Rows.slot_tuple_getitem.lookup ?_ (by with_unfolding_all rfl)
  refine TRv.get ht (Heap.IsSliceOf.new _ vl vu vs) pl pu ps ?_ (by rw [List.size_toArray]; omega)
  refine ⟨.ref _, _, I5.laid (t' := s4.toks) (o := .tup xs.reverse) (fun b ob z => Heap.get?_push_of_some _ z) (Nat.le_refl _) ?_, rfl, q _ (I5.hok.fresh (Nat.le_refl _))⟩
  exact ⟨by rw [List.length_reverse]; exact hz, _, r.reverse, IsTup.new _ _⟩
section
variable {X : Cx}
/-- t + u, in one form -/
def rCatX : R2 := fun x y H Q => ∃ a b xs ys, x = .ref a ∧ y = .ref b ∧ H a = some (.tup xs) ∧ H b = some (.tup ys) ∧ xs.length + ys.length ≤ sizeLine ∧ ∀ p H', Same H H' → H' p = some (.tup (xs ++ ys)) → Q (.ref p) H'
theorem op_catX : OpR X (binaryOp .Add) rCatX := by
  intro pins s σ H x y v u Q I rx ry h
  obtain ⟨a, b, xs, ys, rfl, rfl, ha, hb, hz, q⟩ := h
  refine op_catA pins s σ H _ _ v u Q I rx ry ⟨a, b, xs, ys, rfl, rfl, SqT.of ha, SqT.of hb, hz, fun e => q b H (fun _ _ z => z) (by rw [e]; exact hb), fun _ e => q a H (fun _ _ z => z) (by rw [e, List.append_nil]; exact ha), fun _ _ p hp => q p _ (same_new hp) upd_same⟩
theorem cut_whole {xs : List V} {lo hi : Option Int} (h : HT.sIx xs.length 0 lo = 0 ∧ HT.sIx xs.length xs.length hi = xs.length) : cutV xs lo hi = xs := by
  unfold cutV
  rw [h.1, h.2, List.drop_zero, Nat.sub_zero, List.take_length]
theorem mem_cut {xs : List V} {lo hi : Option Int} {v : V} (h : v ∈ cutV xs lo hi) : v ∈ xs := List.mem_of_mem_drop (List.mem_of_mem_take h)
/-- t[lo:hi], in one form -/
def rSlX : V → Option Int → Option Int → Hp → VK → Prop := fun x lo hi H Q => ∃ a xs, x = .ref a ∧ H a = some (.tup xs) ∧ ∀ p H', Same H H' → H' p = some (.tup (cutV xs lo hi)) → Q (.ref p) H'
theorem sl_tupX : SlR X rSlX := by
  intro pins s σ H x v vl vu lo hi sl Q I rx hs pl pu h
  obtain ⟨a, xs, rfl, hx, q⟩ := h
  exact sl_tupA pins s σ H _ v vl vu lo hi sl Q I rx hs pl pu ⟨a, xs, rfl, SqT.of hx, fun w => q a H (fun _ _ z => z) (by rw [cut_whole w]; exact hx), fun _ p hp => q p _ (same_new hp) upd_same⟩
end
end Kx
namespace Kx
open PySem PySem.Spec PyProof.Rows L2
abbrev sBent : Stmt := topS 21
def nmBent : List Str := ["source", "p", "k", "one", "number", "some", "j"]
/-- what is drawn of it -/
structure Pb (p : Poly) : Prop where
  l : p.length ≤ 6
  e : ∀ t ∈ p, t.1.length ≤ 4 ∧ (∀ x ∈ t.1, Lt2 100 x) ∧ Lt2 150 t.2
def spBent : Sp := fun vs H Q _ => ∃ (d l a : Addr) (p : Poly), vs = [.ref d, .ref a] ∧ SrcAt H d l ∧ PolyAt H a p ∧ Pb p ∧ ∀ v H', Val 4 72000 13 (old H) H' v → SrcAt H' d l → But d l H H' → Q v H'
/-- exponents, terms, polynomials, and what is near them -/
abbrev VE (N : Addr → Prop) (H : Hp) (v : V) : Prop := Val 1 201 0 N H v
abbrev VM (N : Addr → Prop) (H : Hp) (v : V) : Prop := Val 2 1830 9 N H v
abbrev VT (N : Addr → Prop) (H : Hp) (v : V) : Prop := Val 3 5499 9 N H v
abbrev VP (N : Addr → Prop) (H : Hp) (v : V) : Prop := Val 4 72000 13 N H v
section
variable {N : Addr → Prop} {a : Addr} {H : Hp} {xs : List V} {v : V}
theorem VE.m (h : VE N H v) : VM N H v := h.mono (by decide) (by decide) (by decide)
theorem VM.t (h : VM N H v) : VT N H v := h.mono (by decide) (by decide) (by decide)
theorem VT.p (h : VT N H v) : VP N H v := h.mono (by decide) (by decide) (by decide)
theorem vmT (h : ∀ v ∈ xs, VE N H v) (ha : cutP N H a = some (.tup xs)) (z : xs.length ≤ 9) : VM N H (.ref a) := (valT h ha).mono (by decide) (by omega) (by omega)
theorem vmL (h : ∀ v ∈ xs, VE N H v) (ha : cutP N H a = some (.lst xs)) (z : xs.length ≤ 9) : VM N H (.ref a) := (valL h ha).mono (by decide) (by omega) (by omega)
theorem vtT (h : ∀ v ∈ xs, VM N H v) (ha : cutP N H a = some (.tup xs)) (z : xs.length ≤ 3) : VT N H (.ref a) := (valT h ha).mono (by decide) (by omega) (by omega)
theorem vtL (h : ∀ v ∈ xs, VM N H v) (ha : cutP N H a = some (.lst xs)) (z : xs.length ≤ 3) : VT N H (.ref a) := (valL h ha).mono (by decide) (by omega) (by omega)
theorem vpT (h : ∀ v ∈ xs, VT N H v) (ha : cutP N H a = some (.tup xs)) (z : xs.length ≤ 13) : VP N H (.ref a) := (valT h ha).mono (by decide) (by omega) (by omega)
theorem vpL (h : ∀ v ∈ xs, VT N H v) (ha : cutP N H a = some (.lst xs)) (z : xs.length ≤ 13) : VP N H (.ref a) := (valL h ha).mono (by decide) (by omega) (by omega)
theorem all_cons {F : V → Prop} {x : V} (h : F x) (t : ∀ v ∈ xs, F v) : ∀ v ∈ x :: xs, F v := fun v hv => by
  rcases List.mem_cons.mp hv with z | z
  · rw [z]; exact h
  · exact t v z
theorem all_nil {F : V → Prop} : ∀ v ∈ ([] : List V), F v := fun v hv => absurd hv (by simp)
theorem all_app {F : V → Prop} {ys : List V} (h : ∀ v ∈ xs, F v) (t : ∀ v ∈ ys, F v) : ∀ v ∈ xs ++ ys, F v := fun v hv => by
  rcases List.mem_append.mp hv with z | z
  · exact h v z
  · exact t v z
theorem all_cut {F : V → Prop} {lo hi : Option Int} (h : ∀ v ∈ xs, F v) : ∀ v ∈ cutV xs lo hi, F v := fun v hv => h v (mem_cut hv)
end
theorem mono_ve {N : Addr → Prop} {H : Hp} {e : List Int} (h : ∀ x ∈ e, Lt2 100 x) : ∀ v ∈ e.map V.int, VE N H v := fun v hv => by
  obtain ⟨x, hx, rfl⟩ := List.mem_map.mp hv
  exact Val.int ((h x hx).mono (by decide))
theorem terms_vt {d l : Addr} {H : Hp} (S : SrcAt H d l) : ∀ {ts : List Addr} {p : Poly}, Paired (TermAt H) ts p → (∀ t ∈ p, t.1.length ≤ 4 ∧ (∀ x ∈ t.1, Lt2 100 x) ∧ Lt2 150 t.2) → ∀ v ∈ ts.map V.ref, VT (old H) H v
  | _, _, .nil, _ => all_nil
  | _, _, .cons ⟨b, h1, h2⟩ r, h => by
    obtain ⟨q1, q2, q3⟩ := h _ List.mem_cons_self
    refine all_cons (vtT (all_cons (vmT (mono_ve q2) (cutP_at h2 (old_tup S But.refl h2)) (by rw [List.length_map]; omega)) (all_cons (VE.m (Val.int (q3.mono (by decide)))) all_nil)) (cutP_at h1 (old_tup S But.refl h1)) (by show 2 ≤ 3; decide)) ?_
    exact terms_vt S r fun t ht => h t (List.mem_cons_of_mem _ ht)
theorem eqv_nil {xs : List PyData} : PyData.eqv (.tuple xs) (.tuple []) = xs.isEmpty := by
  cases xs <;> simp [PyData.eqv, PyData.eqvAll]
section
variable {P : Program} {w : World} {K : PySem.W.Frag} {mg : Str → Option Value} {base : Heap} {f : Addr} {fd : FuncData}
theorem scBent : FnScope nmBent ["source", "p"] (defScope sBent) := ⟨rfl, rfl, rfl, by decide +kernel, rfl, by decide +kernel, by decide +kernel⟩
set_option maxHeartbeats 4000000 in
theorem ok_bent (F : L2.Fun K "_law_bent" "_law_bent" sBent f fd) (mL : mg "len" = none) (mLst : mg "list" = none) (dPick : Def P w K mg base 1 "_law_pick" ["source", "many"] spPickW) (dOf : Def P w K mg base 2 "_law_of" ["source", "some"] (spOf K)) (dOdd : Def P w K mg base 3 "_law_odd" ["source"] spOdd) :
    FnOk P w K mg base CX0 4 f fd ["source", "p"] spBent := by
  have nd : nmBent.Nodup := scBent.nd
  refine F.ok scBent (fun vs H Q E h => ?_) (fun cdv A outer s H vs Q E hr h => ?_)
  · obtain ⟨_, _, _, _, rfl, _⟩ := h
    rfl
  · obtain ⟨d, l, a, p, rfl, S, ⟨ts, hp, prd⟩, ⟨pl, pe⟩, k⟩ := h
    have hu4 : (A.deeper (envOfC "_law_bent" (defScope sBent) s.heap.objs.size f cdv)).units + 64 < cLine := by have := hr.un; omega
    have r1 : Room 1 (A.deeper (envOfC "_law_bent" (defScope sBent) s.heap.objs.size f cdv)) := hr.mono (by decide)
    have r2 : Room 2 (A.deeper (envOfC "_law_bent" (defScope sBent) s.heap.objs.size f cdv)) := hr.mono (by decide)
    have fnp : Fn 4 8000 (polyD p) := by
      have q := Fn.tup (l := 3) (c := 1241) (ds := p.map termD) fun x hx => by
        obtain ⟨t, ht, rfl⟩ := List.mem_map.mp hx
        obtain ⟨q1, q2, q3⟩ := pe t ht
        have q4 := Fn.tup (l := 1) (c := 151) (ds := t.1.map PyData.int) fun y hy => by
          obtain ⟨n, hn, rfl⟩ := List.mem_map.mp hy
          exact Fn.int (k := 150) (by decide) (by decide) ((q2 n hn).mono (by decide))
        rw [List.length_map] at q4
        refine (Fn.tup (l := 2) (c := 415 + 202) (ds := [monoD t.1, .int t.2]) fun y hy => ?_).mono (by decide) (Nat.le_of_ble_eq_true rfl)
        simp only [List.mem_cons, List.not_mem_nil, or_false] at hy
        rcases hy with z | z
        · rw [z]; exact q4.mono (by decide) (by omega)
        · rw [z]; exact (Fn.int (k := 150) (by decide) (by decide) q3).mono (by decide) (by decide)
      rw [List.length_map] at q
      exact q.mono (by decide) (by omega)
    refine ⟨_, pss_cons (ps_if (PW.pt (pw_or (pt_cmpR (op_eqD hu4) (pv 1) (pe_tup pa_nil) (nomark _)) (pw_or1 (pt_cmpR op_eq (pe_callD dPick r1 (by rfl) (pa_cons (pv 0) (pa_cons pe_int pa_nil))) pe_int (nomark _)))))
        (pss_one (ps_ret (pe_callD dOf r2 (by rfl) (pa_cons (pv 0) (pa_cons (pe_lst (pa_cons (pe_callD dOdd hr (by rfl) (pa_cons (pv 0) pa_nil)) (pa_cons (pe_callTy call_list_of (by rfl) mLst (by decide +kernel) (pa_cons (pv 1) pa_nil)) (pa_cons (pe_op op_catX (pv 1) (pe_tup (pa_cons (pe_callD dOdd hr (by rfl) (pa_cons (pv 0) pa_nil)) pa_nil))) (pa_cons (pe_revT (pv 1)) (pa_cons (pe_op op_catX (pv 1) (pe_slice sl_tupX (pv 1) po_none (po_some pe_int))) pa_nil)))))) pa_nil))))) pss_nil)
      (pss_cons (ps_set (i := 2) nd rfl (.inl rfl) (pe_callD dPick r1 (by rfl) (pa_cons (pv 0) (pa_cons (pe_callB call_len_seq (by rfl) mL PySem.boot_len (pa_cons (pv 1) pa_nil)) pa_nil))))
      (pss_cons (ps_asg (pe_ix ix_tup (pv 1) (pv 2) (fun _ _ => rfl)) (pg_tup (by rfl) (pgs_cons (pg_name (i := 3) nd rfl (.inl rfl)) (pgs_cons (pg_name (i := 4) nd rfl (.inl rfl)) pgs_nil))))
      (pss_cons (ps_set (i := 5) nd rfl (.inl rfl) (pe_lst (pa_cons (pe_tup (pa_cons (pv 3) (pa_cons (pe_callD dOf r2 (by rfl) (pa_cons (pv 0) (pa_cons (pe_lst (pa_cons pe_int (pa_cons pe_bl (pa_cons pe_non (pa_cons pe_str (pa_cons (pe_op op_sub pe_int (pv 4)) (pa_cons (pe_op op_pow pe_int pe_int) pa_nil))))))) pa_nil))) pa_nil))) (pa_cons (pe_tup (pa_cons (pe_callTy call_list_of (by rfl) mLst (by decide +kernel) (pa_cons (pv 3) pa_nil)) (pa_cons (pv 4) pa_nil))) pa_nil))))
      (pss_cons (ps_set (i := 5) nd rfl (.inl rfl) (pe_op op_cat (pv 5) (pe_lst (pa_cons (pe_tup (pa_cons (pv 3) (pa_cons (pv 4) (pa_cons pe_int pa_nil)))) (pa_cons (pe_lst (pa_cons (pv 3) (pa_cons (pv 4) pa_nil))) pa_nil)))))
      (pss_cons (ps_set (i := 5) nd rfl (.inl rfl) (pe_op op_cat (pv 5) (pe_lst (pa_cons (pe_tup (pa_cons (pe_op op_catX (pv 3) (pe_tup (pa_cons pe_int pa_nil))) (pa_cons (pv 4) pa_nil))) (pa_cons (pe_tup (pa_cons (pe_slice sl_tupX (pv 3) (po_some pe_int) po_none) (pa_cons (pv 4) pa_nil))) (pa_cons (pe_callD dOdd hr (by rfl) (pa_cons (pv 0) pa_nil)) (pa_cons (pe_tup (pa_cons (pv 4) (pa_cons (pv 3) pa_nil))) pa_nil)))))))
      (Evl.pss_cut (ps_if (pt_cmpR (op_neD hu4) (pv 3) (pe_tup pa_nil) (nomark _))
          (pss_cons (ps_set (i := 6) nd rfl (.inl rfl) (pe_callD dPick r1 (by rfl) (pa_cons (pv 0) (pa_cons (pe_callB call_len_seq (by rfl) mL PySem.boot_len (pa_cons (pv 3) pa_nil)) pa_nil)))) (pss_one (ps_set (i := 5) nd rfl (.inl rfl) (pe_op op_cat (pv 5) (pe_op op_rep (pe_lst (pa_cons (pe_tup (pa_cons (pe_op op_catX (pe_op op_catX (pe_slice sl_tupX (pv 3) po_none (po_some (pv 6))) (pe_tup (pa_cons (pe_callD dOf r2 (by rfl) (pa_cons (pv 0) (pa_cons (pe_lst (pa_cons (pe_op op_add (pe_ix ix_tup (pv 3) (pv 6) (fun _ _ => rfl)) pe_int) (pa_cons (pe_un un_neg pe_int) (pa_cons pe_bl (pa_cons pe_non (pa_cons pe_int pa_nil)))))) pa_nil))) pa_nil))) (pe_slice sl_tupX (pv 3) (po_some (pe_op op_add (pv 6) pe_int)) po_none)) (pa_cons (pv 4) pa_nil))) pa_nil)) pe_int))))) pss_nil)
      (pss_one (ps_ret (pe_op op_catX (pe_op op_catX (pe_slice sl_tupX (pv 1) po_none (po_some (pv 2))) (pe_tup (pa_cons (pe_callD dOf r2 (by rfl) (pa_cons (pv 0) (pa_cons (pv 5) pa_nil))) pa_nil))) (pe_slice sl_tupX (pv 1) (po_some (pe_op op_add (pv 2) pe_int)) po_none)))))))))), ?_⟩
    have tl : ts.length = p.length := Paired.length prd
    obtain ⟨xs, ex⟩ : ∃ xs, ts.map V.ref = xs := ⟨_, rfl⟩
    have xl : xs.length = p.length := by rw [← ex, List.length_map, tl]
    have xv := terms_vt S prd pe
    have hat : ∀ i v, xs[i]? = some v → ∃ ta tb t, v = V.ref ta ∧ t ∈ p ∧ H ta = some (.tup [.ref tb, .int t.2]) ∧ H tb = some (.tup (t.1.map V.int)) := fun i v hv => by
      rw [← ex, List.getElem?_map] at hv
      cases hb : ts[i]? with
      | none => rw [hb] at hv; cases hv
      | some b =>
        rw [hb] at hv
        cases hv
        obtain ⟨t, ht, tb, q1, q2⟩ := paired_get prd hb
        exact ⟨b, tb, t, rfl, List.mem_of_getElem? ht, q1, q2⟩
    rw [ex] at hp xv
    have f0 := cutP_at hp (old_tup S But.refl hp)
    have dpp : Dp K H (.ref a) (polyD p) := PolyAt.dp ⟨ts, by rw [ex]; exact hp, prd⟩
    refine ⟨_, rfl, lt_size (Nat.le_of_ble_eq_true rfl), fun t0 n0 => ?_⟩
    have s0 := same_new (o := .tup []) n0
    have h0 : upd H t0 (.tup []) t0 = some (.tup []) := upd_same
    generalize upd H t0 (.tup []) = H0 at s0 h0 ⊢
    have S0 := S.same s0
    have b0 := cutP_same (N := old H) s0
    have f0 := b0 _ _ f0
    have xv : ∀ v ∈ xs, VT (old H) H0 v := fun v hv => (xv v hv).cs b0
    have BB0 : But d l H H0 := But.of s0
    refine ⟨polyD p, .tuple [], dp_same s0 dpp, .tup (SqT.of h0) .nil, fnp.shaped (by decide), by decide, _, rfl, ?_⟩
    rw [show PyData.eqv (polyD p) (.tuple []) = (p.map termD).isEmpty from eqv_nil]
    by_cases p0 : p = []
    · refine iteT' (by rw [p0]; rfl) ?_
      refine ⟨_, rfl, _, rfl, d, l, rfl, S0, fun va1 Ha1 wa1 Sa1 Ba1 => ?_⟩
      have ba1 := cutP_but (old_d S) (old_l S) Ba1
      have wa1 := wa1.less (old_sub S0 BB0)
      refine ⟨_, rfl, a, _, rfl, .inr (SqT.of (cutP_sub _ _ ((ba1) _ _ f0))), fun ta2 na2 => ?_⟩
      have sa2 := same_new (o := .lst xs) na2
      have ha2 : upd Ha1 ta2 (.lst xs) ta2 = some (.lst xs) := upd_same
      have ya2 := (Sa1).nd na2
      generalize upd Ha1 ta2 (.lst xs) = Ha2 at sa2 ha2 ⊢
      have Sa2 := (Sa1).same sa2
      have ba2 := cutP_same (N := old H) sa2
      have fa2 : cutP (old H) Ha2 ta2 = some (.lst xs) := cutP_at ha2 (old_new Sa1 (BB0.trans (Ba1)) na2)
      have Ba2 := But.of (d := d) (l := l) sa2
      refine ⟨_, rfl, _, rfl, d, l, rfl, Sa2, fun va3 Ha3 wa3 Sa3 Ba3 => ?_⟩
      have ba3 := cutP_but (old_d S) (old_l S) Ba3
      have wa3 := wa3.less (old_sub Sa2 (BB0.trans (Ba1.trans (Ba2))))
      refine ⟨lt_size (Nat.le_of_ble_eq_true rfl), fun ta4 na4 => ?_⟩
      have sa4 := same_new (o := .tup [va3]) na4
      have ha4 : upd Ha3 ta4 (.tup [va3]) ta4 = some (.tup [va3]) := upd_same
      have ya4 := (Sa3).nd na4
      generalize upd Ha3 ta4 (.tup [va3]) = Ha4 at sa4 ha4 ⊢
      have Sa4 := (Sa3).same sa4
      have ba4 := cutP_same (N := old H) sa4
      have fa4 : cutP (old H) Ha4 ta4 = some (.tup [va3]) := cutP_at ha4 (old_new Sa3 (BB0.trans (Ba1.trans (Ba2.trans (Ba3)))) na4)
      have Ba4 := But.of (d := d) (l := l) sa4
      refine ⟨a, ta4, _, _, rfl, rfl, (cutP_sub _ _ ((ba1.trans (ba2.trans (ba3.trans (ba4)))) _ _ f0)), (cutP_sub _ _ fa4), (by rw [sizeLine_eq]; (try simp only [List.length_append, List.length_cons, List.length_nil, List.length_map]); (try have := cutV_length xs none (some 1)); omega), fun ta5 Ha5 sa5 ha5 => ?_⟩
      have Sa5 := (Sa4).same sa5
      have ba5 := cutP_same (N := old H) sa5
      have fa5 := cutP_at ha5 (old_tup (H := H) Sa5 ((BB0.trans (Ba1.trans (Ba2.trans (Ba3.trans (Ba4))))).trans (But.of sa5)) ha5)
      have Ba5 := But.of (d := d) (l := l) sa5
      refine ⟨_, rfl, a, _, rfl, SqT.of (cutP_sub _ _ ((ba1.trans (ba2.trans (ba3.trans (ba4.trans (ba5))))) _ _ f0)), fun ta6 na6 => ?_⟩
      have sa6 := same_new (o := .tup xs.reverse) na6
      have ha6 : upd Ha5 ta6 (.tup xs.reverse) ta6 = some (.tup xs.reverse) := upd_same
      have ya6 := (Sa5).nd na6
      generalize upd Ha5 ta6 (.tup xs.reverse) = Ha6 at sa6 ha6 ⊢
      have Sa6 := (Sa5).same sa6
      have ba6 := cutP_same (N := old H) sa6
      have fa6 : cutP (old H) Ha6 ta6 = some (.tup xs.reverse) := cutP_at ha6 (old_new Sa5 (BB0.trans (Ba1.trans (Ba2.trans (Ba3.trans (Ba4.trans (Ba5)))))) na6)
      have Ba6 := But.of (d := d) (l := l) sa6
      refine ⟨_, rfl, _, rfl, 1, rfl, a, _, rfl, (cutP_sub _ _ ((ba1.trans (ba2.trans (ba3.trans (ba4.trans (ba5.trans (ba6)))))) _ _ f0)), fun ta7 Ha7 sa7 ha7 => ?_⟩
      have Sa7 := (Sa6).same sa7
      have ba7 := cutP_same (N := old H) sa7
      have fa7 := cutP_at ha7 (old_tup (H := H) Sa7 ((BB0.trans (Ba1.trans (Ba2.trans (Ba3.trans (Ba4.trans (Ba5.trans (Ba6))))))).trans (But.of sa7)) ha7)
      have Ba7 := But.of (d := d) (l := l) sa7
      refine ⟨a, ta7, _, _, rfl, rfl, (cutP_sub _ _ ((ba1.trans (ba2.trans (ba3.trans (ba4.trans (ba5.trans (ba6.trans (ba7))))))) _ _ f0)), (cutP_sub _ _ fa7), (by rw [sizeLine_eq]; (try simp only [List.length_append, List.length_cons, List.length_nil, List.length_map]); (try have := cutV_length xs none (some 1)); omega), fun ta8 Ha8 sa8 ha8 => ?_⟩
      have Sa8 := (Sa7).same sa8
      have ba8 := cutP_same (N := old H) sa8
      have fa8 := cutP_at ha8 (old_tup (H := H) Sa8 ((BB0.trans (Ba1.trans (Ba2.trans (Ba3.trans (Ba4.trans (Ba5.trans (Ba6.trans (Ba7)))))))).trans (But.of sa8)) ha8)
      have Ba8 := But.of (d := d) (l := l) sa8
      refine ⟨lt_size (Nat.le_of_ble_eq_true rfl), fun ta9 na9 => ?_⟩
      have sa9 := same_new (o := .lst [va1, .ref ta2, .ref ta5, .ref ta6, .ref ta8]) na9
      have ha9 : upd Ha8 ta9 (.lst [va1, .ref ta2, .ref ta5, .ref ta6, .ref ta8]) ta9 = some (.lst [va1, .ref ta2, .ref ta5, .ref ta6, .ref ta8]) := upd_same
      have ya9 := (Sa8).nd na9
      generalize upd Ha8 ta9 (.lst [va1, .ref ta2, .ref ta5, .ref ta6, .ref ta8]) = Ha9 at sa9 ha9 ⊢
      have Sa9 := (Sa8).same sa9
      have ba9 := cutP_same (N := old H) sa9
      have fa9 : cutP (old H) Ha9 ta9 = some (.lst [va1, .ref ta2, .ref ta5, .ref ta6, .ref ta8]) := cutP_at ha9 (old_new Sa8 (BB0.trans (Ba1.trans (Ba2.trans (Ba3.trans (Ba4.trans (Ba5.trans (Ba6.trans (Ba7.trans (Ba8))))))))) na9)
      have Ba9 := But.of (d := d) (l := l) sa9
      exact ⟨d, l, ta9, _, rfl, Sa9, SqL.of (cutP_sub _ _ fa9), ya9.1, ya9.2, Nat.succ_pos _, Nat.le_of_ble_eq_true rfl, fun v H' hv S' B' => k v H' ((((all_cons (VT.p (Val.mono (wa1.cs (ba2.trans (ba3.trans (ba4.trans (ba5.trans (ba6.trans (ba7.trans (ba8.trans (ba9))))))))) (by decide) (by decide) (by decide))) (all_cons (vpL (fun v hv => (xv v hv).cs (ba1.trans (ba2.trans (ba3.trans (ba4.trans (ba5.trans (ba6.trans (ba7.trans (ba8.trans (ba9)))))))))) ((ba3.trans (ba4.trans (ba5.trans (ba6.trans (ba7.trans (ba8.trans (ba9))))))) _ _ fa2) (by (try simp only [List.length_append, List.length_cons, List.length_nil, List.length_reverse]); (try have := cutV_length xs none (some 1)); omega)) (all_cons (vpT (all_app (fun v hv => (xv v hv).cs (ba1.trans (ba2.trans (ba3.trans (ba4.trans (ba5.trans (ba6.trans (ba7.trans (ba8.trans (ba9)))))))))) (all_cons (Val.mono (wa3.cs (ba4.trans (ba5.trans (ba6.trans (ba7.trans (ba8.trans (ba9))))))) (by decide) (by decide) (by decide)) all_nil)) ((ba6.trans (ba7.trans (ba8.trans (ba9)))) _ _ fa5) (by (try simp only [List.length_append, List.length_cons, List.length_nil, List.length_reverse]); (try have := cutV_length xs none (some 1)); omega)) (all_cons (vpT (fun v hv => (((fun v hv => (xv v hv).cs (ba1.trans (ba2.trans (ba3.trans (ba4.trans (ba5.trans (ba6.trans (ba7.trans (ba8.trans (ba9))))))))))) v (List.mem_reverse.mp hv))) ((ba7.trans (ba8.trans (ba9))) _ _ fa6) (by (try simp only [List.length_append, List.length_cons, List.length_nil, List.length_reverse]); (try have := cutV_length xs none (some 1)); omega)) (all_cons (vpT (all_app (fun v hv => (xv v hv).cs (ba1.trans (ba2.trans (ba3.trans (ba4.trans (ba5.trans (ba6.trans (ba7.trans (ba8.trans (ba9)))))))))) (all_cut (fun v hv => (xv v hv).cs (ba1.trans (ba2.trans (ba3.trans (ba4.trans (ba5.trans (ba6.trans (ba7.trans (ba8.trans (ba9)))))))))))) ((ba9) _ _ fa8) (by (try simp only [List.length_append, List.length_cons, List.length_nil, List.length_reverse]); (try have := cutV_length xs none (some 1)); omega)) all_nil)))))) v hv).cs (cutP_but (old_d S) (old_l S) B')) S' ((BB0.trans (Ba1.trans (Ba2.trans (Ba3.trans (Ba4.trans (Ba5.trans (Ba6.trans (Ba7.trans (Ba8.trans (Ba9)))))))))).trans B')⟩
    have p1 : 0 < p.length := List.length_pos_iff.mpr p0
    refine iteF' (by cases p with
      | nil => exact absurd rfl p0
      | cons _ _ => rfl) ?_
    refine ⟨_, rfl, d, l, 5, rfl, S0, by decide, fun r1 H1 r0 rl S1 B1 => ?_⟩
    have b1 := cutP_but (old_d S) (old_l S) B1
    refine ⟨rfl, _, rfl, ?_⟩
    by_cases z0 : r1 = 0
    · refine iteT' (by rw [z0]; rfl) ?_
      refine ⟨_, rfl, _, rfl, d, l, rfl, S1, fun vb2 Hb2 wb2 Sb2 Bb2 => ?_⟩
      have bb2 := cutP_but (old_d S) (old_l S) Bb2
      have wb2 := wb2.less (old_sub S1 (BB0.trans (B1)))
      refine ⟨_, rfl, a, _, rfl, .inr (SqT.of (cutP_sub _ _ ((b1.trans (bb2)) _ _ f0))), fun tb3 nb3 => ?_⟩
      have sb3 := same_new (o := .lst xs) nb3
      have hb3 : upd Hb2 tb3 (.lst xs) tb3 = some (.lst xs) := upd_same
      have yb3 := (Sb2).nd nb3
      generalize upd Hb2 tb3 (.lst xs) = Hb3 at sb3 hb3 ⊢
      have Sb3 := (Sb2).same sb3
      have bb3 := cutP_same (N := old H) sb3
      have fb3 : cutP (old H) Hb3 tb3 = some (.lst xs) := cutP_at hb3 (old_new Sb2 (BB0.trans (B1.trans (Bb2))) nb3)
      have Bb3 := But.of (d := d) (l := l) sb3
      refine ⟨_, rfl, _, rfl, d, l, rfl, Sb3, fun vb4 Hb4 wb4 Sb4 Bb4 => ?_⟩
      have bb4 := cutP_but (old_d S) (old_l S) Bb4
      have wb4 := wb4.less (old_sub Sb3 (BB0.trans (B1.trans (Bb2.trans (Bb3)))))
      refine ⟨lt_size (Nat.le_of_ble_eq_true rfl), fun tb5 nb5 => ?_⟩
      have sb5 := same_new (o := .tup [vb4]) nb5
      have hb5 : upd Hb4 tb5 (.tup [vb4]) tb5 = some (.tup [vb4]) := upd_same
      have yb5 := (Sb4).nd nb5
      generalize upd Hb4 tb5 (.tup [vb4]) = Hb5 at sb5 hb5 ⊢
      have Sb5 := (Sb4).same sb5
      have bb5 := cutP_same (N := old H) sb5
      have fb5 : cutP (old H) Hb5 tb5 = some (.tup [vb4]) := cutP_at hb5 (old_new Sb4 (BB0.trans (B1.trans (Bb2.trans (Bb3.trans (Bb4))))) nb5)
      have Bb5 := But.of (d := d) (l := l) sb5
      refine ⟨a, tb5, _, _, rfl, rfl, (cutP_sub _ _ ((b1.trans (bb2.trans (bb3.trans (bb4.trans (bb5))))) _ _ f0)), (cutP_sub _ _ fb5), (by rw [sizeLine_eq]; (try simp only [List.length_append, List.length_cons, List.length_nil, List.length_map]); (try have := cutV_length xs none (some 1)); omega), fun tb6 Hb6 sb6 hb6 => ?_⟩
      have Sb6 := (Sb5).same sb6
      have bb6 := cutP_same (N := old H) sb6
      have fb6 := cutP_at hb6 (old_tup (H := H) Sb6 ((BB0.trans (B1.trans (Bb2.trans (Bb3.trans (Bb4.trans (Bb5)))))).trans (But.of sb6)) hb6)
      have Bb6 := But.of (d := d) (l := l) sb6
      refine ⟨_, rfl, a, _, rfl, SqT.of (cutP_sub _ _ ((b1.trans (bb2.trans (bb3.trans (bb4.trans (bb5.trans (bb6)))))) _ _ f0)), fun tb7 nb7 => ?_⟩
      have sb7 := same_new (o := .tup xs.reverse) nb7
      have hb7 : upd Hb6 tb7 (.tup xs.reverse) tb7 = some (.tup xs.reverse) := upd_same
      have yb7 := (Sb6).nd nb7
      generalize upd Hb6 tb7 (.tup xs.reverse) = Hb7 at sb7 hb7 ⊢
      have Sb7 := (Sb6).same sb7
      have bb7 := cutP_same (N := old H) sb7
      have fb7 : cutP (old H) Hb7 tb7 = some (.tup xs.reverse) := cutP_at hb7 (old_new Sb6 (BB0.trans (B1.trans (Bb2.trans (Bb3.trans (Bb4.trans (Bb5.trans (Bb6))))))) nb7)
      have Bb7 := But.of (d := d) (l := l) sb7
      refine ⟨_, rfl, _, rfl, 1, rfl, a, _, rfl, (cutP_sub _ _ ((b1.trans (bb2.trans (bb3.trans (bb4.trans (bb5.trans (bb6.trans (bb7))))))) _ _ f0)), fun tb8 Hb8 sb8 hb8 => ?_⟩
      have Sb8 := (Sb7).same sb8
      have bb8 := cutP_same (N := old H) sb8
      have fb8 := cutP_at hb8 (old_tup (H := H) Sb8 ((BB0.trans (B1.trans (Bb2.trans (Bb3.trans (Bb4.trans (Bb5.trans (Bb6.trans (Bb7)))))))).trans (But.of sb8)) hb8)
      have Bb8 := But.of (d := d) (l := l) sb8
      refine ⟨a, tb8, _, _, rfl, rfl, (cutP_sub _ _ ((b1.trans (bb2.trans (bb3.trans (bb4.trans (bb5.trans (bb6.trans (bb7.trans (bb8)))))))) _ _ f0)), (cutP_sub _ _ fb8), (by rw [sizeLine_eq]; (try simp only [List.length_append, List.length_cons, List.length_nil, List.length_map]); (try have := cutV_length xs none (some 1)); omega), fun tb9 Hb9 sb9 hb9 => ?_⟩
      have Sb9 := (Sb8).same sb9
      have bb9 := cutP_same (N := old H) sb9
      have fb9 := cutP_at hb9 (old_tup (H := H) Sb9 ((BB0.trans (B1.trans (Bb2.trans (Bb3.trans (Bb4.trans (Bb5.trans (Bb6.trans (Bb7.trans (Bb8))))))))).trans (But.of sb9)) hb9)
      have Bb9 := But.of (d := d) (l := l) sb9
      refine ⟨lt_size (Nat.le_of_ble_eq_true rfl), fun tb10 nb10 => ?_⟩
      have sb10 := same_new (o := .lst [vb2, .ref tb3, .ref tb6, .ref tb7, .ref tb9]) nb10
      have hb10 : upd Hb9 tb10 (.lst [vb2, .ref tb3, .ref tb6, .ref tb7, .ref tb9]) tb10 = some (.lst [vb2, .ref tb3, .ref tb6, .ref tb7, .ref tb9]) := upd_same
      have yb10 := (Sb9).nd nb10
      generalize upd Hb9 tb10 (.lst [vb2, .ref tb3, .ref tb6, .ref tb7, .ref tb9]) = Hb10 at sb10 hb10 ⊢
      have Sb10 := (Sb9).same sb10
      have bb10 := cutP_same (N := old H) sb10
      have fb10 : cutP (old H) Hb10 tb10 = some (.lst [vb2, .ref tb3, .ref tb6, .ref tb7, .ref tb9]) := cutP_at hb10 (old_new Sb9 (BB0.trans (B1.trans (Bb2.trans (Bb3.trans (Bb4.trans (Bb5.trans (Bb6.trans (Bb7.trans (Bb8.trans (Bb9)))))))))) nb10)
      have Bb10 := But.of (d := d) (l := l) sb10
      exact ⟨d, l, tb10, _, rfl, Sb10, SqL.of (cutP_sub _ _ fb10), yb10.1, yb10.2, Nat.succ_pos _, Nat.le_of_ble_eq_true rfl, fun v H' hv S' B' => k v H' ((((all_cons (VT.p (Val.mono (wb2.cs (bb3.trans (bb4.trans (bb5.trans (bb6.trans (bb7.trans (bb8.trans (bb9.trans (bb10))))))))) (by decide) (by decide) (by decide))) (all_cons (vpL (fun v hv => (xv v hv).cs (b1.trans (bb2.trans (bb3.trans (bb4.trans (bb5.trans (bb6.trans (bb7.trans (bb8.trans (bb9.trans (bb10))))))))))) ((bb4.trans (bb5.trans (bb6.trans (bb7.trans (bb8.trans (bb9.trans (bb10))))))) _ _ fb3) (by (try simp only [List.length_append, List.length_cons, List.length_nil, List.length_reverse]); (try have := cutV_length xs none (some 1)); omega)) (all_cons (vpT (all_app (fun v hv => (xv v hv).cs (b1.trans (bb2.trans (bb3.trans (bb4.trans (bb5.trans (bb6.trans (bb7.trans (bb8.trans (bb9.trans (bb10))))))))))) (all_cons (Val.mono (wb4.cs (bb5.trans (bb6.trans (bb7.trans (bb8.trans (bb9.trans (bb10))))))) (by decide) (by decide) (by decide)) all_nil)) ((bb7.trans (bb8.trans (bb9.trans (bb10)))) _ _ fb6) (by (try simp only [List.length_append, List.length_cons, List.length_nil, List.length_reverse]); (try have := cutV_length xs none (some 1)); omega)) (all_cons (vpT (fun v hv => (((fun v hv => (xv v hv).cs (b1.trans (bb2.trans (bb3.trans (bb4.trans (bb5.trans (bb6.trans (bb7.trans (bb8.trans (bb9.trans (bb10)))))))))))) v (List.mem_reverse.mp hv))) ((bb8.trans (bb9.trans (bb10))) _ _ fb7) (by (try simp only [List.length_append, List.length_cons, List.length_nil, List.length_reverse]); (try have := cutV_length xs none (some 1)); omega)) (all_cons (vpT (all_app (fun v hv => (xv v hv).cs (b1.trans (bb2.trans (bb3.trans (bb4.trans (bb5.trans (bb6.trans (bb7.trans (bb8.trans (bb9.trans (bb10))))))))))) (all_cut (fun v hv => (xv v hv).cs (b1.trans (bb2.trans (bb3.trans (bb4.trans (bb5.trans (bb6.trans (bb7.trans (bb8.trans (bb9.trans (bb10))))))))))))) ((bb10) _ _ fb9) (by (try simp only [List.length_append, List.length_cons, List.length_nil, List.length_reverse]); (try have := cutV_length xs none (some 1)); omega)) all_nil)))))) v hv).cs (cutP_but (old_d S) (old_l S) B')) S' ((BB0.trans (B1.trans (Bb2.trans (Bb3.trans (Bb4.trans (Bb5.trans (Bb6.trans (Bb7.trans (Bb8.trans (Bb9.trans (Bb10))))))))))).trans B')⟩
    refine iteF' (decide_eq_false fun z => z0 (V.int.inj z)) ?_
    refine ⟨_, rfl, _, rfl, a, _, rfl, .inr (SqT.of (cutP_sub _ _ ((b1) _ _ f0))), d, l, _, rfl, S1, (by rw [xl]; omega), fun kk H2 k0 kl S2 B2 => ?_⟩
    have b2 := cutP_but (old_d S) (old_l S) B2
    obtain ⟨i, rfl, hi⟩ : ∃ i : Nat, kk = (i : Int) ∧ i < xs.length := ⟨kk.toNat, by omega, by omega⟩
    obtain ⟨ta, tb, ⟨e, z⟩, ev, tm, q1, q2⟩ := hat i _ (List.getElem?_eq_getElem hi)
    obtain ⟨el, eb, zb⟩ := pe _ tm
    have zb : Lt2 150 z := zb
    have el : e.length ≤ 4 := el
    have eb : ∀ x ∈ e, Lt2 100 x := eb
    have fta := b0 _ _ (cutP_at q1 (old_tup S But.refl q1))
    have ftb : cutP (old H) H0 tb = some (.tup (e.map V.int)) := b0 _ _ (cutP_at q2 (old_tup S But.refl q2))
    refine ⟨_, rfl, _, rfl, a, _, (i : Int), .ref ta, rfl, rfl, SqT.of (cutP_sub _ _ ((b1.trans (b2)) _ _ f0)), atI_nat (by rw [List.getElem?_eq_getElem hi, ev]), ta, _, rfl, SqT.of (cutP_sub _ _ ((b1.trans (b2)) _ _ fta)), rfl, _, _, rfl, _, _, rfl, rfl, ?_⟩
    refine ⟨_, rfl, _, rfl, _, rfl, _, _, rfl, rfl, _, _, rfl, rfl, ⟨by decide, by decide, by decide⟩, lt_size (Nat.le_of_ble_eq_true rfl), fun t3 n3 => ?_⟩
    have s3 := same_new (o := .lst [.int 0, .bl true, .non, .str "2", .int (0 - z), .int (10 ^ (30 : Int).toNat)]) n3
    have h3 : upd H2 t3 (.lst [.int 0, .bl true, .non, .str "2", .int (0 - z), .int (10 ^ (30 : Int).toNat)]) t3 = some (.lst [.int 0, .bl true, .non, .str "2", .int (0 - z), .int (10 ^ (30 : Int).toNat)]) := upd_same
    have y3 := (S2).nd n3
    generalize upd H2 t3 (.lst [.int 0, .bl true, .non, .str "2", .int (0 - z), .int (10 ^ (30 : Int).toNat)]) = H3 at s3 h3 ⊢
    have S3 := (S2).same s3
    have b3 := cutP_same (N := old H) s3
    have f3 : cutP (old H) H3 t3 = some (.lst [.int 0, .bl true, .non, .str "2", .int (0 - z), .int (10 ^ (30 : Int).toNat)]) := cutP_at h3 (old_new S2 (BB0.trans (B1.trans (B2))) n3)
    have B3 := But.of (d := d) (l := l) s3
    refine ⟨d, l, t3, _, rfl, S3, SqL.of (cutP_sub _ _ f3), y3.1, y3.2, Nat.succ_pos _, Nat.le_of_ble_eq_true rfl, fun v4 H4 m4 S4 B4 => ?_⟩
    have b4 := cutP_but (old_d S) (old_l S) B4
    have w4 : ∀ H', VE (old H) H' v4 := fun H' => by
      simp only [List.mem_cons, List.not_mem_nil, or_false] at m4
      rcases m4 with rfl | rfl | rfl | rfl | rfl | rfl
      · exact Val.int (by unfold Lt2; decide)
      · exact Val.bl true
      · exact Val.non
      · exact Val.str (by decide +kernel)
      · exact Val.int (by unfold Lt2 at zb ⊢; have := Nat.pow_le_pow_right (show 1 ≤ 2 by decide) (show 150 ≤ 200 by decide); omega)
      · exact Val.int (by unfold Lt2; decide +kernel)
    refine ⟨lt_size (Nat.le_of_ble_eq_true rfl), fun t5 n5 => ?_⟩
    have s5 := same_new (o := .tup [.ref tb, v4]) n5
    have h5 : upd H4 t5 (.tup [.ref tb, v4]) t5 = some (.tup [.ref tb, v4]) := upd_same
    have y5 := (S4).nd n5
    generalize upd H4 t5 (.tup [.ref tb, v4]) = H5 at s5 h5 ⊢
    have S5 := (S4).same s5
    have b5 := cutP_same (N := old H) s5
    have f5 : cutP (old H) H5 t5 = some (.tup [.ref tb, v4]) := cutP_at h5 (old_new S4 (BB0.trans (B1.trans (B2.trans (B3.trans (B4))))) n5)
    have B5 := But.of (d := d) (l := l) s5
    refine ⟨_, rfl, tb, _, rfl, .inr (SqT.of (cutP_sub _ _ ((b1.trans (b2.trans (b3.trans (b4.trans (b5))))) _ _ ftb))), fun t6 n6 => ?_⟩
    have s6 := same_new (o := .lst (e.map V.int)) n6
    have h6 : upd H5 t6 (.lst (e.map V.int)) t6 = some (.lst (e.map V.int)) := upd_same
    have y6 := (S5).nd n6
    generalize upd H5 t6 (.lst (e.map V.int)) = H6 at s6 h6 ⊢
    have S6 := (S5).same s6
    have b6 := cutP_same (N := old H) s6
    have f6 : cutP (old H) H6 t6 = some (.lst (e.map V.int)) := cutP_at h6 (old_new S5 (BB0.trans (B1.trans (B2.trans (B3.trans (B4.trans (B5)))))) n6)
    have B6 := But.of (d := d) (l := l) s6
    refine ⟨_, rfl, lt_size (Nat.le_of_ble_eq_true rfl), fun t7 n7 => ?_⟩
    have s7 := same_new (o := .tup [.ref t6, .int z]) n7
    have h7 : upd H6 t7 (.tup [.ref t6, .int z]) t7 = some (.tup [.ref t6, .int z]) := upd_same
    have y7 := (S6).nd n7
    generalize upd H6 t7 (.tup [.ref t6, .int z]) = H7 at s7 h7 ⊢
    have S7 := (S6).same s7
    have b7 := cutP_same (N := old H) s7
    have f7 : cutP (old H) H7 t7 = some (.tup [.ref t6, .int z]) := cutP_at h7 (old_new S6 (BB0.trans (B1.trans (B2.trans (B3.trans (B4.trans (B5.trans (B6))))))) n7)
    have B7 := But.of (d := d) (l := l) s7
    refine ⟨lt_size (Nat.le_of_ble_eq_true rfl), fun t8 n8 => ?_⟩
    have s8 := same_new (o := .lst [.ref t5, .ref t7]) n8
    have h8 : upd H7 t8 (.lst [.ref t5, .ref t7]) t8 = some (.lst [.ref t5, .ref t7]) := upd_same
    have y8 := (S7).nd n8
    generalize upd H7 t8 (.lst [.ref t5, .ref t7]) = H8 at s8 h8 ⊢
    have S8 := (S7).same s8
    have b8 := cutP_same (N := old H) s8
    have f8 : cutP (old H) H8 t8 = some (.lst [.ref t5, .ref t7]) := cutP_at h8 (old_new S7 (BB0.trans (B1.trans (B2.trans (B3.trans (B4.trans (B5.trans (B6.trans (B7)))))))) n8)
    have B8 := But.of (d := d) (l := l) s8
    refine ⟨_, rfl, _, rfl, _, rfl, lt_size (Nat.le_of_ble_eq_true rfl), fun t9 n9 => ?_⟩
    have s9 := same_new (o := .tup [.ref tb, .int z, .int 0]) n9
    have h9 : upd H8 t9 (.tup [.ref tb, .int z, .int 0]) t9 = some (.tup [.ref tb, .int z, .int 0]) := upd_same
    have y9 := (S8).nd n9
    generalize upd H8 t9 (.tup [.ref tb, .int z, .int 0]) = H9 at s9 h9 ⊢
    have S9 := (S8).same s9
    have b9 := cutP_same (N := old H) s9
    have f9 : cutP (old H) H9 t9 = some (.tup [.ref tb, .int z, .int 0]) := cutP_at h9 (old_new S8 (BB0.trans (B1.trans (B2.trans (B3.trans (B4.trans (B5.trans (B6.trans (B7.trans (B8))))))))) n9)
    have B9 := But.of (d := d) (l := l) s9
    refine ⟨_, rfl, _, rfl, lt_size (Nat.le_of_ble_eq_true rfl), fun t10 n10 => ?_⟩
    have s10 := same_new (o := .lst [.ref tb, .int z]) n10
    have h10 : upd H9 t10 (.lst [.ref tb, .int z]) t10 = some (.lst [.ref tb, .int z]) := upd_same
    have y10 := (S9).nd n10
    generalize upd H9 t10 (.lst [.ref tb, .int z]) = H10 at s10 h10 ⊢
    have S10 := (S9).same s10
    have b10 := cutP_same (N := old H) s10
    have f10 : cutP (old H) H10 t10 = some (.lst [.ref tb, .int z]) := cutP_at h10 (old_new S9 (BB0.trans (B1.trans (B2.trans (B3.trans (B4.trans (B5.trans (B6.trans (B7.trans (B8.trans (B9)))))))))) n10)
    have B10 := But.of (d := d) (l := l) s10
    refine ⟨lt_size (Nat.le_of_ble_eq_true rfl), fun t11 n11 => ?_⟩
    have s11 := same_new (o := .lst [.ref t9, .ref t10]) n11
    have h11 : upd H10 t11 (.lst [.ref t9, .ref t10]) t11 = some (.lst [.ref t9, .ref t10]) := upd_same
    have y11 := (S10).nd n11
    generalize upd H10 t11 (.lst [.ref t9, .ref t10]) = H11 at s11 h11 ⊢
    have S11 := (S10).same s11
    have b11 := cutP_same (N := old H) s11
    have f11 : cutP (old H) H11 t11 = some (.lst [.ref t9, .ref t10]) := cutP_at h11 (old_new S10 (BB0.trans (B1.trans (B2.trans (B3.trans (B4.trans (B5.trans (B6.trans (B7.trans (B8.trans (B9.trans (B10))))))))))) n11)
    have B11 := But.of (d := d) (l := l) s11
    refine ⟨t8, t11, _, _, rfl, rfl, (cutP_sub _ _ ((b9.trans (b10.trans (b11))) _ _ f8)), (cutP_sub _ _ f11), lt_size (Nat.le_of_ble_eq_true rfl), fun t12 n12 => ?_⟩
    have s12 := same_new (o := .lst ([.ref t5, .ref t7] ++ [.ref t9, .ref t10])) n12
    have h12 : upd H11 t12 (.lst ([.ref t5, .ref t7] ++ [.ref t9, .ref t10])) t12 = some (.lst ([.ref t5, .ref t7] ++ [.ref t9, .ref t10])) := upd_same
    have y12 := (S11).nd n12
    generalize upd H11 t12 (.lst ([.ref t5, .ref t7] ++ [.ref t9, .ref t10])) = H12 at s12 h12 ⊢
    have S12 := (S11).same s12
    have b12 := cutP_same (N := old H) s12
    have f12 : cutP (old H) H12 t12 = some (.lst ([.ref t5, .ref t7] ++ [.ref t9, .ref t10])) := cutP_at h12 (old_new S11 (BB0.trans (B1.trans (B2.trans (B3.trans (B4.trans (B5.trans (B6.trans (B7.trans (B8.trans (B9.trans (B10.trans (B11)))))))))))) n12)
    have B12 := But.of (d := d) (l := l) s12
    have c1l : (e.map V.int).length = e.length := List.length_map _
    refine ⟨_, rfl, _, rfl, lt_size (Nat.le_of_ble_eq_true rfl), fun t13 n13 => ?_⟩
    have s13 := same_new (o := .tup [.int 0]) n13
    have h13 : upd H12 t13 (.tup [.int 0]) t13 = some (.tup [.int 0]) := upd_same
    have y13 := (S12).nd n13
    generalize upd H12 t13 (.tup [.int 0]) = H13 at s13 h13 ⊢
    have S13 := (S12).same s13
    have b13 := cutP_same (N := old H) s13
    have f13 : cutP (old H) H13 t13 = some (.tup [.int 0]) := cutP_at h13 (old_new S12 (BB0.trans (B1.trans (B2.trans (B3.trans (B4.trans (B5.trans (B6.trans (B7.trans (B8.trans (B9.trans (B10.trans (B11.trans (B12))))))))))))) n13)
    have B13 := But.of (d := d) (l := l) s13
    refine ⟨tb, t13, _, _, rfl, rfl, (cutP_sub _ _ ((b1.trans (b2.trans (b3.trans (b4.trans (b5.trans (b6.trans (b7.trans (b8.trans (b9.trans (b10.trans (b11.trans (b12.trans (b13))))))))))))) _ _ ftb)), (cutP_sub _ _ f13), (by rw [sizeLine_eq]; (try simp only [List.length_append, List.length_cons, List.length_nil, List.length_map]);  omega), fun t14 H14 s14 h14 => ?_⟩
    have S14 := (S13).same s14
    have b14 := cutP_same (N := old H) s14
    have f14 := cutP_at h14 (old_tup (H := H) S14 ((BB0.trans (B1.trans (B2.trans (B3.trans (B4.trans (B5.trans (B6.trans (B7.trans (B8.trans (B9.trans (B10.trans (B11.trans (B12.trans (B13)))))))))))))).trans (But.of s14)) h14)
    have B14 := But.of (d := d) (l := l) s14
    refine ⟨_, rfl, lt_size (Nat.le_of_ble_eq_true rfl), fun t15 n15 => ?_⟩
    have s15 := same_new (o := .tup [.ref t14, .int z]) n15
    have h15 : upd H14 t15 (.tup [.ref t14, .int z]) t15 = some (.tup [.ref t14, .int z]) := upd_same
    have y15 := (S14).nd n15
    generalize upd H14 t15 (.tup [.ref t14, .int z]) = H15 at s15 h15 ⊢
    have S15 := (S14).same s15
    have b15 := cutP_same (N := old H) s15
    have f15 : cutP (old H) H15 t15 = some (.tup [.ref t14, .int z]) := cutP_at h15 (old_new S14 (BB0.trans (B1.trans (B2.trans (B3.trans (B4.trans (B5.trans (B6.trans (B7.trans (B8.trans (B9.trans (B10.trans (B11.trans (B12.trans (B13.trans (B14))))))))))))))) n15)
    have B15 := But.of (d := d) (l := l) s15
    refine ⟨_, rfl, 1, rfl, tb, _, rfl, (cutP_sub _ _ ((b1.trans (b2.trans (b3.trans (b4.trans (b5.trans (b6.trans (b7.trans (b8.trans (b9.trans (b10.trans (b11.trans (b12.trans (b13.trans (b14.trans (b15))))))))))))))) _ _ ftb)), fun t16 H16 s16 h16 => ?_⟩
    have S16 := (S15).same s16
    have b16 := cutP_same (N := old H) s16
    have f16 := cutP_at h16 (old_tup (H := H) S16 ((BB0.trans (B1.trans (B2.trans (B3.trans (B4.trans (B5.trans (B6.trans (B7.trans (B8.trans (B9.trans (B10.trans (B11.trans (B12.trans (B13.trans (B14.trans (B15)))))))))))))))).trans (But.of s16)) h16)
    have B16 := But.of (d := d) (l := l) s16
    refine ⟨_, rfl, lt_size (Nat.le_of_ble_eq_true rfl), fun t17 n17 => ?_⟩
    have s17 := same_new (o := .tup [.ref t16, .int z]) n17
    have h17 : upd H16 t17 (.tup [.ref t16, .int z]) t17 = some (.tup [.ref t16, .int z]) := upd_same
    have y17 := (S16).nd n17
    generalize upd H16 t17 (.tup [.ref t16, .int z]) = H17 at s17 h17 ⊢
    have S17 := (S16).same s17
    have b17 := cutP_same (N := old H) s17
    have f17 : cutP (old H) H17 t17 = some (.tup [.ref t16, .int z]) := cutP_at h17 (old_new S16 (BB0.trans (B1.trans (B2.trans (B3.trans (B4.trans (B5.trans (B6.trans (B7.trans (B8.trans (B9.trans (B10.trans (B11.trans (B12.trans (B13.trans (B14.trans (B15.trans (B16))))))))))))))))) n17)
    have B17 := But.of (d := d) (l := l) s17
    refine ⟨_, rfl, d, l, rfl, S17, fun v18 H18 w18 S18 B18 => ?_⟩
    have b18 := cutP_but (old_d S) (old_l S) B18
    have w18 := w18.less (old_sub S17 (BB0.trans (B1.trans (B2.trans (B3.trans (B4.trans (B5.trans (B6.trans (B7.trans (B8.trans (B9.trans (B10.trans (B11.trans (B12.trans (B13.trans (B14.trans (B15.trans (B16.trans (B17)))))))))))))))))))
    refine ⟨_, rfl, _, rfl, lt_size (Nat.le_of_ble_eq_true rfl), fun t19 n19 => ?_⟩
    have s19 := same_new (o := .tup [.int z, .ref tb]) n19
    have h19 : upd H18 t19 (.tup [.int z, .ref tb]) t19 = some (.tup [.int z, .ref tb]) := upd_same
    have y19 := (S18).nd n19
    generalize upd H18 t19 (.tup [.int z, .ref tb]) = H19 at s19 h19 ⊢
    have S19 := (S18).same s19
    have b19 := cutP_same (N := old H) s19
    have f19 : cutP (old H) H19 t19 = some (.tup [.int z, .ref tb]) := cutP_at h19 (old_new S18 (BB0.trans (B1.trans (B2.trans (B3.trans (B4.trans (B5.trans (B6.trans (B7.trans (B8.trans (B9.trans (B10.trans (B11.trans (B12.trans (B13.trans (B14.trans (B15.trans (B16.trans (B17.trans (B18))))))))))))))))))) n19)
    have B19 := But.of (d := d) (l := l) s19
    refine ⟨lt_size (Nat.le_of_ble_eq_true rfl), fun t20 n20 => ?_⟩
    have s20 := same_new (o := .lst [.ref t15, .ref t17, v18, .ref t19]) n20
    have h20 : upd H19 t20 (.lst [.ref t15, .ref t17, v18, .ref t19]) t20 = some (.lst [.ref t15, .ref t17, v18, .ref t19]) := upd_same
    have y20 := (S19).nd n20
    generalize upd H19 t20 (.lst [.ref t15, .ref t17, v18, .ref t19]) = H20 at s20 h20 ⊢
    have S20 := (S19).same s20
    have b20 := cutP_same (N := old H) s20
    have f20 : cutP (old H) H20 t20 = some (.lst [.ref t15, .ref t17, v18, .ref t19]) := cutP_at h20 (old_new S19 (BB0.trans (B1.trans (B2.trans (B3.trans (B4.trans (B5.trans (B6.trans (B7.trans (B8.trans (B9.trans (B10.trans (B11.trans (B12.trans (B13.trans (B14.trans (B15.trans (B16.trans (B17.trans (B18.trans (B19)))))))))))))))))))) n20)
    have B20 := But.of (d := d) (l := l) s20
    refine ⟨t12, t20, _, _, rfl, rfl, (cutP_sub _ _ ((b13.trans (b14.trans (b15.trans (b16.trans (b17.trans (b18.trans (b19.trans (b20)))))))) _ _ f12)), (cutP_sub _ _ f20), lt_size (Nat.le_of_ble_eq_true rfl), fun t21 n21 => ?_⟩
    have s21 := same_new (o := .lst (([.ref t5, .ref t7] ++ [.ref t9, .ref t10]) ++ [.ref t15, .ref t17, v18, .ref t19])) n21
    have h21 : upd H20 t21 (.lst (([.ref t5, .ref t7] ++ [.ref t9, .ref t10]) ++ [.ref t15, .ref t17, v18, .ref t19])) t21 = some (.lst (([.ref t5, .ref t7] ++ [.ref t9, .ref t10]) ++ [.ref t15, .ref t17, v18, .ref t19])) := upd_same
    have y21 := (S20).nd n21
    generalize upd H20 t21 (.lst (([.ref t5, .ref t7] ++ [.ref t9, .ref t10]) ++ [.ref t15, .ref t17, v18, .ref t19])) = H21 at s21 h21 ⊢
    have S21 := (S20).same s21
    have b21 := cutP_same (N := old H) s21
    have f21 : cutP (old H) H21 t21 = some (.lst (([.ref t5, .ref t7] ++ [.ref t9, .ref t10]) ++ [.ref t15, .ref t17, v18, .ref t19])) := cutP_at h21 (old_new S20 (BB0.trans (B1.trans (B2.trans (B3.trans (B4.trans (B5.trans (B6.trans (B7.trans (B8.trans (B9.trans (B10.trans (B11.trans (B12.trans (B13.trans (B14.trans (B15.trans (B16.trans (B17.trans (B18.trans (B19.trans (B20))))))))))))))))))))) n21)
    have B21 := But.of (d := d) (l := l) s21
    have yv : ∀ v ∈ ([.ref t5, .ref t7] ++ [.ref t9, .ref t10]) ++ [.ref t15, .ref t17, v18, .ref t19], VT (old H) H21 v := (all_cons (vtT (all_cons (vmT (mono_ve eb) ((b1.trans (b2.trans (b3.trans (b4.trans (b5.trans (b6.trans (b7.trans (b8.trans (b9.trans (b10.trans (b11.trans (b12.trans (b13.trans (b14.trans (b15.trans (b16.trans (b17.trans (b18.trans (b19.trans (b20.trans (b21))))))))))))))))))))) _ _ ftb) (by (try simp only [List.length_append, List.length_cons, List.length_nil, List.length_map]); (try have := cutV_length (e.map V.int) (some 1) none); omega)) (all_cons (VE.m (w4 _)) all_nil)) ((b6.trans (b7.trans (b8.trans (b9.trans (b10.trans (b11.trans (b12.trans (b13.trans (b14.trans (b15.trans (b16.trans (b17.trans (b18.trans (b19.trans (b20.trans (b21)))))))))))))))) _ _ f5) (Nat.le_of_ble_eq_true rfl)) (all_cons (vtT (all_cons (vmL (mono_ve eb) ((b7.trans (b8.trans (b9.trans (b10.trans (b11.trans (b12.trans (b13.trans (b14.trans (b15.trans (b16.trans (b17.trans (b18.trans (b19.trans (b20.trans (b21))))))))))))))) _ _ f6) (by (try simp only [List.length_append, List.length_cons, List.length_nil, List.length_map]); (try have := cutV_length (e.map V.int) (some 1) none); omega)) (all_cons (VE.m (Val.int (zb.mono (by decide)))) all_nil)) ((b8.trans (b9.trans (b10.trans (b11.trans (b12.trans (b13.trans (b14.trans (b15.trans (b16.trans (b17.trans (b18.trans (b19.trans (b20.trans (b21)))))))))))))) _ _ f7) (Nat.le_of_ble_eq_true rfl)) (all_cons (vtT (all_cons (vmT (mono_ve eb) ((b1.trans (b2.trans (b3.trans (b4.trans (b5.trans (b6.trans (b7.trans (b8.trans (b9.trans (b10.trans (b11.trans (b12.trans (b13.trans (b14.trans (b15.trans (b16.trans (b17.trans (b18.trans (b19.trans (b20.trans (b21))))))))))))))))))))) _ _ ftb) (by (try simp only [List.length_append, List.length_cons, List.length_nil, List.length_map]); (try have := cutV_length (e.map V.int) (some 1) none); omega)) (all_cons (VE.m (Val.int (zb.mono (by decide)))) (all_cons (VE.m (Val.int (by unfold Lt2; decide))) all_nil))) ((b10.trans (b11.trans (b12.trans (b13.trans (b14.trans (b15.trans (b16.trans (b17.trans (b18.trans (b19.trans (b20.trans (b21)))))))))))) _ _ f9) (Nat.le_of_ble_eq_true rfl)) (all_cons (vtL (all_cons (vmT (mono_ve eb) ((b1.trans (b2.trans (b3.trans (b4.trans (b5.trans (b6.trans (b7.trans (b8.trans (b9.trans (b10.trans (b11.trans (b12.trans (b13.trans (b14.trans (b15.trans (b16.trans (b17.trans (b18.trans (b19.trans (b20.trans (b21))))))))))))))))))))) _ _ ftb) (by (try simp only [List.length_append, List.length_cons, List.length_nil, List.length_map]); (try have := cutV_length (e.map V.int) (some 1) none); omega)) (all_cons (VE.m (Val.int (zb.mono (by decide)))) all_nil)) ((b11.trans (b12.trans (b13.trans (b14.trans (b15.trans (b16.trans (b17.trans (b18.trans (b19.trans (b20.trans (b21))))))))))) _ _ f10) (Nat.le_of_ble_eq_true rfl)) (all_cons (vtT (all_cons (vmT (all_app (mono_ve eb) (all_cons (Val.int (by unfold Lt2; decide)) all_nil)) ((b15.trans (b16.trans (b17.trans (b18.trans (b19.trans (b20.trans (b21))))))) _ _ f14) (by (try simp only [List.length_append, List.length_cons, List.length_nil, List.length_map]); (try have := cutV_length (e.map V.int) (some 1) none); omega)) (all_cons (VE.m (Val.int (zb.mono (by decide)))) all_nil)) ((b16.trans (b17.trans (b18.trans (b19.trans (b20.trans (b21)))))) _ _ f15) (Nat.le_of_ble_eq_true rfl)) (all_cons (vtT (all_cons (vmT (all_cut (mono_ve eb)) ((b17.trans (b18.trans (b19.trans (b20.trans (b21))))) _ _ f16) (by (try simp only [List.length_append, List.length_cons, List.length_nil, List.length_map]); (try have := cutV_length (e.map V.int) (some 1) none); omega)) (all_cons (VE.m (Val.int (zb.mono (by decide)))) all_nil)) ((b18.trans (b19.trans (b20.trans (b21)))) _ _ f17) (Nat.le_of_ble_eq_true rfl)) (all_cons (Val.mono (w18.cs (b19.trans (b20.trans (b21)))) (by decide) (by decide) (by decide)) (all_cons (vtT (all_cons (VE.m (Val.int (zb.mono (by decide)))) (all_cons (vmT (mono_ve eb) ((b1.trans (b2.trans (b3.trans (b4.trans (b5.trans (b6.trans (b7.trans (b8.trans (b9.trans (b10.trans (b11.trans (b12.trans (b13.trans (b14.trans (b15.trans (b16.trans (b17.trans (b18.trans (b19.trans (b20.trans (b21))))))))))))))))))))) _ _ ftb) (by (try simp only [List.length_append, List.length_cons, List.length_nil, List.length_map]); (try have := cutV_length (e.map V.int) (some 1) none); omega)) all_nil)) ((b20.trans (b21)) _ _ f19) (Nat.le_of_ble_eq_true rfl)) all_nil))))))))
    obtain ⟨ys, eys⟩ : ∃ ys, ([.ref t5, .ref t7] ++ [.ref t9, .ref t10]) ++ [.ref t15, .ref t17, v18, .ref t19] = ys := ⟨_, rfl⟩
    have yl : ys.length = 8 := by rw [← eys]; rfl
    rw [eys] at f21 yv
    refine ⟨fun σ H' => ∃ (ls : Addr) (zs : List V) (o6 : Option V), σ = [some (.ref d), some (.ref a), some (.int i), some (.ref tb), some (.int z), some (.ref ls), o6] ∧ SrcAt H' d l ∧ But d l H21 H' ∧ cutP (old H) H' ls = some (.lst zs) ∧ (∀ v ∈ zs, VT (old H) H' v) ∧ 0 < zs.length ∧ zs.length ≤ 11, ?_, ?_⟩
    focus
      refine ⟨_, rfl, lt_size (Nat.le_of_ble_eq_true rfl), fun t22 n22 => ?_⟩
      have s22 := same_new (o := .tup []) n22
      have h22 : upd H21 t22 (.tup []) t22 = some (.tup []) := upd_same
      have y22 := (S21).nd n22
      generalize upd H21 t22 (.tup []) = H22 at s22 h22 ⊢
      have S22 := (S21).same s22
      have b22 := cutP_same (N := old H) s22
      have f22 : cutP (old H) H22 t22 = some (.tup []) := cutP_at h22 (old_new S21 (BB0.trans (B1.trans (B2.trans (B3.trans (B4.trans (B5.trans (B6.trans (B7.trans (B8.trans (B9.trans (B10.trans (B11.trans (B12.trans (B13.trans (B14.trans (B15.trans (B16.trans (B17.trans (B18.trans (B19.trans (B20.trans (B21)))))))))))))))))))))) n22)
      have B22 := But.of (d := d) (l := l) s22
      refine ⟨monoD e, .tuple [], .tup (SqT.of (cutP_sub _ _ ((b1.trans (b2.trans (b3.trans (b4.trans (b5.trans (b6.trans (b7.trans (b8.trans (b9.trans (b10.trans (b11.trans (b12.trans (b13.trans (b14.trans (b15.trans (b16.trans (b17.trans (b18.trans (b19.trans (b20.trans (b21.trans (b22)))))))))))))))))))))) _ _ ftb))) (dp_ints e), .tup (SqT.of (cutP_sub _ _ f22)) .nil, (fn_mono (m := e.length) (ke := 100) (by decide) (by decide) rfl eb).shaped (by decide), by decide, _, rfl, ?_⟩
      rw [show PyData.eqv (monoD e) (.tuple []) = (e.map PyData.int).isEmpty from eqv_nil]
      by_cases e0 : e = []
      · exact iteF' (by rw [e0]; rfl) ⟨t21, ys, none, rfl, S22, (B22), ((b22) _ _ f21), (fun v hv => (yv v hv).cs (b22)), by omega, by omega⟩
      have e1 : 0 < e.length := List.length_pos_iff.mpr e0
      refine iteT' (by cases e with
        | nil => exact absurd rfl e0
        | cons _ _ => rfl) ?_
      refine ⟨_, rfl, _, rfl, tb, _, rfl, .inr (SqT.of (cutP_sub _ _ ((b1.trans (b2.trans (b3.trans (b4.trans (b5.trans (b6.trans (b7.trans (b8.trans (b9.trans (b10.trans (b11.trans (b12.trans (b13.trans (b14.trans (b15.trans (b16.trans (b17.trans (b18.trans (b19.trans (b20.trans (b21.trans (b22)))))))))))))))))))))) _ _ ftb))), d, l, _, rfl, S22, (by rw [List.length_map]; omega), fun jj H23 j0 jl S23 B23 => ?_⟩
      have b23 := cutP_but (old_d S) (old_l S) B23
      rw [List.length_map] at jl
      obtain ⟨j, rfl, hj⟩ : ∃ j : Nat, jj = (j : Int) ∧ j < e.length := ⟨jj.toNat, by omega, by omega⟩
      refine ⟨_, rfl, _, rfl, _, rfl, (j : Int), rfl, tb, _, rfl, (cutP_sub _ _ ((b1.trans (b2.trans (b3.trans (b4.trans (b5.trans (b6.trans (b7.trans (b8.trans (b9.trans (b10.trans (b11.trans (b12.trans (b13.trans (b14.trans (b15.trans (b16.trans (b17.trans (b18.trans (b19.trans (b20.trans (b21.trans (b22.trans (b23))))))))))))))))))))))) _ _ ftb)), fun t24 H24 s24 h24 => ?_⟩
      have S24 := (S23).same s24
      have b24 := cutP_same (N := old H) s24
      have f24 := cutP_at h24 (old_tup (H := H) S24 ((BB0.trans (B1.trans (B2.trans (B3.trans (B4.trans (B5.trans (B6.trans (B7.trans (B8.trans (B9.trans (B10.trans (B11.trans (B12.trans (B13.trans (B14.trans (B15.trans (B16.trans (B17.trans (B18.trans (B19.trans (B20.trans (B21.trans (B22.trans (B23)))))))))))))))))))))))).trans (But.of s24)) h24)
      have B24 := But.of (d := d) (l := l) s24
      have ej : (e.map V.int)[j]? = some (.int e[j]) := by rw [List.getElem?_map, List.getElem?_eq_getElem hj]; rfl
      have ejb : Lt2 100 e[j] := eb _ (List.getElem_mem hj)
      refine ⟨_, rfl, _, rfl, _, rfl, tb, _, (j : Int), .int e[j], rfl, rfl, SqT.of (cutP_sub _ _ ((b1.trans (b2.trans (b3.trans (b4.trans (b5.trans (b6.trans (b7.trans (b8.trans (b9.trans (b10.trans (b11.trans (b12.trans (b13.trans (b14.trans (b15.trans (b16.trans (b17.trans (b18.trans (b19.trans (b20.trans (b21.trans (b22.trans (b23.trans (b24)))))))))))))))))))))))) _ _ ftb)), atI_nat ej, _, _, rfl, rfl, _, rfl, lt_size (Nat.le_of_ble_eq_true rfl), fun t25 n25 => ?_⟩
      have s25 := same_new (o := .lst [.int (e[j] + 1), .int (-1), .bl true, .non, .int 7]) n25
      have h25 : upd H24 t25 (.lst [.int (e[j] + 1), .int (-1), .bl true, .non, .int 7]) t25 = some (.lst [.int (e[j] + 1), .int (-1), .bl true, .non, .int 7]) := upd_same
      have y25 := (S24).nd n25
      generalize upd H24 t25 (.lst [.int (e[j] + 1), .int (-1), .bl true, .non, .int 7]) = H25 at s25 h25 ⊢
      have S25 := (S24).same s25
      have b25 := cutP_same (N := old H) s25
      have f25 : cutP (old H) H25 t25 = some (.lst [.int (e[j] + 1), .int (-1), .bl true, .non, .int 7]) := cutP_at h25 (old_new S24 (BB0.trans (B1.trans (B2.trans (B3.trans (B4.trans (B5.trans (B6.trans (B7.trans (B8.trans (B9.trans (B10.trans (B11.trans (B12.trans (B13.trans (B14.trans (B15.trans (B16.trans (B17.trans (B18.trans (B19.trans (B20.trans (B21.trans (B22.trans (B23.trans (B24))))))))))))))))))))))))) n25)
      have B25 := But.of (d := d) (l := l) s25
      refine ⟨d, l, t25, _, rfl, S25, SqL.of (cutP_sub _ _ f25), y25.1, y25.2, Nat.succ_pos _, Nat.le_of_ble_eq_true rfl, fun v26 H26 m26 S26 B26 => ?_⟩
      have b26 := cutP_but (old_d S) (old_l S) B26
      have w26 : ∀ H', VE (old H) H' v26 := fun H' => by
        simp only [List.mem_cons, List.not_mem_nil, or_false] at m26
        rcases m26 with rfl | rfl | rfl | rfl | rfl
        · exact Val.int (by unfold Lt2 at ejb ⊢; have := Nat.pow_le_pow_right (show 1 ≤ 2 by decide) (show 101 ≤ 200 by decide); omega)
        · exact Val.int (by unfold Lt2; decide)
        · exact Val.bl true
        · exact Val.non
        · exact Val.int (by unfold Lt2; decide)
      refine ⟨lt_size (Nat.le_of_ble_eq_true rfl), fun t27 n27 => ?_⟩
      have s27 := same_new (o := .tup [v26]) n27
      have h27 : upd H26 t27 (.tup [v26]) t27 = some (.tup [v26]) := upd_same
      have y27 := (S26).nd n27
      generalize upd H26 t27 (.tup [v26]) = H27 at s27 h27 ⊢
      have S27 := (S26).same s27
      have b27 := cutP_same (N := old H) s27
      have f27 : cutP (old H) H27 t27 = some (.tup [v26]) := cutP_at h27 (old_new S26 (BB0.trans (B1.trans (B2.trans (B3.trans (B4.trans (B5.trans (B6.trans (B7.trans (B8.trans (B9.trans (B10.trans (B11.trans (B12.trans (B13.trans (B14.trans (B15.trans (B16.trans (B17.trans (B18.trans (B19.trans (B20.trans (B21.trans (B22.trans (B23.trans (B24.trans (B25.trans (B26))))))))))))))))))))))))))) n27)
      have B27 := But.of (d := d) (l := l) s27
      refine ⟨t24, t27, _, _, rfl, rfl, (cutP_sub _ _ ((b25.trans (b26.trans (b27))) _ _ f24)), (cutP_sub _ _ f27), (by rw [sizeLine_eq]; (try simp only [List.length_append, List.length_cons, List.length_nil, List.length_map]); (have := cutV_length (e.map V.int) none (some (j : Int))); omega), fun t28 H28 s28 h28 => ?_⟩
      have S28 := (S27).same s28
      have b28 := cutP_same (N := old H) s28
      have f28 := cutP_at h28 (old_tup (H := H) S28 ((BB0.trans (B1.trans (B2.trans (B3.trans (B4.trans (B5.trans (B6.trans (B7.trans (B8.trans (B9.trans (B10.trans (B11.trans (B12.trans (B13.trans (B14.trans (B15.trans (B16.trans (B17.trans (B18.trans (B19.trans (B20.trans (B21.trans (B22.trans (B23.trans (B24.trans (B25.trans (B26.trans (B27)))))))))))))))))))))))))))).trans (But.of s28)) h28)
      have B28 := But.of (d := d) (l := l) s28
      refine ⟨_, rfl, _, rfl, _, _, rfl, rfl, _, rfl, tb, _, rfl, (cutP_sub _ _ ((b1.trans (b2.trans (b3.trans (b4.trans (b5.trans (b6.trans (b7.trans (b8.trans (b9.trans (b10.trans (b11.trans (b12.trans (b13.trans (b14.trans (b15.trans (b16.trans (b17.trans (b18.trans (b19.trans (b20.trans (b21.trans (b22.trans (b23.trans (b24.trans (b25.trans (b26.trans (b27.trans (b28)))))))))))))))))))))))))))) _ _ ftb)), fun t29 H29 s29 h29 => ?_⟩
      have S29 := (S28).same s29
      have b29 := cutP_same (N := old H) s29
      have f29 := cutP_at h29 (old_tup (H := H) S29 ((BB0.trans (B1.trans (B2.trans (B3.trans (B4.trans (B5.trans (B6.trans (B7.trans (B8.trans (B9.trans (B10.trans (B11.trans (B12.trans (B13.trans (B14.trans (B15.trans (B16.trans (B17.trans (B18.trans (B19.trans (B20.trans (B21.trans (B22.trans (B23.trans (B24.trans (B25.trans (B26.trans (B27.trans (B28))))))))))))))))))))))))))))).trans (But.of s29)) h29)
      have B29 := But.of (d := d) (l := l) s29
      refine ⟨t28, t29, _, _, rfl, rfl, (cutP_sub _ _ ((b29) _ _ f28)), (cutP_sub _ _ f29), (by rw [sizeLine_eq]; (try simp only [List.length_append, List.length_cons, List.length_nil, List.length_map]); (have := cutV_length (e.map V.int) none (some (j : Int))); (have := cutV_length (e.map V.int) (some ((j : Int) + 1)) none); omega), fun t30 H30 s30 h30 => ?_⟩
      have S30 := (S29).same s30
      have b30 := cutP_same (N := old H) s30
      have f30 := cutP_at h30 (old_tup (H := H) S30 ((BB0.trans (B1.trans (B2.trans (B3.trans (B4.trans (B5.trans (B6.trans (B7.trans (B8.trans (B9.trans (B10.trans (B11.trans (B12.trans (B13.trans (B14.trans (B15.trans (B16.trans (B17.trans (B18.trans (B19.trans (B20.trans (B21.trans (B22.trans (B23.trans (B24.trans (B25.trans (B26.trans (B27.trans (B28.trans (B29)))))))))))))))))))))))))))))).trans (But.of s30)) h30)
      have B30 := But.of (d := d) (l := l) s30
      refine ⟨_, rfl, lt_size (Nat.le_of_ble_eq_true rfl), fun t31 n31 => ?_⟩
      have s31 := same_new (o := .tup [.ref t30, .int z]) n31
      have h31 : upd H30 t31 (.tup [.ref t30, .int z]) t31 = some (.tup [.ref t30, .int z]) := upd_same
      have y31 := (S30).nd n31
      generalize upd H30 t31 (.tup [.ref t30, .int z]) = H31 at s31 h31 ⊢
      have S31 := (S30).same s31
      have b31 := cutP_same (N := old H) s31
      have f31 : cutP (old H) H31 t31 = some (.tup [.ref t30, .int z]) := cutP_at h31 (old_new S30 (BB0.trans (B1.trans (B2.trans (B3.trans (B4.trans (B5.trans (B6.trans (B7.trans (B8.trans (B9.trans (B10.trans (B11.trans (B12.trans (B13.trans (B14.trans (B15.trans (B16.trans (B17.trans (B18.trans (B19.trans (B20.trans (B21.trans (B22.trans (B23.trans (B24.trans (B25.trans (B26.trans (B27.trans (B28.trans (B29.trans (B30))))))))))))))))))))))))))))))) n31)
      have B31 := But.of (d := d) (l := l) s31
      refine ⟨lt_size (Nat.le_of_ble_eq_true rfl), fun t32 n32 => ?_⟩
      have s32 := same_new (o := .lst [.ref t31]) n32
      have h32 : upd H31 t32 (.lst [.ref t31]) t32 = some (.lst [.ref t31]) := upd_same
      have y32 := (S31).nd n32
      generalize upd H31 t32 (.lst [.ref t31]) = H32 at s32 h32 ⊢
      have S32 := (S31).same s32
      have b32 := cutP_same (N := old H) s32
      have f32 : cutP (old H) H32 t32 = some (.lst [.ref t31]) := cutP_at h32 (old_new S31 (BB0.trans (B1.trans (B2.trans (B3.trans (B4.trans (B5.trans (B6.trans (B7.trans (B8.trans (B9.trans (B10.trans (B11.trans (B12.trans (B13.trans (B14.trans (B15.trans (B16.trans (B17.trans (B18.trans (B19.trans (B20.trans (B21.trans (B22.trans (B23.trans (B24.trans (B25.trans (B26.trans (B27.trans (B28.trans (B29.trans (B30.trans (B31)))))))))))))))))))))))))))))))) n32)
      have B32 := But.of (d := d) (l := l) s32
      refine ⟨t32, 3, _, rfl, rfl, (cutP_sub _ _ f32), by decide, by decide, lt_size (Nat.le_of_ble_eq_true rfl), fun t33 n33 => ?_⟩
      have s33 := same_new (o := .lst (List.replicate (3 : Int).toNat [.ref t31]).flatten) n33
      have h33 : upd H32 t33 (.lst (List.replicate (3 : Int).toNat [.ref t31]).flatten) t33 = some (.lst (List.replicate (3 : Int).toNat [.ref t31]).flatten) := upd_same
      have y33 := (S32).nd n33
      generalize upd H32 t33 (.lst (List.replicate (3 : Int).toNat [.ref t31]).flatten) = H33 at s33 h33 ⊢
      have S33 := (S32).same s33
      have b33 := cutP_same (N := old H) s33
      have f33 : cutP (old H) H33 t33 = some (.lst (List.replicate (3 : Int).toNat [.ref t31]).flatten) := cutP_at h33 (old_new S32 (BB0.trans (B1.trans (B2.trans (B3.trans (B4.trans (B5.trans (B6.trans (B7.trans (B8.trans (B9.trans (B10.trans (B11.trans (B12.trans (B13.trans (B14.trans (B15.trans (B16.trans (B17.trans (B18.trans (B19.trans (B20.trans (B21.trans (B22.trans (B23.trans (B24.trans (B25.trans (B26.trans (B27.trans (B28.trans (B29.trans (B30.trans (B31.trans (B32))))))))))))))))))))))))))))))))) n33)
      have B33 := But.of (d := d) (l := l) s33
      refine ⟨t21, t33, _, _, rfl, rfl, (cutP_sub _ _ ((b22.trans (b23.trans (b24.trans (b25.trans (b26.trans (b27.trans (b28.trans (b29.trans (b30.trans (b31.trans (b32.trans (b33)))))))))))) _ _ f21)), (cutP_sub _ _ f33), (by rw [yl]; exact lt_size (Nat.le_of_ble_eq_true rfl)), fun t34 n34 => ?_⟩
      have s34 := same_new (o := .lst (ys ++ (List.replicate (3 : Int).toNat [.ref t31]).flatten)) n34
      have h34 : upd H33 t34 (.lst (ys ++ (List.replicate (3 : Int).toNat [.ref t31]).flatten)) t34 = some (.lst (ys ++ (List.replicate (3 : Int).toNat [.ref t31]).flatten)) := upd_same
      have y34 := (S33).nd n34
      generalize upd H33 t34 (.lst (ys ++ (List.replicate (3 : Int).toNat [.ref t31]).flatten)) = H34 at s34 h34 ⊢
      have S34 := (S33).same s34
      have b34 := cutP_same (N := old H) s34
      have f34 : cutP (old H) H34 t34 = some (.lst (ys ++ (List.replicate (3 : Int).toNat [.ref t31]).flatten)) := cutP_at h34 (old_new S33 (BB0.trans (B1.trans (B2.trans (B3.trans (B4.trans (B5.trans (B6.trans (B7.trans (B8.trans (B9.trans (B10.trans (B11.trans (B12.trans (B13.trans (B14.trans (B15.trans (B16.trans (B17.trans (B18.trans (B19.trans (B20.trans (B21.trans (B22.trans (B23.trans (B24.trans (B25.trans (B26.trans (B27.trans (B28.trans (B29.trans (B30.trans (B31.trans (B32.trans (B33)))))))))))))))))))))))))))))))))) n34)
      have B34 := But.of (d := d) (l := l) s34
      have bv : VT (old H) H34 (.ref t31) := (vtT (all_cons (vmT (all_app (all_app (all_cut (mono_ve eb)) (all_cons (w26 _) all_nil)) (all_cut (mono_ve eb))) ((b31.trans (b32.trans (b33.trans (b34)))) _ _ f30) (by simp only [List.length_append, List.length_cons, List.length_nil]; have h1 := cutV_length (e.map V.int) none (some (j : Int)); have h2 := cutV_length (e.map V.int) (some ((j : Int) + 1)) none; rw [List.length_map] at h1 h2; omega)) (all_cons (VE.m (Val.int (zb.mono (by decide)))) all_nil)) ((b32.trans (b33.trans (b34))) _ _ f31) (Nat.le_of_ble_eq_true rfl))
      exact ⟨t34, _, _, rfl, S34, (B22.trans (B23.trans (B24.trans (B25.trans (B26.trans (B27.trans (B28.trans (B29.trans (B30.trans (B31.trans (B32.trans (B33.trans (B34))))))))))))), f34, all_app (fun v hv => (yv v hv).cs (b22.trans (b23.trans (b24.trans (b25.trans (b26.trans (b27.trans (b28.trans (b29.trans (b30.trans (b31.trans (b32.trans (b33.trans (b34)))))))))))))) (show ∀ v ∈ [V.ref t31, .ref t31, .ref t31], _ from all_cons bv (all_cons bv (all_cons bv all_nil))), by rw [List.length_append, yl]; exact Nat.succ_pos _, by rw [List.length_append, yl]; exact Nat.le_refl _⟩
    rintro σ H22 ⟨ls, zs, o6, rfl, S22, B22, fls, zv, z1, z11⟩
    have b22 := cutP_but (old_d S) (old_l S) B22
    refine ⟨_, rfl, _, rfl, (i : Int), rfl, a, _, rfl, (cutP_sub _ _ ((b1.trans (b2.trans (b3.trans (b4.trans (b5.trans (b6.trans (b7.trans (b8.trans (b9.trans (b10.trans (b11.trans (b12.trans (b13.trans (b14.trans (b15.trans (b16.trans (b17.trans (b18.trans (b19.trans (b20.trans (b21.trans (b22)))))))))))))))))))))) _ _ f0)), fun t23 H23 s23 h23 => ?_⟩
    have S23 := (S22).same s23
    have b23 := cutP_same (N := old H) s23
    have f23 := cutP_at h23 (old_tup (H := H) S23 ((BB0.trans (B1.trans (B2.trans (B3.trans (B4.trans (B5.trans (B6.trans (B7.trans (B8.trans (B9.trans (B10.trans (B11.trans (B12.trans (B13.trans (B14.trans (B15.trans (B16.trans (B17.trans (B18.trans (B19.trans (B20.trans (B21.trans (B22))))))))))))))))))))))).trans (But.of s23)) h23)
    have B23 := But.of (d := d) (l := l) s23
    have nls : ls ≠ d ∧ ls ≠ l := ⟨fun z => (cutP_some fls).2 (z ▸ old_d S), fun z => (cutP_some fls).2 (z ▸ old_l S)⟩
    refine ⟨_, rfl, _, rfl, d, l, ls, zs, rfl, S23, SqL.of (cutP_sub _ _ ((b23) _ _ fls)), nls.1, nls.2, z1, by omega, fun v24 H24 m24 S24 B24 => ?_⟩
    have b24 := cutP_but (old_d S) (old_l S) B24
    refine ⟨lt_size (Nat.le_of_ble_eq_true rfl), fun t25 n25 => ?_⟩
    have s25 := same_new (o := .tup [v24]) n25
    have h25 : upd H24 t25 (.tup [v24]) t25 = some (.tup [v24]) := upd_same
    have y25 := (S24).nd n25
    generalize upd H24 t25 (.tup [v24]) = H25 at s25 h25 ⊢
    have S25 := (S24).same s25
    have b25 := cutP_same (N := old H) s25
    have f25 : cutP (old H) H25 t25 = some (.tup [v24]) := cutP_at h25 (old_new S24 (BB0.trans (B1.trans (B2.trans (B3.trans (B4.trans (B5.trans (B6.trans (B7.trans (B8.trans (B9.trans (B10.trans (B11.trans (B12.trans (B13.trans (B14.trans (B15.trans (B16.trans (B17.trans (B18.trans (B19.trans (B20.trans (B21.trans (B22.trans (B23.trans (B24))))))))))))))))))))))))) n25)
    have B25 := But.of (d := d) (l := l) s25
    refine ⟨t23, t25, _, _, rfl, rfl, (cutP_sub _ _ ((b24.trans (b25)) _ _ f23)), (cutP_sub _ _ f25), (by rw [sizeLine_eq]; (try simp only [List.length_append, List.length_cons, List.length_nil, List.length_map]); (have := cutV_length xs none (some (i : Int))); omega), fun t26 H26 s26 h26 => ?_⟩
    have S26 := (S25).same s26
    have b26 := cutP_same (N := old H) s26
    have f26 := cutP_at h26 (old_tup (H := H) S26 ((BB0.trans (B1.trans (B2.trans (B3.trans (B4.trans (B5.trans (B6.trans (B7.trans (B8.trans (B9.trans (B10.trans (B11.trans (B12.trans (B13.trans (B14.trans (B15.trans (B16.trans (B17.trans (B18.trans (B19.trans (B20.trans (B21.trans (B22.trans (B23.trans (B24.trans (B25)))))))))))))))))))))))))).trans (But.of s26)) h26)
    have B26 := But.of (d := d) (l := l) s26
    refine ⟨_, rfl, _, rfl, _, _, rfl, rfl, _, rfl, a, _, rfl, (cutP_sub _ _ ((b1.trans (b2.trans (b3.trans (b4.trans (b5.trans (b6.trans (b7.trans (b8.trans (b9.trans (b10.trans (b11.trans (b12.trans (b13.trans (b14.trans (b15.trans (b16.trans (b17.trans (b18.trans (b19.trans (b20.trans (b21.trans (b22.trans (b23.trans (b24.trans (b25.trans (b26)))))))))))))))))))))))))) _ _ f0)), fun t27 H27 s27 h27 => ?_⟩
    have S27 := (S26).same s27
    have b27 := cutP_same (N := old H) s27
    have f27 := cutP_at h27 (old_tup (H := H) S27 ((BB0.trans (B1.trans (B2.trans (B3.trans (B4.trans (B5.trans (B6.trans (B7.trans (B8.trans (B9.trans (B10.trans (B11.trans (B12.trans (B13.trans (B14.trans (B15.trans (B16.trans (B17.trans (B18.trans (B19.trans (B20.trans (B21.trans (B22.trans (B23.trans (B24.trans (B25.trans (B26))))))))))))))))))))))))))).trans (But.of s27)) h27)
    have B27 := But.of (d := d) (l := l) s27
    refine ⟨t26, t27, _, _, rfl, rfl, (cutP_sub _ _ ((b27) _ _ f26)), (cutP_sub _ _ f27), (by rw [sizeLine_eq]; (try simp only [List.length_append, List.length_cons, List.length_nil, List.length_map]); (have := cutV_length xs none (some (i : Int))); (have := cutV_length xs (some ((i : Int) + 1)) none); omega), fun t28 H28 s28 h28 => ?_⟩
    have S28 := (S27).same s28
    have b28 := cutP_same (N := old H) s28
    have f28 := cutP_at h28 (old_tup (H := H) S28 ((BB0.trans (B1.trans (B2.trans (B3.trans (B4.trans (B5.trans (B6.trans (B7.trans (B8.trans (B9.trans (B10.trans (B11.trans (B12.trans (B13.trans (B14.trans (B15.trans (B16.trans (B17.trans (B18.trans (B19.trans (B20.trans (B21.trans (B22.trans (B23.trans (B24.trans (B25.trans (B26.trans (B27)))))))))))))))))))))))))))).trans (But.of s28)) h28)
    have B28 := But.of (d := d) (l := l) s28
    exact k (.ref t28) H28 (vpT (all_app (all_app (all_cut (fun v hv => (xv v hv).cs (b1.trans (b2.trans (b3.trans (b4.trans (b5.trans (b6.trans (b7.trans (b8.trans (b9.trans (b10.trans (b11.trans (b12.trans (b13.trans (b14.trans (b15.trans (b16.trans (b17.trans (b18.trans (b19.trans (b20.trans (b21.trans (b22.trans (b23.trans (b24.trans (b25.trans (b26.trans (b27.trans (b28)))))))))))))))))))))))))))))) (all_cons ((zv v24 m24).cs (b23.trans (b24.trans (b25.trans (b26.trans (b27.trans (b28))))))) all_nil)) (all_cut (fun v hv => (xv v hv).cs (b1.trans (b2.trans (b3.trans (b4.trans (b5.trans (b6.trans (b7.trans (b8.trans (b9.trans (b10.trans (b11.trans (b12.trans (b13.trans (b14.trans (b15.trans (b16.trans (b17.trans (b18.trans (b19.trans (b20.trans (b21.trans (b22.trans (b23.trans (b24.trans (b25.trans (b26.trans (b27.trans (b28))))))))))))))))))))))))))))))) f28 (by simp only [List.length_append, List.length_cons, List.length_nil]; have h1 := cutV_length xs none (some (i : Int)); have h2 := cutV_length xs (some ((i : Int) + 1)) none; omega)) S28 (BB0.trans (B1.trans (B2.trans (B3.trans (B4.trans (B5.trans (B6.trans (B7.trans (B8.trans (B9.trans (B10.trans (B11.trans (B12.trans (B13.trans (B14.trans (B15.trans (B16.trans (B17.trans (B18.trans (B19.trans (B20.trans (B21.trans (B22.trans (B23.trans (B24.trans (B25.trans (B26.trans (B27.trans (B28)))))))))))))))))))))))))))))
end
end Kx
namespace Kx
open PySem PySem.Spec PyProof.Rows L2
theorem badNum_ints : ∀ {e : List Int} {j : Nat}, (∀ x ∈ e, 0 ≤ x) → badNum j (e.map PyData.int) = none
  | [], _, _ => rfl
  | x :: e, j, h => by
    show (if numB (.int x) = true then badNum (j + 1) (e.map PyData.int) else some j) = none
    rw [if_pos (show numB (.int x) = true from decide_eq_true (h x List.mem_cons_self))]
    exact badNum_ints fun y hy => h y (List.mem_cons_of_mem _ hy)
theorem ints_back (e : List Int) : (e.map PyData.int).map intOf = e := by
  rw [List.map_map]
  exact List.map_id e
theorem pathFrom_canon {m : Int} (hm : 0 ≤ m) : ∀ {p : Poly} {k : Nat} {bf : Option (List Int)}, Canon m.toNat p → (∀ f, bf = some f → ∀ t ∈ p, HT.lexLt f t.1 = true) → pathFrom m k bf (p.map termD) = none
  | [], _, _, _, _ => rfl
  | t :: p, k, bf, c, h => by
    have hl : ((t.1.map PyData.int).length : Int) = m := by
      rw [List.length_map, c.len t List.mem_cons_self]
      omega
    have nu : notUp bf ((t.1.map PyData.int).map intOf) = false := by
      rw [ints_back]
      cases bf with
      | none => rfl
      | some f =>
        show (!HT.lexLt f t.1) = false
        rw [h f rfl t List.mem_cons_self]
        rfl
    have e : termPath m bf (termD t) = none := by
      show termPath m bf (.tuple [.tuple (t.1.map PyData.int), .int t.2]) = none
      refine termPath_es hl ?_
      rw [badNum_ints (c.nn t List.mem_cons_self)]
      dsimp only
      rw [nu, if_neg (by decide), if_pos (show okCoef (.int t.2) = true from decide_eq_true (c.nz t List.mem_cons_self))]
    show (match termPath m bf (termD t) with
      | some p => some ((k : Int) :: p)
      | none => pathFrom m (k + 1) (some (expsOf (termD t))) (p.map termD)) = none
    rw [e]
    refine pathFrom_canon hm c.tail fun f hf u hu => ?_
    have ef : f = t.1 := by
      have z : expsOf (termD t) = f := Option.some.inj hf
      rw [← z]
      exact ints_back t.1
    rw [ef]
    exact (List.pairwise_cons.mp c.up).1 u hu
theorem polyPath_canon {m : Int} {p : Poly} (hm : 0 ≤ m) (c : Canon m.toNat p) : polyPath m (polyD p) = none := pathFrom_canon hm c fun f h => by cases h
theorem termPath_bd {m : Int} {bf : Option (List Int)} {d : PyData} {q : List Int} (hm : m ≤ 10) (h : termPath m bf d = some q) : ∀ x ∈ q, 0 ≤ x ∧ x ≤ 10 := by
  cases two : tupOf d 2 with
  | false =>
    rw [tupOf_no two] at h
    cases h
    exact fun x hx => nomatch hx
  | true =>
    obtain ⟨a, b, rfl⟩ := tupOf_two two
    have h : expPath m bf b a = some q := h
    have o0 : ∀ x ∈ ([0] : List Int), 0 ≤ x ∧ x ≤ 10 := by decide
    cases tm : tupOf a m with
    | false =>
      rw [tupOf_noexp tm] at h
      cases h
      exact o0
    | true =>
      obtain ⟨es, rfl, hl⟩ := tupOf_exp tm
      have h : (if (es.length : Int) = m then _ else _) = some q := h
      rw [if_pos hl] at h
      cases hb : badNum 0 es with
      | some j =>
        rw [hb] at h
        cases h
        have := (badNum_at hb).2.1
        intro x hx
        simp only [List.mem_cons, List.not_mem_nil, or_false] at hx
        rcases hx with z | z <;> omega
      | none =>
        rw [hb] at h
        dsimp only at h
        split at h
        · cases h
          exact o0
        · split at h <;> cases h
          decide
theorem pathFrom_bd {m : Int} (hm : m ≤ 10) : ∀ {ds : List PyData} {k : Nat} {bf : Option (List Int)} {p : List Int}, pathFrom m k bf ds = some p → p.length ≤ 3 ∧ ∀ x ∈ p, 0 ≤ x ∧ x ≤ (k : Int) + (ds.length : Int) + 10
  | [], _, _, _, h => by cases h
  | t :: ds, k, bf, p, h => by
    have h : (match termPath m bf t with
      | some p => some ((k : Int) :: p)
      | none => pathFrom m (k + 1) (some (expsOf t)) ds) = some p := h
    cases e : termPath m bf t with
    | some q =>
      rw [e] at h
      cases h
      have l := termPath_len e
      refine ⟨by rw [List.length_cons]; omega, fun x hx => ?_⟩
      rw [List.length_cons]
      rcases List.mem_cons.mp hx with z | z
      · omega
      · have := termPath_bd hm e x z
        omega
    | none =>
      rw [e] at h
      obtain ⟨h1, h2⟩ := pathFrom_bd hm h
      refine ⟨h1, fun x hx => ?_⟩
      have := h2 x hx
      rw [List.length_cons]
      omega
theorem polyPath_bd {m : Int} {d : PyData} {p : List Int} (hm : m ≤ 10) (h : polyPath m d = some p) : p.length ≤ 3 ∧ ∀ x ∈ p, 0 ≤ x ∧ x ≤ (topLen d : Int) + 10 := by
  cases d with
  | tuple ds =>
    obtain ⟨h1, h2⟩ := pathFrom_bd hm (show pathFrom m 0 none ds = some p from h)
    refine ⟨h1, fun x hx => ?_⟩
    have := h2 x hx
    show 0 ≤ x ∧ x ≤ (ds.length : Int) + 10
    omega
  | _ =>
    have h : some [] = some p := h
    cases h
    exact ⟨by decide, fun x hx => nomatch hx⟩
def pathD : Option (List Int) → PyData
  | none => .list []
  | some p => .list [.tuple (p.map PyData.int)]
theorem PathAt.dr {H : Hp} {r : Addr} : ∀ {o : Option (List Int)}, PathAt H r o → Dr H (.ref r) (pathD o)
  | none, h => .lst h .nil
  | some p, ⟨t, h1, h2⟩ => .lst h1 (.cons (.tup h2 (dr_ints p)) .nil)
theorem PathAt.same {H H' : Hp} {r : Addr} (s : Same H H') : ∀ {o : Option (List Int)}, PathAt H r o → PathAt H' r o
  | none, h => s _ _ h
  | some p, ⟨t, h1, h2⟩ => ⟨t, s _ _ h1, s _ _ h2⟩
theorem path_fd {m : Int} {d : PyData} (hm : m ≤ 10) (ht : topLen d ≤ 13) : Fd 3 700 (pathD (polyPath m d)) := by
  cases h : polyPath m d with
  | none => exact fd_of (by decide +kernel)
  | some p =>
    obtain ⟨h1, h2⟩ := polyPath_bd hm h
    have q := Fd.tup (k := 1) (c := 201) (ds := p.map PyData.int) fun x hx => by
      obtain ⟨n, hn, rfl⟩ := List.mem_map.mp hx
      have := h2 n hn
      exact .of (Fn.int (k := 200) (by decide) (by decide) (by unfold Lt2; omega))
    rw [List.length_map] at q
    refine (Fd.lst (k := 2) (c := 650) (ds := [.tuple (p.map PyData.int)]) fun x hx => ?_).mono (by decide) (Nat.le_of_ble_eq_true rfl)
    rw [List.mem_singleton.mp hx]
    exact q.mono (by decide) (by omega)
end Kx
namespace Kx
open PySem PySem.Spec PyProof.Rows L2
abbrev sLaw : Stmt := topS 22
abbrev nmL : List Str := ["script", "source", "lap", "m", "p", "some", "value", "kept", "many", "late", "told", "look"]
structure BltL (mg : Str → Option Value) : Prop where
  rng : mg "range" = none
  rep : mg "repr" = none
def spLaw (K : PySem.W.Frag) : Sp := fun vs H Q _ => ∃ (b : Addr) (ns : List Int), vs = [.ref b] ∧ SqL K H b (ns.map V.int) ∧ ns.length ≤ 63 ∧ (∀ z ∈ ns, Builtin.Int.intBits z ≤ 1048576) ∧ ∀ H', Q (.bl true) H'
theorem cutP_gen {N N' : Addr → Prop} {H H' : Hp} (h : ∀ b o, H b = some o → ¬ N b → H' b = some o ∧ ¬ N' b) : Same (cutP N H) (cutP N' H') := fun b o e => let ⟨x, y⟩ := cutP_some e; let ⟨u, v⟩ := h b o x y; cutP_at u v
theorem Val.gen {k c n : Nat} {N N' : Addr → Prop} {H H' : Hp} {v : V} (h : Val k c n N H v) (q : ∀ b o, H b = some o → ¬ N b → H' b = some o ∧ ¬ N' b) : Val k c n N' H' v := let ⟨D, a, x, e⟩ := h; ⟨D, a.same (cutP_gen q), x, e⟩
/-- the source and one list -/
def nD (d l D : Addr) : Addr → Prop := fun z => z = d ∨ z = l ∨ z = D
theorem nD_no {d l D b : Addr} (h : ¬ nD d l D b) : b ≠ d ∧ b ≠ l ∧ b ≠ D := ⟨fun z => h (.inl z), fun z => h (.inr (.inl z)), fun z => h (.inr (.inr z))⟩
theorem nD_of {d l D b : Addr} (h1 : b ≠ d) (h2 : b ≠ l) (h3 : b ≠ D) : ¬ nD d l D b := fun z => by
  rcases z with z | z | z
  · exact h1 z
  · exact h2 z
  · exact h3 z
theorem SrcAt.updD {d l D : Addr} {H : Hp} {o : HO} (S : SrcAt H d l) (n1 : D ≠ d) (n2 : D ≠ l) : SrcAt (upd H D o) d l :=
  let ⟨cs, a, m, t, S⟩ := S; ⟨cs, a, m, t, (upd_ne n1.symm).trans S.dc, (upd_ne n2.symm).trans S.ls, S.c0, S.few, S.a0, S.m0, S.t0⟩
theorem But.updD {d l D : Addr} {H H' : Hp} {o : HO} (B : But d l H H') (n : H D = none) : But d l H (upd H' D o) := fun b x e n1 n2 => (upd_ne (ne_of_none e n)).trans (B b x e n1 n2)
theorem poly_vp {N : Addr → Prop} {H : Hp} (hN : ∀ b xs, H b = some (.tup xs) → ¬ N b) {a : Addr} {p : Poly} (h : PolyAt H a p) (q : Pb p) : VP N H (.ref a) := by
  obtain ⟨ts, h1, h2⟩ := h
  have key : ∀ {ts : List Addr} {p : Poly}, Paired (TermAt H) ts p → (∀ t ∈ p, t.1.length ≤ 4 ∧ (∀ x ∈ t.1, Lt2 100 x) ∧ Lt2 150 t.2) → ∀ v ∈ ts.map V.ref, VT N H v := by
    intro ts p hp
    induction hp with
    | nil => exact fun _ => all_nil
    | cons ht r ih =>
      intro h
      obtain ⟨b, g1, g2⟩ := ht
      obtain ⟨q1, q2, q3⟩ := h _ List.mem_cons_self
      exact all_cons (vtT (all_cons (vmT (mono_ve q2) (cutP_at g2 (hN _ _ g2)) (by rw [List.length_map]; omega)) (all_cons (VE.m (Val.int (q3.mono (by decide)))) all_nil)) (cutP_at g1 (hN _ _ g1)) (by show 2 ≤ 3; decide)) (ih fun t ht => h t (List.mem_cons_of_mem _ ht))
  have e : (ts.map V.ref).length ≤ 6 := by rw [List.length_map, Paired.length h2]; exact q.l
  exact vpT (key h2 q.e) (cutP_at h1 (hN _ _ h1)) (by omega)
theorem paired_app {α β : Type} {F : α → β → Prop} : ∀ {a c : List α} {b d : List β}, Paired F a b → Paired F c d → Paired F (a ++ c) (b ++ d)
  | _, _, _, _, .nil, h => h
  | _, _, _, _, .cons x t, h => .cons x (paired_app t h)
theorem paired_rev {α β : Type} {F : α → β → Prop} : ∀ {a : List α} {b : List β}, Paired F a b → Paired F a.reverse b.reverse
  | _, _, .nil => .nil
  | _, _, .cons x t => by
    rw [List.reverse_cons, List.reverse_cons]
    exact paired_app (paired_rev t) (.cons x .nil)
theorem Pb.rev {p : Poly} (h : Pb p) : Pb p.reverse := ⟨by rw [List.length_reverse]; exact h.l, fun t ht => h.e t (List.mem_reverse.mp ht)⟩
theorem pb_of {m : Int} {p : Poly} (m4 : m ≤ 4) (c : Canon m.toNat p) (s : Small 4 9 p) (l : p.length ≤ 6) : Pb p := ⟨l, fun t ht => ⟨by rw [c.len t ht]; omega, fun x hx => by
  have h0 := c.nn t ht x hx
  have h1 := (s t ht).2 x hx
  unfold Lt2
  omega, by
  have h1 := (s t ht).1
  unfold Lt2
  omega⟩⟩
theorem strF2 {a b : Str} (h : a = b) : (!decide (V.str a = V.str b)) = false := by
  rw [h, decide_eq_true rfl]
  rfl
/-- path lists, apart from the list D that holds them -/
def RsAt (H : Hp) (D : Addr) (rs : List Addr) (os : List (Option (List Int))) : Prop := H D = some (.lst (rs.map V.ref)) ∧ Paired (fun r o => PathAt H r o ∧ r ≠ D) rs os
theorem rs_all {H : Hp} {D : Addr} : ∀ {rs : List Addr} {os : List (Option (List Int))}, Paired (fun r o => PathAt H r o ∧ r ≠ D) rs os → DrAll H (rs.map V.ref) (os.map pathD)
  | _, _, .nil => .nil
  | _, _, .cons h t => .cons h.1.dr (rs_all t)
theorem PathAt.upd {H : Hp} {D r : Addr} {ys zs : List V} (hD : H D = some (.lst ys)) : ∀ {o : Option (List Int)}, PathAt H r o → r ≠ D → PathAt (upd H D (.lst zs)) r o
  | none, h, n => (upd_ne n).trans h
  | some p, ⟨t, h1, h2⟩, n => ⟨t, (upd_ne n).trans h1, (upd_ne (ne_of h2 hD (by intro z; cases z))).trans h2⟩
section
variable {P : Program} {w : World} {K : PySem.W.Frag} {mg : Str → Option Value} {base : Heap} {f : Addr} {fd : FuncData}
theorem scLaw : FnScope nmL ["script"] (defScope sLaw) := ⟨rfl, rfl, rfl, by decide +kernel, rfl, by decide +kernel, by decide +kernel⟩
set_option maxHeartbeats 0 in
theorem ok_law (F : L2.Fun K "law" "law" sLaw f fd) (T : BltL mg)
    (dSrc : Def P w K mg base 1 "_law_source" ["script"] (spSource K)) (dPick : Def P w K mg base 1 "_law_pick" ["source", "many"] spPickW)
    (dDraw : Def P w K mg base 3 "_law_draw_poly" ["source", "m", "terms", "degree", "size"] spDrawP) (dOdd : Def P w K mg base 3 "_law_odd" ["source"] spOdd) (dBent : Def P w K mg base 4 "_law_bent" ["source", "p"] spBent)
    (dLP : Def P w K mg base 5 "_law_path" ["m", "value"] spLPP) (dLPP : Def P w K mg base 1 "_law_poly_path" ["m", "value"] spLPP) :
    FnG P w K mg base CX0 6 f fd ["script"] (spLaw K) := by
  refine okG F scLaw (fun vs H Q E h => ?_) (fun cdv A outer s H vs Q E hG hr h => ?_)
  · obtain ⟨b, ns, rfl, _⟩ := h
    rfl
  · obtain ⟨bs, ns, rfl, hS, hl, hz, fin⟩ := h
    have hu : (A.deeper (envOfC "law" (defScope sLaw) s.heap.objs.size f cdv)).units + 66 < cLine := by have := hr.un; omega
    have hu4 : (A.deeper (envOfC "law" (defScope sLaw) s.heap.objs.size f cdv)).units + 64 < cLine := by omega
    have r1 : Room 1 (A.deeper (envOfC "law" (defScope sLaw) s.heap.objs.size f cdv)) := hr.mono (by decide)
    have r3 : Room 3 (A.deeper (envOfC "law" (defScope sLaw) s.heap.objs.size f cdv)) := hr.mono (by decide)
    have r4 : Room 4 (A.deeper (envOfC "law" (defScope sLaw) s.heap.objs.size f cdv)) := hr.mono (by decide)
    have r5 : Room 5 (A.deeper (envOfC "law" (defScope sLaw) s.heap.objs.size f cdv)) := hr
    have nd := scLaw.nd
    refine ⟨_, pss_cons (ps_set (i := 1) nd rfl (.inr rfl) (pe_callD dSrc r1 (by rfl) (pa_cons (pv 0) pa_nil)))
      (Evl.pss_cut (ps_for PassesOwn.never rfl (pi_range1 rfl T.rng (pa_cons pe_int pa_nil)) (pg_name (i := 2) nd rfl (.inl rfl))
        (Evl.pss_cut (ps_set (i := 3) nd rfl (.inl rfl) (pe_callD dPick r1 (by rfl) (pa_cons (pv 1) (pa_cons pe_int pa_nil))))
        (Evl.pss_cut (ps_set (i := 4) nd rfl (.inr rfl) (pe_callD dDraw r3 (by rfl) (pa_cons (pv 1) (pa_cons (pv 3) (pa_cons pe_int (pa_cons pe_int (pa_cons pe_int pa_nil)))))))
        (Evl.pss_cut (ps_set (i := 5) nd rfl (.inl rfl) (pe_op op_cat (pe_lst (pa_cons (pv 4) (pa_cons (pe_tup pa_nil) (pa_cons (pe_callD dOdd r3 (by rfl) (pa_cons (pv 1) pa_nil)) pa_nil)))) (pe_lc (own := [("look", 11)]) (g := gName 11) rfl nd (pi_range1 rfl T.rng (pa_cons pe_int pa_nil)) (blkOk_by (N := nmL) (sc := defScope sLaw) (by decide +kernel)) (fun _ _ _ _ _ => pg_name (i := 11) nd rfl (.inl rfl)) (fun _ _ _ _ _ => pts_nil) (fun _ _ _ _ _ => (pe_callD dBent r4 (by rfl) (pa_cons (pv 1) (pa_cons (pv 4) pa_nil)))))))
        (Evl.pss_cut (ps_set (i := 5) nd rfl (.inl rfl) (pe_op op_cat (pv 5) (pe_lc (own := [("look", 11)]) (g := gName 11) rfl nd (pi_range1 rfl T.rng (pa_cons pe_int pa_nil)) (blkOk_by (N := nmL) (sc := defScope sLaw) (by decide +kernel)) (fun _ _ _ _ _ => pg_name (i := 11) nd rfl (.inl rfl)) (fun _ _ _ _ _ => pts_nil) (fun _ _ _ _ _ => (pe_callD dBent r4 (by rfl) (pa_cons (pv 1) (pa_cons (show PE _ _ (tRevT K (tVar 4)) from pe_revT (pv 4)) pa_nil)))))))
        (Evl.pss_cut (ps_for PassesOwn.never rfl (pi_list (pv 5)) (pg_name (i := 6) nd rfl (.inl rfl))
          (pss_cons (ps_set (i := 7) nd rfl (.inl rfl) (pe_callB (call_showR hG hu) (by rfl) T.rep (by decide +kernel) (pa_cons (pv 6) pa_nil)))
          (pss_one (ps_for PassesOwn.never rfl (pi_tup (pe_tup (pa_cons (pv 3) (pa_cons (pe_op op_add (pv 3) pe_int) pa_nil)))) (pg_name (i := 8) nd rfl (.inl rfl))
            (pss_one (ps_if (PW.pt (pw_or (pt_cmpR op_ne (pe_callB (call_showR hG hu) (by rfl) T.rep (by decide +kernel) (pa_cons (pe_callD dLP r5 (by rfl) (pa_cons (pv 8) (pa_cons (pv 6) pa_nil))) pa_nil)) (pe_callB (call_showR hG hu) (by rfl) T.rep (by decide +kernel) (pa_cons (pe_callD dLPP r1 (by rfl) (pa_cons (pv 8) (pa_cons (pv 6) pa_nil))) pa_nil)) (nomark _)) (pw_or1 (pt_cmpR op_ne (pe_callB (call_showR hG hu) (by rfl) T.rep (by decide +kernel) (pa_cons (pv 6) pa_nil)) (pv 7) (nomark _))))) (pss_one (ps_ret pe_bl)) pss_nil))))))
        (pss_one (ps_if (pt_cmpR (op_neD hu4) (pe_callD dLP r5 (by rfl) (pa_cons (pv 3) (pa_cons (pv 4) pa_nil))) (pe_lst pa_nil) (nomark _)) (pss_one (ps_ret pe_bl)) pss_nil))))))))
      (pss_cons (ps_set (i := 5) nd rfl (.inl rfl) (pe_lst (pa_cons (pe_tup (pa_cons (pe_tup (pa_cons (pe_tup (pa_cons pe_int (pa_cons pe_int pa_nil))) (pa_cons (pe_un un_neg pe_int) pa_nil))) (pa_cons (pe_tup (pa_cons (pe_tup (pa_cons pe_int (pa_cons pe_int pa_nil))) (pa_cons pe_int pa_nil))) (pa_cons (pe_tup (pa_cons (pe_tup (pa_cons pe_int (pa_cons pe_int pa_nil))) (pa_cons pe_int pa_nil))) pa_nil)))) (pa_cons (pe_tup (pa_cons (pe_tup (pa_cons (pe_tup (pa_cons pe_int (pa_cons pe_int pa_nil))) (pa_cons pe_int pa_nil))) (pa_cons (pe_tup (pa_cons (pe_tup (pa_cons pe_int (pa_cons pe_int pa_nil))) (pa_cons (pe_un un_neg pe_int) pa_nil))) pa_nil))) pa_nil))))
      (pss_cons (ps_set (i := 5) nd rfl (.inl rfl) (pe_op op_cat (pv 5) (pe_lst (pa_cons (pe_tup (pa_cons (pe_tup (pa_cons (pe_tup (pa_cons pe_int (pa_cons pe_int pa_nil))) (pa_cons pe_int pa_nil))) pa_nil)) (pa_cons (pe_tup (pa_cons (pe_tup (pa_cons (pe_tup (pa_cons pe_int (pa_cons (pe_un un_neg pe_int) pa_nil))) (pa_cons pe_int pa_nil))) pa_nil)) (pa_cons (pe_tup (pa_cons (pe_tup (pa_cons (pe_tup (pa_cons pe_int (pa_cons pe_int pa_nil))) pa_nil)) pa_nil)) pa_nil))))))
      (pss_cons (ps_set (i := 9) nd rfl (.inl rfl) (pe_lst (pa_cons (pe_tup (pa_cons (pe_tup (pa_cons (pe_tup (pa_cons pe_int pa_nil)) (pa_cons pe_int pa_nil))) (pa_cons (pe_tup (pa_cons (pe_tup (pa_cons pe_int pa_nil)) (pa_cons pe_int pa_nil))) pa_nil))) (pa_cons (pe_tup (pa_cons (pe_tup (pa_cons (pe_tup (pa_cons pe_int pa_nil)) (pa_cons pe_int pa_nil))) (pa_cons (pe_tup (pa_cons (pe_tup (pa_cons pe_int pa_nil)) (pa_cons pe_int pa_nil))) (pa_cons pe_int pa_nil)))) (pa_cons (pe_tup (pa_cons (pe_tup (pa_cons (pe_tup (pa_cons (pe_op op_pow pe_int pe_int) pa_nil)) (pa_cons pe_int pa_nil))) pa_nil)) (pa_cons (pe_tup (pa_cons (pe_tup (pa_cons (pe_tup (pa_cons pe_int pa_nil)) (pa_cons pe_int pa_nil))) (pa_cons pe_int pa_nil))) pa_nil))))))
      (Evl.pss_cut (ps_if (pt_cmpR op_ne (pe_callB (call_showR hG hu) (by rfl) T.rep (by decide +kernel) (pa_cons (pe_lc (own := [("value", 6)]) (g := gName 6) rfl nd (pi_list (pv 9)) (blkOk_by (N := nmL) (sc := defScope sLaw) (by decide +kernel)) (fun _ _ _ _ _ => pg_name (i := 6) nd rfl (.inl rfl)) (fun _ _ _ _ _ => pts_nil) (fun _ _ _ _ _ => (pe_callD dLP r5 (by rfl) (pa_cons pe_int (pa_cons (pv 6) pa_nil))))) pa_nil)) (pe_callB (call_showR hG hu) (by rfl) T.rep (by decide +kernel) (pa_cons (pe_lst (pa_cons (pe_lst (pa_cons (pe_tup (pa_cons pe_int (pa_cons pe_int pa_nil))) pa_nil)) (pa_cons (pe_lst (pa_cons (pe_tup (pa_cons pe_int (pa_cons pe_int pa_nil))) pa_nil)) (pa_cons (pe_lst pa_nil) (pa_cons (pe_lst (pa_cons (pe_tup (pa_cons pe_int (pa_cons pe_int pa_nil))) pa_nil)) pa_nil))))) pa_nil)) (nomark _)) (pss_one (ps_ret pe_bl)) pss_nil)
      (pss_cons (ps_set (i := 10) nd rfl (.inl rfl) (pe_op op_cat (pe_lc (own := [("value", 6)]) (g := gName 6) rfl nd (pi_list (pv 5)) (blkOk_by (N := nmL) (sc := defScope sLaw) (by decide +kernel)) (fun _ _ _ _ _ => pg_name (i := 6) nd rfl (.inl rfl)) (fun _ _ _ _ _ => pts_nil) (fun _ _ _ _ _ => (pe_callD dLP r5 (by rfl) (pa_cons pe_int (pa_cons (pv 6) pa_nil))))) (pe_lst (pa_cons (pe_callD dLP r5 (by rfl) (pa_cons pe_int (pa_cons (pe_tup (pa_cons (pe_tup (pa_cons (pe_tup pa_nil) (pa_cons pe_int pa_nil))) pa_nil)) pa_nil))) (pa_cons (pe_callD dLP r5 (by rfl) (pa_cons pe_int (pa_cons (pe_tup (pa_cons (pe_tup (pa_cons (pe_tup pa_nil) (pa_cons pe_int pa_nil))) (pa_cons (pe_tup (pa_cons (pe_tup pa_nil) (pa_cons pe_int pa_nil))) pa_nil))) pa_nil))) pa_nil)))))
      (pss_one (ps_ret (pe_cmpR op_eq (pe_callB (call_showR hG hu) (by rfl) T.rep (by decide +kernel) (pa_cons (pv 10) pa_nil)) (pe_callB (call_showR hG hu) (by rfl) T.rep (by decide +kernel) (pa_cons (pe_lst (pa_cons (pe_lst pa_nil) (pa_cons (pe_lst (pa_cons (pe_tup (pa_cons pe_int (pa_cons pe_int pa_nil))) pa_nil)) (pa_cons (pe_lst (pa_cons (pe_tup (pa_cons pe_int (pa_cons pe_int pa_nil))) pa_nil)) (pa_cons (pe_lst (pa_cons (pe_tup (pa_cons pe_int (pa_cons pe_int (pa_cons pe_int pa_nil)))) pa_nil)) (pa_cons (pe_lst (pa_cons (pe_tup (pa_cons pe_int pa_nil)) pa_nil)) (pa_cons (pe_lst pa_nil) (pa_cons (pe_lst (pa_cons (pe_tup (pa_cons pe_int (pa_cons pe_int pa_nil))) pa_nil)) pa_nil)))))))) pa_nil)) (nomark _)))))))))) , ?_⟩
    refine ⟨_, rfl, bs, ns, rfl, hS, hl, hz, fun d l H1 hd hl' s1 S1 => ?_⟩
    refine ⟨fun σ H' => ∃ o2 o3 o4 o5 o6 o7 o8 o9 o10 o11 : Option V, σ = [some (.ref bs), some (.ref d), o2, o3, o4, o5, o6, o7, o8, o9, o10, o11], ⟨6, rfl, by decide, by decide, for_range (lo := 0) (n := 6) (fun i σ H' => ∃ o2 o3 o4 o5 o6 o7 o8 o9 o10 o11 : Option V, σ = [some (.ref bs), some (.ref d), o2, o3, o4, o5, o6, o7, o8, o9, o10, o11] ∧ SrcAt H' d l)
      ⟨_, _, _, _, _, _, _, _, _, _, rfl, S1⟩ ?_ (fun σ H' ⟨o2, o3, o4, o5, o6, o7, o8, o9, o10, o11, e, _⟩ => ⟨o2, o3, o4, o5, o6, o7, o8, o9, o10, o11, e⟩)⟩, ?_⟩
    · rintro i σ H0 hi ⟨o2, o3, o4, o5, o6, o7, o8, o9, o10, o11, rfl, S⟩
      -- m
      refine ⟨fun σ H' => ∃ (m : Int) (o2 o4 o5 o6 o7 o8 o9 o10 o11 : Option V), σ = [some (.ref bs), some (.ref d), o2, some (.int m), o4, o5, o6, o7, o8, o9, o10, o11] ∧ 0 ≤ m ∧ m ≤ 4 ∧ SrcAt H' d l, ?_, ?_⟩
      · exact ⟨_, rfl, d, l, 5, rfl, S, by decide, fun m H' m0 ml S' B' => ⟨m, _, _, _, _, _, _, _, _, _, rfl, m0, by omega, S'⟩⟩
      rintro σ H1 ⟨m, o2, o4, o5, o6, o7, o8, o9, o10, o11, rfl, m0, m4, S1⟩
      clear S
      -- p
      refine ⟨fun σ H' => ∃ (ap : Addr) (p : Poly) (o2 o5 o6 o7 o8 o9 o10 o11 : Option V), σ = [some (.ref bs), some (.ref d), o2, some (.int m), some (.ref ap), o5, o6, o7, o8, o9, o10, o11] ∧ SrcAt H' d l ∧ PolyAt H' ap p ∧ Canon m.toNat p ∧ Pb p, ?_, ?_⟩
      · exact ⟨_, rfl, _, rfl, d, l, m, 6, 4, 9, rfl, S1, m0, by omega, by decide, by decide, by decide, by decide, by decide, by decide, fun ap p H' cn sm ln S' B' pa' => ⟨ap, p, _, _, _, _, _, _, _, _, rfl, S', pa', cn, pb_of m4 cn sm (by omega)⟩⟩
      rintro σ H2 ⟨ap, p, o2, o5, o6, o7, o8, o9, o10, o11, rfl, S2, pa, cp, pb⟩
      clear S1
      -- some
      refine ⟨fun σ H' => ∃ (ls : Addr) (xs : List V) (o2 o6 o7 o8 o9 o10 o11 : Option V), σ = [some (.ref bs), some (.ref d), o2, some (.int m), some (.ref ap), some (.ref ls), o6, o7, o8, o9, o10, o11] ∧ SrcAt H' d l ∧ PolyAt H' ap p ∧ H' ls = some (.lst xs) ∧ ls ≠ d ∧ ls ≠ l ∧ xs.length = 13 ∧ ∀ v ∈ xs, VP (nD d l ls) H' v, ?_, ?_⟩
      · refine ⟨_, rfl, lt_size (Nat.le_of_ble_eq_true rfl), fun t1 n1 => ?_⟩
        have s1 := same_new (o := .tup []) n1
        have h1 : upd H2 t1 (.tup []) t1 = some (.tup []) := upd_same
        generalize upd H2 t1 (.tup []) = H3 at s1 h1 ⊢
        have S3 := S2.same s1
        refine ⟨_, rfl, d, l, rfl, S3, fun v2 H4 w2 S4 B4 => ⟨lt_size (Nat.le_of_ble_eq_true rfl), fun t3 n3 => ?_⟩⟩
        have B24 := (But.of (d := d) (l := l) s1).trans B4
        have h1' := B4 _ _ h1 (S3.nt h1).1 (S3.nt h1).2
        have s3 := same_new (o := .lst [.ref ap, .ref t1, v2]) n3
        have h3 : upd H4 t3 (.lst [.ref ap, .ref t1, v2]) t3 = some (.lst [.ref ap, .ref t1, v2]) := upd_same
        have y3 := S4.nd n3
        generalize upd H4 t3 (.lst [.ref ap, .ref t1, v2]) = H5 at s3 h3 ⊢
        have S5 := S4.same s3
        have h1'' := s3 _ _ h1'
        have pa5 := (pa.tups (Tups.but S2 B24)).same s3
        refine ⟨10, rfl, by decide, by decide, fun D hD => lc_range (lo := 0) (n := 10) (fun j H' => ∃ ys, ys.length = j ∧ H' D = some (.lst ys) ∧ (∀ v ∈ ys, VP (nD d l D) H' v) ∧ SrcAt H' d l ∧ But d l H5 H')
          ⟨[], rfl, upd_same, all_nil, S5.same (same_new hD), But.of (same_new hD)⟩ ?_ ?_⟩
        · rintro j H' hj ⟨ys, yl, hy, yv, Sj, Bj⟩
          have yD := S5.nd hD
          refine ⟨rfl, _, rfl, _, rfl, d, l, ap, p, rfl, Sj, pa5.tups (Tups.but S5 Bj), pb, fun v H6 w6 S6 B6 => ?_⟩
          have hy6 := B6 _ _ hy yD.1 yD.2
          refine ⟨ys, hy6, ?_, ys ++ [v], by rw [List.length_append, yl]; rfl, upd_same, all_app (fun u hu => (yv u hu).gen fun b o e n => ?_) (all_cons (w6.gen fun b o e n => ?_) all_nil), S6.updD yD.1 yD.2, (Bj.trans B6).updD hD⟩
          · rw [yl]; exact small1000 (by omega)
          · obtain ⟨a1, a2, a3⟩ := nD_no n
            exact ⟨(upd_ne a3).trans (B6 b o e a1 a2), n⟩
          · have a3 : b ≠ D := fun z => n (z ▸ ⟨_, hy, fun xs z => by cases z⟩)
            exact ⟨(upd_ne a3).trans e, nD_of (fun z => n (z ▸ old_d Sj)) (fun z => n (z ▸ old_l Sj)) a3⟩
        · rintro H' ⟨ys, yl, hy, yv, Sj, Bj⟩
          refine ⟨t3, D, _, _, rfl, rfl, Bj _ _ h3 y3.1 y3.2, hy, by rw [yl]; exact lt_size (Nat.le_of_ble_eq_true rfl), fun t nt => ?_⟩
          have st := same_new (o := .lst ([.ref ap, .ref t1, v2] ++ ys)) nt
          have ht : upd H' t (.lst ([.ref ap, .ref t1, v2] ++ ys)) t = some (.lst ([.ref ap, .ref t1, v2] ++ ys)) := upd_same
          have yt := Sj.nd nt
          generalize upd H' t (.lst ([.ref ap, .ref t1, v2] ++ ys)) = HF at st ht ⊢
          have SF := Sj.same st
          have paF := (pa5.tups (Tups.but S5 Bj)).same st
          have tN : ∀ b xs, HF b = some (.tup xs) → ¬ nD d l t b := fun b xs e => nD_of (SF.nt e).1 (SF.nt e).2 (ne_of e ht (by intro z; cases z))
          have tF : HF t1 = some (.tup []) := st _ _ (Bj _ _ h1'' (S5.nt h1'').1 (S5.nt h1'').2)
          refine ⟨t, [.ref ap, .ref t1, v2] ++ ys, _, _, _, _, _, _, _, rfl, SF, paF, ht, yt.1, yt.2, by rw [List.length_append, yl]; rfl, ?_⟩
          refine all_app (all_cons (poly_vp tN paF pb) (all_cons (vpT all_nil (cutP_at tF (tN _ _ tF)) (Nat.zero_le _)) (all_cons ((Val.mono w2 (by decide) (by decide) (by decide) : VP _ _ _).gen fun b o e n => ?_) all_nil))) (fun u hu => (yv u hu).gen fun b o e n => ?_)
          · have a1 : b ≠ d := fun z => n (z ▸ old_d S3)
            have a2 : b ≠ l := fun z => n (z ▸ old_l S3)
            have e' := Bj b o (s3 b o e) a1 a2
            exact ⟨st b o e', nD_of a1 a2 (ne_of_none e' nt)⟩
          · obtain ⟨a1, a2, a3⟩ := nD_no n
            exact ⟨st b o e, nD_of a1 a2 (ne_of_none e nt)⟩
      rintro σ H3 ⟨ls, xs, o2, o6, o7, o8, o9, o10, o11, rfl, S3, pa, hls, n1, n2, xl, xv⟩
      clear S2
      -- some, more
      refine ⟨fun σ H' => ∃ (ls : Addr) (xs : List V) (o2 o6 o7 o8 o9 o10 o11 : Option V), σ = [some (.ref bs), some (.ref d), o2, some (.int m), some (.ref ap), some (.ref ls), o6, o7, o8, o9, o10, o11] ∧ SrcAt H' d l ∧ PolyAt H' ap p ∧ H' ls = some (.lst xs) ∧ ls ≠ d ∧ ls ≠ l ∧ xs.length = 16 ∧ ∀ v ∈ xs, VP (nD d l ls) H' v, ?_, ?_⟩
      · refine ⟨_, rfl, 3, rfl, by decide, by decide, fun D hD => lc_range (lo := 0) (n := 3) (fun j H' => ∃ ys, ys.length = j ∧ H' D = some (.lst ys) ∧ (∀ v ∈ ys, VP (nD d l D) H' v) ∧ SrcAt H' d l ∧ But d l H3 H')
          ⟨[], rfl, upd_same, all_nil, S3.same (same_new hD), But.of (same_new hD)⟩ ?_ ?_⟩
        · rintro j H' hj ⟨ys, yl, hy, yv, Sj, Bj⟩
          have yD := S3.nd hD
          obtain ⟨ts, g1, g2⟩ := pa.tups (Tups.but S3 Bj)
          refine ⟨rfl, _, rfl, _, rfl, ap, _, rfl, SqT.of g1, fun t nt => ?_⟩
          have st := same_new (o := .tup (ts.map V.ref).reverse) nt
          have ht : upd H' t (.tup (ts.map V.ref).reverse) t = some (.tup (ts.map V.ref).reverse) := upd_same
          generalize upd H' t (.tup (ts.map V.ref).reverse) = H5 at st ht ⊢
          have S5 := Sj.same st
          refine ⟨d, l, t, p.reverse, rfl, S5, ⟨ts.reverse, by rw [List.map_reverse]; exact ht, paired_rev (Paired.mono (fun _ _ z => z.tups (Tups.of st)) g2)⟩, pb.rev, fun v H6 w6 S6 B6 => ?_⟩
          have B56 := (But.of (d := d) (l := l) st).trans B6
          have hy6 := B56 _ _ hy yD.1 yD.2
          refine ⟨ys, hy6, ?_, ys ++ [v], by rw [List.length_append, yl]; rfl, upd_same, all_app (fun u hu => (yv u hu).gen fun b o e n => ?_) (all_cons (w6.gen fun b o e n => ?_) all_nil), S6.updD yD.1 yD.2, (Bj.trans B56).updD hD⟩
          · rw [yl]; exact small1000 (by omega)
          · obtain ⟨a1, a2, a3⟩ := nD_no n
            exact ⟨(upd_ne a3).trans (B56 b o e a1 a2), n⟩
          · have a3 : b ≠ D := fun z => n (z ▸ ⟨_, st _ _ hy, fun xs z => by cases z⟩)
            exact ⟨(upd_ne a3).trans e, nD_of (fun z => n (z ▸ old_d S5)) (fun z => n (z ▸ old_l S5)) a3⟩
        · rintro H' ⟨ys, yl, hy, yv, Sj, Bj⟩
          refine ⟨ls, D, _, _, rfl, rfl, Bj _ _ hls n1 n2, hy, by rw [xl, yl]; exact lt_size (Nat.le_of_ble_eq_true rfl), fun t nt => ?_⟩
          have st := same_new (o := .lst (xs ++ ys)) nt
          have ht : upd H' t (.lst (xs ++ ys)) t = some (.lst (xs ++ ys)) := upd_same
          have yt := Sj.nd nt
          generalize upd H' t (.lst (xs ++ ys)) = HF at st ht ⊢
          refine ⟨t, xs ++ ys, _, _, _, _, _, _, _, rfl, Sj.same st, (pa.tups (Tups.but S3 Bj)).same st, ht, yt.1, yt.2, by rw [List.length_append, xl, yl], ?_⟩
          refine all_app (fun u hu => (xv u hu).gen fun b o e n => ?_) (fun u hu => (yv u hu).gen fun b o e n => ?_)
          · obtain ⟨a1, a2, a3⟩ := nD_no n
            have e' := Bj b o e a1 a2
            exact ⟨st b o e', nD_of a1 a2 (ne_of_none e' nt)⟩
          · obtain ⟨a1, a2, a3⟩ := nD_no n
            exact ⟨st b o e, nD_of a1 a2 (ne_of_none e nt)⟩
      clear S3 pa hls n1 n2 xl xv
      rintro σ H3 ⟨ls, xs, o2, o6, o7, o8, o9, o10, o11, rfl, S3, pa, hls, n1, n2, xl, xv⟩
      -- each value
      refine ⟨fun σ H' => ∃ o2 o5 o6 o7 o8 o9 o10 o11 : Option V, σ = [some (.ref bs), some (.ref d), o2, some (.int m), some (.ref ap), o5, o6, o7, o8, o9, o10, o11] ∧ Same H3 H', ?_, ?_⟩
      · refine ⟨_, rfl, ls, rfl, ⟨_, SqL.of hls⟩, for_list (K := K) (a := ls) (xs := xs) (fun i σ H' => ∃ o2 o6 o7 o8 o9 o10 o11 : Option V, σ = [some (.ref bs), some (.ref d), o2, some (.int m), some (.ref ap), some (.ref ls), o6, o7, o8, o9, o10, o11] ∧ Same H3 H')
          ⟨_, _, _, _, _, _, _, rfl, fun _ _ e => e⟩ (fun i σ H' _ ⟨o2, o6, o7, o8, o9, o10, o11, _, s'⟩ => SqL.of (s' _ _ hls)) ?_ (fun σ H' ⟨o2, o6, o7, o8, o9, o10, o11, e, s'⟩ => ⟨o2, some (.ref ls), o6, o7, o8, o9, o10, o11, e, s'⟩)⟩
        rintro i x σ H4 hx ⟨o2, o6, o7, o8, o9, o10, o11, rfl, s4⟩
        obtain ⟨D, hD, fD, tD⟩ := xv x (List.mem_of_getElem? hx)
        have hD4 : ∀ {H' : Hp}, Same H4 H' → Dr H' x D := fun s => hD.same (cutP_sub.trans (s4.trans s))
        refine ⟨_, rfl, x, D, rfl, hD4 (fun _ _ e => e), Nat.le_trans fD.dep (by decide), fD.sh, Nat.le_trans fD.len (by rw [sizeLine_eq]; decide), ?_⟩
        obtain ⟨TX, hTX⟩ : ∃ TX, D.shown = TX := ⟨_, rfl⟩
        rw [hTX]
        refine ⟨_, rfl, _, rfl, _, _, rfl, rfl, lt_size (Nat.le_of_ble_eq_true rfl), fun t nt => ⟨t, rfl, ⟨_, SqT.of upd_same⟩, ?_⟩⟩
        have st := same_new (o := .tup [.int m, .int (m + 1)]) nt
        have ht : upd H4 t (.tup [.int m, .int (m + 1)]) t = some (.tup [.int m, .int (m + 1)]) := upd_same
        generalize upd H4 t (.tup [.int m, .int (m + 1)]) = H5 at st ht ⊢
        refine for_it walk_tup (fun j σ H' => ∃ o2 o8 o9 o10 o11 : Option V, σ = [some (.ref bs), some (.ref d), o2, some (.int m), some (.ref ap), some (.ref ls), some x, some (.str TX), o8, o9, o10, o11] ∧ Same H5 H') ⟨_, _, _, _, _, rfl, fun _ _ e => e⟩ (fun j σ H' _ ⟨_, _, _, _, _, _, s'⟩ => SqT.of (s' _ _ ht)) ?_ ?_
        · rintro j y σ H6 H7 hj ⟨o2, o8, o9, o10, o11, rfl, s6⟩ ⟨rfl, ey⟩
          obtain ⟨mm, rfl, mm0, mm10⟩ : ∃ mm : Int, y = V.int mm ∧ 0 ≤ mm ∧ mm ≤ 10 := by
            have hm := List.mem_of_getElem? ey
            simp only [List.mem_cons, List.not_mem_nil, or_false] at hm
            rcases hm with z | z
            · exact ⟨m, z, m0, by omega⟩
            · exact ⟨m + 1, z, by omega, by omega⟩
          have fp := path_fd (d := D) mm10 tD
          have s56 := st.trans s6
          refine ⟨_, rfl, _, rfl, mm, x, D, rfl, hD4 s56, fun r1 H8 _ s8 p1 => ?_⟩
          refine ⟨_, _, rfl, p1.dr, Nat.le_trans fp.dep (by decide), fp.sh, Nat.le_trans fp.len (by rw [sizeLine_eq]; decide), ?_⟩
          refine ⟨_, rfl, _, rfl, mm, x, D, rfl, hD4 (s56.trans s8), fun r2 H9 _ s9 p2 => ?_⟩
          refine ⟨_, _, rfl, p2.dr, Nat.le_trans fp.dep (by decide), fp.sh, Nat.le_trans fp.len (by rw [sizeLine_eq]; decide), rfl, _, rfl, iteF' (strF2 rfl) ?_⟩
          refine ⟨_, rfl, x, D, rfl, hD4 ((s56.trans s8).trans s9), Nat.le_trans fD.dep (by decide), fD.sh, Nat.le_trans fD.len (by rw [sizeLine_eq]; decide), _, rfl, rfl, _, rfl, iteF' (strF2 hTX) ?_⟩
          exact ⟨_, _, _, _, _, rfl, s6.trans (s8.trans s9)⟩
        · rintro σ H6 ⟨o2, o8, o9, o10, o11, rfl, s6⟩
          exact ⟨_, _, _, _, _, _, _, rfl, s4.trans (st.trans s6)⟩
      -- the polynomial itself
      rintro σ H4 ⟨o2, o5, o6, o7, o8, o9, o10, o11, rfl, s4⟩
      have pn := polyPath_canon m0 cp
      refine ⟨_, rfl, _, rfl, m, .ref ap, polyD p, rfl, (pa.same s4).dr, fun r H5 _ s5 p5 => ⟨lt_size (Nat.le_of_ble_eq_true rfl), fun t nt => ?_⟩⟩
      rw [pn] at p5
      have p5 : H5 r = some (.lst []) := p5
      have st := same_new (o := .lst []) nt
      refine ⟨.list [], .list [], .lst (SqL.of (st _ _ p5)) .nil, .lst (SqL.of upd_same) .nil, by decide, by decide, _, rfl, iteF' rfl ?_⟩
      exact ⟨_, _, _, _, _, _, _, _, _, _, rfl, S3.same (s4.trans (s5.trans st))⟩
    -- the examples
    rintro σ H ⟨o2, o3, o4, o5, o6, o7, o8, o9, o10, o11, rfl⟩
    clear S1 hS hd hl' s1 hl hz
    refine ⟨lt_size (Nat.le_of_ble_eq_true rfl), fun te1 ne1 => ?_⟩
    have se1 := same_new (o := .tup [.int 0, .int 1]) ne1
    have he1 : upd H te1 (.tup [.int 0, .int 1]) te1 = some (.tup [.int 0, .int 1]) := upd_same
    generalize upd H te1 (.tup [.int 0, .int 1]) = He1 at se1 he1 ⊢
    refine ⟨_, rfl, lt_size (Nat.le_of_ble_eq_true rfl), fun te2 ne2 => ?_⟩
    have se2 := same_new (o := .tup [.ref te1, .int (-2)]) ne2
    have he2 : upd He1 te2 (.tup [.ref te1, .int (-2)]) te2 = some (.tup [.ref te1, .int (-2)]) := upd_same
    generalize upd He1 te2 (.tup [.ref te1, .int (-2)]) = He2 at se2 he2 ⊢
    refine ⟨lt_size (Nat.le_of_ble_eq_true rfl), fun te3 ne3 => ?_⟩
    have se3 := same_new (o := .tup [.int 1, .int 0]) ne3
    have he3 : upd He2 te3 (.tup [.int 1, .int 0]) te3 = some (.tup [.int 1, .int 0]) := upd_same
    generalize upd He2 te3 (.tup [.int 1, .int 0]) = He3 at se3 he3 ⊢
    refine ⟨lt_size (Nat.le_of_ble_eq_true rfl), fun te4 ne4 => ?_⟩
    have se4 := same_new (o := .tup [.ref te3, .int 3]) ne4
    have he4 : upd He3 te4 (.tup [.ref te3, .int 3]) te4 = some (.tup [.ref te3, .int 3]) := upd_same
    generalize upd He3 te4 (.tup [.ref te3, .int 3]) = He4 at se4 he4 ⊢
    refine ⟨lt_size (Nat.le_of_ble_eq_true rfl), fun te5 ne5 => ?_⟩
    have se5 := same_new (o := .tup [.int 1, .int 1]) ne5
    have he5 : upd He4 te5 (.tup [.int 1, .int 1]) te5 = some (.tup [.int 1, .int 1]) := upd_same
    generalize upd He4 te5 (.tup [.int 1, .int 1]) = He5 at se5 he5 ⊢
    refine ⟨lt_size (Nat.le_of_ble_eq_true rfl), fun te6 ne6 => ?_⟩
    have se6 := same_new (o := .tup [.ref te5, .int 1]) ne6
    have he6 : upd He5 te6 (.tup [.ref te5, .int 1]) te6 = some (.tup [.ref te5, .int 1]) := upd_same
    generalize upd He5 te6 (.tup [.ref te5, .int 1]) = He6 at se6 he6 ⊢
    refine ⟨lt_size (Nat.le_of_ble_eq_true rfl), fun te7 ne7 => ?_⟩
    have se7 := same_new (o := .tup [.ref te2, .ref te4, .ref te6]) ne7
    have he7 : upd He6 te7 (.tup [.ref te2, .ref te4, .ref te6]) te7 = some (.tup [.ref te2, .ref te4, .ref te6]) := upd_same
    generalize upd He6 te7 (.tup [.ref te2, .ref te4, .ref te6]) = He7 at se7 he7 ⊢
    refine ⟨lt_size (Nat.le_of_ble_eq_true rfl), fun te8 ne8 => ?_⟩
    have se8 := same_new (o := .tup [.int 1, .int 0]) ne8
    have he8 : upd He7 te8 (.tup [.int 1, .int 0]) te8 = some (.tup [.int 1, .int 0]) := upd_same
    generalize upd He7 te8 (.tup [.int 1, .int 0]) = He8 at se8 he8 ⊢
    refine ⟨lt_size (Nat.le_of_ble_eq_true rfl), fun te9 ne9 => ?_⟩
    have se9 := same_new (o := .tup [.ref te8, .int 3]) ne9
    have he9 : upd He8 te9 (.tup [.ref te8, .int 3]) te9 = some (.tup [.ref te8, .int 3]) := upd_same
    generalize upd He8 te9 (.tup [.ref te8, .int 3]) = He9 at se9 he9 ⊢
    refine ⟨lt_size (Nat.le_of_ble_eq_true rfl), fun te10 ne10 => ?_⟩
    have se10 := same_new (o := .tup [.int 0, .int 1]) ne10
    have he10 : upd He9 te10 (.tup [.int 0, .int 1]) te10 = some (.tup [.int 0, .int 1]) := upd_same
    generalize upd He9 te10 (.tup [.int 0, .int 1]) = He10 at se10 he10 ⊢
    refine ⟨_, rfl, lt_size (Nat.le_of_ble_eq_true rfl), fun te11 ne11 => ?_⟩
    have se11 := same_new (o := .tup [.ref te10, .int (-2)]) ne11
    have he11 : upd He10 te11 (.tup [.ref te10, .int (-2)]) te11 = some (.tup [.ref te10, .int (-2)]) := upd_same
    generalize upd He10 te11 (.tup [.ref te10, .int (-2)]) = He11 at se11 he11 ⊢
    refine ⟨lt_size (Nat.le_of_ble_eq_true rfl), fun te12 ne12 => ?_⟩
    have se12 := same_new (o := .tup [.ref te9, .ref te11]) ne12
    have he12 : upd He11 te12 (.tup [.ref te9, .ref te11]) te12 = some (.tup [.ref te9, .ref te11]) := upd_same
    generalize upd He11 te12 (.tup [.ref te9, .ref te11]) = He12 at se12 he12 ⊢
    refine ⟨lt_size (Nat.le_of_ble_eq_true rfl), fun te13 ne13 => ?_⟩
    have se13 := same_new (o := .lst [.ref te7, .ref te12]) ne13
    have he13 : upd He12 te13 (.lst [.ref te7, .ref te12]) te13 = some (.lst [.ref te7, .ref te12]) := upd_same
    generalize upd He12 te13 (.lst [.ref te7, .ref te12]) = He13 at se13 he13 ⊢
    refine ⟨_, rfl, lt_size (Nat.le_of_ble_eq_true rfl), fun te14 ne14 => ?_⟩
    have se14 := same_new (o := .tup [.int 0, .int 1]) ne14
    have he14 : upd He13 te14 (.tup [.int 0, .int 1]) te14 = some (.tup [.int 0, .int 1]) := upd_same
    generalize upd He13 te14 (.tup [.int 0, .int 1]) = He14 at se14 he14 ⊢
    refine ⟨lt_size (Nat.le_of_ble_eq_true rfl), fun te15 ne15 => ?_⟩
    have se15 := same_new (o := .tup [.ref te14, .int 0]) ne15
    have he15 : upd He14 te15 (.tup [.ref te14, .int 0]) te15 = some (.tup [.ref te14, .int 0]) := upd_same
    generalize upd He14 te15 (.tup [.ref te14, .int 0]) = He15 at se15 he15 ⊢
    refine ⟨lt_size (Nat.le_of_ble_eq_true rfl), fun te16 ne16 => ?_⟩
    have se16 := same_new (o := .tup [.ref te15]) ne16
    have he16 : upd He15 te16 (.tup [.ref te15]) te16 = some (.tup [.ref te15]) := upd_same
    generalize upd He15 te16 (.tup [.ref te15]) = He16 at se16 he16 ⊢
    refine ⟨_, rfl, lt_size (Nat.le_of_ble_eq_true rfl), fun te17 ne17 => ?_⟩
    have se17 := same_new (o := .tup [.int 0, .int (-1)]) ne17
    have he17 : upd He16 te17 (.tup [.int 0, .int (-1)]) te17 = some (.tup [.int 0, .int (-1)]) := upd_same
    generalize upd He16 te17 (.tup [.int 0, .int (-1)]) = He17 at se17 he17 ⊢
    refine ⟨lt_size (Nat.le_of_ble_eq_true rfl), fun te18 ne18 => ?_⟩
    have se18 := same_new (o := .tup [.ref te17, .int 1]) ne18
    have he18 : upd He17 te18 (.tup [.ref te17, .int 1]) te18 = some (.tup [.ref te17, .int 1]) := upd_same
    generalize upd He17 te18 (.tup [.ref te17, .int 1]) = He18 at se18 he18 ⊢
    refine ⟨lt_size (Nat.le_of_ble_eq_true rfl), fun te19 ne19 => ?_⟩
    have se19 := same_new (o := .tup [.ref te18]) ne19
    have he19 : upd He18 te19 (.tup [.ref te18]) te19 = some (.tup [.ref te18]) := upd_same
    generalize upd He18 te19 (.tup [.ref te18]) = He19 at se19 he19 ⊢
    refine ⟨lt_size (Nat.le_of_ble_eq_true rfl), fun te20 ne20 => ?_⟩
    have se20 := same_new (o := .tup [.int 0, .int 1]) ne20
    have he20 : upd He19 te20 (.tup [.int 0, .int 1]) te20 = some (.tup [.int 0, .int 1]) := upd_same
    generalize upd He19 te20 (.tup [.int 0, .int 1]) = He20 at se20 he20 ⊢
    refine ⟨lt_size (Nat.le_of_ble_eq_true rfl), fun te21 ne21 => ?_⟩
    have se21 := same_new (o := .tup [.ref te20]) ne21
    have he21 : upd He20 te21 (.tup [.ref te20]) te21 = some (.tup [.ref te20]) := upd_same
    generalize upd He20 te21 (.tup [.ref te20]) = He21 at se21 he21 ⊢
    refine ⟨lt_size (Nat.le_of_ble_eq_true rfl), fun te22 ne22 => ?_⟩
    have se22 := same_new (o := .tup [.ref te21]) ne22
    have he22 : upd He21 te22 (.tup [.ref te21]) te22 = some (.tup [.ref te21]) := upd_same
    generalize upd He21 te22 (.tup [.ref te21]) = He22 at se22 he22 ⊢
    refine ⟨lt_size (Nat.le_of_ble_eq_true rfl), fun te23 ne23 => ?_⟩
    have se23 := same_new (o := .lst [.ref te16, .ref te19, .ref te22]) ne23
    have he23 : upd He22 te23 (.lst [.ref te16, .ref te19, .ref te22]) te23 = some (.lst [.ref te16, .ref te19, .ref te22]) := upd_same
    generalize upd He22 te23 (.lst [.ref te16, .ref te19, .ref te22]) = He23 at se23 he23 ⊢
    refine ⟨te13, te23, _, _, rfl, rfl, ((se14.trans (se15.trans (se16.trans (se17.trans (se18.trans (se19.trans (se20.trans (se21.trans (se22.trans (se23)))))))))) _ _ he13), he23, lt_size (Nat.le_of_ble_eq_true rfl), fun te24 ne24 => ?_⟩
    have se24 := same_new (o := .lst ([.ref te7, .ref te12] ++ [.ref te16, .ref te19, .ref te22])) ne24
    have he24 : upd He23 te24 (.lst ([.ref te7, .ref te12] ++ [.ref te16, .ref te19, .ref te22])) te24 = some (.lst ([.ref te7, .ref te12] ++ [.ref te16, .ref te19, .ref te22])) := upd_same
    generalize upd He23 te24 (.lst ([.ref te7, .ref te12] ++ [.ref te16, .ref te19, .ref te22])) = He24 at se24 he24 ⊢
    refine ⟨lt_size (Nat.le_of_ble_eq_true rfl), fun te25 ne25 => ?_⟩
    have se25 := same_new (o := .tup [.int 1]) ne25
    have he25 : upd He24 te25 (.tup [.int 1]) te25 = some (.tup [.int 1]) := upd_same
    generalize upd He24 te25 (.tup [.int 1]) = He25 at se25 he25 ⊢
    refine ⟨lt_size (Nat.le_of_ble_eq_true rfl), fun te26 ne26 => ?_⟩
    have se26 := same_new (o := .tup [.ref te25, .int 1]) ne26
    have he26 : upd He25 te26 (.tup [.ref te25, .int 1]) te26 = some (.tup [.ref te25, .int 1]) := upd_same
    generalize upd He25 te26 (.tup [.ref te25, .int 1]) = He26 at se26 he26 ⊢
    refine ⟨lt_size (Nat.le_of_ble_eq_true rfl), fun te27 ne27 => ?_⟩
    have se27 := same_new (o := .tup [.int 0]) ne27
    have he27 : upd He26 te27 (.tup [.int 0]) te27 = some (.tup [.int 0]) := upd_same
    generalize upd He26 te27 (.tup [.int 0]) = He27 at se27 he27 ⊢
    refine ⟨lt_size (Nat.le_of_ble_eq_true rfl), fun te28 ne28 => ?_⟩
    have se28 := same_new (o := .tup [.ref te27, .int 0]) ne28
    have he28 : upd He27 te28 (.tup [.ref te27, .int 0]) te28 = some (.tup [.ref te27, .int 0]) := upd_same
    generalize upd He27 te28 (.tup [.ref te27, .int 0]) = He28 at se28 he28 ⊢
    refine ⟨lt_size (Nat.le_of_ble_eq_true rfl), fun te29 ne29 => ?_⟩
    have se29 := same_new (o := .tup [.ref te26, .ref te28]) ne29
    have he29 : upd He28 te29 (.tup [.ref te26, .ref te28]) te29 = some (.tup [.ref te26, .ref te28]) := upd_same
    generalize upd He28 te29 (.tup [.ref te26, .ref te28]) = He29 at se29 he29 ⊢
    refine ⟨lt_size (Nat.le_of_ble_eq_true rfl), fun te30 ne30 => ?_⟩
    have se30 := same_new (o := .tup [.int 1]) ne30
    have he30 : upd He29 te30 (.tup [.int 1]) te30 = some (.tup [.int 1]) := upd_same
    generalize upd He29 te30 (.tup [.int 1]) = He30 at se30 he30 ⊢
    refine ⟨lt_size (Nat.le_of_ble_eq_true rfl), fun te31 ne31 => ?_⟩
    have se31 := same_new (o := .tup [.ref te30, .int 1]) ne31
    have he31 : upd He30 te31 (.tup [.ref te30, .int 1]) te31 = some (.tup [.ref te30, .int 1]) := upd_same
    generalize upd He30 te31 (.tup [.ref te30, .int 1]) = He31 at se31 he31 ⊢
    refine ⟨lt_size (Nat.le_of_ble_eq_true rfl), fun te32 ne32 => ?_⟩
    have se32 := same_new (o := .tup [.int 0]) ne32
    have he32 : upd He31 te32 (.tup [.int 0]) te32 = some (.tup [.int 0]) := upd_same
    generalize upd He31 te32 (.tup [.int 0]) = He32 at se32 he32 ⊢
    refine ⟨lt_size (Nat.le_of_ble_eq_true rfl), fun te33 ne33 => ?_⟩
    have se33 := same_new (o := .tup [.ref te32, .int 1]) ne33
    have he33 : upd He32 te33 (.tup [.ref te32, .int 1]) te33 = some (.tup [.ref te32, .int 1]) := upd_same
    generalize upd He32 te33 (.tup [.ref te32, .int 1]) = He33 at se33 he33 ⊢
    refine ⟨lt_size (Nat.le_of_ble_eq_true rfl), fun te34 ne34 => ?_⟩
    have se34 := same_new (o := .tup [.ref te31, .ref te33, .int 7]) ne34
    have he34 : upd He33 te34 (.tup [.ref te31, .ref te33, .int 7]) te34 = some (.tup [.ref te31, .ref te33, .int 7]) := upd_same
    generalize upd He33 te34 (.tup [.ref te31, .ref te33, .int 7]) = He34 at se34 he34 ⊢
    refine ⟨_, _, rfl, rfl, ⟨by decide, by decide, by decide⟩, lt_size (Nat.le_of_ble_eq_true rfl), fun te35 ne35 => ?_⟩
    have se35 := same_new (o := .tup [.int (10 ^ (30 : Int).toNat)]) ne35
    have he35 : upd He34 te35 (.tup [.int (10 ^ (30 : Int).toNat)]) te35 = some (.tup [.int (10 ^ (30 : Int).toNat)]) := upd_same
    generalize upd He34 te35 (.tup [.int (10 ^ (30 : Int).toNat)]) = He35 at se35 he35 ⊢
    refine ⟨lt_size (Nat.le_of_ble_eq_true rfl), fun te36 ne36 => ?_⟩
    have se36 := same_new (o := .tup [.ref te35, .int 1]) ne36
    have he36 : upd He35 te36 (.tup [.ref te35, .int 1]) te36 = some (.tup [.ref te35, .int 1]) := upd_same
    generalize upd He35 te36 (.tup [.ref te35, .int 1]) = He36 at se36 he36 ⊢
    refine ⟨lt_size (Nat.le_of_ble_eq_true rfl), fun te37 ne37 => ?_⟩
    have se37 := same_new (o := .tup [.ref te36]) ne37
    have he37 : upd He36 te37 (.tup [.ref te36]) te37 = some (.tup [.ref te36]) := upd_same
    generalize upd He36 te37 (.tup [.ref te36]) = He37 at se37 he37 ⊢
    refine ⟨lt_size (Nat.le_of_ble_eq_true rfl), fun te38 ne38 => ?_⟩
    have se38 := same_new (o := .tup [.int 0]) ne38
    have he38 : upd He37 te38 (.tup [.int 0]) te38 = some (.tup [.int 0]) := upd_same
    generalize upd He37 te38 (.tup [.int 0]) = He38 at se38 he38 ⊢
    refine ⟨lt_size (Nat.le_of_ble_eq_true rfl), fun te39 ne39 => ?_⟩
    have se39 := same_new (o := .tup [.ref te38, .int 0]) ne39
    have he39 : upd He38 te39 (.tup [.ref te38, .int 0]) te39 = some (.tup [.ref te38, .int 0]) := upd_same
    generalize upd He38 te39 (.tup [.ref te38, .int 0]) = He39 at se39 he39 ⊢
    refine ⟨lt_size (Nat.le_of_ble_eq_true rfl), fun te40 ne40 => ?_⟩
    have se40 := same_new (o := .tup [.ref te39, .int 5]) ne40
    have he40 : upd He39 te40 (.tup [.ref te39, .int 5]) te40 = some (.tup [.ref te39, .int 5]) := upd_same
    generalize upd He39 te40 (.tup [.ref te39, .int 5]) = He40 at se40 he40 ⊢
    refine ⟨lt_size (Nat.le_of_ble_eq_true rfl), fun te41 ne41 => ?_⟩
    have se41 := same_new (o := .lst [.ref te29, .ref te34, .ref te37, .ref te40]) ne41
    have he41 : upd He40 te41 (.lst [.ref te29, .ref te34, .ref te37, .ref te40]) te41 = some (.lst [.ref te29, .ref te34, .ref te37, .ref te40]) := upd_same
    generalize upd He40 te41 (.lst [.ref te29, .ref te34, .ref te37, .ref te40]) = He41 at se41 he41 ⊢
    refine ⟨fun σ H' => ∃ o2 o3 o4 o6 o7 o8 o10 o11 : Option V, σ = [some (.ref bs), some (.ref d), o2, o3, o4, some (.ref te24), o6, o7, o8, some (.ref te41), o10, o11] ∧ Same He41 H', ?_, ?_⟩
    · have allL : DrAll He41 [.ref te29, .ref te34, .ref te37, .ref te40] [(.tuple [(.tuple [(.tuple [(.int 1)]), (.int 1)]), (.tuple [(.tuple [(.int 0)]), (.int 0)])]), (.tuple [(.tuple [(.tuple [(.int 1)]), (.int 1)]), (.tuple [(.tuple [(.int 0)]), (.int 1)]), (.int 7)]), (.tuple [(.tuple [(.tuple [(.int (10 ^ (30 : Int).toNat))]), (.int 1)])]), (.tuple [(.tuple [(.tuple [(.int 0)]), (.int 0)]), (.int 5)])] := (.cons (.tup ((se30.trans (se31.trans (se32.trans (se33.trans (se34.trans (se35.trans (se36.trans (se37.trans (se38.trans (se39.trans (se40.trans (se41)))))))))))) _ _ he29) (.cons (.tup ((se27.trans (se28.trans (se29.trans (se30.trans (se31.trans (se32.trans (se33.trans (se34.trans (se35.trans (se36.trans (se37.trans (se38.trans (se39.trans (se40.trans (se41))))))))))))))) _ _ he26) (.cons (.tup ((se26.trans (se27.trans (se28.trans (se29.trans (se30.trans (se31.trans (se32.trans (se33.trans (se34.trans (se35.trans (se36.trans (se37.trans (se38.trans (se39.trans (se40.trans (se41)))))))))))))))) _ _ he25) (.cons (.int 1) .nil)) (.cons (.int 1) .nil))) (.cons (.tup ((se29.trans (se30.trans (se31.trans (se32.trans (se33.trans (se34.trans (se35.trans (se36.trans (se37.trans (se38.trans (se39.trans (se40.trans (se41))))))))))))) _ _ he28) (.cons (.tup ((se28.trans (se29.trans (se30.trans (se31.trans (se32.trans (se33.trans (se34.trans (se35.trans (se36.trans (se37.trans (se38.trans (se39.trans (se40.trans (se41)))))))))))))) _ _ he27) (.cons (.int 0) .nil)) (.cons (.int 0) .nil))) .nil))) (.cons (.tup ((se35.trans (se36.trans (se37.trans (se38.trans (se39.trans (se40.trans (se41))))))) _ _ he34) (.cons (.tup ((se32.trans (se33.trans (se34.trans (se35.trans (se36.trans (se37.trans (se38.trans (se39.trans (se40.trans (se41)))))))))) _ _ he31) (.cons (.tup ((se31.trans (se32.trans (se33.trans (se34.trans (se35.trans (se36.trans (se37.trans (se38.trans (se39.trans (se40.trans (se41))))))))))) _ _ he30) (.cons (.int 1) .nil)) (.cons (.int 1) .nil))) (.cons (.tup ((se34.trans (se35.trans (se36.trans (se37.trans (se38.trans (se39.trans (se40.trans (se41)))))))) _ _ he33) (.cons (.tup ((se33.trans (se34.trans (se35.trans (se36.trans (se37.trans (se38.trans (se39.trans (se40.trans (se41))))))))) _ _ he32) (.cons (.int 0) .nil)) (.cons (.int 1) .nil))) (.cons (.int 7) .nil)))) (.cons (.tup ((se38.trans (se39.trans (se40.trans (se41)))) _ _ he37) (.cons (.tup ((se37.trans (se38.trans (se39.trans (se40.trans (se41))))) _ _ he36) (.cons (.tup ((se36.trans (se37.trans (se38.trans (se39.trans (se40.trans (se41)))))) _ _ he35) (.cons (.int (10 ^ (30 : Int).toNat)) .nil)) (.cons (.int 1) .nil))) .nil)) (.cons (.tup ((se41) _ _ he40) (.cons (.tup ((se40.trans (se41)) _ _ he39) (.cons (.tup ((se39.trans (se40.trans (se41))) _ _ he38) (.cons (.int 0) .nil)) (.cons (.int 0) .nil))) (.cons (.int 5) .nil))) .nil))))
      obtain ⟨dsL, edsL⟩ : ∃ ds : List PyData, [(.tuple [(.tuple [(.tuple [(.int 1)]), (.int 1)]), (.tuple [(.tuple [(.int 0)]), (.int 0)])]), (.tuple [(.tuple [(.tuple [(.int 1)]), (.int 1)]), (.tuple [(.tuple [(.int 0)]), (.int 1)]), (.int 7)]), (.tuple [(.tuple [(.tuple [(.int (10 ^ (30 : Int).toNat))]), (.int 1)])]), (.tuple [(.tuple [(.tuple [(.int 0)]), (.int 0)]), (.int 5)])] = ds := ⟨_, rfl⟩
      rw [edsL] at allL
      refine ⟨_, rfl, te41, rfl, ⟨_, SqL.of he41⟩, fun DL nDL => lc_list (K := K) (a := te41) (xs := [.ref te29, .ref te34, .ref te37, .ref te40]) (fun i H' => ∃ rs, RsAt H' DL rs ((dsL.map (polyPath 1)).take i) ∧ Same He41 H')
        ⟨[], ⟨upd_same, .nil⟩, same_new nDL⟩ (fun i H' _ ⟨rs, _, s'⟩ => SqL.of (s' _ _ he41)) ?_ ?_⟩
      · rintro i x H' hx ⟨rs, ⟨hD', hp⟩, s'⟩
        obtain ⟨dat, hdat, hdr⟩ := dr_get allL hx
        refine ⟨rfl, _, rfl, 1, x, dat, rfl, hdr.same s', fun r H2 nr s2 p2 => ⟨rs.map V.ref, s2 _ _ hD', ?_, rs ++ [r], ⟨?_, ?_⟩, fun b o e => (upd_ne (ne_of_none e nDL)).trans (s2 _ _ (s' _ _ e))⟩⟩
        · rw [List.length_map, Paired.length hp, List.length_take, List.length_map]
          refine Nat.lt_of_le_of_lt (Nat.min_le_right _ _) ?_
          rw [← edsL]
          exact small1000 (by decide)
        · rw [upd_same, List.map_append]; rfl
        · rw [List.take_add_one, List.getElem?_map, hdat]
          exact paired_app (Paired.mono (fun _ _ z => ⟨(z.1.same s2).upd (s2 _ _ hD') z.2, z.2⟩) hp) (.cons ⟨p2.upd (s2 _ _ hD') (ne_of_none hD' nr).symm, (ne_of_none hD' nr).symm⟩ .nil)
      rintro HL ⟨rsL, ⟨hDL, hpL⟩, sL⟩
      rw [← edsL] at hpL
      obtain ⟨dl, el, fL, drL⟩ : ∃ dl : PyData, dl = (.list [.list [.tuple [.int 1, .int 0]], .list [.tuple [.int 1, .int 0]], .list [], .list [.tuple [.int 0, .int 1]]] : PyData) ∧ Fd 10 1000 dl ∧ Dr HL (.ref DL) dl := ⟨(.list (([(.tuple [(.tuple [(.tuple [(.int 1)]), (.int 1)]), (.tuple [(.tuple [(.int 0)]), (.int 0)])]), (.tuple [(.tuple [(.tuple [(.int 1)]), (.int 1)]), (.tuple [(.tuple [(.int 0)]), (.int 1)]), (.int 7)]), (.tuple [(.tuple [(.tuple [(.int (10 ^ (30 : Int).toNat))]), (.int 1)])]), (.tuple [(.tuple [(.tuple [(.int 0)]), (.int 0)]), (.int 5)])].map (polyPath 1)).map pathD)), by kernel_rfl, by rw [show ((.list (([(.tuple [(.tuple [(.tuple [(.int 1)]), (.int 1)]), (.tuple [(.tuple [(.int 0)]), (.int 0)])]), (.tuple [(.tuple [(.tuple [(.int 1)]), (.int 1)]), (.tuple [(.tuple [(.int 0)]), (.int 1)]), (.int 7)]), (.tuple [(.tuple [(.tuple [(.int (10 ^ (30 : Int).toNat))]), (.int 1)])]), (.tuple [(.tuple [(.tuple [(.int 0)]), (.int 0)]), (.int 5)])].map (polyPath 1)).map pathD)) : PyData) = (.list [.list [.tuple [.int 1, .int 0]], .list [.tuple [.int 1, .int 0]], .list [], .list [.tuple [.int 0, .int 1]]] : PyData) by kernel_rfl]; exact fd_of (by decide +kernel), .lst hDL (rs_all hpL)⟩
      refine ⟨.ref DL, dl, rfl, drL, Nat.le_trans fL.dep (by decide), fL.sh, Nat.le_trans fL.len (by rw [sizeLine_eq]; decide), ?_⟩
      refine ⟨lt_size (Nat.le_of_ble_eq_true rfl), fun te43 ne43 => ?_⟩
      have se43 := same_new (o := .tup [.int 1, .int 0]) ne43
      have he43 : upd HL te43 (.tup [.int 1, .int 0]) te43 = some (.tup [.int 1, .int 0]) := upd_same
      generalize upd HL te43 (.tup [.int 1, .int 0]) = He43 at se43 he43 ⊢
      refine ⟨lt_size (Nat.le_of_ble_eq_true rfl), fun te44 ne44 => ?_⟩
      have se44 := same_new (o := .lst [.ref te43]) ne44
      have he44 : upd He43 te44 (.lst [.ref te43]) te44 = some (.lst [.ref te43]) := upd_same
      generalize upd He43 te44 (.lst [.ref te43]) = He44 at se44 he44 ⊢
      refine ⟨lt_size (Nat.le_of_ble_eq_true rfl), fun te45 ne45 => ?_⟩
      have se45 := same_new (o := .tup [.int 1, .int 0]) ne45
      have he45 : upd He44 te45 (.tup [.int 1, .int 0]) te45 = some (.tup [.int 1, .int 0]) := upd_same
      generalize upd He44 te45 (.tup [.int 1, .int 0]) = He45 at se45 he45 ⊢
      refine ⟨lt_size (Nat.le_of_ble_eq_true rfl), fun te46 ne46 => ?_⟩
      have se46 := same_new (o := .lst [.ref te45]) ne46
      have he46 : upd He45 te46 (.lst [.ref te45]) te46 = some (.lst [.ref te45]) := upd_same
      generalize upd He45 te46 (.lst [.ref te45]) = He46 at se46 he46 ⊢
      refine ⟨lt_size (Nat.le_of_ble_eq_true rfl), fun te47 ne47 => ?_⟩
      have se47 := same_new (o := .lst []) ne47
      have he47 : upd He46 te47 (.lst []) te47 = some (.lst []) := upd_same
      generalize upd He46 te47 (.lst []) = He47 at se47 he47 ⊢
      refine ⟨lt_size (Nat.le_of_ble_eq_true rfl), fun te48 ne48 => ?_⟩
      have se48 := same_new (o := .tup [.int 0, .int 1]) ne48
      have he48 : upd He47 te48 (.tup [.int 0, .int 1]) te48 = some (.tup [.int 0, .int 1]) := upd_same
      generalize upd He47 te48 (.tup [.int 0, .int 1]) = He48 at se48 he48 ⊢
      refine ⟨lt_size (Nat.le_of_ble_eq_true rfl), fun te49 ne49 => ?_⟩
      have se49 := same_new (o := .lst [.ref te48]) ne49
      have he49 : upd He48 te49 (.lst [.ref te48]) te49 = some (.lst [.ref te48]) := upd_same
      generalize upd He48 te49 (.lst [.ref te48]) = He49 at se49 he49 ⊢
      refine ⟨lt_size (Nat.le_of_ble_eq_true rfl), fun te50 ne50 => ?_⟩
      have se50 := same_new (o := .lst [.ref te44, .ref te46, .ref te47, .ref te49]) ne50
      have he50 : upd He49 te50 (.lst [.ref te44, .ref te46, .ref te47, .ref te49]) te50 = some (.lst [.ref te44, .ref te46, .ref te47, .ref te49]) := upd_same
      generalize upd He49 te50 (.lst [.ref te44, .ref te46, .ref te47, .ref te49]) = He50 at se50 he50 ⊢
      obtain ⟨dd, ed, fD, drD⟩ : ∃ dd : PyData, dd = (.list [.list [.tuple [.int 1, .int 0]], .list [.tuple [.int 1, .int 0]], .list [], .list [.tuple [.int 0, .int 1]]] : PyData) ∧ Fd 10 1000 dd ∧ Dr He50 (.ref te50) dd := ⟨(.list [(.list [(.tuple [(.int 1), (.int 0)])]), (.list [(.tuple [(.int 1), (.int 0)])]), (.list []), (.list [(.tuple [(.int 0), (.int 1)])])]), rfl, fd_of (by decide +kernel), .lst he50 (.cons (.lst ((se45.trans (se46.trans (se47.trans (se48.trans (se49.trans (se50)))))) _ _ he44) (.cons (.tup ((se44.trans (se45.trans (se46.trans (se47.trans (se48.trans (se49.trans (se50))))))) _ _ he43) (.cons (.int 1) (.cons (.int 0) .nil))) .nil)) (.cons (.lst ((se47.trans (se48.trans (se49.trans (se50)))) _ _ he46) (.cons (.tup ((se46.trans (se47.trans (se48.trans (se49.trans (se50))))) _ _ he45) (.cons (.int 1) (.cons (.int 0) .nil))) .nil)) (.cons (.lst ((se48.trans (se49.trans (se50))) _ _ he47) .nil) (.cons (.lst ((se50) _ _ he49) (.cons (.tup ((se49.trans (se50)) _ _ he48) (.cons (.int 0) (.cons (.int 1) .nil))) .nil)) .nil))))⟩
      refine ⟨.ref te50, dd, rfl, drD, Nat.le_trans fD.dep (by decide), fD.sh, Nat.le_trans fD.len (by rw [sizeLine_eq]; decide), rfl, _, rfl, iteF' (strF2 (by rw [el, ed])) ?_⟩
      exact ⟨_, _, _, _, _, _, _, _, rfl, (sL.trans (se43.trans (se44.trans (se45.trans (se46.trans (se47.trans (se48.trans (se49.trans (se50)))))))))⟩
    rintro σ HM ⟨o2, o3, o4, o6, o7, o8, o10, o11, rfl, sM⟩
    have allS : DrAll HM ([.ref te7, .ref te12] ++ [.ref te16, .ref te19, .ref te22]) [(.tuple [(.tuple [(.tuple [(.int 0), (.int 1)]), (.int (-2))]), (.tuple [(.tuple [(.int 1), (.int 0)]), (.int 3)]), (.tuple [(.tuple [(.int 1), (.int 1)]), (.int 1)])]), (.tuple [(.tuple [(.tuple [(.int 1), (.int 0)]), (.int 3)]), (.tuple [(.tuple [(.int 0), (.int 1)]), (.int (-2))])]), (.tuple [(.tuple [(.tuple [(.int 0), (.int 1)]), (.int 0)])]), (.tuple [(.tuple [(.tuple [(.int 0), (.int (-1))]), (.int 1)])]), (.tuple [(.tuple [(.tuple [(.int 0), (.int 1)])])])] := (.cons (.tup ((se8.trans (se9.trans (se10.trans (se11.trans (se12.trans (se13.trans (se14.trans (se15.trans (se16.trans (se17.trans (se18.trans (se19.trans (se20.trans (se21.trans (se22.trans (se23.trans (se24.trans (se25.trans (se26.trans (se27.trans (se28.trans (se29.trans (se30.trans (se31.trans (se32.trans (se33.trans (se34.trans (se35.trans (se36.trans (se37.trans (se38.trans (se39.trans (se40.trans (se41.trans (sM))))))))))))))))))))))))))))))))))) _ _ he7) (.cons (.tup ((se3.trans (se4.trans (se5.trans (se6.trans (se7.trans (se8.trans (se9.trans (se10.trans (se11.trans (se12.trans (se13.trans (se14.trans (se15.trans (se16.trans (se17.trans (se18.trans (se19.trans (se20.trans (se21.trans (se22.trans (se23.trans (se24.trans (se25.trans (se26.trans (se27.trans (se28.trans (se29.trans (se30.trans (se31.trans (se32.trans (se33.trans (se34.trans (se35.trans (se36.trans (se37.trans (se38.trans (se39.trans (se40.trans (se41.trans (sM)))))))))))))))))))))))))))))))))))))))) _ _ he2) (.cons (.tup ((se2.trans (se3.trans (se4.trans (se5.trans (se6.trans (se7.trans (se8.trans (se9.trans (se10.trans (se11.trans (se12.trans (se13.trans (se14.trans (se15.trans (se16.trans (se17.trans (se18.trans (se19.trans (se20.trans (se21.trans (se22.trans (se23.trans (se24.trans (se25.trans (se26.trans (se27.trans (se28.trans (se29.trans (se30.trans (se31.trans (se32.trans (se33.trans (se34.trans (se35.trans (se36.trans (se37.trans (se38.trans (se39.trans (se40.trans (se41.trans (sM))))))))))))))))))))))))))))))))))))))))) _ _ he1) (.cons (.int 0) (.cons (.int 1) .nil))) (.cons (.int (-2)) .nil))) (.cons (.tup ((se5.trans (se6.trans (se7.trans (se8.trans (se9.trans (se10.trans (se11.trans (se12.trans (se13.trans (se14.trans (se15.trans (se16.trans (se17.trans (se18.trans (se19.trans (se20.trans (se21.trans (se22.trans (se23.trans (se24.trans (se25.trans (se26.trans (se27.trans (se28.trans (se29.trans (se30.trans (se31.trans (se32.trans (se33.trans (se34.trans (se35.trans (se36.trans (se37.trans (se38.trans (se39.trans (se40.trans (se41.trans (sM)))))))))))))))))))))))))))))))))))))) _ _ he4) (.cons (.tup ((se4.trans (se5.trans (se6.trans (se7.trans (se8.trans (se9.trans (se10.trans (se11.trans (se12.trans (se13.trans (se14.trans (se15.trans (se16.trans (se17.trans (se18.trans (se19.trans (se20.trans (se21.trans (se22.trans (se23.trans (se24.trans (se25.trans (se26.trans (se27.trans (se28.trans (se29.trans (se30.trans (se31.trans (se32.trans (se33.trans (se34.trans (se35.trans (se36.trans (se37.trans (se38.trans (se39.trans (se40.trans (se41.trans (sM))))))))))))))))))))))))))))))))))))))) _ _ he3) (.cons (.int 1) (.cons (.int 0) .nil))) (.cons (.int 3) .nil))) (.cons (.tup ((se7.trans (se8.trans (se9.trans (se10.trans (se11.trans (se12.trans (se13.trans (se14.trans (se15.trans (se16.trans (se17.trans (se18.trans (se19.trans (se20.trans (se21.trans (se22.trans (se23.trans (se24.trans (se25.trans (se26.trans (se27.trans (se28.trans (se29.trans (se30.trans (se31.trans (se32.trans (se33.trans (se34.trans (se35.trans (se36.trans (se37.trans (se38.trans (se39.trans (se40.trans (se41.trans (sM)))))))))))))))))))))))))))))))))))) _ _ he6) (.cons (.tup ((se6.trans (se7.trans (se8.trans (se9.trans (se10.trans (se11.trans (se12.trans (se13.trans (se14.trans (se15.trans (se16.trans (se17.trans (se18.trans (se19.trans (se20.trans (se21.trans (se22.trans (se23.trans (se24.trans (se25.trans (se26.trans (se27.trans (se28.trans (se29.trans (se30.trans (se31.trans (se32.trans (se33.trans (se34.trans (se35.trans (se36.trans (se37.trans (se38.trans (se39.trans (se40.trans (se41.trans (sM))))))))))))))))))))))))))))))))))))) _ _ he5) (.cons (.int 1) (.cons (.int 1) .nil))) (.cons (.int 1) .nil))) .nil)))) (.cons (.tup ((se13.trans (se14.trans (se15.trans (se16.trans (se17.trans (se18.trans (se19.trans (se20.trans (se21.trans (se22.trans (se23.trans (se24.trans (se25.trans (se26.trans (se27.trans (se28.trans (se29.trans (se30.trans (se31.trans (se32.trans (se33.trans (se34.trans (se35.trans (se36.trans (se37.trans (se38.trans (se39.trans (se40.trans (se41.trans (sM)))))))))))))))))))))))))))))) _ _ he12) (.cons (.tup ((se10.trans (se11.trans (se12.trans (se13.trans (se14.trans (se15.trans (se16.trans (se17.trans (se18.trans (se19.trans (se20.trans (se21.trans (se22.trans (se23.trans (se24.trans (se25.trans (se26.trans (se27.trans (se28.trans (se29.trans (se30.trans (se31.trans (se32.trans (se33.trans (se34.trans (se35.trans (se36.trans (se37.trans (se38.trans (se39.trans (se40.trans (se41.trans (sM))))))))))))))))))))))))))))))))) _ _ he9) (.cons (.tup ((se9.trans (se10.trans (se11.trans (se12.trans (se13.trans (se14.trans (se15.trans (se16.trans (se17.trans (se18.trans (se19.trans (se20.trans (se21.trans (se22.trans (se23.trans (se24.trans (se25.trans (se26.trans (se27.trans (se28.trans (se29.trans (se30.trans (se31.trans (se32.trans (se33.trans (se34.trans (se35.trans (se36.trans (se37.trans (se38.trans (se39.trans (se40.trans (se41.trans (sM)))))))))))))))))))))))))))))))))) _ _ he8) (.cons (.int 1) (.cons (.int 0) .nil))) (.cons (.int 3) .nil))) (.cons (.tup ((se12.trans (se13.trans (se14.trans (se15.trans (se16.trans (se17.trans (se18.trans (se19.trans (se20.trans (se21.trans (se22.trans (se23.trans (se24.trans (se25.trans (se26.trans (se27.trans (se28.trans (se29.trans (se30.trans (se31.trans (se32.trans (se33.trans (se34.trans (se35.trans (se36.trans (se37.trans (se38.trans (se39.trans (se40.trans (se41.trans (sM))))))))))))))))))))))))))))))) _ _ he11) (.cons (.tup ((se11.trans (se12.trans (se13.trans (se14.trans (se15.trans (se16.trans (se17.trans (se18.trans (se19.trans (se20.trans (se21.trans (se22.trans (se23.trans (se24.trans (se25.trans (se26.trans (se27.trans (se28.trans (se29.trans (se30.trans (se31.trans (se32.trans (se33.trans (se34.trans (se35.trans (se36.trans (se37.trans (se38.trans (se39.trans (se40.trans (se41.trans (sM)))))))))))))))))))))))))))))))) _ _ he10) (.cons (.int 0) (.cons (.int 1) .nil))) (.cons (.int (-2)) .nil))) .nil))) (.cons (.tup ((se17.trans (se18.trans (se19.trans (se20.trans (se21.trans (se22.trans (se23.trans (se24.trans (se25.trans (se26.trans (se27.trans (se28.trans (se29.trans (se30.trans (se31.trans (se32.trans (se33.trans (se34.trans (se35.trans (se36.trans (se37.trans (se38.trans (se39.trans (se40.trans (se41.trans (sM)))))))))))))))))))))))))) _ _ he16) (.cons (.tup ((se16.trans (se17.trans (se18.trans (se19.trans (se20.trans (se21.trans (se22.trans (se23.trans (se24.trans (se25.trans (se26.trans (se27.trans (se28.trans (se29.trans (se30.trans (se31.trans (se32.trans (se33.trans (se34.trans (se35.trans (se36.trans (se37.trans (se38.trans (se39.trans (se40.trans (se41.trans (sM))))))))))))))))))))))))))) _ _ he15) (.cons (.tup ((se15.trans (se16.trans (se17.trans (se18.trans (se19.trans (se20.trans (se21.trans (se22.trans (se23.trans (se24.trans (se25.trans (se26.trans (se27.trans (se28.trans (se29.trans (se30.trans (se31.trans (se32.trans (se33.trans (se34.trans (se35.trans (se36.trans (se37.trans (se38.trans (se39.trans (se40.trans (se41.trans (sM)))))))))))))))))))))))))))) _ _ he14) (.cons (.int 0) (.cons (.int 1) .nil))) (.cons (.int 0) .nil))) .nil)) (.cons (.tup ((se20.trans (se21.trans (se22.trans (se23.trans (se24.trans (se25.trans (se26.trans (se27.trans (se28.trans (se29.trans (se30.trans (se31.trans (se32.trans (se33.trans (se34.trans (se35.trans (se36.trans (se37.trans (se38.trans (se39.trans (se40.trans (se41.trans (sM))))))))))))))))))))))) _ _ he19) (.cons (.tup ((se19.trans (se20.trans (se21.trans (se22.trans (se23.trans (se24.trans (se25.trans (se26.trans (se27.trans (se28.trans (se29.trans (se30.trans (se31.trans (se32.trans (se33.trans (se34.trans (se35.trans (se36.trans (se37.trans (se38.trans (se39.trans (se40.trans (se41.trans (sM)))))))))))))))))))))))) _ _ he18) (.cons (.tup ((se18.trans (se19.trans (se20.trans (se21.trans (se22.trans (se23.trans (se24.trans (se25.trans (se26.trans (se27.trans (se28.trans (se29.trans (se30.trans (se31.trans (se32.trans (se33.trans (se34.trans (se35.trans (se36.trans (se37.trans (se38.trans (se39.trans (se40.trans (se41.trans (sM))))))))))))))))))))))))) _ _ he17) (.cons (.int 0) (.cons (.int (-1)) .nil))) (.cons (.int 1) .nil))) .nil)) (.cons (.tup ((se23.trans (se24.trans (se25.trans (se26.trans (se27.trans (se28.trans (se29.trans (se30.trans (se31.trans (se32.trans (se33.trans (se34.trans (se35.trans (se36.trans (se37.trans (se38.trans (se39.trans (se40.trans (se41.trans (sM)))))))))))))))))))) _ _ he22) (.cons (.tup ((se22.trans (se23.trans (se24.trans (se25.trans (se26.trans (se27.trans (se28.trans (se29.trans (se30.trans (se31.trans (se32.trans (se33.trans (se34.trans (se35.trans (se36.trans (se37.trans (se38.trans (se39.trans (se40.trans (se41.trans (sM))))))))))))))))))))) _ _ he21) (.cons (.tup ((se21.trans (se22.trans (se23.trans (se24.trans (se25.trans (se26.trans (se27.trans (se28.trans (se29.trans (se30.trans (se31.trans (se32.trans (se33.trans (se34.trans (se35.trans (se36.trans (se37.trans (se38.trans (se39.trans (se40.trans (se41.trans (sM)))))))))))))))))))))) _ _ he20) (.cons (.int 0) (.cons (.int 1) .nil))) .nil)) .nil)) .nil)))))
    obtain ⟨dsS, edsS⟩ : ∃ ds : List PyData, [(.tuple [(.tuple [(.tuple [(.int 0), (.int 1)]), (.int (-2))]), (.tuple [(.tuple [(.int 1), (.int 0)]), (.int 3)]), (.tuple [(.tuple [(.int 1), (.int 1)]), (.int 1)])]), (.tuple [(.tuple [(.tuple [(.int 1), (.int 0)]), (.int 3)]), (.tuple [(.tuple [(.int 0), (.int 1)]), (.int (-2))])]), (.tuple [(.tuple [(.tuple [(.int 0), (.int 1)]), (.int 0)])]), (.tuple [(.tuple [(.tuple [(.int 0), (.int (-1))]), (.int 1)])]), (.tuple [(.tuple [(.tuple [(.int 0), (.int 1)])])])] = ds := ⟨_, rfl⟩
    rw [edsS] at allS
    refine ⟨_, rfl, te24, rfl, ⟨_, SqL.of ((se25.trans (se26.trans (se27.trans (se28.trans (se29.trans (se30.trans (se31.trans (se32.trans (se33.trans (se34.trans (se35.trans (se36.trans (se37.trans (se38.trans (se39.trans (se40.trans (se41.trans (sM)))))))))))))))))) _ _ he24)⟩, fun DS nDS => lc_list (K := K) (a := te24) (xs := ([.ref te7, .ref te12] ++ [.ref te16, .ref te19, .ref te22])) (fun i H' => ∃ rs, RsAt H' DS rs ((dsS.map (polyPath 2)).take i) ∧ Same HM H')
      ⟨[], ⟨upd_same, .nil⟩, same_new nDS⟩ (fun i H' _ ⟨rs, _, s'⟩ => SqL.of (s' _ _ ((se25.trans (se26.trans (se27.trans (se28.trans (se29.trans (se30.trans (se31.trans (se32.trans (se33.trans (se34.trans (se35.trans (se36.trans (se37.trans (se38.trans (se39.trans (se40.trans (se41.trans (sM)))))))))))))))))) _ _ he24))) ?_ ?_⟩
    · rintro i x H' hx ⟨rs, ⟨hD', hp⟩, s'⟩
      obtain ⟨dat, hdat, hdr⟩ := dr_get allS hx
      refine ⟨rfl, _, rfl, 2, x, dat, rfl, hdr.same s', fun r H2 nr s2 p2 => ⟨rs.map V.ref, s2 _ _ hD', ?_, rs ++ [r], ⟨?_, ?_⟩, fun b o e => (upd_ne (ne_of_none e nDS)).trans (s2 _ _ (s' _ _ e))⟩⟩
      · rw [List.length_map, Paired.length hp, List.length_take, List.length_map]
        refine Nat.lt_of_le_of_lt (Nat.min_le_right _ _) ?_
        rw [← edsS]
        exact small1000 (by decide)
      · rw [upd_same, List.map_append]; rfl
      · rw [List.take_add_one, List.getElem?_map, hdat]
        exact paired_app (Paired.mono (fun _ _ z => ⟨(z.1.same s2).upd (s2 _ _ hD') z.2, z.2⟩) hp) (.cons ⟨p2.upd (s2 _ _ hD') (ne_of_none hD' nr).symm, (ne_of_none hD' nr).symm⟩ .nil)
    rintro HS ⟨rsS, ⟨hDS, hpS⟩, sS⟩
    rw [← edsS] at hpS
    refine ⟨lt_size (Nat.le_of_ble_eq_true rfl), fun te44 ne44 => ?_⟩
    have se44 := same_new (o := .tup []) ne44
    have he44 : upd HS te44 (.tup []) te44 = some (.tup []) := upd_same
    generalize upd HS te44 (.tup []) = He44 at se44 he44 ⊢
    refine ⟨lt_size (Nat.le_of_ble_eq_true rfl), fun te45 ne45 => ?_⟩
    have se45 := same_new (o := .tup [.ref te44, .int 5]) ne45
    have he45 : upd He44 te45 (.tup [.ref te44, .int 5]) te45 = some (.tup [.ref te44, .int 5]) := upd_same
    generalize upd He44 te45 (.tup [.ref te44, .int 5]) = He45 at se45 he45 ⊢
    refine ⟨lt_size (Nat.le_of_ble_eq_true rfl), fun te46 ne46 => ?_⟩
    have se46 := same_new (o := .tup [.ref te45]) ne46
    have he46 : upd He45 te46 (.tup [.ref te45]) te46 = some (.tup [.ref te45]) := upd_same
    generalize upd He45 te46 (.tup [.ref te45]) = He46 at se46 he46 ⊢
    refine ⟨0, .ref te46, (.tuple [(.tuple [(.tuple []), (.int 5)])]), rfl, (.tup he46 (.cons (.tup ((se46) _ _ he45) (.cons (.tup ((se45.trans (se46)) _ _ he44) .nil) (.cons (.int 5) .nil))) .nil)), fun ra Ha na sa pa => ?_⟩
    refine ⟨lt_size (Nat.le_of_ble_eq_true rfl), fun te48 ne48 => ?_⟩
    have se48 := same_new (o := .tup []) ne48
    have he48 : upd Ha te48 (.tup []) te48 = some (.tup []) := upd_same
    generalize upd Ha te48 (.tup []) = He48 at se48 he48 ⊢
    refine ⟨lt_size (Nat.le_of_ble_eq_true rfl), fun te49 ne49 => ?_⟩
    have se49 := same_new (o := .tup [.ref te48, .int 5]) ne49
    have he49 : upd He48 te49 (.tup [.ref te48, .int 5]) te49 = some (.tup [.ref te48, .int 5]) := upd_same
    generalize upd He48 te49 (.tup [.ref te48, .int 5]) = He49 at se49 he49 ⊢
    refine ⟨lt_size (Nat.le_of_ble_eq_true rfl), fun te50 ne50 => ?_⟩
    have se50 := same_new (o := .tup []) ne50
    have he50 : upd He49 te50 (.tup []) te50 = some (.tup []) := upd_same
    generalize upd He49 te50 (.tup []) = He50 at se50 he50 ⊢
    refine ⟨lt_size (Nat.le_of_ble_eq_true rfl), fun te51 ne51 => ?_⟩
    have se51 := same_new (o := .tup [.ref te50, .int 6]) ne51
    have he51 : upd He50 te51 (.tup [.ref te50, .int 6]) te51 = some (.tup [.ref te50, .int 6]) := upd_same
    generalize upd He50 te51 (.tup [.ref te50, .int 6]) = He51 at se51 he51 ⊢
    refine ⟨lt_size (Nat.le_of_ble_eq_true rfl), fun te52 ne52 => ?_⟩
    have se52 := same_new (o := .tup [.ref te49, .ref te51]) ne52
    have he52 : upd He51 te52 (.tup [.ref te49, .ref te51]) te52 = some (.tup [.ref te49, .ref te51]) := upd_same
    generalize upd He51 te52 (.tup [.ref te49, .ref te51]) = He52 at se52 he52 ⊢
    refine ⟨0, .ref te52, (.tuple [(.tuple [(.tuple []), (.int 5)]), (.tuple [(.tuple []), (.int 6)])]), rfl, (.tup he52 (.cons (.tup ((se50.trans (se51.trans (se52))) _ _ he49) (.cons (.tup ((se49.trans (se50.trans (se51.trans (se52)))) _ _ he48) .nil) (.cons (.int 5) .nil))) (.cons (.tup ((se52) _ _ he51) (.cons (.tup ((se51.trans (se52)) _ _ he50) .nil) (.cons (.int 6) .nil))) .nil))), fun rb Hb nb sb pb => ?_⟩
    refine ⟨lt_size (Nat.le_of_ble_eq_true rfl), fun te54 ne54 => ?_⟩
    have se54 := same_new (o := .lst [.ref ra, .ref rb]) ne54
    have he54 : upd Hb te54 (.lst [.ref ra, .ref rb]) te54 = some (.lst [.ref ra, .ref rb]) := upd_same
    generalize upd Hb te54 (.lst [.ref ra, .ref rb]) = He54 at se54 he54 ⊢
    refine ⟨DS, te54, _, _, rfl, rfl, ((se44.trans (se45.trans (se46.trans (sa.trans (se48.trans (se49.trans (se50.trans (se51.trans (se52.trans (sb.trans (se54))))))))))) _ _ hDS), he54, (by rw [List.length_map, Paired.length hpS]; exact lt_size (Nat.le_of_ble_eq_true rfl)), fun te55 ne55 => ?_⟩
    have se55 := same_new (o := .lst (rsS.map V.ref ++ [.ref ra, .ref rb])) ne55
    have he55 : upd He54 te55 (.lst (rsS.map V.ref ++ [.ref ra, .ref rb])) te55 = some (.lst (rsS.map V.ref ++ [.ref ra, .ref rb])) := upd_same
    generalize upd He54 te55 (.lst (rsS.map V.ref ++ [.ref ra, .ref rb])) = He55 at se55 he55 ⊢
    obtain ⟨du, eu, fU, drU⟩ : ∃ du : PyData, du = (.list [.list [], .list [.tuple [.int 1, .int 0]], .list [.tuple [.int 0, .int 1]], .list [.tuple [.int 0, .int 0, .int 1]], .list [.tuple [.int 0]], .list [], .list [.tuple [.int 1, .int 0]]] : PyData) ∧ Fd 10 1000 du ∧ Dr He55 (.ref te55) du := ⟨(.list (([(.tuple [(.tuple [(.tuple [(.int 0), (.int 1)]), (.int (-2))]), (.tuple [(.tuple [(.int 1), (.int 0)]), (.int 3)]), (.tuple [(.tuple [(.int 1), (.int 1)]), (.int 1)])]), (.tuple [(.tuple [(.tuple [(.int 1), (.int 0)]), (.int 3)]), (.tuple [(.tuple [(.int 0), (.int 1)]), (.int (-2))])]), (.tuple [(.tuple [(.tuple [(.int 0), (.int 1)]), (.int 0)])]), (.tuple [(.tuple [(.tuple [(.int 0), (.int (-1))]), (.int 1)])]), (.tuple [(.tuple [(.tuple [(.int 0), (.int 1)])])])].map (polyPath 2)).map pathD ++ [pathD (polyPath 0 (.tuple [(.tuple [(.tuple []), (.int 5)])])), pathD (polyPath 0 (.tuple [(.tuple [(.tuple []), (.int 5)]), (.tuple [(.tuple []), (.int 6)])]))])), by kernel_rfl, by rw [show ((.list (([(.tuple [(.tuple [(.tuple [(.int 0), (.int 1)]), (.int (-2))]), (.tuple [(.tuple [(.int 1), (.int 0)]), (.int 3)]), (.tuple [(.tuple [(.int 1), (.int 1)]), (.int 1)])]), (.tuple [(.tuple [(.tuple [(.int 1), (.int 0)]), (.int 3)]), (.tuple [(.tuple [(.int 0), (.int 1)]), (.int (-2))])]), (.tuple [(.tuple [(.tuple [(.int 0), (.int 1)]), (.int 0)])]), (.tuple [(.tuple [(.tuple [(.int 0), (.int (-1))]), (.int 1)])]), (.tuple [(.tuple [(.tuple [(.int 0), (.int 1)])])])].map (polyPath 2)).map pathD ++ [pathD (polyPath 0 (.tuple [(.tuple [(.tuple []), (.int 5)])])), pathD (polyPath 0 (.tuple [(.tuple [(.tuple []), (.int 5)]), (.tuple [(.tuple []), (.int 6)])]))])) : PyData) = (.list [.list [], .list [.tuple [.int 1, .int 0]], .list [.tuple [.int 0, .int 1]], .list [.tuple [.int 0, .int 0, .int 1]], .list [.tuple [.int 0]], .list [], .list [.tuple [.int 1, .int 0]]] : PyData) by kernel_rfl]; exact fd_of (by decide +kernel), .lst he55 (dr_app (rs_all (Paired.mono (fun _ _ z => ⟨z.1.same (se44.trans (se45.trans (se46.trans (sa.trans (se48.trans (se49.trans (se50.trans (se51.trans (se52.trans (sb.trans (se54.trans (se55)))))))))))), z.2⟩) hpS)) (.cons (pa.same (se48.trans (se49.trans (se50.trans (se51.trans (se52.trans (sb.trans (se54.trans (se55))))))))).dr (.cons (pb.same (se54.trans (se55))).dr .nil)))⟩
    refine ⟨_, rfl, .ref te55, du, rfl, drU, Nat.le_trans fU.dep (by decide), fU.sh, Nat.le_trans fU.len (by rw [sizeLine_eq]; decide), ?_⟩
    refine ⟨lt_size (Nat.le_of_ble_eq_true rfl), fun te56 ne56 => ?_⟩
    have se56 := same_new (o := .lst []) ne56
    have he56 : upd He55 te56 (.lst []) te56 = some (.lst []) := upd_same
    generalize upd He55 te56 (.lst []) = He56 at se56 he56 ⊢
    refine ⟨lt_size (Nat.le_of_ble_eq_true rfl), fun te57 ne57 => ?_⟩
    have se57 := same_new (o := .tup [.int 1, .int 0]) ne57
    have he57 : upd He56 te57 (.tup [.int 1, .int 0]) te57 = some (.tup [.int 1, .int 0]) := upd_same
    generalize upd He56 te57 (.tup [.int 1, .int 0]) = He57 at se57 he57 ⊢
    refine ⟨lt_size (Nat.le_of_ble_eq_true rfl), fun te58 ne58 => ?_⟩
    have se58 := same_new (o := .lst [.ref te57]) ne58
    have he58 : upd He57 te58 (.lst [.ref te57]) te58 = some (.lst [.ref te57]) := upd_same
    generalize upd He57 te58 (.lst [.ref te57]) = He58 at se58 he58 ⊢
    refine ⟨lt_size (Nat.le_of_ble_eq_true rfl), fun te59 ne59 => ?_⟩
    have se59 := same_new (o := .tup [.int 0, .int 1]) ne59
    have he59 : upd He58 te59 (.tup [.int 0, .int 1]) te59 = some (.tup [.int 0, .int 1]) := upd_same
    generalize upd He58 te59 (.tup [.int 0, .int 1]) = He59 at se59 he59 ⊢
    refine ⟨lt_size (Nat.le_of_ble_eq_true rfl), fun te60 ne60 => ?_⟩
    have se60 := same_new (o := .lst [.ref te59]) ne60
    have he60 : upd He59 te60 (.lst [.ref te59]) te60 = some (.lst [.ref te59]) := upd_same
    generalize upd He59 te60 (.lst [.ref te59]) = He60 at se60 he60 ⊢
    refine ⟨lt_size (Nat.le_of_ble_eq_true rfl), fun te61 ne61 => ?_⟩
    have se61 := same_new (o := .tup [.int 0, .int 0, .int 1]) ne61
    have he61 : upd He60 te61 (.tup [.int 0, .int 0, .int 1]) te61 = some (.tup [.int 0, .int 0, .int 1]) := upd_same
    generalize upd He60 te61 (.tup [.int 0, .int 0, .int 1]) = He61 at se61 he61 ⊢
    refine ⟨lt_size (Nat.le_of_ble_eq_true rfl), fun te62 ne62 => ?_⟩
    have se62 := same_new (o := .lst [.ref te61]) ne62
    have he62 : upd He61 te62 (.lst [.ref te61]) te62 = some (.lst [.ref te61]) := upd_same
    generalize upd He61 te62 (.lst [.ref te61]) = He62 at se62 he62 ⊢
    refine ⟨lt_size (Nat.le_of_ble_eq_true rfl), fun te63 ne63 => ?_⟩
    have se63 := same_new (o := .tup [.int 0]) ne63
    have he63 : upd He62 te63 (.tup [.int 0]) te63 = some (.tup [.int 0]) := upd_same
    generalize upd He62 te63 (.tup [.int 0]) = He63 at se63 he63 ⊢
    refine ⟨lt_size (Nat.le_of_ble_eq_true rfl), fun te64 ne64 => ?_⟩
    have se64 := same_new (o := .lst [.ref te63]) ne64
    have he64 : upd He63 te64 (.lst [.ref te63]) te64 = some (.lst [.ref te63]) := upd_same
    generalize upd He63 te64 (.lst [.ref te63]) = He64 at se64 he64 ⊢
    refine ⟨lt_size (Nat.le_of_ble_eq_true rfl), fun te65 ne65 => ?_⟩
    have se65 := same_new (o := .lst []) ne65
    have he65 : upd He64 te65 (.lst []) te65 = some (.lst []) := upd_same
    generalize upd He64 te65 (.lst []) = He65 at se65 he65 ⊢
    refine ⟨lt_size (Nat.le_of_ble_eq_true rfl), fun te66 ne66 => ?_⟩
    have se66 := same_new (o := .tup [.int 1, .int 0]) ne66
    have he66 : upd He65 te66 (.tup [.int 1, .int 0]) te66 = some (.tup [.int 1, .int 0]) := upd_same
    generalize upd He65 te66 (.tup [.int 1, .int 0]) = He66 at se66 he66 ⊢
    refine ⟨lt_size (Nat.le_of_ble_eq_true rfl), fun te67 ne67 => ?_⟩
    have se67 := same_new (o := .lst [.ref te66]) ne67
    have he67 : upd He66 te67 (.lst [.ref te66]) te67 = some (.lst [.ref te66]) := upd_same
    generalize upd He66 te67 (.lst [.ref te66]) = He67 at se67 he67 ⊢
    refine ⟨lt_size (Nat.le_of_ble_eq_true rfl), fun te68 ne68 => ?_⟩
    have se68 := same_new (o := .lst [.ref te56, .ref te58, .ref te60, .ref te62, .ref te64, .ref te65, .ref te67]) ne68
    have he68 : upd He67 te68 (.lst [.ref te56, .ref te58, .ref te60, .ref te62, .ref te64, .ref te65, .ref te67]) te68 = some (.lst [.ref te56, .ref te58, .ref te60, .ref te62, .ref te64, .ref te65, .ref te67]) := upd_same
    generalize upd He67 te68 (.lst [.ref te56, .ref te58, .ref te60, .ref te62, .ref te64, .ref te65, .ref te67]) = He68 at se68 he68 ⊢
    obtain ⟨dv, ev, fV, drV⟩ : ∃ dv : PyData, dv = (.list [.list [], .list [.tuple [.int 1, .int 0]], .list [.tuple [.int 0, .int 1]], .list [.tuple [.int 0, .int 0, .int 1]], .list [.tuple [.int 0]], .list [], .list [.tuple [.int 1, .int 0]]] : PyData) ∧ Fd 10 1000 dv ∧ Dr He68 (.ref te68) dv := ⟨(.list [(.list []), (.list [(.tuple [(.int 1), (.int 0)])]), (.list [(.tuple [(.int 0), (.int 1)])]), (.list [(.tuple [(.int 0), (.int 0), (.int 1)])]), (.list [(.tuple [(.int 0)])]), (.list []), (.list [(.tuple [(.int 1), (.int 0)])])]), rfl, fd_of (by decide +kernel), .lst he68 (.cons (.lst ((se57.trans (se58.trans (se59.trans (se60.trans (se61.trans (se62.trans (se63.trans (se64.trans (se65.trans (se66.trans (se67.trans (se68)))))))))))) _ _ he56) .nil) (.cons (.lst ((se59.trans (se60.trans (se61.trans (se62.trans (se63.trans (se64.trans (se65.trans (se66.trans (se67.trans (se68)))))))))) _ _ he58) (.cons (.tup ((se58.trans (se59.trans (se60.trans (se61.trans (se62.trans (se63.trans (se64.trans (se65.trans (se66.trans (se67.trans (se68))))))))))) _ _ he57) (.cons (.int 1) (.cons (.int 0) .nil))) .nil)) (.cons (.lst ((se61.trans (se62.trans (se63.trans (se64.trans (se65.trans (se66.trans (se67.trans (se68)))))))) _ _ he60) (.cons (.tup ((se60.trans (se61.trans (se62.trans (se63.trans (se64.trans (se65.trans (se66.trans (se67.trans (se68))))))))) _ _ he59) (.cons (.int 0) (.cons (.int 1) .nil))) .nil)) (.cons (.lst ((se63.trans (se64.trans (se65.trans (se66.trans (se67.trans (se68)))))) _ _ he62) (.cons (.tup ((se62.trans (se63.trans (se64.trans (se65.trans (se66.trans (se67.trans (se68))))))) _ _ he61) (.cons (.int 0) (.cons (.int 0) (.cons (.int 1) .nil)))) .nil)) (.cons (.lst ((se65.trans (se66.trans (se67.trans (se68)))) _ _ he64) (.cons (.tup ((se64.trans (se65.trans (se66.trans (se67.trans (se68))))) _ _ he63) (.cons (.int 0) .nil)) .nil)) (.cons (.lst ((se66.trans (se67.trans (se68))) _ _ he65) .nil) (.cons (.lst ((se68) _ _ he67) (.cons (.tup ((se67.trans (se68)) _ _ he66) (.cons (.int 1) (.cons (.int 0) .nil))) .nil)) .nil)))))))⟩
    refine ⟨.ref te68, dv, rfl, drV, Nat.le_trans fV.dep (by decide), fV.sh, Nat.le_trans fV.len (by rw [sizeLine_eq]; decide), rfl, ?_⟩
    rw [eu, ev, decide_eq_true rfl]
    exact fin _
end
end Kx
namespace Kx
open PySem PySem.Spec PyProof.Rows L2
theorem exm_own {K : PySem.W.Frag} {S : Addr} (h1 : PySem.W.subIn K (.ref S) (.type "BaseException") = some true) (h2 : PySem.W.isClsIn K S = true) (h3 : PySem.W.typeIn K (.ref S) = some (.type "type")) (h4 : PySem.W.subIn K (.ref S) (.ref S) = some true) : PySem.W.exmOne K (.ref S) (.ref S) = some true := by
  have q1 : (PySem.W.subIn K (.ref S) (.type "BaseException") == some true) = true := by
    rw [h1]
    all_goals rfl
  have q2 : ((PySem.W.clsIn K S).isSome && PySem.W.typeIn K (.ref S) == some (.type "type")) = true := by
    have h2' : (PySem.W.clsIn K S).isSome = true := h2
    rw [h2', h3]
    all_goals rfl
  show (if (PySem.W.subIn K (.ref S) (.type "BaseException") == some true) = true then (if ((PySem.W.clsIn K S).isSome && PySem.W.typeIn K (.ref S) == some (.type "type")) = true then PySem.W.subIn K (.ref S) (.ref S) else none) else none) = some true
  rw [if_pos q1, if_pos q2]
  exact h4
/-! ### the end -/
theorem all_mk {l : PySem.W.OpenLaw} {w : World} {K : PySem.W.Frag} {h : Heap} {mg : Str → Option Value} {fa f0 f1 f2 f3 f4 f5 f6 f7 f8 f9 f10 f11 f12 f13 f14 f15 : Addr} (X : K.In h) (G : h.Ns mainGlobals mg) (hfa : mg "law" = some (.ref fa))
    {C cf fI N : Addr} {nm q : Str} {bs : List Value} {sn : List Str} {sub : List Value} {ab : Bool} {col : Option Bool} {dd odI anI : Option Addr} {g0 g1 g2 g3 g5 : Option Value} {slI : Array (Option Value)} {ocI kVI dcI pmI cdI ctI : Value}
    {od0 an0 : Option Addr} {sl0 : Array (Option Value)} {oc0 kV0 dc0 pm0 cd0 ct0 : Value} (a0 : PySem.W.nsIn K mainGlobals "_law_source" = some (some (.ref f0)))
    (l0 : K.lookup f0 = some ⟨oc0, od0, .func (PySem.W.fnOf "_law_source" "_law_source" (defArgs sSource) (defBody sSource) (defScope sSource) .none kV0 dc0 pm0 an0 cd0 ct0), sl0⟩)
    (c0 : PySem.W.codeIn K cd0 "_law_source" = true) (k0 : PySem.W.keepIn K (.ref f0) = true)
    {od1 an1 : Option Addr} {sl1 : Array (Option Value)} {oc1 kV1 dc1 pm1 cd1 ct1 : Value} (a1 : PySem.W.nsIn K mainGlobals "_law_pick" = some (some (.ref f1)))
    (l1 : K.lookup f1 = some ⟨oc1, od1, .func (PySem.W.fnOf "_law_pick" "_law_pick" (defArgs sPick) (defBody sPick) (defScope sPick) .none kV1 dc1 pm1 an1 cd1 ct1), sl1⟩)
    (c1 : PySem.W.codeIn K cd1 "_law_pick" = true) (k1 : PySem.W.keepIn K (.ref f1) = true)
    {od2 an2 : Option Addr} {sl2 : Array (Option Value)} {oc2 kV2 dc2 pm2 cd2 ct2 : Value} (a2 : PySem.W.nsIn K mainGlobals "_law_of" = some (some (.ref f2)))
    (l2 : K.lookup f2 = some ⟨oc2, od2, .func (PySem.W.fnOf "_law_of" "_law_of" (defArgs sOf) (defBody sOf) (defScope sOf) .none kV2 dc2 pm2 an2 cd2 ct2), sl2⟩)
    (c2 : PySem.W.codeIn K cd2 "_law_of" = true) (k2 : PySem.W.keepIn K (.ref f2) = true)
    {od3 an3 : Option Addr} {sl3 : Array (Option Value)} {oc3 kV3 dc3 pm3 cd3 ct3 : Value} (a3 : PySem.W.nsIn K mainGlobals "_law_told" = some (some (.ref f3)))
    (l3 : K.lookup f3 = some ⟨oc3, od3, .func (PySem.W.fnOf "_law_told" "_law_told" (defArgs sTold) (defBody sTold) (defScope sTold) .none kV3 dc3 pm3 an3 cd3 ct3), sl3⟩)
    (c3 : PySem.W.codeIn K cd3 "_law_told" = true) (k3 : PySem.W.keepIn K (.ref f3) = true)
    {od4 an4 : Option Addr} {sl4 : Array (Option Value)} {oc4 kV4 dc4 pm4 cd4 ct4 : Value} (a4 : PySem.W.nsIn K mainGlobals "_law_draw_poly" = some (some (.ref f4)))
    (l4 : K.lookup f4 = some ⟨oc4, od4, .func (PySem.W.fnOf "_law_draw_poly" "_law_draw_poly" (defArgs sDrawP) (defBody sDrawP) (defScope sDrawP) .none kV4 dc4 pm4 an4 cd4 ct4), sl4⟩)
    (c4 : PySem.W.codeIn K cd4 "_law_draw_poly" = true) (k4 : PySem.W.keepIn K (.ref f4) = true)
    {od5 an5 : Option Addr} {sl5 : Array (Option Value)} {oc5 kV5 dc5 pm5 cd5 ct5 : Value} (a5 : PySem.W.nsIn K mainGlobals "is_integer" = some (some (.ref f5)))
    (l5 : K.lookup f5 = some ⟨oc5, od5, .func (PySem.W.fnOf "is_integer" "is_integer" (defArgs sIsI) (defBody sIsI) (defScope sIsI) .none kV5 dc5 pm5 an5 cd5 ct5), sl5⟩)
    (c5 : PySem.W.codeIn K cd5 "is_integer" = true) (k5 : PySem.W.keepIn K (.ref f5) = true)
    {od6 an6 : Option Addr} {sl6 : Array (Option Value)} {oc6 kV6 dc6 pm6 cd6 ct6 : Value} (a6 : PySem.W.nsIn K mainGlobals "is_number" = some (some (.ref f6)))
    (l6 : K.lookup f6 = some ⟨oc6, od6, .func (PySem.W.fnOf "is_number" "is_number" (defArgs sIsN) (defBody sIsN) (defScope sIsN) .none kV6 dc6 pm6 an6 cd6 ct6), sl6⟩)
    (c6 : PySem.W.codeIn K cd6 "is_number" = true) (k6 : PySem.W.keepIn K (.ref f6) = true)
    {od7 an7 : Option Addr} {sl7 : Array (Option Value)} {oc7 kV7 dc7 pm7 cd7 ct7 : Value} (a7 : PySem.W.nsIn K mainGlobals "is_tuple_of" = some (some (.ref f7)))
    (l7 : K.lookup f7 = some ⟨oc7, od7, .func (PySem.W.fnOf "is_tuple_of" "is_tuple_of" (defArgs sTupOf) (defBody sTupOf) (defScope sTupOf) .none kV7 dc7 pm7 an7 cd7 ct7), sl7⟩)
    (c7 : PySem.W.codeIn K cd7 "is_tuple_of" = true) (k7 : PySem.W.keepIn K (.ref f7) = true)
    {od8 an8 : Option Addr} {sl8 : Array (Option Value)} {oc8 kV8 dc8 pm8 cd8 ct8 : Value} (a8 : PySem.W.nsIn K mainGlobals "_term_fault" = some (some (.ref f8)))
    (l8 : K.lookup f8 = some ⟨oc8, od8, .func (PySem.W.fnOf "_term_fault" "_term_fault" (defArgs sTf) (defBody sTf) (defScope sTf) .none kV8 dc8 pm8 an8 cd8 ct8), sl8⟩)
    (c8 : PySem.W.codeIn K cd8 "_term_fault" = true) (k8 : PySem.W.keepIn K (.ref f8) = true)
    {od9 an9 : Option Addr} {sl9 : Array (Option Value)} {oc9 kV9 dc9 pm9 cd9 ct9 : Value} (a9 : PySem.W.nsIn K mainGlobals "tell_fault" = some (some (.ref f9)))
    (l9 : K.lookup f9 = some ⟨oc9, od9, .func (PySem.W.fnOf "tell_fault" "tell_fault" (defArgs sTell) (defBody sTell) (defScope sTell) .none kV9 dc9 pm9 an9 cd9 ct9), sl9⟩)
    (c9 : PySem.W.codeIn K cd9 "tell_fault" = true) (k9 : PySem.W.keepIn K (.ref f9) = true)
    {od10 an10 : Option Addr} {sl10 : Array (Option Value)} {oc10 kV10 dc10 pm10 cd10 ct10 : Value} (a10 : PySem.W.nsIn K mainGlobals "check_polynomial" = some (some (.ref f10)))
    (l10 : K.lookup f10 = some ⟨oc10, od10, .func (PySem.W.fnOf "check_polynomial" "check_polynomial" (defArgs sChk) (defBody sChk) (defScope sChk) .none kV10 dc10 pm10 an10 cd10 ct10), sl10⟩)
    (c10 : PySem.W.codeIn K cd10 "check_polynomial" = true) (k10 : PySem.W.keepIn K (.ref f10) = true)
    {od11 an11 : Option Addr} {sl11 : Array (Option Value)} {oc11 kV11 dc11 pm11 cd11 ct11 : Value} (a11 : PySem.W.nsIn K mainGlobals "_law_poly_path" = some (some (.ref f11)))
    (l11 : K.lookup f11 = some ⟨oc11, od11, .func (PySem.W.fnOf "_law_poly_path" "_law_poly_path" (defArgs sLPP) (defBody sLPP) (defScope sLPP) .none kV11 dc11 pm11 an11 cd11 ct11), sl11⟩)
    (c11 : PySem.W.codeIn K cd11 "_law_poly_path" = true) (k11 : PySem.W.keepIn K (.ref f11) = true)
    {od12 an12 : Option Addr} {sl12 : Array (Option Value)} {oc12 kV12 dc12 pm12 cd12 ct12 : Value} (a12 : PySem.W.nsIn K mainGlobals "_law_path" = some (some (.ref f12)))
    (l12 : K.lookup f12 = some ⟨oc12, od12, .func (PySem.W.fnOf "_law_path" "_law_path" (defArgs sLP) (defBody sLP) (defScope sLP) .none kV12 dc12 pm12 an12 cd12 ct12), sl12⟩)
    (c12 : PySem.W.codeIn K cd12 "_law_path" = true) (k12 : PySem.W.keepIn K (.ref f12) = true)
    {od13 an13 : Option Addr} {sl13 : Array (Option Value)} {oc13 kV13 dc13 pm13 cd13 ct13 : Value} (a13 : PySem.W.nsIn K mainGlobals "_law_odd" = some (some (.ref f13)))
    (l13 : K.lookup f13 = some ⟨oc13, od13, .func (PySem.W.fnOf "_law_odd" "_law_odd" (defArgs sOdd) (defBody sOdd) (defScope sOdd) .none kV13 dc13 pm13 an13 cd13 ct13), sl13⟩)
    (c13 : PySem.W.codeIn K cd13 "_law_odd" = true) (k13 : PySem.W.keepIn K (.ref f13) = true)
    {od14 an14 : Option Addr} {sl14 : Array (Option Value)} {oc14 kV14 dc14 pm14 cd14 ct14 : Value} (a14 : PySem.W.nsIn K mainGlobals "_law_bent" = some (some (.ref f14)))
    (l14 : K.lookup f14 = some ⟨oc14, od14, .func (PySem.W.fnOf "_law_bent" "_law_bent" (defArgs sBent) (defBody sBent) (defScope sBent) .none kV14 dc14 pm14 an14 cd14 ct14), sl14⟩)
    (c14 : PySem.W.codeIn K cd14 "_law_bent" = true) (k14 : PySem.W.keepIn K (.ref f14) = true)
    {od15 an15 : Option Addr} {sl15 : Array (Option Value)} {oc15 kV15 dc15 pm15 cd15 ct15 : Value} (a15 : PySem.W.nsIn K mainGlobals "law" = some (some (.ref f15)))
    (l15 : K.lookup f15 = some ⟨oc15, od15, .func (PySem.W.fnOf "law" "law" (defArgs sLaw) (defBody sLaw) (defScope sLaw) .none kV15 dc15 pm15 an15 cd15 ct15), sl15⟩)
    (c15 : PySem.W.codeIn K cd15 "law" = true) (k15 : PySem.W.keepIn K (.ref f15) = true)
    (z0 : PySem.W.nsIn K mainGlobals "abs" = some none)
    (z1 : PySem.W.nsIn K mainGlobals "int" = some none)
    (z2 : PySem.W.nsIn K mainGlobals "len" = some none)
    (z3 : PySem.W.nsIn K mainGlobals "max" = some none)
    (z4 : PySem.W.nsIn K mainGlobals "range" = some none)
    (z5 : PySem.W.nsIn K mainGlobals "repr" = some none)
    (z6 : PySem.W.nsIn K mainGlobals "tuple" = some none)
    (z7 : PySem.W.nsIn K mainGlobals "list" = some none)
    (z8 : PySem.W.nsIn K mainGlobals "sorted" = some none)
    (z9 : PySem.W.nsIn K mainGlobals "isinstance" = some none)
    (z10 : PySem.W.nsIn K mainGlobals "bool" = some none)
    (z11 : PySem.W.nsIn K mainGlobals "enumerate" = some none)
    (aC : PySem.W.nsIn K mainGlobals "BadTree" = some (some (.ref C)))
    (xL : K.lookup C = some (excClassObj nm q C N bs (.ref cf :: [.type "ValueError", .type "Exception", .type "BaseException", .type "object"]) true sn sub ab col dd g0 g1 g2 g3 g5 "ValueError.__new__"))
    (saC : PySem.W.findIn K (.ref C) "__setattr__" = some (some (.builtin "object.__setattr__")))
    (kC : PySem.W.keepIn K (.ref C) = true)
    (gaC : PySem.W.findIn K (.ref C) "__getattribute__" = some (some (.builtin "BaseException.__getattribute__")))
    (gtC : PySem.W.findIn K (.ref C) "__getattr__" = some none)
    (exC : PySem.W.subIn K (.ref C) (.type "BaseException") = some true)
    (tyC : PySem.W.typeIn K (.ref C) = some (.type "type"))
    (hdC : PySem.W.hasDictIn K C = true)
    (isC : PySem.W.isClsIn K C = true)
    (sC : PySem.W.subIn K (.ref C) (.ref C) = some true)
    (iC : PySem.W.findIn K (.ref C) "__init__" = some (some (.ref fI)))
    (tI : PySem.W.typeIn K (.ref fI) = some (.type "function"))
    (lI : K.lookup fI = some ⟨ocI, odI, .func (PySem.W.fnOf "__init__" "BadTree.__init__" (defArgs sIni) (defBody sIni) (defScope sIni) .none kVI dcI pmI anI cdI ctI), slI⟩)
    (cI : PySem.W.codeIn K cdI "BadTree.__init__" = true)
    (kI : PySem.W.keepIn K (.ref fI) = true)
    (nP : PySem.W.findIn K (.ref C) "path" = some none)
    : ∃ fd : FuncData, (∀ (s : Shared) (v : Value), BindsTo s fd ⟨[v], []⟩ [("script", v)]) ∧ ∀ base : Heap, K.In base → base.Ns mainGlobals mg → FnG l.prog w K mg base CX0 6 fa fd ["script"] (spLaw K) := by
  have e := hfa.symm.trans (PySem.W.mg_of X G a15)
  cases e
  have F0 := fun_mk (st := sSource) l0 c0 k0
  have m0 := PySem.W.mg_of X G a0
  have b0 := F0.binds (ps := ["script"]) fun _ _ _ _ _ _ us hl => match us, hl with | [_], _ => rfl
  have F1 := fun_mk (st := sPick) l1 c1 k1
  have m1 := PySem.W.mg_of X G a1
  have b1 := F1.binds (ps := ["source", "many"]) fun _ _ _ _ _ _ us hl => match us, hl with | [_, _], _ => rfl
  have F2 := fun_mk (st := sOf) l2 c2 k2
  have m2 := PySem.W.mg_of X G a2
  have b2 := F2.binds (ps := ["source", "some"]) fun _ _ _ _ _ _ us hl => match us, hl with | [_, _], _ => rfl
  have F3 := fun_mk (st := sTold) l3 c3 k3
  have m3 := PySem.W.mg_of X G a3
  have b3 := F3.binds (ps := ["terms"]) fun _ _ _ _ _ _ us hl => match us, hl with | [_], _ => rfl
  have F4 := fun_mk (st := sDrawP) l4 c4 k4
  have m4 := PySem.W.mg_of X G a4
  have b4 := F4.binds (ps := ["source", "m", "terms", "degree", "size"]) fun _ _ _ _ _ _ us hl => match us, hl with | [_, _, _, _, _], _ => rfl
  have F5 := fun_mk (st := sIsI) l5 c5 k5
  have m5 := PySem.W.mg_of X G a5
  have b5 := F5.binds (ps := ["value"]) fun _ _ _ _ _ _ us hl => match us, hl with | [_], _ => rfl
  have F6 := fun_mk (st := sIsN) l6 c6 k6
  have m6 := PySem.W.mg_of X G a6
  have b6 := F6.binds (ps := ["value"]) fun _ _ _ _ _ _ us hl => match us, hl with | [_], _ => rfl
  have F7 := fun_mk (st := sTupOf) l7 c7 k7
  have m7 := PySem.W.mg_of X G a7
  have b7 := F7.binds (ps := ["value", "many"]) fun _ _ _ _ _ _ us hl => match us, hl with | [_, _], _ => rfl
  have F8 := fun_mk (st := sTf) l8 c8 k8
  have m8 := PySem.W.mg_of X G a8
  have b8 := F8.binds (ps := ["m", "term", "before"]) fun _ _ _ _ _ _ us hl => match us, hl with | [_, _, _], _ => rfl
  have F9 := fun_mk (st := sTell) l9 c9 k9
  have m9 := PySem.W.mg_of X G a9
  have b9 := F9.binds (ps := ["fault", "path"]) fun _ _ _ _ _ _ us hl => match us, hl with | [_, _], _ => rfl
  have F10 := fun_mk (st := sChk) l10 c10 k10
  have m10 := PySem.W.mg_of X G a10
  have b10 := F10.binds (ps := ["m", "value"]) fun _ _ _ _ _ _ us hl => match us, hl with | [_, _], _ => rfl
  have F11 := fun_mk (st := sLPP) l11 c11 k11
  have m11 := PySem.W.mg_of X G a11
  have b11 := F11.binds (ps := ["m", "value"]) fun _ _ _ _ _ _ us hl => match us, hl with | [_, _], _ => rfl
  have F12 := fun_mk (st := sLP) l12 c12 k12
  have m12 := PySem.W.mg_of X G a12
  have b12 := F12.binds (ps := ["m", "value"]) fun _ _ _ _ _ _ us hl => match us, hl with | [_, _], _ => rfl
  have F13 := fun_mk (st := sOdd) l13 c13 k13
  have m13 := PySem.W.mg_of X G a13
  have b13 := F13.binds (ps := ["source"]) fun _ _ _ _ _ _ us hl => match us, hl with | [_], _ => rfl
  have F14 := fun_mk (st := sBent) l14 c14 k14
  have m14 := PySem.W.mg_of X G a14
  have b14 := F14.binds (ps := ["source", "p"]) fun _ _ _ _ _ _ us hl => match us, hl with | [_, _], _ => rfl
  have F15 := fun_mk (st := sLaw) l15 c15 k15
  have m15 := PySem.W.mg_of X G a15
  have mz0 := PySem.W.mg_none_of X G z0
  have mz1 := PySem.W.mg_none_of X G z1
  have mz2 := PySem.W.mg_none_of X G z2
  have mz3 := PySem.W.mg_none_of X G z3
  have mz4 := PySem.W.mg_none_of X G z4
  have mz5 := PySem.W.mg_none_of X G z5
  have mz6 := PySem.W.mg_none_of X G z6
  have mz7 := PySem.W.mg_none_of X G z7
  have mz8 := PySem.W.mg_none_of X G z8
  have mz9 := PySem.W.mg_none_of X G z9
  have mz10 := PySem.W.mg_none_of X G z10
  have mz11 := PySem.W.mg_none_of X G z11
  refine ⟨PySem.W.fnOf "law" "law" (defArgs sLaw) (defBody sLaw) (defScope sLaw) .none kV15 dc15 pm15 an15 cd15 ct15, fun s v => .of_eq rfl, fun base _ _ => ?_⟩
  have FI := fun_mk (st := sIni) lI cI kI
  have bI := FI.binds (ps := ["self", "path"]) fun _ _ _ _ _ _ us hl => match us, hl with | [_, _], _ => rfl
  have ox : OexC K C := ⟨⟨nm, q, N, bs, _, sn, sub, ab, col, dd, g0, g1, g2, g3, g5, xL, rfl⟩, saC, exC, tyC, kC⟩
  have BT : BadT l.prog w K mg base C := ⟨PySem.W.mg_of X G aC, ox, ⟨gaC, gtC, exC, hdC⟩, nP, exm_own exC isC tyC sC, ⟨fI, _, iC, tI, ok_ini FI ox nP mz6, bI⟩⟩
  have dSrc := Def.of F0 (ok_source (P := l.prog) (w := w) (base := base) F0 ⟨mz0, mz1, mz2, mz3⟩) b0 m0
  have dPick := Def.of F1 (ok_pick (P := l.prog) (w := w) (base := base) F1 ⟨mz0, mz1, mz2, mz3⟩) b1 m1
  have dOf := Def.of F2 (ok_of F2 dPick ⟨mz0, mz1, mz2, mz3⟩) b2 m2
  have dTold := Def.of F3 (ok_told (P := l.prog) (w := w) (base := base) F3 ⟨mz6, mz7, mz8, mz4⟩) b3 m3
  have dDraw := Def.of F4 (ok_drawp F4 ⟨mz6, mz7, mz8, mz4⟩ dPick dOf dTold) b4 m4
  have dIsI := Def.of F5 (ok_isI (P := l.prog) (w := w) (base := base) F5 mz9 mz1 mz10) b5 m5
  have dIsN := Def.of F6 (ok_isN F6 dIsI) b6 m6
  have dTup := Def.of F7 (ok_tupOf (P := l.prog) (w := w) (base := base) F7 mz9 mz6 mz2) b7 m7
  have dTf := Def.of F8 (ok_tf F8 mz11 dIsI dIsN dTup) b8 m8
  have dTell := DefX.of F9 (ok_tell F9 BT) b9 m9
  have dChk := DefX.of F10 (ok_chk F10 BT mz9 mz6 mz11 dTf dTell) b10 m10
  have dLPP := Def.of F11 (ok_lpp (P := l.prog) (w := w) (base := base) F11 mz9 mz6 mz10 mz1 mz2 mz11) b11 m11
  have dLP := Def.of F12 (ok_lp F12 BT dChk) b12 m12
  have dOdd := Def.of F13 (ok_odd F13 dOf) b13 m13
  have dBent := Def.of F14 (ok_bent F14 mz2 mz7 dPick dOf dOdd) b14 m14
  exact ok_law F15 ⟨mz4, mz5⟩ dSrc dPick dDraw dOdd dBent dLP dLPP
theorem walk_law {l : PySem.W.OpenLaw} {q : Program} {loose : List Str} {XP : (Str → Option Value) → Heap → Prop} {YP : World → Heap → Prop} {d : DefRec} {K : Params → PySem.W.Frag} (hn : l.most = some 63) (hdf : d.params.defaults = [])
    (hY : ∀ (w : World) (h : Heap), YP w h → (K w.params).In h)
    (F : ∀ (w : World) (mg : Str → Option Value) (fa : Addr) (h : Heap), (K w.params).In h → h.Ns mainGlobals mg → mg d.name = some (.ref fa) →
      ∃ fd : FuncData, (∀ (s : Shared) (u : Value), BindsTo s fd ⟨[u], []⟩ [("script", u)]) ∧ ∀ base : Heap, (K w.params).In base → base.Ns mainGlobals mg → FnG l.prog w (K w.params) mg base CX0 6 fa fd ["script"] (spLaw (K w.params))) :
    PySem.W.WalkO q loose XP YP l.row.toRowW d [] (fun f vs => PySem.call f vs) :=
  walk_G (n := 63) (k := 6) (x := "script") (CX := fun _ => CX0) (sp := fun w => spLaw (K w.params)) hn (by decide) hdf ⟨rfl, by decide, by decide⟩ hY F
    (fun _ _ a ns hl hz _ hS => ⟨a, ns, rfl, hS, hl, hz, fun _ => rfl⟩) fun _ _ _ _ _ z => z
end Kx
open PySem PySem.W PyProof.Rows
set_option maxRecDepth 100000 in
set_option maxHeartbeats 0 in
theorem PySem.Challenge.cw_figureclaims_k21_polynomials_judged_holds : PySem.Challenge.rw_figureclaims_k21_polynomials_judged.Holds := by
  w_on; o_law; k_head; (case hw => w_witness2)
  k_fill
  refine Kx.walk_law (l := PySem.Challenge.rw_figureclaims_k21_polynomials_judged) rfl rfl (fun w h Y => PySem.W.kIn_of Y) ?F
  case F =>
    intro w mg fa h KX G hmg
    refine' Kx.all_mk KX G hmg ?a0 ?l0 ?c0 ?k0 ?a1 ?l1 ?c1 ?k1 ?a2 ?l2 ?c2 ?k2 ?a3 ?l3 ?c3 ?k3 ?a4 ?l4 ?c4 ?k4 ?a5 ?l5 ?c5 ?k5 ?a6 ?l6 ?c6 ?k6 ?a7 ?l7 ?c7 ?k7 ?a8 ?l8 ?c8 ?k8 ?a9 ?l9 ?c9 ?k9 ?a10 ?l10 ?c10 ?k10 ?a11 ?l11 ?c11 ?k11 ?a12 ?l12 ?c12 ?k12 ?a13 ?l13 ?c13 ?k13 ?a14 ?l14 ?c14 ?k14 ?a15 ?l15 ?c15 ?k15 ?z0 ?z1 ?z2 ?z3 ?z4 ?z5 ?z6 ?z7 ?z8 ?z9 ?z10 ?z11 ?aC ?xL ?saC ?kC ?gaC ?gtC ?exC ?tyC ?hdC ?isC ?sC ?iC ?tI ?lI ?cI ?kI ?nP
    (case a0 => k_is); (case l0 => k_is); (case c0 => k_is); (case k0 => k_is)
    (case a1 => k_is); (case l1 => k_is); (case c1 => k_is); (case k1 => k_is)
    (case a2 => k_is); (case l2 => k_is); (case c2 => k_is); (case k2 => k_is)
    (case a3 => k_is); (case l3 => k_is); (case c3 => k_is); (case k3 => k_is)
    (case a4 => k_is); (case l4 => k_is); (case c4 => k_is); (case k4 => k_is)
    (case a5 => k_is); (case l5 => k_is); (case c5 => k_is); (case k5 => k_is)
    (case a6 => k_is); (case l6 => k_is); (case c6 => k_is); (case k6 => k_is)
    (case a7 => k_is); (case l7 => k_is); (case c7 => k_is); (case k7 => k_is)
    (case a8 => k_is); (case l8 => k_is); (case c8 => k_is); (case k8 => k_is)
    (case a9 => k_is); (case l9 => k_is); (case c9 => k_is); (case k9 => k_is)
    (case a10 => k_is); (case l10 => k_is); (case c10 => k_is); (case k10 => k_is)
    (case a11 => k_is); (case l11 => k_is); (case c11 => k_is); (case k11 => k_is)
    (case a12 => k_is); (case l12 => k_is); (case c12 => k_is); (case k12 => k_is)
    (case a13 => k_is); (case l13 => k_is); (case c13 => k_is); (case k13 => k_is)
    (case a14 => k_is); (case l14 => k_is); (case c14 => k_is); (case k14 => k_is)
    (case a15 => k_is); (case l15 => k_is); (case c15 => k_is); (case k15 => k_is)
    (case z0 => k_is); (case z1 => k_is); (case z2 => k_is); (case z3 => k_is)
    (case z4 => k_is); (case z5 => k_is); (case z6 => k_is); (case z7 => k_is)
    (case z8 => k_is); (case z9 => k_is); (case z10 => k_is); (case z11 => k_is)
    (case aC => k_is); (case xL => k_is); (case saC => k_is); (case kC => k_is)
    (case gaC => k_is); (case gtC => k_is); (case exC => k_is); (case tyC => k_is)
    (case hdC => k_is); (case isC => k_is); (case sC => k_is); (case iC => k_is)
    (case tI => k_is); (case lI => k_is); (case cI => k_is); (case kI => k_is)
    (case nP => k_is)
