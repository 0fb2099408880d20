import PyProof.Rows.All
import Wide.All
import OpenK.AllK
import Wide.FinOn
import HandS.ForMost
import HandS.ForExc
import HandS.Gcd
import HandS.IsInst
import HandS.Flow
import HandS.Evl
import HandS.SortRule
import HandS.TupSets
import HandS.Conv
import KE.KMathGC
import HandS.Walk
import KE.GoesEnum
import HandS.TupLe
import PyProof.StrLawsRepr
import KE.SortData
import KE.DataMinMax
import KE.SortKeyHeap
import HandS.Lambda
import HandS.SortKw
import HandS.EndTab
import HandS.Style
import HandS.SetFor
import HandS.SortInts
import HandS.Star
import HandS.Deep
import HandS.Comp
import KE.DataEq
import PySem.Challenge.RW_doublecut_k37_whole_twin_webs
-- DG
set_option Elab.async false
set_option linter.all false
set_option maxRecDepth 100000
set_option maxHeartbeats 4000000
/-! DG: a def's promise where no shown object stands around (for repr); repr of data, comb, xs[i] op= e. -/
namespace DC
open PySem PySem.Spec PyProof.Rows L2 Evl

structure OkG (P : Program) (w : World) (K : PySem.W.Frag) (mg : Str → Option Value) (base : Heap)
    (cx : CXT) (k : Nat) (f : Addr) (fd : FuncData) (ps : List Str) (sp : Sp) : Prop where
  cnt : ∀ vs H Q E, sp vs H Q E → vs.length = ps.length
  go : ∀ (A : Around) (outer : List Env) (s : Shared) (H : Hp) (args : Args) (us : List Value) (vs : List V) (Q : VK) (E : XK),
    A.guards = some [] → Room k A → Env0 P w K mg base A outer s H → BindsTo s fd args (ps.zip us) → Vals vs us →
    sp vs H Q E → codeAny (model P w) A (.call (.ref f) args) (CR cx outer P w H s Q E) s

section
variable {P : Program} {w : World} {K : PySem.W.Frag} {mg : Str → Option Value} {base : Heap} {cx : CXT}
  {f : Addr} {fd : FuncData} {ps : List Str} {sp : Sp} {j k : Nat}
theorem OkG.of (F : FnOk P w K mg base cx k f fd ps sp) : OkG P w K mg base cx k f fd ps sp :=
  ⟨F.len, fun A outer s H args us vs Q E _ => F.run A outer s H args us vs Q E⟩
theorem OkG.more (F : OkG P w K mg base cx j f fd ps sp) (h : j ≤ k) : OkG P w K mg base cx k f fd ps sp :=
  ⟨F.cnt, fun A outer s H args us vs Q E g hr => F.go A outer s H args us vs Q E g (hr.mono h)⟩
end

section
variable {X : Cx} {cx : CXT} {k : Nat} {f : Addr} {fd : FuncData} {ps : List Str} {sp : Sp} {dvs : List V} {ds : List Value} {E : XK}
  {x : Str} {p pos : Pos} {e : Expr} {es : List Expr} {t : TA}
theorem goG {pins : List (Addr × Obj)} {σ : L2.St} {H : Hp} {s : Shared} {Q : VK} {us : List Value} {vs : List V}
    (F : OkG X.prog X.w X.K X.mg X.base cx k f fd ps sp) (hgd : X.A.guards = some []) (hr : Room k X.A)
    (hb : Binds X.K fd ps ds) (hd : Vals dvs ds) (hx : Passes cx X E) (I : Inv X pins σ H s) (r : Vals vs us)
    (h : sp (vs ++ dvs) H Q E) : wpAny (model X.prog X.w) X.A (call (.ref f) us) (EP X pins σ Q) X.xe s := by
  have both : Vals (vs ++ dvs) (us ++ ds) := r.append hd
  have len : (us ++ ds).length = ps.length := both.length.symm.trans (F.cnt _ _ _ _ h)
  have run := F.go X.A X.stack s H ⟨us, []⟩ (us ++ ds) (vs ++ dvs) Q E hgd hr I.env0 (hb s us I.kIn len) both h
  refine wpAny_call (codeAny_mono run ?_)
  intro res s' hq
  match res, hq with
  | .error e, hq => exact hx pins σ H s e s' I hq
  | .ok (.ret u), hq => exact I.after hq
theorem callG (F : OkG X.prog X.w X.K X.mg X.base cx k f fd ps sp) (hgd : X.A.guards = some []) (hr : Room k X.A) (hg : Gl X x)
    (hm : X.mg x = some (.ref f)) (hk : PySem.W.keepIn X.K (.ref f) = true) (hb : Binds X.K fd ps ds) (hd : Vals dvs ds)
    (hx : Passes cx X E) (ha : PA X (e :: es) t)
    (hdb : (x == ("__debug__" : Str)) = false := by decide)
    (he : starEach (e :: es) X.env = (false, eval e X.env) :: starEach es X.env := by rfl)
    (hpl : (backTo pos (starEach es X.env)).any (·.1) = false := by rfl) :
    PE X (.Call (.Name x p) (e :: es) [] pos) (tCall sp dvs E t) := by
  constructor
  intro pins s σ H Q I h
  apply wpAny_Call_Name_kw
  apply ld_glob I hg hm _ hdb
  refine PySem.W.callWith_K (h₀ := X.base) I.ok.mod.kin hk (thn (ha.run pos pins s σ H _ I h) ?_) he hpl
  intro us s1 ⟨vs, H1, I1, r, q⟩
  exact ⟨I1.kIn, goG F hgd hr hb hd hx I1 r q⟩
theorem callG0 (F : OkG X.prog X.w X.K X.mg X.base cx k f fd ps sp) (hgd : X.A.guards = some []) (hr : Room k X.A) (hg : Gl X x)
    (hm : X.mg x = some (.ref f)) (hk : PySem.W.keepIn X.K (.ref f) = true) (hb : Binds X.K fd ps ds) (hd : Vals dvs ds)
    (hx : Passes cx X E) (hdb : (x == ("__debug__" : Str)) = false := by decide) :
    PE X (.Call (.Name x p) [] [] pos) (tCall sp dvs E tNil) := by
  constructor
  intro pins s σ H Q I h
  apply wpAny_Call_Name_kw
  apply ld_glob I hg hm _ hdb
  exact PySem.W.callWith_K0 I.kIn hk (goG (us := []) F hgd hr hb hd hx I .nil h)
end

section
variable {P : Program} {w : World} {K : PySem.W.Frag} {mg : Str → Option Value} {base : Heap}
/-- a def of the text, by its body, where no guard stands around -/
theorem okG {cx : CXT} {x qual : Str} {st : Stmt} {f : Addr} {fd : FuncData} {N ps : List Str} {k : Nat} {sp : Sp}
    (F : Fun K x qual st f fd) (S : FnScope N ps (defScope st)) (cnt : ∀ vs H Q E, sp vs H Q E → vs.length = ps.length)
    (body : ∀ (cdv : Value) (A : Around) (outer : List Env) (s : Shared) (H : Hp) (vs : List V) (Q : VK) (E : XK),
      A.guards = some [] → Room k (A.deeper (envOfC qual (defScope st) s.heap.objs.size f cdv)) → sp vs H Q E →
      ∃ t, PSs (cxOf cx P w K mg base N qual (defScope st) f cdv A outer s H E) (defBody st) t ∧
        t { nx := fun _ H' => Q .non H', rt := Q } (start N vs) H) :
    OkG P w K mg base cx (k + 1) f fd ps sp := by
  obtain ⟨oc, od, kV, doc, pm, an, cdv, ct, osl, rfl, lk, hcd⟩ := F.ex
  refine ⟨cnt, ?_⟩
  intro A outer s H args us vs Q E hgd hr e0 hb r hsp
  have hl := cnt _ _ _ _ hsp
  have up : ∀ b o, base.get? b = some o → s.heap.get? b = some o := fun b o e => (e0.bs b o e).1
  have KX : K.In s.heap := e0.mod.kin.keeps up
  have lim : s.heap.NoLimit := e0.mod.nolimit.keeps up
  have kinds : ∀ y ∈ ps.zip us, (defScope st).names.lookup y.1 = some .local ∨
      ((defScope st).names.lookup y.1 = some .cell ∧ ((cellsFrom (s.heap.objs.size + 1) (defScope st).names []).lookup y.1).isSome = true) := by
    rintro ⟨n, v⟩ hy
    cases S.par n (List.of_mem_zip hy).1 with
    | inl q => exact Or.inl q
    | inr q => exact Or.inr ⟨q, PySem.W.cellsFrom_some _ _ _ (Or.inl q)⟩
  refine codeAny_call_function hr.depth (KX _ _ lk) rfl S.co S.gen rfl (PySem.W.codeRec_of KX hcd) (hb _ _ _ _ ?_)
  refine wpAny_newFunctionEnv_cells S.kind kinds ?_
  rintro env rfl s1 x
  refine ⟨lim.keeps x.toInCall.keep, codeAny_func ?_⟩
  obtain ⟨t, ht, hq⟩ := body cdv A outer s H vs Q E hgd (hr.deeper _) hsp
  have I := inv_start (E := E) (CX := cx) (f := f) (qual := qual) (cd := cdv) S hr.hd e0 hl r x
  have ends : ∀ {σ' : L2.St} {H' : Hp} {s' : Shared} {v : V} {u : Value},
      Inv (cxOf cx P w K mg base N qual (defScope st) f cdv A outer s H E) [] σ' H' s' → RelV v u → Q v H' → CE outer P w H s Q u s' :=
    fun J rv q => ⟨_, _, J.os, J.bare, J.base, J.hok, rv, q⟩
  refine wpAny_mono (ht.run [] s1 (start N vs) H _ I hq) ?_ (fun _ _ hs => hs)
  intro fl s' hs
  match fl, hs with
  | .ret u, ⟨v, σ', H', J, rv, q⟩ => exact ends J rv q
  | .next, ⟨σ', H', J, q⟩ => exact ends (v := V.non) (u := Value.none) J rfl q
  | .brk, ⟨_, _, _, q⟩ => exact q.elim
  | .cont, ⟨_, _, _, q⟩ => exact q.elim
end

section
variable {P : Program} {w : World} {K : PySem.W.Frag} {mg : Str → Option Value} {base : Heap}
/-- .. that nothing raised leaves -/
theorem ok0 {x qual : Str} {st : Stmt} {f : Addr} {fd : FuncData} {N ps : List Str} {k : Nat} {sp : Sp}
    (F : Fun K x qual st f fd) (S : FnScope N ps (defScope st)) (cnt : ∀ vs H Q E, sp vs H Q E → vs.length = ps.length)
    (body : ∀ (cdv : Value) (A : Around) (outer : List Env) (s : Shared) (H : Hp) (vs : List V) (Q : VK) (E : XK),
      A.guards = some [] → Room k (A.deeper (envOfC qual (defScope st) s.heap.objs.size f cdv)) → sp vs H Q E →
      ∃ t, PSs (cxOf CX0 P w K mg base N qual (defScope st) f cdv A outer s H E).nox (defBody st) t ∧
        t { nx := fun _ H' => Q .non H', rt := Q } (start N vs) H) :
    OkG P w K mg base CX0 (k + 1) f fd ps sp := by
  refine okG F S cnt ?_
  intro cdv A outer s H vs Q E hgd hr hsp
  obtain ⟨t, h, q⟩ := body cdv A outer s H vs Q E hgd hr hsp
  exact ⟨t, h.nox, q⟩
end

/-! ### data -/
section
variable {K : PySem.W.Frag} {H H' : Hp}
theorem Same.t {a : Addr} {xs : List V} (e : Same H H') (h : SqT K H a xs) : SqT K H' a xs := ex_t e h
mutual
theorem Dp.up (e : Same H H') : ∀ {d : PyData} {v : V}, Dp K H v d → Dp K H' v d
  | _, _, .non => .non
  | _, _, .bl b => .bl b
  | _, _, .int i => .int i
  | _, _, .str x => .str x
  | _, _, .lst h a => .lst (e.seq h) (DpAll.up e a)
  | _, _, .tup h a => .tup (Same.t e h) (DpAll.up e a)
theorem DpAll.up (e : Same H H') : ∀ {ds : List PyData} {vs : List V}, DpAll K H vs ds → DpAll K H' vs ds
  | _, _, .nil => .nil
  | _, _, .cons a b => .cons (Dp.up e a) (DpAll.up e b)
end
theorem Same.new {a : Addr} {o : HO} (h : H a = none) : Same H (upd H a o) := fun b u q => by
  rw [upd_ne (ne_of_none q h)]
  exact q
end

/-! ### repr of data -/
section
variable {X : Cx}
def rRepr (K : PySem.W.Frag) : List V → Hp → VK → Prop := fun vs H Q =>
  ∃ v d, vs = [v] ∧ Dp K H v d ∧ d.showable = true ∧ d.hasDict = false ∧ d.shown.length ≤ sizeLine ∧ d.depth ≤ 60 ∧ Q (.str d.shown) H
theorem cr_repr (hgd : X.A.guards = some []) (hu : X.A.units + 64 < cLine) : CallR X (.builtin "repr") (rRepr X.K) := by
  intro pins s σ H vs us Q I r h
  obtain ⟨v, d, rfl, hd, hs, hn, hz, hp, q⟩ := h
  obtain ⟨u, rfl, ru⟩ : ∃ u, us = [u] ∧ RelV v u := by
    cases r with
    | cons a b => cases b; exact ⟨_, rfl, a⟩
  obtain ⟨as, rd⟩ := Dp.reads I d v u hd ru
  have fin : ∀ (h' : Heap) (tk t : Nat), (∀ b o, s.heap.get? b = some o → h'.get? b = some o) →
      EP X pins σ Q (.str d.shown t) { s with heap := h', toks := tk } :=
    fun h' tk t hk => ⟨.str d.shown, H, I.kept (t' := tk) hk, ⟨t, rfl⟩, q⟩
  cases hd with
  | non => cases ru; exact PySem.P.repr_of_none (fin _ _ _ fun _ _ e => e)
  | bl b => cases ru; exact PySem.P.repr_of_bool (fin _ _ _ fun _ _ e => e)
  | int i =>
    obtain ⟨t, rfl⟩ := ru
    exact PySem.P.repr_of_int (of_decide_eq_true hs) (fin _ _ _ fun _ _ e => e)
  | str z =>
    obtain ⟨t, rfl⟩ := ru
    exact PySem.P.repr_of_str (fin _ _ _ fun _ _ e => e) hz
  | lst h a =>
    cases ru
    exact repr_of_reads' rd hs (PyData.noDict_hsm hn) hgd (by omega) (fun _ _ e => e) (fun h' u tk hk => fin h' tk u hk) hz
  | tup h a =>
    cases ru
    exact repr_of_reads' rd hs (PyData.noDict_hsm hn) hgd (by omega) (fun _ _ e => e) (fun h' u tk hk => fin h' tk u hk) hz
end

/-! ### math.comb -/
section
variable {X : Cx}
def rComb : List V → Hp → VK → Prop := fun vs H Q => ∃ a b : Int, vs = [.int a, .int b] ∧ 0 ≤ a ∧ 0 ≤ b ∧ a < 9000 ∧ Q (.int (PySem.W.mcComb a b)) H
theorem cr_comb : CallR X (.builtin "math.comb") rComb := by
  intro pins s σ H vs us Q I r h
  obtain ⟨a, b, rfl, ha, hb, hs, q⟩ := h
  obtain ⟨t, u, rfl⟩ := Vals.int2 r
  have g := PySem.W.mc_gives_comb t u ha hb (by omega) (Or.inr (by omega))
  exact call_function_meets PySem.W.MGF.kind_comb PySem.W.MGF.plain_comb PySem.W.MGF.entry_comb (PySem.W.MGF.args_comb _ _) g.meets ⟨.int _, H, I.tok _, ⟨_, rfl⟩, q⟩
end

/-! ### xs[i] op= e -/
section
variable {X : Cx}
def rGetL (K : PySem.W.Frag) : V → V → Hp → VK → Prop := fun x y H Q => ∃ a xs i v, x = .ref a ∧ y = .int i ∧ 0 ≤ i ∧ SqL K H a xs ∧ xs[i.toNat]? = some v ∧ Q v H
theorem get_list : PGet X (rGetL X.K) := by
  intro pins s σ H o i ov iv Q I ro ri h
  obtain ⟨a, xs, k, v, rfl, rfl, hk, hq, he, q⟩ := h
  cases ro
  obtain ⟨t, rfl⟩ := ri
  obtain ⟨its, r, pl, hz⟩ := I.list hq
  obtain ⟨w, ew, rw'⟩ := r.get he
  have hl := r.length
  have hn := line63
  have hlt : k.toNat < xs.length := (List.getElem?_eq_some_iff.mp he).1
  exact wpAny_getItem_list pl.isList hk (by omega) (by simpa using ew) ⟨v, H, I, rw', q⟩
end
end DC
-- DW
set_option Elab.async false
set_option linter.all false
set_option maxRecDepth 100000
set_option maxHeartbeats 4000000
namespace DC
open PySem PySem.Spec PyProof.Rows L2 Evl

/-- the law's promise at the heap behind the top, no guard around -/
theorem endG {P : Program} {w : World} {K : PySem.W.Frag} {mg mb : Str → Option Value} {cx : CXT} {k : Nat} {fa a : Addr} {fd : FuncData} {x : Str} {sp : Sp}
    {s₁ : Shared} {vs : List Value} {ns : List Int} (KX : K.In s₁.heap) (hns : s₁.heap.Ns mainGlobals mg) (hb : s₁.heap.Ns builtinsNs mb)
    (hbb : ∀ x : Str, x ≠ "__name__" → mb x = bootBuiltins x) (hlim : s₁.heap.NoLimit) (hg : s₁.gens = #[])
    (ha : s₁.heap.get? a = some { cls := .type "list", data := .seq vs.toArray }) (hi : IntsAre vs ns) (hl : ns.length ≤ sizeLine) (hr : Room k callerA)
    (F : ∀ base : Heap, K.In base → base.Ns mainGlobals mg → OkG P w K mg base cx k fa fd [x] sp)
    (hbind : ∀ (s : Shared) (u : Value), BindsTo s fd ⟨[u], []⟩ [(x, u)])
    (hsp : ∀ H : Hp, Only H → SqL K H a (ns.map V.int) → sp [.ref a] H (fun v _ => v = .bl true) fun _ _ _ => False)
    (hcx : ∀ H e s', cx [] H s₁ (fun _ _ _ => False) e s' → False) :
    codeAny (model P w) callerA (.call (.ref fa) ⟨[.ref a], []⟩)
      (fun r s' => r = .ok (.ret (.bool true)) ∧ OldK s₁.heap s'.heap ∧ s'.os = s₁.os ∧ AllBare s'.gens) s₁ := by
  have vals := vals_ints hi
  have vlen := hi.length
  suffices core : ∀ H : Hp, Only H → SqL K H a (ns.map V.int) → HOk P w H s₁.heap → (∀ b, H b ≠ none → b = a) → (H a ≠ none → K.lookup a = none) →
      codeAny (model P w) callerA (.call (.ref fa) ⟨[.ref a], []⟩)
        (fun r s' => r = .ok (.ret (.bool true)) ∧ OldK s₁.heap s'.heap ∧ s'.os = s₁.os ∧ AllBare s'.gens) s₁ by
    cases hk : K.lookup a with
    | some o =>
      have e := KX a o hk
      rw [ha] at e
      cases e
      refine core (fun _ => none) (fun _ => Or.inl rfl) (Or.inr ⟨_, vs.toArray, _, hk, rfl, rfl, rfl, ?_, ?_⟩) ?_ ?_ ?_
      · rw [List.size_toArray, vlen]; exact hl
      · simpa using vals
      · intro b u z; cases (show (none : Option HO) = some u from z)
      · intro b z; exact absurd rfl z
      · intro z; exact absurd rfl z
    | none =>
      let H : Hp := fun b => if b = a then some (.frz { cls := .type "list", data := .seq vs.toArray } (.lst (ns.map V.int))) else none
      have Ha : H a = some (.frz { cls := .type "list", data := .seq vs.toArray } (.lst (ns.map V.int))) := if_pos rfl
      have Hn : ∀ b, b ≠ a → H b = none := fun b h => if_neg h
      refine core H ?_ (Or.inl (Or.inr ⟨_, Ha⟩)) ?_ ?_ (fun _ => hk)
      · intro b
        by_cases h : b = a
        · subst h; exact Or.inr ⟨_, _, Ha⟩
        · exact Or.inl (Hn b h)
      · intro b u z
        by_cases h : b = a
        · subst h
          cases Ha.symm.trans z
          exact ⟨ha, by rw [List.length_map]; exact hl, vs, _, vals, ha⟩
        · cases (Hn b h).symm.trans z
      · intro b z
        by_cases h : b = a
        · exact h
        · exact absurd (Hn b h) z
  intro H hO hS hok hA hK
  have one : ∀ {b : Addr} {u : HO}, H b = some u → b = a := fun {b u} q => hA b (by rw [q]; exact fun z => nomatch z)
  have keepN : ∀ {b : Addr} {o : Obj}, s₁.heap.get? b = some o → H b = none → (hidT s₁.heap H).get? b = some o := fun e n => hidT_get e n
  have noD : ∀ {b : Addr} {o : Obj} {es : Array DictEntry} {ep : Nat}, s₁.heap.get? b = some o → o.data = .dict es ep → H b = none := by
    intro b o es ep e d
    cases q : H b with
    | none => rfl
    | some u =>
      obtain rfl := one q
      rw [ha] at e
      cases e
      cases (show Data.seq vs.toArray _ = Data.dict es ep from d)
  have nsK : ∀ {b : Addr} {m : Str → Option Value}, s₁.heap.Ns b m → (hidT s₁.heap H).Ns b m := by
    rintro b m ⟨o, es, ep, e, d, r⟩
    exact ⟨o, es, ep, keepN e (noD e d), d, r⟩
  have hKb : K.In (hidT s₁.heap H) := by
    intro b o e
    refine keepN (KX b o e) ?_
    cases q : H b with
    | none => rfl
    | some u =>
      obtain rfl := one q
      rw [hK (by rw [q]; exact fun z => nomatch z)] at e
      cases e
  obtain ⟨mc, l1, l2⟩ := hlim
  have hM : Mod K mg (hidT s₁.heap H) := ⟨hKb, nsK hns, ⟨mb, nsK hb, hbb⟩, ⟨mc, nsK l1, l2⟩⟩
  have nil : ∀ b : Addr, b ∉ ([] : List Addr) := fun b z => nomatch z
  have e0 : Env0 P w K mg (hidT s₁.heap H) callerA [] s₁ H :=
    ⟨rfl, hM, fun b o e => of_hidT e, Nat.le_of_eq (hidT_size _ _), trivial, fun b hb => absurd (show b ∈ ([] : List Addr) from hb) (nil b), hok, .of_eq hg⟩
  have run := (F _ hKb (nsK hns)).go callerA [] s₁ H ⟨[.ref a], []⟩ [.ref a] [.ref a] _ _ rfl hr e0 (hbind s₁ (.ref a)) (.cons rfl .nil) (hsp H hO hS)
  refine codeAny_mono run ?_
  intro r s' h
  match r, h with
  | .error e, h => exact (hcx H e s' h).elim
  | .ok (.ret u), ⟨v, H', os, bare, un, hok', r', q⟩ =>
    obtain rfl : v = .bl true := q
    obtain rfl : u = Value.bool true := r'
    refine ⟨rfl, OldK.of_keep ?_, os, bare⟩
    intro b o e
    cases q : H b with
    | none => exact un.keep b o e q (fun z => absurd (show b ∈ ([] : List Addr) from z) (nil b)) (nil b)
    | some u =>
      rcases hO b with z | ⟨ob, xs, z⟩
      · rw [q] at z; cases z
      · obtain ⟨e1, _⟩ := hok b _ z
        obtain ⟨e2, _⟩ := hok' b _ (un.frzs b ob _ z)
        rw [e] at e1
        cases e1
        exact e2

theorem walkG {l : PySem.W.OpenLaw} {n k : Nat} {q : Program} {loose : List Str} {XP : (Str → Option Value) → Heap → Prop} {YP : World → Heap → Prop}
    {d : DefRec} {K : Params → PySem.W.Frag} {cx : World → CXT} {sp : World → Sp} {x : Str}
    (hn : l.most = some n) (hn2 : n ≤ sizeLine) (hdf : d.params.defaults = []) (hr : Room k callerA)
    (hY : ∀ (w : World) (h : Heap), YP w h → (K w.params).In h)
    (F : ∀ (w : World) (mg : Str → Option Value) (fa : Addr) (h : Heap), (K w.params).In h → h.Ns mainGlobals mg → mg d.name = some (.ref fa) →
      ∃ fd : FuncData, (∀ (s : Shared) (u : Value), BindsTo s fd ⟨[u], []⟩ [(x, u)]) ∧
        ∀ base : Heap, (K w.params).In base → base.Ns mainGlobals mg → OkG l.prog w (K w.params) mg base (cx w) k fa fd [x] (sp w))
    (hsp : ∀ (w : World) (H : Hp) (a : Addr) (ns : List Int), ns.length ≤ n → Only H → SqL (K w.params) H a (ns.map V.int) → sp w [.ref a] H (fun v _ => v = .bl true) fun _ _ _ => False)
    (hcx : ∀ (w : World) (H : Hp) (s : Shared) (e : Value) (s' : Shared), cx w [] H s (fun _ _ _ => False) e s' → False) :
    PySem.W.WalkO q loose XP YP l.row.toRowW d [] (fun f vs => PySem.call f vs) := by
  refine Att.attach_call hn hdf ?_
  intro w s₀ s₁ mg mb fa o pm cd doc a vs ns G Y ho hd hcd hmg hobj hints hlen hg
  have KX := hY w _ Y
  obtain ⟨fd, hb, hF⟩ := F w mg fa _ KX G.T.g hmg
  exact endG KX G.T.g G.T.b G.T.builtins G.T.nolimit hg hobj hints (Nat.le_trans hlen hn2) hr hF hb (fun H hO hS => hsp w H a ns hlen hO hS) (fun H e s' => hcx w H s₁ e s')
end DC
-- DE
set_option Elab.async false
set_option linter.all false
set_option maxRecDepth 100000
set_option maxHeartbeats 4000000
/-! DE: for i, x in enumerate(t), t a tuple. -/
namespace DC
open PySem PySem.Spec PyProof.Rows L2 Evl

theorem meets_enumB {v : Value} {ob : Obj} {J : Heap → Prop} (B : Begins v ob J) :
    Meets (Builtin.«enumerate.__new__» ⟨[.type "enumerate", v], []⟩) (fun _ R s => J s.heap ∧
      R (.ok (.ret (.ref (s.heap.push ob).objs.size)))
        { s with heap := (s.heap.push ob).push { cls := .type "enumerate", data := .fields #[.none, .bool false, .ref s.heap.objs.size, rawInt 0, .none, .none] } }) := by
  refine .of_wp ?_
  intro prog w A R s h
  obtain ⟨hp, g, d, tk, os⟩ := s
  obtain ⟨j0, h⟩ := h
  have hsub := sub_enumerate
  have step : ∀ {A' : Around} {E : Value → Shared → Prop} {Q : Value → Shared → Prop},
      Q (.ref hp.objs.size) ⟨hp.push ob, g, d, tk, os⟩ → wpAny (model prog w) A' (pyIter v) Q E ⟨hp, g, d, tk, os⟩ := by
    intro A' E Q q
    exact B.iter prog w _ _ ⟨hp, g, d, tk, os⟩ _ j0 q
  wp_walk using step
  refine wpAny_stack_any ?_
  intro st
  refine wpAny_pure ?_
  split
  · rename_i c _ _ _ _ _
    cases (c == Value.type "enumerate") <;> (wp_walk using step; exact ⟨_, rfl, h⟩)
  · wp_walk using step
    exact ⟨_, rfl, h⟩

section
variable {prog : Program} {w : World} {A : Around} {E : Value → Shared → Prop} {s : Shared}
theorem call_enumT {t : Addr} {items : Array Value} {Q : Value → Shared → Prop} (hT : s.heap.IsTuple t items)
    (h : ∀ h', IsEnum h' (s.heap.objs.size + 1) s.heap.objs.size 0 .none → h'.IsTupleIter s.heap.objs.size t 0 →
      (∀ b o, s.heap.get? b = some o → h'.get? b = some o) → Q (.ref (s.heap.objs.size + 1)) { s with heap := h' }) :
    wpAny (model prog w) A (call (.type "enumerate") [.ref t]) Q E s := by
  let it : Obj := { cls := .type "tuple_iterator", data := .fields #[.ref t, .int 0 0] }
  let en : Obj := { cls := .type "enumerate", data := .fields #[.none, .bool false, .ref s.heap.objs.size, rawInt 0, .none, .none] }
  have hz : (s.heap.push it).objs.size = s.heap.objs.size + 1 := Heap.size_push ..
  have he : ((s.heap.push it).push en).get? (s.heap.objs.size + 1) = some en := by
    have q := Heap.get?_push_size (s.heap.push it) (o := en) rfl
    rw [hz] at q
    exact q
  refine callType_new F.called_enumerate (by decide) (F.typeCall_enumerate_1 _) (F.newCall_enumerate_1 _) (fun obj => F.args_object_init_2 obj _) F.entry_enumerate_new
    (meets_enumB (begins_tuple t items)) ⟨hT, ?_⟩
  show _ ∧ _
  rw [show (s.heap.push { cls := .type "tuple_iterator", data := .fields #[.ref t, .int 0 0] }).objs.size = s.heap.objs.size + 1 from hz]
  refine ⟨⟨_, he, rfl⟩, h _ he ⟨it, Heap.get?_push_of_some _ (Heap.get?_push_size _ rfl), rfl, rfl⟩ ?_⟩
  intro b o x
  exact Heap.get?_push_of_some _ (Heap.get?_push_of_some _ x)
end

/-- the tuple at a, each item with its number in a new pair -/
def ItE (K : PySem.W.Frag) (a : Addr) : It :=
  ⟨fun i H => ∃ (xs : List V) (x : V), SqT K H a xs ∧ xs[i]? = some x,
   fun i H v H' => ∃ T x, v = .ref T ∧ H T = none ∧ H' = upd H T (.tup [.int (i : Nat), x]) ∧ ∀ xs, SqT K H a xs → xs[i]? = some x,
   fun i H => ∃ xs : List V, SqT K H a xs ∧ xs.length = i⟩

theorem turnE {P : Program} {w : World} {K : PySem.W.Frag} {elts : List Expr} {kk : Nat} {tpos : Pos} (a e it : Addr) (hai : a ≠ it) (hae : a ≠ e) :
    Turn P w K (.Tuple elts kk tpos) (ItE K a) [e, it] e (fun i h => (∃ old, IsEnum h e it ((i : Nat) : Int) old) ∧ h.IsTupleIter it a i ∧ e ≠ it) where
  mem := List.mem_cons_self ..
  obj := by
    rintro i h ⟨⟨old, he⟩, ⟨o, ho, hc, hd⟩, _⟩ b hb
    rcases (show b = e ∨ b = it by simpa using hb) with rfl | rfl
    · exact ⟨_, he, fun v q => nomatch q⟩
    · exact ⟨o, ho, fun v q => by rw [hd] at q; cases q⟩
  keep := by
    rintro i h h' ⟨⟨old, he⟩, hi, hne⟩ k
    exact ⟨⟨old, k e (by simp) _ he⟩, hi.at (fun o q => k it (by simp) o q), hne⟩
  item := by
    intro X hP hw hK hc i pins s σ H E I hf st hg
    subst hP hw hK
    obtain ⟨⟨old, he⟩, hit, hne⟩ := st
    obtain ⟨xs, x, hq, hx⟩ := hg
    obtain ⟨its, rv, p, hz⟩ := I.tuple hq
    obtain ⟨u, hu, ru⟩ := rv.get hx
    have hil : i < its.toArray.size := by
      have := (List.getElem?_eq_some_iff.mp hu).1
      simpa using this
    have hel : e < s.heap.objs.size := Heap.lt_size he
    have hitl : it < s.heap.objs.size := by obtain ⟨_, q, _⟩ := hit; exact Heap.lt_size q
    have D := Draws.tuple (prog := X.prog) (w := X.w) (A := X.A.in1) (I.ok.hd hc) it a hai its.toArray
    refine wpAny_pyNext_enum_itemD D he ⟨hit, p⟩ hil hne (by simp only [List.mem_cons, List.not_mem_nil, or_false, not_or]; exact ⟨hne, hae.symm⟩) ?_
    intro u' h' tk hu' ho st' hT hsz hk
    have eu : u' = u := by
      have q : its.toArray[i]? = some u' := hu'
      rw [List.getElem?_toArray, hu] at q
      exact (Option.some.inj q).symm
    subst eu
    refine ⟨_, rfl, wpAny_letOwnedTupleGo_enum (s := { s with heap := h', toks := tk + 1 }) ho ?_⟩
    intro h'' he' sb
    have hT2 : h''.get? s.heap.objs.size = some { cls := .type "tuple", data := .seq #[.int i tk, u'] } := (sb.2 _ (Nat.ne_of_gt hel)).trans hT
    have new : ObjOk X.prog X.w (upd H s.heap.objs.size (.tup [.int (i : Nat), x])) h'' s.heap.objs.size (.tup [.int (i : Nat), x]) :=
      ⟨by show 2 ≤ sizeLine; decide, [.int i tk, u'], .cons ⟨_, rfl⟩ (.cons ru .nil), ⟨_, hT2, rfl, _, rfl⟩⟩
    have I1 : Inv X pins σ (upd H s.heap.objs.size (.tup [.int (i : Nat), x])) { s with heap := h'', toks := tk + 1 } := by
      refine I.turnedNew (ch := [e, it]) ?_ hf (Nat.le_refl _) new
      intro b ob hb q
      exact (sb.2 b (fun z => hb (by simp [z]))).trans (hk b ob (fun z => hb (by simp [z])) (fun z => hb (by simp [z])) q)
    refine ⟨.ref s.heap.objs.size, _, I1, rfl, ⟨_, x, rfl, I.hok.fresh (Nat.le_refl _), rfl, ?_⟩, ⟨⟨u', ?_⟩, ?_, hne⟩, ?_⟩
    · intro ys hy
      rw [I.tuple_inj hy hq]
      exact hx
    · have e1 : ((i + 1 : Nat) : Int) = (i : Int) + 1 := by omega
      rw [e1]
      exact he'
    · exact st'.1.at fun o q => (sb.2 it (Ne.symm hne)).trans q
    · intro b hb
      have hb' : b < s.heap.objs.size := by
        rcases (show b = e ∨ b = it by simpa using hb) with rfl | rfl
        · exact hel
        · exact hitl
      rw [upd_ne (Nat.ne_of_lt hb')]
      exact (hf b hb).1
  done := by
    intro X hP hw hK hc i pins s σ H E I hf st hg
    subst hP hw hK
    obtain ⟨⟨old, he⟩, hit, hne⟩ := st
    obtain ⟨xs, hq, hx⟩ := hg
    obtain ⟨its, rv, p, hz⟩ := I.tuple hq
    obtain ⟨f0, f1, f2, f3, f4, f5⟩ := hf it (by simp)
    have hl := rv.length
    have D := Draws.tuple (prog := X.prog) (w := X.w) (A := X.A.in1) (I.ok.hd hc) it a hai its.toArray
    have hn : its.toArray.size = i := by rw [List.size_toArray, ← hl]; exact hx
    rw [← hn] at hit
    exact wpAny_pyNext_enum_endD D he ⟨hit, p⟩ fun h' eb => ⟨rfl, I.turned (t' := s.toks) (fun b o hb q => eb b o hb q) f0 f1 f3 f4 f5⟩
  self := by
    rintro A i s Q E ⟨⟨_, he⟩, _⟩ h
    exact wpAny_pyIter_enum he h

def iEnumT (K : PySem.W.Frag) (ta : TA) : TI := fun σ H R => ta σ H fun vs H1 => ∃ a xs, vs = [.ref a] ∧ SqT K H1 a xs ∧ R (ItE K a) H1
theorem pi_enumT {X : Cx} {e : Expr} {ta : TA} {p pos tpos : Pos} {elts : List Expr} {kk : Nat} (hg : Gl X "enumerate") (hm : X.mg "enumerate" = none)
    (ha : PA X [e] ta) (hs : starEach [e] X.env = [(false, eval e X.env)] := by rfl) :
    PI X (.Tuple elts kk tpos) (.Call (.Name "enumerate" p) [e] [] pos) (iEnumT X.K ta) := by
  constructor
  intro pins s σ H R I h
  refine Call_ (ld_blt I hg hm boot_enumerate (PyProof.Rows.callWith_type1 (thn (ha.run pos pins s σ H _ I h) ?_) hs rfl))
  rintro us s1 ⟨vs, H1, I1, r1, a, xs, rfl, hq, q⟩
  obtain rfl : us = [.ref a] := by
    cases r1 with
    | cons r rr => cases rr; cases r; rfl
  obtain ⟨its, rv, p', hz⟩ := I1.tuple hq
  have hlt : a < s1.heap.objs.size := p'.lt
  have h1 : a ≠ s1.heap.objs.size := Nat.ne_of_lt hlt
  have h2 : a ≠ s1.heap.objs.size + 1 := Nat.ne_of_lt (Nat.lt_succ_of_lt hlt)
  refine call_enumT p' ?_
  intro h' he hit hk
  refine wpAny_pyIter_enum he ?_
  have I2 : Inv X pins σ H1 { s1 with heap := h' } := I1.kept (t' := s1.toks) hk
  refine ⟨s1.heap.objs.size + 1, [s1.heap.objs.size + 1, s1.heap.objs.size], _, _, H1, rfl, I2, turnE a _ _ h1 h2, ⟨⟨.none, he⟩, hit, Nat.succ_ne_self _⟩, ?_, q⟩
  intro b hb
  have hle : s1.heap.objs.size ≤ b := by
    rcases (show b = s1.heap.objs.size + 1 ∨ b = s1.heap.objs.size by simpa using hb) with rfl | rfl
    · exact Nat.le_add_right _ _
    · exact Nat.le_refl _
  exact I1.fpOk hle (I1.hok.fresh hle)
theorem walk_enumT {K : PySem.W.Frag} {a : Addr} {xs : List V} :
    Walk (ItE K a) xs.length (fun H => SqT K H a xs) (YPair (fun i => some (.int (i : Nat))) (fun i => xs[i]?)) := by
  refine ⟨fun i _ hi q => ⟨xs, xs[i], q, by simp [hi]⟩, fun _ q => ⟨xs, q, rfl⟩, ?_⟩
  rintro i H v H' _ q ⟨T, x, h1, h2, h3, h4⟩
  exact ⟨T, .int (i : Nat), x, h1, h2, h3, rfl, h4 xs q⟩
end DC
-- DM
set_option Elab.async false
set_option linter.all false
set_option maxRecDepth 100000
set_option maxHeartbeats 4000000
/-! DM: lays as numbers, and how they stand in the heap. -/
namespace DC
open PySem L2
abbrev J2 := Nat × Nat
/-- two joints have no end in common -/
def Apart (p q : J2) : Prop := p.1 ≠ q.1 ∧ p.1 ≠ q.2 ∧ p.2 ≠ q.1 ∧ p.2 ≠ q.2
structure Good (n : Nat) (js : List J2) : Prop where
  one : 1 ≤ n
  top : n ≤ 12
  rng : ∀ p ∈ js, p.1 < p.2 ∧ p.2 < 2 * n
  asc : js.Pairwise (fun p q => p.1 < q.1)
  dis : js.Pairwise Apart
/-- a tuple of two ints at v -/
def Pr (K : PySem.W.Frag) (H : Hp) (v : V) (p : J2) : Prop := ∃ t, v = .ref t ∧ SqT K H t [.int (p.1 : Nat), .int (p.2 : Nat)]
/-- a tuple of such -/
def Js (K : PySem.W.Frag) (H : Hp) (v : V) (js : List J2) : Prop := ∃ t vs, v = .ref t ∧ SqT K H t vs ∧ Paired (Pr K H) vs js
/-- a lay -/
def Ly (K : PySem.W.Frag) (H : Hp) (v : V) (n : Nat) (js : List J2) : Prop := ∃ t u, v = .ref t ∧ SqT K H t [.int (n : Nat), u] ∧ Js K H u js
section
variable {K : PySem.W.Frag} {H H' : Hp} {v : V}
theorem Pr.up (e : Same H H') {p : J2} : Pr K H v p → Pr K H' v p
  | ⟨t, q, h⟩ => ⟨t, q, Same.t e h⟩
theorem Js.up (e : Same H H') {js : List J2} : Js K H v js → Js K H' v js
  | ⟨t, vs, q, h, r⟩ => ⟨t, vs, q, Same.t e h, L2.Paired.mapP r fun _ _ z => z.up e⟩
theorem Ly.up (e : Same H H') {n : Nat} {js : List J2} : Ly K H v n js → Ly K H' v n js
  | ⟨t, u, q, h, r⟩ => ⟨t, u, q, Same.t e h, r.up e⟩
end
theorem pair_at {α β : Type} {R : α → β → Prop} : ∀ {xs : List α} {ys : List β}, Paired R xs ys → ∀ {i : Nat} {x : α}, xs[i]? = some x → ∃ y, ys[i]? = some y ∧ R x y
  | _, _, .nil, i, x, h => by simp at h
  | _, _, .cons r t, 0, x, h => by
    have e := Option.some.inj h
    subst e
    exact ⟨_, rfl, r⟩
  | _, _, .cons r t, i + 1, x, h => pair_at t (i := i) h
/-- which ends of 2 n stand in some joints -/
def Seen (js : List J2) (e : Nat) : Prop := ∃ p ∈ js, e = p.1 ∨ e = p.2
theorem good_at {n : Nat} {js : List J2} (g : Good n js) {i : Nat} {p : J2} (h : js[i]? = some p) :
    p.1 < p.2 ∧ p.2 < 2 * n ∧ ¬ Seen (js.take i) p.1 ∧ ¬ Seen (js.take i) p.2 ∧ (∀ q, (js.take i).getLast? = some q → q.1 < p.1) := by
  obtain ⟨hi, e⟩ := List.getElem?_eq_some_iff.mp h
  have hm : p ∈ js := e ▸ List.getElem_mem hi
  have ap : ∀ q ∈ js.take i, Apart q p ∧ q.1 < p.1 := by
    intro q hq
    obtain ⟨j, hj, ej⟩ := List.mem_iff_getElem.mp hq
    have hj' : j < i ∧ j < js.length := by
      rw [List.length_take] at hj
      omega
    have e2 : js[j] = q := by rw [← ej, List.getElem_take]
    have a := List.pairwise_iff_getElem.mp g.dis j i hj'.2 hi hj'.1
    have b := List.pairwise_iff_getElem.mp g.asc j i hj'.2 hi hj'.1
    rw [e2, e] at a b
    exact ⟨a, b⟩
  refine ⟨(g.rng p hm).1, (g.rng p hm).2, ?_, ?_, ?_⟩
  · rintro ⟨q, hq, h | h⟩
    · exact (ap q hq).1.1 h.symm
    · exact (ap q hq).1.2.2.1 h.symm
  · rintro ⟨q, hq, h | h⟩
    · exact (ap q hq).1.2.1 h.symm
    · exact (ap q hq).1.2.2.2 h.symm
  · intro q hq
    exact (ap q (List.mem_of_getLast? hq)).2
end DC
-- DR
set_option Elab.async false
set_option linter.all false
set_option maxRecDepth 100000
set_option maxHeartbeats 4000000
/-! DR: data whose text is surely short. -/
namespace DC
open PySem L2
mutual
/-- ints of at most twenty figures, short texts of plain signs -/
def sm : PyData → Bool
  | .none | .bool _ => true
  | .int i => decide (i.natAbs < 10 ^ 20)
  | .str x => decide (x.length ≤ 100) && x.cps.toList.all (fun c => decide (c < 128))
  | .list xs | .tuple xs => smAll xs
  | .dict _ => false
def smAll : List PyData → Bool
  | [] => true
  | x :: xs => sm x && smAll xs
end
mutual
def wt : PyData → Nat
  | .none | .bool _ => 5
  | .int _ => 21
  | .str _ => 1002
  | .list xs | .tuple xs => wtAll xs + 4
  | .dict _ => 0
def wtAll : List PyData → Nat
  | [] => 0
  | x :: xs => wt x + 2 + wtAll xs
end
theorem textFrom_le : ∀ (ts : List Str) (k : Nat) (acc : Str), (textFrom k acc ts).length ≤ acc.length + piled ts
  | [], _, acc => Nat.le_add_right _ _
  | t :: ts, k, acc => by
    have ih := textFrom_le ts (k + 1) (acc ++ (if k > 0 then ", " else "" : String) ++ t)
    rw [piled_cons]
    refine Nat.le_trans ih ?_
    rw [strLen_append, strLen_append, ofString_length]
    split
    · have : (", " : String).length = 2 := by decide
      omega
    · have : ("" : String).length = 0 := by decide
      omega
theorem listText_le (ts : List Str) : (listText ts).length ≤ piled ts + 4 := by
  have h := textFrom_le ts 0 "["
  unfold listText
  rw [strLen_append, ofString_length]
  rw [ofString_length] at h
  have e1 : ("[" : String).length = 1 := by decide
  have e2 : ("]" : String).length = 1 := by decide
  omega
theorem tupleText_le (ts : List Str) : (tupleText ts).length ≤ piled ts + 4 := by
  unfold tupleText
  rw [strLen_append, strLen_append, ofString_length, ofString_length]
  have e1 : ("(" : String).length = 1 := by decide
  have e2 : (if (ts.length == 1) = true then ",)" else ")" : String).length ≤ 2 := by split <;> decide
  by_cases h : ts = []
  · subst h
    have e3 : (Str.join ", " ([] : List Str)).length = 0 := by decide
    omega
  · have j := join_length_add ts h
    omega
mutual
theorem sm_show : ∀ d : PyData, sm d = true → d.showable = true ∧ d.hasDict = false ∧ d.shown.length ≤ wt d
  | .none, _ => ⟨by simp only [PyData.showable], by simp only [PyData.hasDict], by simp only [PyData.shown, wt]; decide⟩
  | .bool b, _ => ⟨by simp only [PyData.showable], by simp only [PyData.hasDict], by simp only [PyData.shown, wt]; cases b <;> decide⟩
  | .int i, h => by
    simp only [sm, decide_eq_true_eq] at h
    refine ⟨?_, by simp only [PyData.hasDict], ?_⟩
    · simp only [PyData.showable, decide_eq_true_eq]
      by_cases z : i.natAbs = 0
      · rw [z]; decide
      · exact (Nat.log2_lt z).mpr (Nat.lt_trans h (by decide))
    · simp only [PyData.shown, wt]
      rw [ofString_length]
      exact int_text_length_le10 (by decide) h
  | .str x, h => by
    simp only [sm, Bool.and_eq_true, decide_eq_true_eq, List.all_eq_true] at h
    refine ⟨by simp only [PyData.showable], by simp only [PyData.hasDict], ?_⟩
    simp only [PyData.shown, wt]
    have q := StrLaws.reprText_len x fun c hc => Nat.lt_trans (h.2 c hc) (by decide)
    have := h.1
    omega
  | .list xs, h => by
    simp only [sm] at h
    obtain ⟨a, b, c⟩ := sm_showAll xs h
    refine ⟨by simpa only [PyData.showable] using a, by simpa only [PyData.hasDict] using b, ?_⟩
    simp only [PyData.shown, wt]
    have := listText_le (PyData.shownAll xs)
    omega
  | .tuple xs, h => by
    simp only [sm] at h
    obtain ⟨a, b, c⟩ := sm_showAll xs h
    refine ⟨by simpa only [PyData.showable] using a, by simpa only [PyData.hasDict] using b, ?_⟩
    simp only [PyData.shown, wt]
    have := tupleText_le (PyData.shownAll xs)
    omega
  | .dict _, h => by simp [sm] at h
theorem sm_showAll : ∀ xs : List PyData, smAll xs = true → PyData.showableAll xs = true ∧ PyData.hasDictAll xs = false ∧ piled (PyData.shownAll xs) ≤ wtAll xs
  | [], _ => ⟨by simp only [PyData.showableAll], by simp only [PyData.hasDictAll], by simp only [PyData.shownAll, wtAll, piled_nil]; decide⟩
  | x :: xs, h => by
    simp only [smAll, Bool.and_eq_true] at h
    obtain ⟨a, b, c⟩ := sm_show x h.1
    obtain ⟨a', b', c'⟩ := sm_showAll xs h.2
    refine ⟨by simp only [PyData.showableAll, a, a', Bool.and_self], by simp only [PyData.hasDictAll, b, b', Bool.or_self], ?_⟩
    simp only [PyData.shownAll, wtAll, piled_cons]
    omega
end
end DC
-- DS
set_option Elab.async false
set_option linter.all false
set_option maxRecDepth 100000
set_option maxHeartbeats 4000000
/-! DS: sorted of data of one shape (ints, texts, tuples of these, nested). -/
namespace DC
open PySem PySem.Spec PyProof.Rows L2 Evl
section
variable {K : PySem.W.Frag} {H : Hp}
theorem dpAll_len : ∀ {xs : List V} {ds : List PyData}, DpAll K H xs ds → xs.length = ds.length
  | _, _, .nil => rfl
  | _, _, .cons _ t => by rw [List.length_cons, List.length_cons, dpAll_len t]
theorem dpAll_zip : ∀ {xs : List V} {ds : List PyData}, DpAll K H xs ds → ∀ p ∈ xs.zip ds, Dp K H p.1 p.2
  | _, _, .nil, p, h => by simp at h
  | _, _, .cons a t, p, h => by
    rw [List.zip_cons_cons] at h
    rcases List.mem_cons.mp h with rfl | h
    · exact a
    · exact dpAll_zip t p h
theorem dpAll_of : ∀ (zs : List (V × PyData)), (∀ p ∈ zs, Dp K H p.1 p.2) → DpAll K H (zs.map Prod.fst) (zs.map Prod.snd)
  | [], _ => .nil
  | z :: zs, h => .cons (h z List.mem_cons_self) (dpAll_of zs fun p hp => h p (List.mem_cons_of_mem _ hp))
end
/-- sorted(xs): xs a list of data of one shape; the new list has the same things, in the data's order -/
def rSortD (K : PySem.W.Frag) : List V → Hp → VK → Prop := fun vs H Q => ∃ (a : Addr) (xs : List V) (ds : List PyData), vs = [.ref a] ∧ SqL K H a xs ∧ DpAll K H xs ds ∧ PySem.W.AllAlike ds ∧ PySem.W.Sortable ds ∧ (∀ d ∈ ds, d.depth ≤ 60) ∧
  ∀ (ys : List V) (p : Addr), ys.Perm xs → DpAll K H ys (ds.mergeSort (PySem.W.dataLe false id)) → H p = none → Q (.ref p) (upd H p (.lst ys))
theorem each_vals : ∀ {xs : List V} {us : List Value} {ds : List PyData}, Vals xs us → xs.length = ds.length → PySem.W.EachIs (fun (v : Value) (b : V × PyData) => RelV b.1 v) us (xs.zip ds)
  | _, _, [], .nil, _ => .nil
  | _, _, d :: ds, .cons r t, h => .cons r (each_vals t (Nat.succ.inj h))
  | _, _, [], .cons r t, h => by simp at h
  | _, _, d :: ds, .nil, h => by simp at h
theorem each_back : ∀ {us : List Value} {bs : List (V × PyData)}, PySem.W.EachIs (fun (v : Value) (b : V × PyData) => RelV b.1 v) us bs → Vals (bs.map Prod.fst) us
  | _, _, .nil => .nil
  | _, _, .cons r t => .cons r (each_back t)
theorem cr_sortD {X : Cx} (hu : X.A.units + 64 < cLine) : CallR X (.builtin "sorted") (rSortD X.K) := by
  intro pins s σ H vs us Q I r h
  obtain ⟨a, xs, ds, rfl, hs, hd, hal, hk, hp, q⟩ := h
  obtain ⟨its, rv, hl, hz⟩ := I.list hs
  rw [Vals.ref1 r]
  have len := dpAll_len hd
  have snd : (xs.zip ds).map Prod.snd = ds := by rw [List.map_snd_zip]; omega
  have fst : (xs.zip ds).map Prod.fst = xs := by rw [List.map_fst_zip]; omega
  have hb : (xs.zip ds).length = xs.length := by rw [List.length_zip]; omega
  have e1 := each_vals rv len
  have hdp := dpAll_zip hd
  refine PySem.W.sorted_data (bs := xs.zip ds) (enc := Prod.snd) (R := fun (v : Value) (b : V × PyData) => RelV b.1 v) hl.isList e1 ?_ (by rw [snd]; exact hal) (by rw [snd]; exact hk) (by rw [hb]; exact hz) (fun b hb => ?_) fun out ho eo => ?_
  · have gen : ∀ {us : List Value} {bs : List (V × PyData)}, PySem.W.EachIs (fun (v : Value) (b : V × PyData) => RelV b.1 v) us bs → (∀ b ∈ bs, Dp X.K H b.1 b.2) → PySem.W.EachIs (fun v (b : V × PyData) => ∃ as, Reads s.heap v b.2 as) us bs := by
      intro us bs e
      induction e with
      | nil => intro _; exact .nil
      | cons r t ih => intro h; exact .cons (Dp.reads I _ _ _ (h _ List.mem_cons_self) r) (ih fun b hb => h b (List.mem_cons_of_mem _ hb))
    exact gen e1 hdp
  · have : b.2 ∈ ds := by
      rw [← snd]
      exact List.mem_map.mpr ⟨b, hb, rfl⟩
    have := hp _ this
    omega
  · obtain ⟨ep, he'⟩ := PyProof.Rows.sortedAll_at s.heap its out.toArray
    have pm : ((xs.zip ds).mergeSort (PySem.W.dataLe false Prod.snd)).Perm (xs.zip ds) := List.mergeSort_perm _ _
    have p2 : (((xs.zip ds).mergeSort (PySem.W.dataLe false Prod.snd)).map Prod.fst).Perm xs := by
      have := pm.map Prod.fst
      rw [fst] at this
      exact this
    have hlen : (((xs.zip ds).mergeSort (PySem.W.dataLe false Prod.snd)).map Prod.fst).length ≤ sizeLine := by
      rw [p2.length_eq]
      exact hz
    have ms : ((xs.zip ds).mergeSort (PySem.W.dataLe false Prod.snd)).map Prod.snd = ds.mergeSort (PySem.W.dataLe false id) := by
      have z := List.map_mergeSort (r := PySem.W.dataLe false (Prod.snd : V × PyData → PyData)) (s := PySem.W.dataLe false id) (f := Prod.snd) (l := xs.zip ds) (fun a _ b _ => rfl)
      rw [snd] at z
      exact z
    refine ⟨.ref _, upd H (s.heap.objs.size + 1) (.lst (((xs.zip ds).mergeSort (PySem.W.dataLe false Prod.snd)).map Prod.fst)), I.laid (t' := s.toks) (fun _ _ => PyProof.Rows.sortedAll_old) (Nat.le_succ _) ⟨hlen, out, ep, each_back eo, he'⟩, rfl, q _ _ p2 ?_ (I.hok.fresh (Nat.le_succ _))⟩
    rw [← ms]
    exact dpAll_of _ fun p hp => hdp p (pm.mem_iff.mp hp)
end DC
-- DX
set_option Elab.async false
set_option linter.all false
set_option maxRecDepth 100000
set_option maxHeartbeats 4000000
/-! DX: max of a list of data of one shape. -/
namespace DC
open PySem PySem.Spec PyProof.Rows L2 Evl
theorem dpAll_at {K : PySem.W.Frag} {H : Hp} : ∀ {xs : List V} {ds : List PyData} {i : Nat} {x : V}, DpAll K H xs ds → xs[i]? = some x → ∃ d, ds[i]? = some d ∧ Dp K H x d
  | _, _, i, x, .nil, h => by simp at h
  | _, _, 0, x, .cons a t, h => by
    have e := Option.some.inj h
    subst e
    exact ⟨_, rfl, a⟩
  | _, _, i + 1, x, .cons a t, h => dpAll_at (i := i) t h
theorem maxD_mem : ∀ (ds : List PyData) (d : PyData), PySem.W.maxD d ds ∈ d :: ds := by
  intro ds
  unfold PySem.W.maxD
  induction ds with
  | nil => intro d; exact List.mem_cons_self
  | cons e ds ih =>
    intro d
    rw [List.foldl_cons]
    have h := ih (if PySem.W.dataLt d e then e else d)
    rcases List.mem_cons.mp h with z | z
    · rw [z]
      split
      · exact List.mem_cons_of_mem _ List.mem_cons_self
      · exact List.mem_cons_self
    · exact List.mem_cons_of_mem _ (List.mem_cons_of_mem _ z)
def rMaxD (K : PySem.W.Frag) : List V → Hp → VK → Prop := fun vs H Q => ∃ (a : Addr) (xs : List V) (d : PyData) (ds : List PyData), vs = [.ref a] ∧ SqL K H a xs ∧ DpAll K H xs (d :: ds) ∧ PySem.W.AlikeAll (d :: ds) ∧ PyData.depthAll (d :: ds) ≤ 60 ∧
  ∀ y, y ∈ xs → Dp K H y (PySem.W.maxD d ds) → Q y H
theorem cr_maxD {X : Cx} (hc : X.calm = true) (hu : X.A.units + 64 < cLine) : CallR X (.builtin "max") (rMaxD X.K) := by
  intro pins s σ H vs us Q I r h
  obtain ⟨a, xs, d, ds, rfl, hs, hd, hal, hp, q⟩ := h
  obtain ⟨its, rv, hl, hz⟩ := I.list hs
  rw [Vals.ref1 r]
  obtain ⟨as, hr⟩ := Dp.readsAll I _ _ _ hd rv
  refine PySem.W.max_list_data (I.ok.hd hc) hl.isList hr hal (by omega) fun i v h' tk bs hv hrd hk => ?_
  have hv' : its[i]? = some v := by simpa using hv
  have hi : i < xs.length := by
    have := (List.getElem?_eq_some_iff.mp hv').1
    have := rv.length
    omega
  have hx : xs[i]? = some xs[i] := List.getElem?_eq_getElem hi
  obtain ⟨u, hu2, ru⟩ := rv.get hx
  obtain rfl : v = u := Option.some.inj (hv'.symm.trans hu2)
  obtain ⟨d', hd', dp⟩ := dpAll_at hd hx
  obtain ⟨as', hr'⟩ := Dp.reads I _ _ _ dp ru
  have e := PySem.W.alike_unique d' (PySem.W.maxD d ds) _ _ _ (hal.1 _ (List.mem_of_getElem? hd') _ (maxD_mem ds d)) (PyProof.Rows.Reads.keeps hk hr') hrd
  rw [e] at dp
  exact ⟨xs[i], H, I.kept (t' := tk) hk, ru, q _ (List.getElem_mem hi) dp⟩
end DC
-- DL
set_option Elab.async false
set_option linter.all false
set_option maxRecDepth 100000
set_option maxHeartbeats 4000000
/-! DL: sorted(xs, key=lambda y: y[1]), the keys tuples of ints. -/
namespace DC
open PySem PySem.Spec PyProof.Rows L2 Evl LamX
section
variable {prog : Program} {w : World} {A : Around} {s : Shared}
/-- (lambda y: y[1])(t), t a tuple -/
theorem lam1_run {f t c' : Addr} {qual y : Str} {params : Arguments} {scope : Scope} {pm ctv : Value} {q1 q2 q3 : Pos} {j : Nat} {items : Array Value} {v1 : Value} {d : PyData}
    (hroom : A.depth < recursionLimit) (hlim : s.heap.NoLimit)
    (ho : s.heap.get? f = some (PySem.W.kla_obj "<lambda>" qual params (.Subscript (.Name y q1) (.Constant (.int 1) j q2) q3) scope [] pm c' ctv)) (hcd : s.heap.CodeRec (.ref c') qual)
    (hbind : ∀ v, bindArgs (PySem.W.kla_fn "<lambda>" qual params (.Subscript (.Name y q1) (.Constant (.int 1) j q2) q3) scope [] pm (.ref c') ctv) ⟨[v], []⟩ = pure [(y, v)])
    (hk : scope.kind = .function) (hl : scope.names.lookup y = some .local) (hc : ∀ x ∈ scope.names, x.2 ≠ .cell) (hco : scope.isCoroutine = false) (hgen : scope.isGenerator = false) (hd : (y == ("__debug__" : Str)) = false)
    (hT : IsTup s.heap t items) (h1 : items[1]? = some v1) (hr : ∀ h', (∀ b o, s.heap.get? b = some o → h'.get? b = some o) → Reads h' v1 d []) :
    wpAny (model prog w) A (call (.ref f) [.ref t]) (PySem.W.KeyPure d s) (fun _ _ => False) s := by
  have h1s : 1 < items.size := (Array.getElem?_eq_some_iff.mp h1).1
  refine wpAny_call (PySem.W.kla_callFunE hroom ho rfl hco hgen rfl hcd ?_)
  rw [hbind]
  refine wpAny_pure (wpAny_newFunctionEnv hc (fun x hx => ?_) (fun h₁ hns hsb => ⟨hlim.fresh _ hsb, ?_⟩) hk)
  · obtain rfl := List.mem_singleton.mp hx
    exact hl
  · show codeAny _ _ (.expr _ (PySem.W.envX qual scope s.heap.objs.size f (.ref c') [])) _ _
    have kp : ∀ b o, s.heap.get? b = some o → h₁.get? b = some o := fun b o e => hsb.extBut b o (Nat.ne_of_lt (Heap.lt_size e)) (Heap.get?_push_of_some _ e)
    have hT' : IsTup h₁ t items := by
      obtain ⟨o, a, b⟩ := hT
      exact ⟨o, kp _ _ a, b⟩
    refine PySem.W.kla_codeExpr (Subscript_Constant (wpAny_Name (wpAny_loadName_local (v := .ref t) hk ?_ hns ?_ ?_) hd))
    · exact hl
    · show List.lookup y [(y, Value.ref t)] = some (Value.ref t)
      simp [List.lookup]
    · refine wpAny_Constant_int ⟨"tuple", "tuple.__getitem__", slot_tuple_getitem.lookup, hT'.typeIs, getItem_tuple (j := 1) hT' (by decide) (by decide) (ixN_seq (Evl.ixN_nat (n := items.size) (j := 1) h1s)).1 h1 ?_⟩
      exact ⟨h₁, _, rfl, kp, hr h₁ kp⟩
end
def tupD (k : List Int) : PyData := .tuple (k.map PyData.int)
theorem reads_ints {h : Heap} : ∀ {k : List Int} {its : List Value}, Vals (k.map V.int) its → ReadsAll h its (k.map PyData.int) []
  | [], _, r => by
    cases r
    exact .nil
  | i :: k, _, r => by
    cases r with
    | cons a t =>
      obtain ⟨tk, rfl⟩ := a
      exact ReadsAll.cons (as := []) (bs := []) (Reads.int i tk) (reads_ints t)
theorem alike_ints : ∀ (k l : List Int), PySem.W.alikeAll (k.map PyData.int) (l.map PyData.int) = true
  | [], l => by cases l <;> simp [PySem.W.alikeAll]
  | a :: k, [] => by simp [PySem.W.alikeAll]
  | a :: k, b :: l => by
    simp only [List.map_cons, PySem.W.alikeAll, PySem.W.alike, alike_ints k l, Bool.and_self]
theorem alike_tup (k l : List Int) : PySem.W.alike (tupD k) (tupD l) = true := by
  unfold tupD
  simp only [PySem.W.alike, alike_ints]
theorem each_valsB {β : Type} : ∀ {xs : List V} {us : List Value} {ds : List β}, Vals xs us → xs.length = ds.length → PySem.W.EachIs (fun (v : Value) (b : V × β) => RelV b.1 v) us (xs.zip ds)
  | _, _, [], .nil, _ => .nil
  | _, _, d :: ds, .cons r t, h => .cons r (each_valsB t (Nat.succ.inj h))
  | _, _, [], .cons r t, h => by simp at h
  | _, _, d :: ds, .nil, h => by simp at h
theorem each_backB {β : Type} : ∀ {us : List Value} {bs : List (V × β)}, PySem.W.EachIs (fun (v : Value) (b : V × β) => RelV b.1 v) us bs → Vals (bs.map Prod.fst) us
  | _, _, .nil => .nil
  | _, _, .cons r t => .cons r (each_backB t)
/-- an item: a pair whose second thing is a tuple of ints, not empty -/
def KeyAt (K : PySem.W.Frag) (H : Hp) (x : V) (k : List Int) : Prop := ∃ t u t2, x = .ref t ∧ SqT K H t [u, .ref t2] ∧ SqT K H t2 (k.map V.int) ∧ k ≠ []
def byKey (p : V × List Int) : PyData := tupD p.2
def tSortLam (K : PySem.W.Frag) (T : List (Addr × Str)) (te : TE) : TE := fun σ H Q => te σ H fun v H1 => Tabs T H1 ∧ ∀ H2, ExtN H1 H2 → Tabs T H2 → ∃ (a : Addr) (xs : List V) (ks : List (List Int)),
  v = .ref a ∧ SqL K H2 a xs ∧ xs.length = ks.length ∧ (∀ p ∈ xs.zip ks, KeyAt K H2 p.1 p.2) ∧
  ∀ (q : Addr), H2 q = none → Q (.ref q) (upd H2 q (.lst (((xs.zip ks).mergeSort (PySem.W.dataLe false byKey)).map Prod.fst)))
section
variable {X : Cx}
theorem pe_sortLam {T : List (Addr × Str)} {c P : Addr} {e : Expr} {te : TE} {y : Str} {params : Arguments} {scope : Scope} {j k : Nat} {p q1 q2 q3 pos kp cpos : Pos}
    (TB : TabB X.base X.mg c P) (hcode : X.env.code = .ref c) (hmT : (P, X.env.qual ++ "<lambda>") ∈ T) (hu : ∀ p ∈ T, p.1 = P → p.2 = X.env.qual ++ "<lambda>")
    (hr : Room k X.A) (hg : Gl X "sorted") (hm : X.mg "sorted" = none) (he : PE X e te)
    (hbind : ∀ c' pm ctv v, bindArgs (PySem.W.kla_fn "<lambda>" (X.env.qual ++ "<lambda>") params (.Subscript (.Name y q1) (.Constant (.int 1) j q2) q3) scope [] pm (.ref c') ctv) ⟨[v], []⟩ = pure [(y, v)])
    (hdef : defaultsOf params X.env = ([], [])) (hfree : ∀ z ∈ scope.names, z.2 = .free → ∃ c, X.env.cells.lookup z.1 = some c) (hclo : cloFrom X.env.cells scope.names [] = [])
    (hk : scope.kind = .function) (hl : scope.names.lookup y = some .local) (hcell : ∀ x ∈ scope.names, x.2 ≠ .cell) (hco : scope.isCoroutine = false) (hgen : scope.isGenerator = false) (hd : (y == ("__debug__" : Str)) = false)
    (hb : backTo cpos (starEach [e] X.env) = (false, eval e X.env) :: backTo cpos (starEach [] X.env) := by rfl) (hpl : (backTo cpos (starEach [e] X.env)).any (·.1) = false := by rfl) (na : starEach [e] X.env = (false, eval e X.env) :: starEach [] X.env := by rfl) :
    PE X (.Call (.Name "sorted" p) [e] [⟨some "key", .Lambda params (.Subscript (.Name y q1) (.Constant (.int 1) j q2) q3) scope pos, kp⟩] cpos) (tSortLam X.K T te) := by
  refine ⟨fun pins s σ H Q I h => ?_⟩
  refine wpAny_Call_Name_kw (ld_blt (u := .builtin "sorted") I hg hm (by decide +kernel) ?_ (by decide) (by decide))
  refine PyProof.Rows.callWith_kw (thn ((pa_cons he pa_nil na).run cpos pins s σ H (fun vs H1 => match vs with
    | [v] => Tabs T H1 ∧ ∀ H2, ExtN H1 H2 → Tabs T H2 → ∃ (a : Addr) (xs : List V) (ks : List (List Int)),
      v = .ref a ∧ SqL X.K H2 a xs ∧ xs.length = ks.length ∧ (∀ p ∈ xs.zip ks, KeyAt X.K H2 p.1 p.2) ∧
      ∀ (q : Addr), H2 q = none → Q (.ref q) (upd H2 q (.lst (((xs.zip ks).mergeSort (PySem.W.dataLe false byKey)).map Prod.fst)))
    | _ => False) I h) fun us s1 hh => ?_) hb hpl
  obtain ⟨vs, H1, I1, r1, hh⟩ := hh
  match vs, r1, hh with
  | [], _, hh => exact hh.elim
  | _ :: _ :: _, _, hh => exact hh.elim
  | [v], r1, ⟨hT1, qq⟩ =>
  show wpAny _ _ (evalAll ((do let v ← eval (.Lambda params (.Subscript (.Name y q1) (.Constant (.int 1) j q2) q3) scope pos) X.env; standAt cpos; pure v) :: [])) _ _ s1
  refine wpAny_evalAll_cons (wpAny_bind (lam_make2 I1 TB hcode hmT hu hT1 hdef hfree fun f c' pm ctv H2 s2 I2 eN T2 hf hfn hfr hcc => wpAny_bind (wpAny_standAt (wpAny_pure ?_))))
  refine wpAny_evalAll_nil ?_
  rw [hclo] at hf
  obtain ⟨a, xs, ks, rfl, hs, hlen, hkey, q⟩ := qq H2 eN T2
  obtain ⟨its, rv, hl2, hz⟩ := I2.list hs
  rw [Vals.ref1 r1]
  show wpAny (model X.prog X.w) X.A (call (.builtin "sorted") [.ref a] [(Str.ofString "key", .ref f)]) (EP X pins σ Q) X.xe s2
  obtain ⟨⟨oc, cvs, ct, hoc, hdc, hvc⟩, _, _⟩ := I2.hok c' _ hcc
  have hbl : (xs.zip ks).length = xs.length := by rw [List.length_zip]; omega
  refine PySem.W.sorted_key_data (bs := xs.zip ks) (b := false) (R := fun (v : Value) (b : V × List Int) => RelV b.1 v) byKey hl2.isList (each_valsB rv hlen) ?_ ?_ (by rw [hbl]; exact hz) ?_ (PyProof.Rows.ksk_s1 _ _) (fun x => PyProof.Rows.ksk_l1 _ _) (fun x => PyProof.Rows.ksk_t1 f x) ?_ ?_
  · intro d hd d' hd'
    obtain ⟨b, _, rfl⟩ := List.mem_map.mp hd
    obtain ⟨b', _, rfl⟩ := List.mem_map.mp hd'
    exact alike_tup _ _
  · refine .inl fun d hd => ?_
    obtain ⟨b, hb, rfl⟩ := List.mem_map.mp hd
    obtain ⟨_, _, _, _, _, _, ne⟩ := hkey b hb
    unfold byKey tupD
    cases hk2 : b.2 with
    | nil => exact absurd hk2 ne
    | cons z r => exact ⟨_, _, rfl⟩
  · intro b hb
    have := hr.units
    have hd1 : (byKey b).depth ≤ 1 := by
      unfold byKey tupD
      simp only [PyData.depth]
      have : ∀ cs : List Int, PyData.depthAll (cs.map PyData.int) = 0 := by
        intro cs
        induction cs with
        | nil => simp only [List.map_nil, PyData.depthAll]
        | cons c cs ih => simp only [List.map_cons, PyData.depthAll, PyData.depth, ih, Nat.max_self]
      rw [this]
      omega
    omega
  · intro v b hR hb h tk up
    obtain ⟨t, u, t2, e1, hq, hq2, _⟩ := hkey b hb
    rw [e1] at hR
    obtain rfl : v = Value.ref t := hR
    obtain ⟨its1, rv1, pl1, _⟩ := I2.tuple hq
    obtain ⟨its2, rv2, ⟨o2, ho2, hc2, n2, hd2⟩, _⟩ := I2.tuple hq2
    obtain ⟨w1, ew1, rw1⟩ := rv1.get (i := 1) (x := .ref t2) rfl
    obtain rfl : w1 = Value.ref t2 := rw1
    have hT' : IsTup h t its1.toArray := by
      obtain ⟨o, a, b⟩ := pl1
      exact ⟨o, up _ _ a, b⟩
    refine lam1_run (s := { s2 with heap := h, toks := tk }) (show X.A.in1.in1.depth < recursionLimit from hr.depth) (I2.nolimit.keeps up) (up _ _ hf) ⟨c', oc, cvs, ct, rfl, up _ _ hoc, hdc, hvc⟩ (hbind c' pm ctv) hk hl hcell hco hgen hd hT' (by simpa using ew1) fun h' up' => ?_
    exact Reads.tuple (up' _ _ (up _ _ ho2)) hc2 hd2 (reads_ints rv2)
  · intro out cc h' tk up hn hg' ho eo
    have pm2 : (((xs.zip ks).mergeSort (PySem.W.dataLe false byKey)).map Prod.fst).length = xs.length := by
      rw [List.length_map, List.length_mergeSort, hbl]
    refine ⟨.ref _, upd H2 (s2.heap.objs.size + 1) (.lst (((xs.zip ks).mergeSort (PySem.W.dataLe false byKey)).map Prod.fst)), I2.laid (t' := tk) up (Nat.le_succ _) ⟨by rw [pm2]; exact hz, out, cc, each_backB eo, hg'⟩, rfl, q _ (I2.hok.fresh (Nat.le_succ _))⟩
end
end DC
-- DV
set_option Elab.async false
set_option linter.all false
set_option maxRecDepth 100000
set_option maxHeartbeats 4000000
/-! DV: a range kept in a name, and walked (again). -/
namespace DC
open PySem PySem.Spec PyProof.Rows L2 Evl
section
variable {X : Cx}
theorem cr_range1 : CallR X (.type "range") (fun vs H Q => ∃ j, vs = [V.int j] ∧ ∀ p, H p = none → Q (.ref p) (upd H p (.rng 0 j))) := by
  intro pins s σ H vs us Q I r h
  obtain ⟨j, rfl, q⟩ := h
  obtain ⟨u1, rfl, rj⟩ : ∃ u, us = [u] ∧ RelV (.int j) u := by
    cases r with
    | cons a b => cases b; exact ⟨_, rfl, a⟩
  obtain ⟨u, rfl⟩ := rj
  exact call_range_1 ⟨.ref s.heap.objs.size, upd H s.heap.objs.size (.rng 0 j), I.laid (fun b o e => Heap.get?_push_of_some _ e) (Nat.le_refl _) ⟨_, _, _, Heap.get?_push_size _ rfl⟩, rfl, q _ (I.hok.fresh (Nat.le_refl _))⟩
def iRngV (te : TE) : TI := fun σ H R => te σ H fun v H1 => ∃ (a : Addr) (j : Nat), v = .ref a ∧ H1 a = some (.rng 0 (j : Nat)) ∧ j < 1000000 ∧ R (Itr 0 j) H1
theorem pi_rngV {tg e : Expr} {te : TE} (he : PE X e te) : PI X tg e (iRngV te) := by
  constructor
  intro pins s σ H R I h
  refine thn (he.run pins s σ H _ I h) ?_
  rintro v s1 ⟨x, H1, I1, r1, a, j, rfl, hq, hj, q⟩
  cases r1
  obtain ⟨t, u, v, hob⟩ := I1.hok a _ hq
  have hIs : IsRange s1.heap a 0 ((j : Nat) : Int) 1 t u v := hob
  refine wpAny_pyIter_range hIs (small_one (by omega) (by omega) (by omega) (by omega)) ?_
  refine ⟨s1.heap.objs.size, [s1.heap.objs.size], _, _, H1, rfl, I1.kept (t' := s1.toks) fun b o e => Heap.get?_push_of_some _ e, turn_range _ 0 j, ?_, fun b hb => ?_, q⟩
  · have e1 : (0 : Int) + ((0 : Nat) : Int) * 1 = 0 := by simp
    have e2 : ((j : Nat) : Int) - ((0 : Nat) : Int) = Builtin.Range.rangeSize 0 ((j : Nat) : Int) 1 := by rw [rangeSize_one]; split <;> omega
    show IsRangeIter _ _ ((0 : Int) + ((0 : Nat) : Int) * 1) (((j : Nat) : Int) - ((0 : Nat) : Int)) 1
    rw [e1, e2]
    exact Heap.get?_push_size _ rfl
  · have e : b = s1.heap.objs.size := by simpa using hb
    subst e
    exact I1.fpOk (Nat.le_refl _) (I1.hok.fresh (Nat.le_refl _))
end
end DC
-- K37a
set_option Elab.async false
set_option linter.all false
set_option maxRecDepth 100000
set_option maxHeartbeats 4000000
namespace K37
open PySem L2 DC
def top (i : Nat) : Stmt := PySem.Challenge.pw_doublecut_k37_whole_twin_webs.main.body.getD i (.Pass ⟨0, 0, 0, 0⟩)

/-- built-in names that the text leaves alone -/
structure Bn (mg : Str → Option Value) : Prop where
  isi : mg "isinstance" = none
  int : mg "int" = none
  bool : mg "bool" = none
  tuple : mg "tuple" = none
  len : mg "len" = none
  enum : mg "enumerate" = none
  range : mg "range" = none
  list : mg "list" = none
  repr : mg "repr" = none
  sorted : mg "sorted" = none
  sum : mg "sum" = none
  min : mg "min" = none
  max : mg "max" = none
  abs : mg "abs" = none
  zip : mg "zip" = none
  all : mg "all" = none

/-- a def as callers find it -/
structure Df (K : PySem.W.Frag) (mg : Str → Option Value) (nm : Str) (f : Addr) (fd : FuncData) (ps : List Str) : Prop where
  g : mg nm = some (.ref f)
  kp : PySem.W.keepIn K (.ref f) = true
  b : Binds K fd ps []
section
variable {X : Cx} {k : Nat} {x : Str} {f : Addr} {fd : FuncData} {ps : List Str} {sp : Sp} {p pos : Pos} {e : Expr} {es : List Expr} {t : TA}
theorem cl (D : Df X.K X.mg x f fd ps) (G : OkG X.prog X.w X.K X.mg X.base CX0 k f fd ps sp) (hgd : X.A.guards = some []) (hr : Room k X.A)
    (ha : PA X (e :: es) t) (hg : Gl X x := by rfl) (hdb : (x == ("__debug__" : Str)) = false := by decide)
    (he : starEach (e :: es) X.env = (false, eval e X.env) :: starEach es X.env := by rfl)
    (hpl : (backTo pos (starEach es X.env)).any (·.1) = false := by rfl) : PE X (.Call (.Name x p) (e :: es) [] pos) (tCall sp [] E0 t) :=
  callG G hgd hr hg D.g D.kp D.b .nil pass0 ha hdb he hpl
/-- isinstance(e, T), T a built-in class -/
theorem isi {te : TE} {T : String} {n : Str} {p2 : Pos} (hm : X.mg "isinstance" = none) (ht : X.mg n = none) (ha : PE X e te) (hv : bootBuiltins n = some (.type T))
    (hg : Gl X "isinstance" := by rfl) (hg2 : Gl X n := by rfl) (hn : n ≠ "__name__" := by decide) (hd : (n == ("__debug__" : Str)) = false := by decide)
    (h1 : starEach [e, .Name n p2] X.env = (false, eval e X.env) :: starEach [.Name n p2] X.env := by rfl)
    (hpl : (backTo pos (starEach [.Name n p2] X.env)).any (·.1) = false := by rfl) :
    PE X (.Call (.Name "isinstance" p) [e, .Name n p2] [] pos) (tCB (rIsi X.K) (tCons te (tCons (tC (.ty T)) tNil))) :=
  pe_callB call_isi hg hm (by decide +kernel) (pa_cons ha (pa_cons (pe_bltn (v := .ty T) hg2 ht hv rfl hn hd) pa_nil) h1) (by decide) (by decide) h1 hpl
end

section
variable {P : Program} {w : World} {K : PySem.W.Frag} {mg : Str → Option Value} {base : Heap}
abbrev OkF (P : Program) (w : World) (K : PySem.W.Frag) (mg : Str → Option Value) (base : Heap) (k : Nat) (f : Addr) (fd : FuncData) (ps : List Str) (sp : Sp) : Prop :=
  OkG P w K mg base CX0 k f fd ps sp

/-! is_int, of an int -/
def spInt : Sp := fun vs H Q _ => ∃ i : Int, vs = [.int i] ∧ Q (.bl true) H
theorem sc7 : FnScope ["value"] ["value"] (defScope (top 5)) := ⟨rfl, rfl, rfl, by decide +kernel, rfl, by decide +kernel, by decide +kernel⟩
theorem ok7 {f : Addr} {fd : FuncData} (F : Fun K "is_int" "is_int" (top 5) f fd) (B : Bn mg) : OkF P w K mg base 1 f fd ["value"] spInt := by
  refine ok0 F sc7 (fun vs H Q E h => ?_) (fun cdv A outer s H vs Q E hgd hr h => ?_)
  · obtain ⟨i, rfl, _⟩ := h; rfl
  · obtain ⟨i, rfl, q⟩ := h
    refine ⟨_, pss_one (ps_ret (pe_and (isi (T := "int") B.isi B.int (pv 0) (by decide +kernel)) (pe_one (pe_not (isi (T := "bool") B.isi B.bool (pv 0) (by decide +kernel)))))), ?_⟩
    refine ⟨_, rfl, _, _, _, _, true, rfl, .ty _, .base (.int i), kit_ty (by decide +kernel), true, rfl, ?_⟩
    exact ⟨_, rfl, _, _, _, _, false, rfl, .ty _, .base (.int i), kit_ty (by decide +kernel), false, rfl, q⟩

/-! is_from -/
def spFrom : Sp := fun vs H Q _ => ∃ v lo hi : Int, vs = [.int v, .int lo, .int hi] ∧ lo ≤ v ∧ v ≤ hi ∧ Q (.bl true) H
theorem sc8 : FnScope ["value", "least", "most"] ["value", "least", "most"] (defScope (top 6)) := ⟨rfl, rfl, rfl, by decide +kernel, rfl, by decide +kernel, by decide +kernel⟩
theorem ok8 {f f7 : Addr} {fd fd7 : FuncData} (F : Fun K "is_from" "is_from" (top 6) f fd)
    (D7 : Df K mg "is_int" f7 fd7 ["value"]) (G7 : OkF P w K mg base 1 f7 fd7 ["value"] spInt) : OkF P w K mg base 2 f fd ["value", "least", "most"] spFrom := by
  refine ok0 F sc8 (fun vs H Q E h => ?_) (fun cdv A outer s H vs Q E hgd hr h => ?_)
  · obtain ⟨v, lo, hi, rfl, _⟩ := h; rfl
  · obtain ⟨v, lo, hi, rfl, h1, h2, q⟩ := h
    refine ⟨_, pss_one (ps_ret (pe_and (cl D7 G7 hgd hr (pa_cons (pv 0) pa_nil)) (pe_one (pe_chain op_le op_le (pv 1) (pv 0) (pv 2))))), ?_⟩
    refine ⟨_, rfl, v, rfl, true, rfl, iteT ?_⟩
    refine ⟨_, rfl, _, rfl, lo, v, rfl, rfl, _, rfl, ?_⟩
    rw [decide_eq_true h1]
    refine iteT ⟨_, rfl, v, hi, rfl, rfl, ?_⟩
    show Q (.bl (decide (v ≤ hi))) H
    rw [decide_eq_true h2]
    exact q

/-! is_pair -/
theorem tyT {H : Hp} {a : Addr} {xs : List V} (h : SqT K H a xs) : TyX K H (.ref a) (.type "tuple") := by
  rcases h with (h | ⟨o, h⟩) | ⟨o, its, n, h, hc, _⟩
  · exact .base (.tup h)
  · exact .fTuple h
  · exact .kTuple h hc
def spPair (K : PySem.W.Frag) : Sp := fun vs H Q _ => ∃ a x y, vs = [.ref a] ∧ SqT K H a [x, y] ∧ Q (.bl true) H
theorem sc9 : FnScope ["value"] ["value"] (defScope (top 7)) := ⟨rfl, rfl, rfl, by decide +kernel, rfl, by decide +kernel, by decide +kernel⟩
theorem ok9 {f : Addr} {fd : FuncData} (F : Fun K "is_pair" "is_pair" (top 7) f fd) (B : Bn mg) : OkF P w K mg base 1 f fd ["value"] (spPair K) := by
  refine ok0 F sc9 (fun vs H Q E h => ?_) (fun cdv A outer s H vs Q E hgd hr h => ?_)
  · obtain ⟨a, x, y, rfl, _⟩ := h; rfl
  · obtain ⟨a, x, y, rfl, hS, q⟩ := h
    refine ⟨_, pss_one (ps_ret (pe_and (isi (T := "tuple") B.isi B.tuple (pv 0) (by decide +kernel))
      (pe_one (pe_cmpR op_eq (pe_callB call_len_seq (by rfl) B.len PySem.boot_len (pa_cons (pv 0) pa_nil)) pe_int (nomark _))))), ?_⟩
    refine ⟨_, rfl, _, _, _, _, true, rfl, .ty _, tyT hS, kit_ty (by decide +kernel), true, rfl, iteT ?_⟩
    exact ⟨_, rfl, a, _, rfl, .inr hS, rfl, q⟩

/-! is_joint -/
def spJoint (K : PySem.W.Frag) : Sp := fun vs H Q _ => ∃ a lo hi n : Nat, vs = [.ref a, .int n] ∧ SqT K H a [.int lo, .int hi] ∧ lo < hi ∧ hi < 2 * n ∧ Q (.bl true) H
theorem sc10 : FnScope ["value", "links", "low", "high"] ["value", "links"] (defScope (top 8)) := ⟨rfl, rfl, rfl, by decide +kernel, rfl, by decide +kernel, by decide +kernel⟩
theorem ok10 {f f8 f9 : Addr} {fd fd8 fd9 : FuncData} (F : Fun K "is_joint" "is_joint" (top 8) f fd)
    (D8 : Df K mg "is_from" f8 fd8 ["value", "least", "most"]) (G8 : OkF P w K mg base 2 f8 fd8 ["value", "least", "most"] spFrom)
    (D9 : Df K mg "is_pair" f9 fd9 ["value"]) (G9 : OkF P w K mg base 1 f9 fd9 ["value"] (spPair K)) : OkF P w K mg base 3 f fd ["value", "links"] (spJoint K) := by
  refine ok0 F sc10 (fun vs H Q E h => ?_) (fun cdv A outer s H vs Q E hgd hr h => ?_)
  · obtain ⟨a, lo, hi, n, rfl, _⟩ := h; rfl
  · obtain ⟨a, lo, hi, n, rfl, hS, h1, h2, q⟩ := h
    have hr1 : Room 1 _ := hr.mono (by decide)
    refine ⟨_, pss_cons (ps_if (pt_not (pt_val (cl D9 G9 hgd hr1 (pa_cons (pv 0) pa_nil)))) (pss_one (ps_ret pe_bl)) pss_nil)
      (pss_cons (ps_asg (pv 0) (pg_tup (by rfl) (pgs_cons (pg_name (i := 2) sc10.nd rfl (.inl rfl)) (pgs_cons (pg_name (i := 3) sc10.nd rfl (.inl rfl)) pgs_nil))))
      (pss_one (ps_ret (pe_and (cl D8 G8 hgd hr (pa_cons (pv 2) (pa_cons pe_int (pa_cons (pe_op op_sub (pe_op op_mul pe_int (pv 1)) pe_int) pa_nil))))
        (pe_one (cl D8 G8 hgd hr (pa_cons (pv 3) (pa_cons (pe_op op_add (pv 2) pe_int) (pa_cons (pe_op op_sub (pe_op op_mul pe_int (pv 1)) pe_int) pa_nil))))))))), ?_⟩
    refine ⟨_, rfl, a, _, _, rfl, hS, true, rfl, iteF ?_⟩
    refine ⟨_, rfl, a, _, rfl, hS, rfl, _, _, rfl, _, _, rfl, rfl, ?_⟩
    refine ⟨_, rfl, _, rfl, 2, (n : Int), rfl, rfl, .inl ⟨by decide, by decide⟩, _, _, rfl, rfl, (lo : Int), 0, 2 * (n : Int) - 1, rfl, by omega, by omega, true, rfl, iteT ?_⟩
    refine ⟨_, rfl, _, rfl, (lo : Int), 1, rfl, rfl, _, rfl, 2, (n : Int), rfl, rfl, .inl ⟨by decide, by decide⟩, _, _, rfl, rfl, (hi : Int), (lo : Int) + 1, 2 * (n : Int) - 1, rfl, by omega, by omega, q⟩

/-! false_joint, of what are joints -/
def spNoFalse (K : PySem.W.Frag) : Sp := fun vs H Q _ => ∃ (v : V) (n : Nat) (js : List J2), vs = [v, .int n] ∧ Js K H v js ∧ Good n js ∧ ∀ H', Same H H' → Q .non H'
theorem sc11 : FnScope ["joints", "links", "taken", "ahead", "number", "joint", "low", "high"] ["joints", "links"] (defScope (top 9)) := ⟨rfl, rfl, rfl, by decide +kernel, rfl, by decide +kernel, by decide +kernel⟩
/-- what the list of taken ends tells at a turn -/
def Tk (js : List J2) (n : Nat) (tk : List Bool) : Prop := tk.length = 2 * n ∧ ∀ e, tk[e]? = some true → Seen js e
theorem Tk.no {js : List J2} {n e : Nat} {tk : List Bool} (h : Tk js n tk) (he : e < 2 * n) (hn : ¬ Seen js e) : tk[e]? = some false := by
  have hl : e < tk.length := by rw [h.1]; exact he
  cases q : tk[e]'hl with
  | false => rw [List.getElem?_eq_getElem hl, q]
  | true => exact absurd (h.2 e (by rw [List.getElem?_eq_getElem hl, q])) hn
theorem Tk.put {js : List J2} {n : Nat} {p : J2} {tk : List Bool} (h : Tk js n tk) : Tk (js ++ [p]) n ((tk.set p.1 true).set p.2 true) := by
  refine ⟨by rw [List.length_set, List.length_set]; exact h.1, ?_⟩
  intro e he
  by_cases h2 : e = p.2
  · exact ⟨p, by simp, .inr h2⟩
  · rw [List.getElem?_set_ne (Ne.symm h2)] at he
    by_cases h1 : e = p.1
    · exact ⟨p, by simp, .inl h1⟩
    · rw [List.getElem?_set_ne (Ne.symm h1)] at he
      obtain ⟨q, hq, r⟩ := h.2 e he
      exact ⟨q, by simp [hq], r⟩
theorem map_set {α β : Type} (g : α → β) : ∀ (l : List α) (i : Nat) (x : α), (l.set i x).map g = (l.map g).set i (g x)
  | [], _, _ => rfl
  | _ :: _, 0, _ => rfl
  | a :: l, i + 1, x => by
    show g a :: (l.set i x).map g = g a :: (l.map g).set i (g x)
    rw [map_set g l i x]
theorem take_next {α : Type} {l : List α} {i : Nat} {x : α} (h : l[i]? = some x) : l.take (i + 1) = l.take i ++ [x] := by
  obtain ⟨hi, e⟩ := List.getElem?_eq_some_iff.mp h
  rw [← e]
  exact List.take_succ_eq_append_getElem hi
/-- the pair ahead, as the text holds it -/
def prev (js : List J2) : List Int := match js.getLast? with
  | none => []
  | some q => [(q.1 : Nat), (q.2 : Nat)]
theorem prev_no {js : List J2} {p : J2} (h : ∀ q, js.getLast? = some q → q.1 < p.1) :
    Ob.lexAt (fun j => decide (([((p.1 : Nat) : Int), ((p.2 : Nat) : Int)] : List Int).getD j 0 = (prev js).getD j 0)) (fun j => decide (([((p.1 : Nat) : Int), ((p.2 : Nat) : Int)] : List Int).getD j 0 ≤ (prev js).getD j 0))
      (decide (([((p.1 : Nat) : Int), ((p.2 : Nat) : Int)] : List Int).length ≤ (prev js).length)) 0 (min ([((p.1 : Nat) : Int), ((p.2 : Nat) : Int)] : List Int).length (prev js).length) = false := by
  unfold prev
  cases e : js.getLast? with
  | none => rfl
  | some q =>
    have hq := h q e
    show (if decide (((p.1 : Nat) : Int) = ((q.1 : Nat) : Int)) = true then _ else decide (((p.1 : Nat) : Int) ≤ ((q.1 : Nat) : Int))) = false
    rw [if_neg (by rw [decide_eq_false (by omega)]; decide)]
    exact decide_eq_false (by omega)
theorem sqT_put {K : PySem.W.Frag} {H : Hp} {a l : Addr} {xs ys : List V} {o : HO} (h : SqT K H a xs) (hl : H l = some (.lst ys)) : SqT K (upd H l o) a xs := by
  have ne : ∀ u, H a = some u → (∀ zs, u ≠ .lst zs) → a ≠ l := by
    rintro u e hu rfl
    rw [hl] at e
    exact hu ys (Option.some.inj e).symm
  rcases h with (h | ⟨ob, h⟩) | h
  · exact .inl (.inl (by rw [upd_ne (ne _ h (fun _ z => nomatch z))]; exact h))
  · exact .inl (.inr ⟨ob, by rw [upd_ne (ne _ h (fun _ z => nomatch z))]; exact h⟩)
  · exact .inr h
theorem same_new0 {H : Hp} {l : Addr} {o : HO} (h : H l = none) : Same H (upd H l o) := Same.new h
theorem same_put {H H' : Hp} {l : Addr} {o : HO} (e : Same H H') (h : H l = none) : Same H (upd H' l o) := fun b u q => by
  rw [upd_ne (ne_of_none q h)]
  exact e b u q
theorem ok11 {f f10 : Addr} {fd fd10 : FuncData} (F : Fun K "false_joint" "false_joint" (top 9) f fd) (B : Bn mg)
    (D10 : Df K mg "is_joint" f10 fd10 ["value", "links"]) (G10 : OkF P w K mg base 3 f10 fd10 ["value", "links"] (spJoint K)) :
    OkF P w K mg base 4 f fd ["joints", "links"] (spNoFalse K) := by
  refine ok0 F sc11 (fun vs H Q E h => ?_) (fun cdv A outer s H vs Q E hgd hr h => ?_)
  · obtain ⟨v, n, js, rfl, _⟩ := h; rfl
  · obtain ⟨v, n, js, rfl, ⟨t, us, rfl, hS, hP⟩, g, q⟩ := h
    have nd := sc11.nd
    refine ⟨_, pss_cons (ps_set (i := 2) nd rfl (.inl rfl) (pe_op op_rep (pe_lst (pa_cons pe_bl pa_nil)) (pe_op op_mul pe_int (pv 1))))
      (pss_cons (ps_set (i := 3) nd rfl (.inl rfl) (pe_tup pa_nil))
      (pss_cons (ps_for PassesOwn.never rfl (pi_enumT (by rfl) B.enum (pa_cons (pv 0) pa_nil)) (pg_tup (by rfl) (pgs_cons (pg_name (i := 4) nd rfl (.inl rfl)) (pgs_cons (pg_name (i := 5) nd rfl (.inl rfl)) pgs_nil)))
        (pss_cons (ps_if (PW.pt (pw_or (pt_not (pt_val (cl D10 G10 hgd hr (pa_cons (pv 5) (pa_cons (pv 1) pa_nil))))) (pw_or1 (pt_cmpR (op_leT hr.units0) (pv 5) (pv 3) (nomark _))))) (pss_one (ps_ret (pv 4))) pss_nil)
        (pss_cons (ps_asg (pv 5) (pg_tup (by rfl) (pgs_cons (pg_name (i := 6) nd rfl (.inl rfl)) (pgs_cons (pg_name (i := 7) nd rfl (.inl rfl)) pgs_nil))))
        (pss_cons (ps_if (PW.pt (pw_or (pt_val (pe_ix ix_list (pv 2) (pv 6) (fun _ _ => rfl))) (pw_or1 (pt_val (pe_ix ix_list (pv 2) (pv 7) (fun _ _ => rfl)))))) (pss_one (ps_ret (pv 4))) pss_nil)
        (pss_cons (ps_asg2 pe_bl (pg_sub (pv 2) (pv 6) set_list) (pg_sub (pv 2) (pv 7) set_list))
        (pss_one (ps_set (i := 3) nd rfl (.inl rfl) (pv 5))))))))
      (pss_one (ps_ret pe_non)))), ?_⟩
    have n12 := g.top
    refine ⟨by show 1 ≤ sizeLine; decide, fun l0 hl0 => ?_⟩
    refine ⟨_, rfl, 2, (n : Int), rfl, rfl, .inl ⟨by decide, by decide⟩, l0, 2 * (n : Int), [.bl false], rfl, rfl, upd_same, by omega, by omega, ?_, fun l hl => ?_⟩
    · show 1 * (2 * (n : Int)).toNat ≤ sizeLine
      exact Nat.le_trans (show 1 * (2 * (n : Int)).toNat ≤ 24 by omega) (by decide)
    refine ⟨by show 0 ≤ sizeLine; decide, fun a0 ha0 => ?_⟩
    have Hl : H l = none := Same.free (same_new0 hl0) hl
    refine ⟨_, rfl, t, us, rfl, Same.t (same_put (same_put (same_new0 hl0) Hl) (Same.free (same_put (same_new0 hl0) Hl) ha0)) hS, for_it (walk_enumT (xs := us))
      (fun i σ H' => ∃ (tk : List Bool) (ah : Addr) (s4 s5 s6 s7 : Option V), σ = [some (.ref t), some (.int n), some (.ref l), some (.ref ah), s4, s5, s6, s7] ∧ Same H H' ∧
        H' l = some (.lst (tk.map V.bl)) ∧ Tk (js.take i) n tk ∧ SqT K H' ah ((prev (js.take i)).map V.int)) ?_ ?_ ?_ ?_⟩
    · have el : l ≠ a0 := by
        rintro rfl
        rw [upd_same] at ha0
        cases ha0
      refine ⟨List.replicate (2 * n) false, a0, none, none, none, none, rfl, same_put (same_put (same_new0 hl0) Hl) (Same.free (same_put (same_new0 hl0) Hl) ha0), ?_, ⟨by simp, ?_⟩, SqT.of upd_same⟩
      · rw [upd_ne el, upd_same]
        show some (HO.lst (List.replicate (2 * (n : Int)).toNat [V.bl false]).flatten) = _
        rw [show (2 * (n : Int)).toNat = 2 * n by omega]
        simp
      · intro e he
        rw [List.getElem?_replicate] at he
        split at he <;> cases he
    · rintro i σ H' hi ⟨tk, ah, s4, s5, s6, s7, rfl, sm, _⟩
      exact Same.t sm hS
    · rintro i x σ H1 H2 hi ⟨tk, ah, s4, s5, s6, s7, rfl, sm, hL, hT, hA⟩ ⟨T, x1, y, rfl, nT, rfl, e1, e2⟩
      cases e1
      obtain ⟨p, hp, j, rfl, hj⟩ := pair_at hP e2
      obtain ⟨r1, r2, r3, r4, r5⟩ := good_at g hp
      have sT : Same H1 (upd H1 T (.tup [.int (i : Nat), .ref j])) := Same.new nT
      have hj2 : SqT K (upd H1 T (.tup [.int (i : Nat), .ref j])) j [.int (p.1 : Nat), .int (p.2 : Nat)] := Same.t sT (Same.t sm hj)
      refine ⟨T, _, rfl, SqT.of upd_same, rfl, _, _, rfl, _, _, rfl, rfl, ?_⟩
      refine ⟨_, rfl, _, rfl, j, p.1, p.2, n, rfl, hj2, r1, r2, true, rfl, iteF ?_⟩
      refine ⟨_, rfl, _, rfl, j, ah, [((p.1 : Nat) : Int), ((p.2 : Nat) : Int)], prev (js.take i), rfl, rfl, hj2, Same.t sT hA, _, rfl, ?_⟩
      rw [prev_no r5]
      refine iteF ?_
      have hL2 := sT _ _ hL
      have no1 := hT.no (by omega : p.1 < 2 * n) r3
      have no2 := hT.no r2 r4
      refine ⟨_, rfl, j, _, rfl, hj2, rfl, _, _, rfl, _, _, rfl, rfl, ?_⟩
      refine ⟨_, rfl, _, rfl, l, tk.map V.bl, (p.1 : Nat), .bl false, rfl, rfl, SqL.of hL2, atI_nat (by rw [List.getElem?_map, no1]; rfl), false, rfl, iteF ?_⟩
      refine ⟨_, rfl, _, rfl, l, tk.map V.bl, (p.2 : Nat), .bl false, rfl, rfl, SqL.of hL2, atI_nat (by rw [List.getElem?_map, no2]; rfl), false, rfl, iteF ?_⟩
      have z1 : p.1 < (tk.map V.bl).length := by rw [List.length_map, hT.1]; omega
      have z2 : p.2 < ((tk.map V.bl).set p.1 (.bl true)).length := by rw [List.length_set, List.length_map, hT.1]; exact r2
      refine ⟨_, rfl, _, rfl, l, tk.map V.bl, (p.1 : Nat), p.1, rfl, rfl, hL2, Evl.ixN_nat z1, ?_⟩
      refine ⟨_, rfl, _, rfl, l, _, (p.2 : Nat), p.2, rfl, rfl, upd_same, Evl.ixN_nat z2, ?_⟩
      refine ⟨_, rfl, (tk.set p.1 true).set p.2 true, j, _, _, _, _, rfl, same_put (same_put (sm.trans sT) Hl) Hl, ?_, ?_, ?_⟩
      · rw [upd_same, map_set, map_set]
      · rw [take_next hp]
        exact hT.put
      · rw [take_next hp]
        unfold prev
        rw [List.getLast?_append]
        exact sqT_put (sqT_put hj2 hL2) upd_same
    · rintro σ H' ⟨tk, ah, s4, s5, s6, s7, rfl, sm, _⟩
      exact q _ sm
/-! need_lay, of a lay -/
def spLay (K : PySem.W.Frag) : Sp := fun vs H Q _ => ∃ (v : V) (n : Nat) (js : List J2), vs = [v] ∧ Ly K H v n js ∧ Good n js ∧ ∀ H', Same H H' → Q v H'
theorem sc13 : FnScope ["lay", "links", "joints", "number"] ["lay"] (defScope (top 11)) := ⟨rfl, rfl, rfl, by decide +kernel, rfl, by decide +kernel, by decide +kernel⟩
theorem ok13 {f f8 f9 f11 : Addr} {fd fd8 fd9 fd11 : FuncData} {tm : Tok} (F : Fun K "need_lay" "need_lay" (top 11) f fd) (B : Bn mg) (hM : mg "MOST_LINKS" = some (.int 12 tm))
    (D8 : Df K mg "is_from" f8 fd8 ["value", "least", "most"]) (G8 : OkF P w K mg base 2 f8 fd8 ["value", "least", "most"] spFrom)
    (D9 : Df K mg "is_pair" f9 fd9 ["value"]) (G9 : OkF P w K mg base 1 f9 fd9 ["value"] (spPair K))
    (D11 : Df K mg "false_joint" f11 fd11 ["joints", "links"]) (G11 : OkF P w K mg base 4 f11 fd11 ["joints", "links"] (spNoFalse K)) : OkF P w K mg base 5 f fd ["lay"] (spLay K) := by
  refine ok0 F sc13 (fun vs H Q E h => ?_) (fun cdv A outer s H vs Q E hgd hr h => ?_)
  · obtain ⟨v, n, js, rfl, _⟩ := h; rfl
  · obtain ⟨v, n, js, rfl, ⟨t, u, rfl, hS, hJ⟩, g, q⟩ := h
    have nd := sc13.nd
    have hr1 : Room 1 _ := hr.mono (by decide)
    have hr2 : Room 2 _ := hr.mono (by decide)
    obtain ⟨tj, vs, rfl, hSj, hPj⟩ := id hJ
    have one := g.one
    have tp := g.top
    refine ⟨_, pss_cons (ps_if (pt_not (pt_val (cl D9 G9 hgd hr1 (pa_cons (pv 0) pa_nil)))) (pss_one ps_never) pss_nil)
      (pss_cons (ps_asg (pv 0) (pg_tup (by rfl) (pgs_cons (pg_name (i := 1) nd rfl (.inl rfl)) (pgs_cons (pg_name (i := 2) nd rfl (.inl rfl)) pgs_nil))))
      (pss_cons (ps_if (pt_not (pt_val (cl D8 G8 hgd hr2 (pa_cons (pv 1) (pa_cons pe_int (pa_cons (pe_glob rfl hM (v := .int 12) ⟨_, rfl⟩) pa_nil)))))) (pss_one ps_never) pss_nil)
      (pss_cons (ps_if (pt_not (pt_val (isi (T := "tuple") B.isi B.tuple (pv 2) (by decide +kernel)))) (pss_one ps_never) pss_nil)
      (pss_cons (ps_set (i := 3) nd rfl (.inl rfl) (cl D11 G11 hgd hr (pa_cons (pv 2) (pa_cons (pv 1) pa_nil))))
      (pss_cons (ps_if (pt_cmp (pc_notN (pv 3))) (pss_one ps_never) pss_nil)
      (pss_one (ps_ret (pv 0)))))))), ?_⟩
    refine ⟨_, rfl, t, _, _, rfl, hS, true, rfl, iteF ?_⟩
    refine ⟨_, rfl, t, _, rfl, hS, rfl, _, _, rfl, _, _, rfl, rfl, ?_⟩
    refine ⟨_, rfl, (n : Int), 1, 12, rfl, by omega, by omega, true, rfl, iteF ?_⟩
    refine ⟨_, rfl, _, _, _, _, true, rfl, .ty _, tyT hSj, kit_ty (by decide +kernel), true, rfl, iteF ?_⟩
    refine ⟨_, rfl, _, rfl, .ref tj, n, js, rfl, hJ, g, fun H' sm => ?_⟩
    exact ⟨_, rfl, false, rfl, iteF ⟨_, rfl, q _ sm⟩⟩

end
end K37
-- K37b
set_option Elab.async false
set_option linter.all false
set_option maxRecDepth 100000
set_option maxHeartbeats 4000000
namespace K37
open PySem L2 DC
theorem gn {i : Nat} {v : V} {σ : L2.St} {H : Hp} {k : L2.St → Hp → Prop} (h : k (σ.set i (some v)) H) : gName i v σ H k := h
theorem yesT {σ : L2.St} {H : Hp} {a b : Hp → Prop} (h : a H) : tYes σ H (fun k H3 => if k = true then a H3 else b H3) := iteT (A := a H) (B := b H) h
/-- all but two things are as they were -/
def SameM (m g : Addr) (H H' : Hp) : Prop := ∀ b o, b ≠ m → b ≠ g → H b = some o → H' b = some o
theorem SameM.refl (m g : Addr) (H : Hp) : SameM m g H H := fun _ _ _ _ h => h
theorem SameM.trans {m g : Addr} {H H1 H2 : Hp} (a : SameM m g H H1) (b : SameM m g H1 H2) : SameM m g H H2 := fun x o n1 n2 h => b x o n1 n2 (a x o n1 n2 h)
theorem Same.m {m g : Addr} {H H' : Hp} (a : Same H H') : SameM m g H H' := fun x o _ _ h => a x o h
theorem SameM.putm {m g : Addr} {H H' : Hp} {o : HO} (a : SameM m g H H') : SameM m g H (upd H' m o) := fun b u n1 n2 q => by
  rw [upd_ne n1]
  exact a b u n1 n2 q
theorem SameM.putg {m g : Addr} {H H' : Hp} {o : HO} (a : SameM m g H H') : SameM m g H (upd H' g o) := fun b u n1 n2 q => by
  rw [upd_ne n2]
  exact a b u n1 n2 q
theorem SameM.put {m g : Addr} {H H' : Hp} {l : Addr} {o : HO} (a : SameM m g H H') (h : H l = none) : SameM m g H (upd H' l o) := fun b u n1 n2 q => by
  rw [upd_ne (ne_of_none q h)]
  exact a b u n1 n2 q
def me (lc lg : Addr) (n : Int) : List (Key × V) := [(.inr "cells", .ref lc), (.inr "great", .ref lg), (.inr "spot", .int n)]
theorem k1 : ¬ (("cells" : Str) = "great") := by decide +kernel
theorem k2 : ¬ (("cells" : Str) = "spot") := by decide +kernel
theorem k3 : ¬ (("great" : Str) = "spot") := by decide +kernel
theorem inr_ne {a b : Str} (h : ¬ a = b) : ¬ ((Sum.inr a : Key) = Sum.inr b) := fun e => h (Sum.inr.inj e)
theorem put_at {κ : Type} [DecidableEq κ] {kvs : List (κ × V)} {k : κ} {v : V} (h : k ∈ kvs.map (·.1)) : putK kvs k v = kvs.map (fun kv => if kv.1 = k then (kv.1, v) else kv) := by
  unfold putK
  rw [if_pos]
  rw [List.any_eq_true]
  obtain ⟨e, he, q⟩ := List.mem_map.mp h
  exact ⟨e, he, decide_eq_true q⟩
theorem putK_new {κ : Type} [DecidableEq κ] {kvs : List (κ × V)} {k : κ} {v : V} (h : ∀ e ∈ kvs, ¬ e.1 = k) : putK kvs k v = kvs ++ [(k, v)] := by
  unfold putK
  rw [if_neg]
  intro z
  rw [List.any_eq_true] at z
  obtain ⟨e, he, q⟩ := z
  exact h e he (of_decide_eq_true q)
theorem me_cells (lc lg : Addr) (n : Int) : valV (me lc lg n) (.inr "cells") = some (.ref lc) := valV_pos rfl
theorem me_great (lc lg : Addr) (n : Int) : valV (me lc lg n) (.inr "great") = some (.ref lg) := (valV_neg (inr_ne k1)).trans (valV_pos rfl)
theorem me_spot (lc lg : Addr) (n : Int) : valV (me lc lg n) (.inr "spot") = some (.int n) := (valV_neg (inr_ne k2)).trans ((valV_neg (inr_ne k3)).trans (valV_pos rfl))
theorem me_put_spot (lc lg : Addr) (n n' : Int) : putK (me lc lg n) (.inr "spot") (.int n') = me lc lg n' := by
  rw [put_at (by unfold me; simp)]
  unfold me
  simp only [List.map_cons, List.map_nil, if_true]
  rw [if_neg (inr_ne k2), if_neg (inr_ne k3)]
theorem me_put_great (lc lg lg' : Addr) (n : Int) : putK (me lc lg n) (.inr "great") (.ref lg') = me lc lg' n := by
  rw [put_at (by unfold me; simp)]
  unfold me
  simp only [List.map_cons, List.map_nil, if_true]
  rw [if_neg (inr_ne k1), if_neg (inr_ne (Ne.symm k3))]
theorem merge_me (lc lg : Addr) (n : Int) : mergeK [] (me lc lg n) = me lc lg n := by
  unfold mergeK me
  simp only [List.foldl_cons, List.foldl_nil]
  rw [putK_new (kvs := []) (by simp), putK_new (kvs := [] ++ _) (by simp [k1]), putK_new (kvs := [] ++ _ ++ _) (by simp [k2, k3])]
  rfl
theorem get_cells {H : Hp} {m lc lg : Addr} {n : Int} (h : H m = some (.dK (me lc lg n))) : DGet H m (.str "cells") (some (.ref lc)) := by
  have q := DGet.k (k := .inr "cells") h
  rw [me_cells] at q
  exact q
theorem get_great {H : Hp} {m lc lg : Addr} {n : Int} (h : H m = some (.dK (me lc lg n))) : DGet H m (.str "great") (some (.ref lg)) := by
  have q := DGet.k (k := .inr "great") h
  rw [me_great] at q
  exact q
theorem get_spot {H : Hp} {m lc lg : Addr} {n : Int} (h : H m = some (.dK (me lc lg n))) : DGet H m (.str "spot") (some (.int n)) := by
  have q := DGet.k (k := .inr "spot") h
  rw [me_spot] at q
  exact q
theorem put_spot {H : Hp} {m lc lg : Addr} {n n' : Int} (h : H m = some (.dK (me lc lg n))) : DPut H m (.str "spot") (.int n') (upd H m (.dK (me lc lg n'))) := by
  have q := DPut.k (k := .inr "spot") (v := .int n') h (by show 3 < sizeLine; decide)
  rw [me_put_spot] at q
  exact q
theorem put_great {H : Hp} {m lc lg lg' : Addr} {n : Int} (h : H m = some (.dK (me lc lg n))) : DPut H m (.str "great") (.ref lg') (upd H m (.dK (me lc lg' n))) := by
  have q := DPut.k (k := .inr "great") (v := .ref lg') h (by show 3 < sizeLine; decide)
  rw [me_put_great] at q
  exact q
def intD (cs : List Int) : PyData := .list (cs.map PyData.int)
theorem dp_ints {K : PySem.W.Frag} {H : Hp} : ∀ cs : List Int, DpAll K H (cs.map V.int) (cs.map PyData.int)
  | [] => .nil
  | c :: cs => .cons (.int c) (dp_ints cs)
theorem lay_ints : ∀ cs : List Int, PyData.canLayAll0 (cs.map PyData.int) = true
  | [] => by simp only [List.map_nil, PyData.canLayAll0]
  | c :: cs => by simp only [List.map_cons, PyData.canLayAll0, PyData.canLay0, lay_ints cs, Bool.and_self]
theorem depth_ints : ∀ cs : List Int, PyData.depthAll (cs.map PyData.int) = 0
  | [] => by simp only [List.map_nil, PyData.depthAll]
  | c :: cs => by simp only [List.map_cons, PyData.depthAll, PyData.depth, depth_ints cs, Nat.max_self]
theorem shaped_ints (cs : List Int) : SeqAt.shaped (intD cs) = true := by
  unfold SeqAt.shaped intD
  simp only [PyData.canLay0, lay_ints, PyData.depth, depth_ints]
  decide
/-- 64 small numbers -/
def Cells (cs : List Int) : Prop := cs.length = 64 ∧ ∀ c ∈ cs, 0 ≤ c ∧ c < 4294967296
theorem Cells.set {cs : List Int} (h : Cells cs) {i : Nat} {v : Int} (h0 : 0 ≤ v) (h1 : v < 4294967296) : Cells (cs.set i v) := by
  refine ⟨by rw [List.length_set]; exact h.1, fun c hc => ?_⟩
  rcases List.mem_or_eq_of_mem_set hc with hc | rfl
  · exact h.2 c hc
  · exact ⟨h0, h1⟩
theorem Cells.at {cs : List Int} (h : Cells cs) {i : Nat} (hi : i < 64) : ∃ c, (cs.map V.int)[i]? = some (.int c) ∧ 0 ≤ c ∧ c < 4294967296 := by
  have hl : i < cs.length := by rw [h.1]; exact hi
  exact ⟨cs[i], by rw [List.getElem?_map, List.getElem?_eq_getElem hl]; rfl, h.2 _ (List.getElem_mem hl)⟩
/-- the state at m: cells at lc, great numbers at lg, the spot at most nb -/
structure MB (H : Hp) (m lc lg : Addr) (nb : Nat) : Prop where
  ex : ∃ (cs gs : List Int) (n : Int), H m = some (.dK (me lc lg n)) ∧ H lc = some (.lst (cs.map V.int)) ∧ H lg = some (.lst (gs.map V.int)) ∧ Cells cs ∧ gs.length ≤ 63 ∧ 0 ≤ n ∧ n ≤ nb ∧ lc ≠ lg
theorem MB.up {H H' : Hp} {m lc lg : Addr} {nb : Nat} (s : Same H H') : MB H m lc lg nb → MB H' m lc lg nb
  | ⟨cs, gs, n, h1, h2, h3, r⟩ => ⟨cs, gs, n, s _ _ h1, s _ _ h2, s _ _ h3, r⟩
theorem MB.more {H : Hp} {m lc lg : Addr} {nb nb' : Nat} (h : nb ≤ nb') : MB H m lc lg nb → MB H m lc lg nb'
  | ⟨cs, gs, n, h1, h2, h3, h4, h5, h6, h7, h8⟩ => ⟨cs, gs, n, h1, h2, h3, h4, h5, h6, by omega, h8⟩
section
variable {P : Program} {w : World} {K : PySem.W.Frag} {mg : Str → Option Value} {base : Heap}
def spMixed : Sp := fun vs H Q _ => ∃ c n : Int, vs = [.int c, .int n] ∧ 0 ≤ c ∧ c < 2 ^ 50 ∧ 0 ≤ n ∧ n < 2 ^ 50 ∧ ∀ r : Int, 0 ≤ r → r < 4294967296 → Q (.int r) H
def spFold (K : PySem.W.Frag) : Sp := fun vs H Q _ => ∃ (a : Addr) (ns : List Int), vs = [.ref a] ∧ SqL K H a (ns.map V.int) ∧ ns.length ≤ 63 ∧
  ∀ (l : Addr) (H' : Hp) (cs : List Int), Same H H' → H l = none → H' l = some (.lst (cs.map V.int)) → Cells cs → Q (.ref l) H'
abbrev N39 : List Str := ["script", "found", "n", "cell"]
end
end K37

set_option Elab.async false
set_option linter.all false
set_option maxRecDepth 100000
set_option maxHeartbeats 4000000
namespace K37
open PySem L2 DC
section
variable {P : Program} {w : World} {K : PySem.W.Frag} {mg : Str → Option Value} {base : Heap}
def spDraw : Sp := fun vs H Q _ => ∃ (m lc lg : Addr) (nb : Nat) (lim : Int), vs = [.ref m, .int lim] ∧ MB H m lc lg nb ∧ nb < 2 ^ 40 ∧ 0 < lim ∧ lim < 1000000 ∧
  ∀ (r : Int) (H' : Hp), 0 ≤ r → r < lim → SameM m lg H H' → MB H' m lc lg (nb + 1) → Q (.int r) H'
abbrev N40 : List Str := ["m", "limit", "n", "lot", "here", "cell"]
end
end K37

set_option Elab.async false
set_option linter.all false
set_option maxRecDepth 100000
set_option maxHeartbeats 4000000
namespace K37
open PySem L2 DC
section
variable {P : Program} {w : World} {K : PySem.W.Frag} {mg : Str → Option Value} {base : Heap}
def spBegun (K : PySem.W.Frag) : Sp := fun vs H Q _ => ∃ (a : Addr) (ns : List Int), vs = [.ref a] ∧ SqL K H a (ns.map V.int) ∧ ns.length ≤ 63 ∧
  ∀ (m lc lg : Addr) (H' : Hp), Same H H' → H m = none → H lg = none → MB H' m lc lg 0 → Q (.ref m) H'
abbrev N41 : List Str := ["script", "m", "cell"]
theorem sc41 : FnScope N41 ["script"] (defScope (top 40)) := ⟨rfl, rfl, rfl, by decide +kernel, rfl, by decide +kernel, by decide +kernel⟩
theorem ok41 {f f39 : Addr} {fd fd39 : FuncData} (F : Fun K "_law_begun" "_law_begun" (top 40) f fd) (B : Bn mg)
    (D39 : Df K mg "_law_folded" f39 fd39 ["script"]) (G39 : OkF P w K mg base 1 f39 fd39 ["script"] (spFold K)) : OkF P w K mg base 2 f fd ["script"] (spBegun K) := by
  refine ok0 F sc41 (fun vs H Q E h => ?_) (fun cdv A outer s H vs Q E hgd hr h => ?_)
  · obtain ⟨a, ns, rfl, _⟩ := h; rfl
  · obtain ⟨a, ns, rfl, hS, hl, q⟩ := h
    have nd := sc41.nd
    have hu := hu_of hr
    refine ⟨_, pss_cons (ps_set (i := 1) nd rfl (.inl rfl) (pe_disp (pps_cons pe_str (cl D39 G39 hgd hr (pa_cons (pv 0) pa_nil)) (pps_cons pe_str (pe_lst pa_nil) (pps_cons pe_str pe_int pps_nil))) rfl rfl (by simp) (by decide)))
      (pss_cons (ps_dput hu (pv 1) pe_str (pe_lc (own := [("cell", 2)]) (g := gName 2) (tt := tYes) rfl nd (pi_list (pv 0)) (blkOk_by (N := N41) (sc := defScope (top 40)) (by decide +kernel)) (fun _ _ _ _ _ => pg_name (i := 2) nd rfl (Or.inl rfl)) (fun _ _ _ _ _ => pts_nil)
          (fun _ _ _ _ _ => pe_ifExp (pt_cmpR op_ge (pv 2) (pe_op op_pow pe_int pe_int) (nomark _)) (pv 2) pe_int)) rfl)
      (pss_one (ps_ret (pv 1)))), ?_⟩
    refine fun m hm => ?_
    have s0 : Same H (upd H m (.dK [])) := Same.new hm
    refine ⟨_, rfl, a, ns, rfl, s0.seq hS, hl, fun lc H1 cs s1 hlc hc hC => ?_⟩
    refine ⟨by show 0 ≤ sizeLine; decide, fun g0 hg0 => ?_⟩
    have s2 : Same H1 (upd H1 g0 (.lst [])) := Same.new hg0
    refine ⟨s2 _ _ (s1 _ _ upd_same), me lc g0 0, rfl, (by show 3 ≤ 15; decide), ?_⟩
    rw [merge_me]
    refine gn ?_
    have S2 : Same H (upd (upd H1 g0 (.lst [])) m (.dK (me lc g0 0))) := same_put (s0.trans (s1.trans s2)) hm
    have ncm : lc ≠ m := fun z => by
      rw [z, upd_same] at hlc
      cases hlc
    have hc2 : upd (upd H1 g0 (.lst [])) m (.dK (me lc g0 0)) lc = some (.lst (cs.map V.int)) := by
      rw [upd_ne ncm]
      exact s2 _ _ hc
    have hm2 : upd (upd H1 g0 (.lst [])) m (.dK (me lc g0 0)) m = some (.dK (me lc g0 0)) := upd_same
    generalize upd (upd H1 g0 (.lst [])) m (.dK (me lc g0 0)) = H2 at S2 hc2 hm2 ⊢
    refine ⟨_, rfl, a, rfl, ⟨_, S2.seq hS⟩, fun D hD => ?_⟩
    refine lc_it (walk_list (xs := ns.map V.int)) (fun i H' => ∃ acc : List Int, Same H2 H' ∧ H' D = some (.lst (acc.map V.int)) ∧ acc.length ≤ i) ⟨[], Same.new hD, upd_same, Nat.le_refl _⟩ ?_ ?_ ?_
    · rintro i H' hi ⟨acc, sm, _⟩
      exact sm.seq (S2.seq hS)
    · rintro i v Ha Hb hi ⟨acc, sm, hL, hacc⟩ ⟨rfl, ex⟩
      rw [List.getElem?_map] at ex
      obtain ⟨c, _, rfl⟩ := Option.map_eq_some_iff.mp ex
      have hi' : i < ns.length := by rw [List.length_map] at hi; exact hi
      have fin : ∀ z : Int, ∃ acc', Hb D = some (.lst acc') ∧ acc'.length < sizeLine ∧ ∃ acc'' : List Int, Same H2 (upd Hb D (.lst (acc' ++ [.int z]))) ∧ upd Hb D (.lst (acc' ++ [.int z])) D = some (.lst (acc''.map V.int)) ∧ acc''.length ≤ i + 1 := by
        intro z
        refine ⟨acc.map V.int, hL, ?_, acc ++ [z], same_put sm hD, ?_, ?_⟩
        · rw [List.length_map]
          exact Nat.lt_of_le_of_lt (show acc.length ≤ 1000 by omega) (by decide)
        · rw [upd_same, List.map_append]; rfl
        · rw [List.length_append]; exact Nat.succ_le_succ hacc
      refine ⟨rfl, ?_⟩
      refine yesT ?_
      refine ⟨_, rfl, 10, 18, rfl, rfl, ⟨by decide, by decide, by decide⟩, c, _, rfl, rfl, _, rfl, ite2 (fun _ => ?_) (fun _ => ?_)⟩
      · exact ⟨_, rfl, fin c⟩
      · exact fin 0
    · rintro H' ⟨acc, sm, hL, hacc⟩
      rw [List.length_map] at hacc
      refine ⟨_, rfl, m, _, rfl, put_great (sm _ _ hm2), ?_⟩
      have nDm : D ≠ m := fun z => by
        rw [z, hm2] at hD
        cases hD
      have nDc : lc ≠ D := ne_of_none hc2 hD
      refine ⟨_, rfl, q m lc D _ (same_put (S2.trans sm) hm) hm (S2.free hD) ⟨cs, acc, 0, upd_same, ?_, ?_, hC, Nat.le_trans hacc hl, by decide, by decide, nDc⟩⟩
      · rw [upd_ne ncm]
        exact sm _ _ hc2
      · rw [upd_ne nDm]
        exact hL
def spLike (K : PySem.W.Frag) : Sp := fun vs H Q _ => ∃ (v v' : V) (d : PyData), vs = [v, v'] ∧ Dp K H v d ∧ Dp K H v' d ∧ DC.sm d = true ∧ d.depth ≤ 60 ∧ wt d ≤ sizeLine ∧ Q (.bl true) H
theorem sc42 : FnScope ["got", "due"] ["got", "due"] (defScope (top 41)) := ⟨rfl, rfl, rfl, by decide +kernel, rfl, by decide +kernel, by decide +kernel⟩
theorem ok42 {f : Addr} {fd : FuncData} (F : Fun K "_law_like" "_law_like" (top 41) f fd) (B : Bn mg) : OkF P w K mg base 1 f fd ["got", "due"] (spLike K) := by
  refine ok0 F sc42 (fun vs H Q E h => ?_) (fun cdv A outer s H vs Q E hgd hr h => ?_)
  · obtain ⟨v, v', d, rfl, _⟩ := h; rfl
  · obtain ⟨v, v', d, rfl, d1, d2, hs, hp, hz, q⟩ := h
    obtain ⟨s1, s2, s3⟩ := sm_show d hs
    refine ⟨_, pss_one (ps_ret (pe_cmpR op_eq (pe_callB (cr_repr hgd hr.units) (by rfl) B.repr (by decide +kernel) (pa_cons (pv 0) pa_nil)) (pe_callB (cr_repr hgd hr.units) (by rfl) B.repr (by decide +kernel) (pa_cons (pv 1) pa_nil)) (nomark _))), ?_⟩
    refine ⟨_, rfl, v, d, rfl, d1, s1, s2, by omega, hp, _, rfl, v', d, rfl, d2, s1, s2, by omega, hp, rfl, ?_⟩
    rw [show decide (V.str d.shown = V.str d.shown) = true from decide_eq_true rfl]
    exact q
end
end K37
-- K37b1
set_option Elab.async false
set_option linter.all false
set_option maxRecDepth 100000
set_option maxHeartbeats 4000000
namespace K37
open PySem L2 DC
theorem pair_snoc {α β : Type} {R : α → β → Prop} : ∀ {xs : List α} {ys : List β} {x : α} {y : β}, Paired R xs ys → R x y → Paired R (xs ++ [x]) (ys ++ [y])
  | _, _, _, _, .nil, r => .cons r .nil
  | _, _, _, _, .cons a b, r => .cons a (pair_snoc b r)
def Vn (ys : List Nat) : List V := ys.map fun y => V.int (y : Nat)
theorem Vn_len (ys : List Nat) : (Vn ys).length = ys.length := List.length_map _
theorem Vn_at {ys : List Nat} {i : Nat} (h : i < ys.length) : (Vn ys)[i]? = some (.int ((ys.getD i 0 : Nat))) := by
  unfold Vn
  rw [List.getElem?_map, List.getElem?_eq_getElem h, List.getD_eq_getElem?_getD, List.getElem?_eq_getElem h]
  rfl
theorem cut1 (c : Int) (cs : List Int) : cutV ((c :: cs).map V.int) (some 1) none = cs.map V.int := by
  unfold cutV
  rw [show (some (1 : Int)) = some ((1 : Nat) : Int) from rfl, HT.sIx_nat, HT.sIx_none]
  rw [List.length_map, List.length_cons, show min 1 (cs.length + 1) = 1 by omega, List.map_cons, List.drop_succ_cons, List.drop_zero]
  exact List.take_of_length_le (by rw [List.length_map]; omega)
section
variable {P : Program} {w : World} {K : PySem.W.Frag} {mg : Str → Option Value} {base : Heap}
end
section
variable {P : Program} {w : World} {K : PySem.W.Frag} {mg : Str → Option Value} {base : Heap}
end
theorem paired_perm {α β : Type} {R : α → β → Prop} {xs ys : List α} (h : ys.Perm xs) : ∀ {js : List β}, Paired R xs js → ∃ js', Paired R ys js' ∧ js'.Perm js := by
  induction h with
  | nil => intro js p; cases p; exact ⟨[], .nil, .nil⟩
  | cons x h ih =>
    intro js p
    cases p with
    | cons r t =>
      obtain ⟨js', a, b⟩ := ih t
      exact ⟨_ :: js', .cons r a, b.cons _⟩
  | swap x y l =>
    intro js p
    cases p with
    | cons r t =>
      cases t with
      | cons r2 t2 => exact ⟨_ :: _ :: _, .cons r2 (.cons r t2), .swap ..⟩
  | trans h1 h2 ih1 ih2 =>
    intro js p
    obtain ⟨j1, a1, b1⟩ := ih2 p
    obtain ⟨j2, a2, b2⟩ := ih1 a1
    exact ⟨j2, a2, b2.trans b1⟩
theorem paired_mem {α β : Type} {R : α → β → Prop} : ∀ {ys : List α} {js : List β}, Paired R ys js → ∀ q ∈ js, ∃ y ∈ ys, R y q
  | _, _, .nil, q, h => absurd h (List.not_mem_nil)
  | y :: ys, j :: js, .cons r t, q, h => by
    rcases List.mem_cons.mp h with rfl | h
    · exact ⟨y, List.mem_cons_self, r⟩
    · obtain ⟨z, hz, rz⟩ := paired_mem t q h
      exact ⟨z, List.mem_cons_of_mem _ hz, rz⟩
theorem paired_memL {α β : Type} {R : α → β → Prop} : ∀ {ys : List α} {js : List β}, Paired R ys js → ∀ y ∈ ys, ∃ q ∈ js, R y q
  | _, _, .nil, q, h => absurd h (List.not_mem_nil)
  | y :: ys, j :: js, .cons r t, q, h => by
    rcases List.mem_cons.mp h with rfl | h
    · exact ⟨j, List.mem_cons_self, r⟩
    · obtain ⟨z, hz, rz⟩ := paired_memL t q h
      exact ⟨z, List.mem_cons_of_mem _ hz, rz⟩
theorem paired_pw {α β : Type} {R : α → β → Prop} {S : α → α → Prop} {S' : β → β → Prop} (hs : ∀ x y p q, R x p → R y q → S x y → S' p q) :
    ∀ {ys : List α} {js : List β}, Paired R ys js → ys.Pairwise S → js.Pairwise S'
  | _, _, .nil, _ => .nil
  | y :: ys, j :: js, .cons r t, h => by
    have h' := List.pairwise_cons.mp h
    refine List.pairwise_cons.mpr ⟨fun q hq => ?_, paired_pw hs t h'.2⟩
    obtain ⟨z, hz, rz⟩ := paired_mem t q hq
    exact hs y z j q r rz (h'.1 z hz)
theorem vn_ints (ys : List Nat) : Vn ys = (ys.map fun y => ((y : Nat) : Int)).map V.int := by
  unfold Vn
  rw [List.map_map]
  rfl
theorem cutN (c : Nat) (cs : List Nat) : cutV (Vn (c :: cs)) (some 1) none = Vn cs := by
  rw [vn_ints, vn_ints, List.map_cons, cut1]
theorem vn_app (xs ys : List Nat) : Vn (xs ++ ys) = Vn xs ++ Vn ys := by
  unfold Vn
  exact List.map_append
theorem in2 (e a b : Nat) : inV (.int (e : Nat)) [.int (a : Nat), .int (b : Nat)] = decide (e = a ∨ e = b) := by
  show ((((a : Nat) : Int) == ((e : Nat) : Int)) || ((((b : Nat) : Int) == ((e : Nat) : Int)) || false)) = _
  rw [Bool.eq_iff_iff]
  simp only [Bool.or_eq_true, beq_iff_eq, decide_eq_true_eq, Bool.false_eq_true, or_false]
  omega
section
variable {P : Program} {w : World} {K : PySem.W.Frag} {mg : Str → Option Value} {base : Heap}
end
end K37
-- K37b2
set_option Elab.async false
set_option linter.all false
set_option maxRecDepth 100000
set_option maxHeartbeats 4000000
/-! K59b2: _law_of, _law_lay over the state of part one -/
namespace K37
open PySem L2 DC
theorem MB.ms {H : Hp} {m lc lg : Addr} {nb : Nat} (h : MB H m lc lg nb) : H m ≠ none ∧ H lc ≠ none ∧ H lg ≠ none := by
  obtain ⟨cs, gs, n, h1, h2, h3, _⟩ := h
  rw [h1, h2, h3]
  exact ⟨(fun z => nomatch z), (fun z => nomatch z), (fun z => nomatch z)⟩
theorem MB.putf {H H' : Hp} {m lc lg l : Addr} {b0 nb : Nat} {o : HO} (h0 : MB H m lc lg b0) (h : MB H' m lc lg nb) (hl : H l = none) : MB (upd H' l o) m lc lg nb := by
  obtain ⟨z1, z2, z3⟩ := h0.ms
  obtain ⟨cs, gs, n, h1, h2, h3, r⟩ := h
  refine ⟨cs, gs, n, ?_, ?_, ?_, r⟩
  · rw [upd_ne (fun e => z1 (by rw [e]; exact hl))]; exact h1
  · rw [upd_ne (fun e => z2 (by rw [e]; exact hl))]; exact h2
  · rw [upd_ne (fun e => z3 (by rw [e]; exact hl))]; exact h3
theorem MB.ne {H : Hp} {m lc lg a : Addr} {nb : Nat} {o : HO} (h : MB H m lc lg nb) (e : H a = some o) (hu : ∀ kvs, o ≠ .dK kvs) : a ≠ m := by
  rintro rfl
  obtain ⟨cs, gs, n, h1, _⟩ := h
  rw [h1] at e
  exact hu _ (Option.some.inj e).symm
theorem MB.ng {H : Hp} {m lc lg a : Addr} {nb : Nat} {o : HO} (h : MB H m lc lg nb) (e : H a = some o) (hu : ∀ ys, o ≠ .lst ys) : a ≠ lg := by
  rintro rfl
  obtain ⟨cs, gs, n, _, _, h3, _⟩ := h
  rw [h3] at e
  exact hu _ (Option.some.inj e).symm
theorem sqT_m {K : PySem.W.Frag} {H H' : Hp} {m lc lg a : Addr} {nb : Nat} {xs : List V} (s : SameM m lg H H') (hm : MB H m lc lg nb) (h : SqT K H a xs) : SqT K H' a xs := by
  rcases h with (h | ⟨o, h⟩) | h
  · exact .inl (.inl (s _ _ (hm.ne h fun _ z => nomatch z) (hm.ng h fun _ z => nomatch z) h))
  · exact .inl (.inr ⟨o, s _ _ (hm.ne h fun _ z => nomatch z) (hm.ng h fun _ z => nomatch z) h⟩)
  · exact .inr h
theorem sqL_m {K : PySem.W.Frag} {H H' : Hp} {m lc lg a : Addr} {nb : Nat} {xs : List V} (s : SameM m lg H H') (hm : MB H m lc lg nb) (ng : a ≠ lg) (h : SqL K H a xs) : SqL K H' a xs := by
  rcases h with (h | ⟨o, h⟩) | h
  · exact .inl (.inl (s _ _ (hm.ne h fun _ z => nomatch z) ng h))
  · exact .inl (.inr ⟨o, s _ _ (hm.ne h fun _ z => nomatch z) ng h⟩)
  · exact .inr h
theorem SameM.free {m lc lg : Addr} {nb : Nat} {H H' : Hp} {l : Addr} (s : SameM m lg H H') (hm : MB H' m lc lg nb) (h : H' l = none) : H l = none := by
  obtain ⟨z1, _, z3⟩ := hm.ms
  cases e : H l with
  | none => rfl
  | some o =>
    rw [s l o (fun z => z1 (by rw [← z]; exact h)) (fun z => z3 (by rw [← z]; exact h)) e] at h
    cases h
section
variable {P : Program} {w : World} {K : PySem.W.Frag} {mg : Str → Option Value} {base : Heap}
def spOf (K : PySem.W.Frag) : Sp := fun vs H Q _ => ∃ (m lc lg b : Addr) (nb : Nat) (xs : List V), vs = [.ref m, .ref b] ∧ MB H m lc lg nb ∧ nb < 2 ^ 40 ∧ SqL K H b xs ∧ b ≠ lg ∧ 0 < xs.length ∧ xs.length < 1000000 ∧
  ∀ (i : Nat) (v : V) (H' : Hp), xs[i]? = some v → SameM m lg H H' → MB H' m lc lg (nb + 1) → Q v H'
end
/-- the left ends at l, the joints made so far at J -/
structure LI (K : PySem.W.Frag) (m lc lg : Addr) (n : Nat) (H H' : Hp) (l J : Addr) (nb : Nat) (es : List Nat) (vs : List V) (js : List J2) (i : Nat) : Prop where
  m0 : ∃ b, MB H m lc lg b
  sx : SameM m lg H H'
  mt : MB H' m lc lg nb
  fl : H l = none
  left : H' l = some (.lst (Vn es))
  jl : H' J = some (.lst vs)
  pr : Paired (Pr K H') vs js
  asc : es.Pairwise (· < ·)
  lt : ∀ e ∈ es, e < 2 * n
  ok : ∀ p ∈ js, p.1 < p.2 ∧ p.2 < 2 * n
  ap : js.Pairwise DC.Apart
  off : ∀ p ∈ js, ∀ e ∈ es, e ≠ p.1 ∧ e ≠ p.2
  fr : H J = none
  ne2 : l ≠ J
  cnt : js.length ≤ i
  len : es.length ≤ 2 * n
theorem LI.nm {K : PySem.W.Frag} {m lc lg : Addr} {n : Nat} {H H1 : Hp} {l J : Addr} {nb : Nat} {es : List Nat} {vs : List V} {js : List J2} {i : Nat} (L : LI K m lc lg n H H1 l J nb es vs js i) {a : Addr} (h : H a = none) : a ≠ m ∧ a ≠ lg := by
  obtain ⟨b, h0⟩ := L.m0
  obtain ⟨z1, _, z3⟩ := h0.ms
  exact ⟨fun e => z1 (by rw [← e]; exact h), fun e => z3 (by rw [← e]; exact h)⟩
theorem LI.draw {K : PySem.W.Frag} {m lc lg : Addr} {n : Nat} {H H1 H2 : Hp} {l J : Addr} {nb nb' : Nat} {es : List Nat} {vs : List V} {js : List J2} {i : Nat}
    (L : LI K m lc lg n H H1 l J nb es vs js i) (s : SameM m lg H1 H2) (hM : MB H2 m lc lg nb') : LI K m lc lg n H H2 l J nb' es vs js i :=
  { L with
    sx := L.sx.trans s
    mt := hM
    left := s _ _ (L.nm L.fl).1 (L.nm L.fl).2 L.left
    jl := s _ _ (L.nm L.fr).1 (L.nm L.fr).2 L.jl
    pr := L2.Paired.mapP L.pr fun _ _ ⟨t, q, h⟩ => ⟨t, q, sqT_m s L.mt h⟩ }
theorem LI.same {K : PySem.W.Frag} {m lc lg : Addr} {n : Nat} {H H1 H2 : Hp} {l J : Addr} {nb : Nat} {es : List Nat} {vs : List V} {js : List J2} {i : Nat}
    (L : LI K m lc lg n H H1 l J nb es vs js i) (s : Same H1 H2) : LI K m lc lg n H H2 l J nb es vs js i := L.draw (Same.m s) (L.mt.up s)
/-- the left ends stand elsewhere, some of them taken -/
theorem LI.take {K : PySem.W.Frag} {m lc lg : Addr} {n : Nat} {H H1 : Hp} {l l2 J : Addr} {nb : Nat} {es fs : List Nat} {vs : List V} {js : List J2} {i : Nat}
    (L : LI K m lc lg n H H1 l J nb es vs js i) (hl : H1 l2 = some (.lst (Vn fs))) (fl2 : H l2 = none) (ne2 : l2 ≠ J) (sub : fs.Sublist es) : LI K m lc lg n H H1 l2 J nb fs vs js (i + 1) :=
  { L with left := hl, fl := fl2, asc := L.asc.sublist sub, lt := fun e he => L.lt e (sub.subset he), off := fun p hp e he => L.off p hp e (sub.subset he), ne2 := ne2, cnt := Nat.le_succ_of_le L.cnt, len := Nat.le_trans sub.length_le L.len }
/-- a joint more -/
theorem LI.more {K : PySem.W.Frag} {m lc lg : Addr} {n : Nat} {H H1 : Hp} {l l2 J T : Addr} {nb : Nat} {es fs : List Nat} {vs : List V} {js : List J2} {i a b : Nat}
    (L : LI K m lc lg n H H1 l J nb es vs js i) (hT : H1 T = some (.tup [.int (a : Nat), .int (b : Nat)])) (ha : a ∈ es) (hb : b ∈ es) (hab : a < b) {H2 : Hp} (hs : Same (upd H1 J (.lst (vs ++ [.ref T]))) H2)
    (hl : H2 l2 = some (.lst (Vn fs))) (fl2 : H l2 = none) (ne2 : l2 ≠ J) (sub : fs.Sublist es) (no : ∀ e ∈ fs, e ≠ a ∧ e ≠ b) : LI K m lc lg n H H2 l2 J nb fs (vs ++ [.ref T]) (js ++ [(a, b)]) (i + 1) where
  m0 := L.m0
  sx := (L.sx.put L.fr).trans (Same.m hs)
  mt := by
    obtain ⟨b, h0⟩ := L.m0
    exact (h0.putf L.mt L.fr).up hs
  fl := fl2
  left := hl
  jl := hs _ _ upd_same
  pr := by
    have p1 : Paired (Pr K (upd H1 J (.lst (vs ++ [.ref T])))) (vs ++ [.ref T]) (js ++ [(a, b)]) := pair_snoc (L2.Paired.mapP L.pr fun _ _ ⟨t, q, h⟩ => ⟨t, q, sqT_put h L.jl⟩) ⟨T, rfl, sqT_put (SqT.of hT) L.jl⟩
    exact L2.Paired.mapP p1 fun _ _ z => z.up hs
  asc := L.asc.sublist sub
  lt := fun e he => L.lt e (sub.subset he)
  ok := fun p hp => by
    rcases List.mem_append.mp hp with h | h
    · exact L.ok p h
    · obtain rfl := List.mem_singleton.mp h
      exact ⟨hab, L.lt b hb⟩
  ap := by
    refine List.pairwise_append.mpr ⟨L.ap, List.pairwise_singleton _ _, fun p hp q hq => ?_⟩
    obtain rfl := List.mem_singleton.mp hq
    have h1 := L.off p hp a ha
    have h2 := L.off p hp b hb
    exact ⟨Ne.symm h1.1, Ne.symm h2.1, Ne.symm h1.2, Ne.symm h2.2⟩
  off := fun p hp e he => by
    rcases List.mem_append.mp hp with h | h
    · exact L.off p h e (sub.subset he)
    · obtain rfl := List.mem_singleton.mp h
      exact no e he
  fr := L.fr
  ne2 := ne2
  cnt := by
    rw [List.length_append]
    exact Nat.succ_le_succ L.cnt
  len := Nat.le_trans sub.length_le L.len
/-- the joints, in their order -/
theorem LI.good {K : PySem.W.Frag} {m lc lg : Addr} {n : Nat} {H H1 : Hp} {l J : Addr} {nb : Nat} {es : List Nat} {vs ys : List V} {js : List J2} {i : Nat}
    (L : LI K m lc lg n H H1 l J nb es vs js i) (h1 : 1 ≤ n) (h12 : n ≤ 12) (pm : ys.Perm vs) (pw : ys.Pairwise (fun x y => ∀ n m, TupI K H1 x n → TupI K H1 y m → TS.code 100 n ≤ TS.code 100 m)) :
    ∃ js', Paired (Pr K H1) ys js' ∧ Good n js' := by
  obtain ⟨js', hp, pj⟩ := paired_perm pm L.pr
  have rng : ∀ p ∈ js', p.1 < p.2 ∧ p.2 < 2 * n := fun p h => L.ok p (pj.mem_iff.mp h)
  have ap : js'.Pairwise DC.Apart := (pj.pairwise_iff (fun {p q} h => ⟨Ne.symm h.1, Ne.symm h.2.2.1, Ne.symm h.2.1, Ne.symm h.2.2.2⟩)).mpr L.ap
  have cw : js'.Pairwise (fun p q => p.1 * 100 + p.2 ≤ q.1 * 100 + q.2) := by
    refine paired_pw (fun x y p q rx ry h => ?_) hp pw
    obtain ⟨t, e, ht⟩ := rx
    obtain ⟨t2, e2, ht2⟩ := ry
    have z := h [((p.1 : Nat) : Int), ((p.2 : Nat) : Int)] [((q.1 : Nat) : Int), ((q.2 : Nat) : Int)] ⟨t, e, ht⟩ ⟨t2, e2, ht2⟩
    simp only [TS.code, List.length_cons, List.length_nil, Nat.zero_add, Int.pow_one, Int.pow_zero] at z
    omega
  refine ⟨js', hp, h1, h12, rng, ?_, ap⟩
  refine List.Pairwise.imp_of_mem (fun {p q} hp hq h => ?_) (List.Pairwise.and cw ap)
  have a1 := rng p hp
  have a2 := rng q hq
  have a3 := h.1
  have a4 := h.2.1
  omega
section
variable {P : Program} {w : World} {K : PySem.W.Frag} {mg : Str → Option Value} {base : Heap}
def spMake (K : PySem.W.Frag) : Sp := fun vs H Q _ => ∃ (m lc lg : Addr) (nb n : Nat), vs = [.ref m, .int n] ∧ MB H m lc lg nb ∧ nb < 2 ^ 39 ∧ 1 ≤ n ∧ n ≤ 12 ∧
  ∀ (v : V) (js : List J2) (H' : Hp), SameM m lg H H' → MB H' m lc lg (nb + 50) → Ly K H' v n js → Good n js → Q v H'
abbrev N30 : List Str := ["m", "links", "left", "joints_so", "share", "turn", "end", "mate", "other"]
end
end K37
-- C02
set_option Elab.async false
set_option linter.all false
set_option maxRecDepth 100000
set_option maxHeartbeats 4000000
/-! C02: mates of a lay as a function. -/
namespace DC
open PySem L2
def mt : List J2 → Nat → Option Nat
  | [], _ => none
  | p :: js, e => if e = p.1 then some p.2 else if e = p.2 then some p.1 else mt js e
theorem mt_app (p : J2) : ∀ (xs : List J2) (e : Nat), mt (xs ++ [p]) e = (mt xs e).or (if e = p.1 then some p.2 else if e = p.2 then some p.1 else none)
  | [], e => by
    show (if e = p.1 then some p.2 else if e = p.2 then some p.1 else mt [] e) = _
    rfl
  | q :: xs, e => by
    show (if e = q.1 then some q.2 else if e = q.2 then some q.1 else mt (xs ++ [p]) e) = ((if e = q.1 then some q.2 else if e = q.2 then some q.1 else mt xs e) : Option Nat).or _
    rw [mt_app p xs e]
    split
    · rfl
    · split <;> rfl
theorem mt_none : ∀ {xs : List J2} {e : Nat}, ¬ Seen xs e → mt xs e = none
  | [], _, _ => rfl
  | q :: xs, e, h => by
    have h1 : e ≠ q.1 := fun z => h ⟨q, List.mem_cons_self, .inl z⟩
    have h2 : e ≠ q.2 := fun z => h ⟨q, List.mem_cons_self, .inr z⟩
    show (if e = q.1 then some q.2 else if e = q.2 then some q.1 else mt xs e) = none
    rw [if_neg h1, if_neg h2]
    exact mt_none fun ⟨p, hp, r⟩ => h ⟨p, List.mem_cons_of_mem _ hp, r⟩
theorem mt_some : ∀ {xs : List J2} {e x : Nat}, mt xs e = some x → ∃ p ∈ xs, (e = p.1 ∧ x = p.2) ∨ (e = p.2 ∧ x = p.1)
  | [], _, _, h => by cases h
  | q :: xs, e, x, h => by
    have h' : (if e = q.1 then some q.2 else if e = q.2 then some q.1 else mt xs e) = some x := h
    split at h'
    · rename_i c
      exact ⟨q, List.mem_cons_self, .inl ⟨c, (Option.some.inj h').symm⟩⟩
    · split at h'
      · rename_i c
        exact ⟨q, List.mem_cons_self, .inr ⟨c, (Option.some.inj h').symm⟩⟩
      · obtain ⟨p, hp, r⟩ := mt_some h'
        exact ⟨p, List.mem_cons_of_mem _ hp, r⟩
theorem mt_of {xs : List J2} (ap : xs.Pairwise Apart) (ne : ∀ p ∈ xs, p.1 ≠ p.2) {p : J2} (hp : p ∈ xs) : mt xs p.1 = some p.2 ∧ mt xs p.2 = some p.1 := by
  induction xs with
  | nil => exact absurd hp (List.not_mem_nil)
  | cons q xs ih =>
    have ap' := List.pairwise_cons.mp ap
    show (if p.1 = q.1 then some q.2 else if p.1 = q.2 then some q.1 else mt xs p.1) = some p.2 ∧ (if p.2 = q.1 then some q.2 else if p.2 = q.2 then some q.1 else mt xs p.2) = some p.1
    rcases List.mem_cons.mp hp with rfl | hp
    · have n := ne p List.mem_cons_self
      rw [if_pos rfl, if_neg (Ne.symm n), if_pos rfl]
      exact ⟨rfl, rfl⟩
    · obtain ⟨a1, a2, a3, a4⟩ := ap'.1 p hp
      rw [if_neg (Ne.symm a1), if_neg (Ne.symm a3), if_neg (Ne.symm a2), if_neg (Ne.symm a4)]
      exact ih ap'.2 (fun r hr => ne r (List.mem_cons_of_mem _ hr)) hp
/-- a good lay's mates go both ways, are no fixed ends, lie within -/
structure Mt (N : Nat) (f : Nat → Option Nat) : Prop where
  inv : ∀ {a b}, f a = some b → f b = some a
  irr : ∀ {a}, f a ≠ some a
  lt : ∀ {a b}, f a = some b → a < N ∧ b < N
theorem Good.mt {n : Nat} {js : List J2} (g : Good n js) : Mt (2 * n) (mt js) := by
  have ne : ∀ p ∈ js, p.1 ≠ p.2 := fun p hp => Nat.ne_of_lt (g.rng p hp).1
  refine ⟨?_, ?_, ?_⟩
  · intro a b h
    obtain ⟨p, hp, ⟨rfl, rfl⟩ | ⟨rfl, rfl⟩⟩ := mt_some h
    · exact (mt_of g.dis ne hp).2
    · exact (mt_of g.dis ne hp).1
  · intro a h
    obtain ⟨p, hp, ⟨e1, e2⟩ | ⟨e1, e2⟩⟩ := mt_some h
    · exact ne p hp (e1.symm.trans e2)
    · exact ne p hp (e2.symm.trans e1)
  · intro a b h
    obtain ⟨p, hp, ⟨rfl, rfl⟩ | ⟨rfl, rfl⟩⟩ := mt_some h
    · have := g.rng p hp
      omega
    · have := g.rng p hp
      omega
def oV : Option Nat → V
  | none => .non
  | some x => .int (x : Nat)
def mV (n : Nat) (js : List J2) : List V := (List.range (2 * n)).map fun e => oV (mt js e)
theorem mV_len (n : Nat) (js : List J2) : (mV n js).length = 2 * n := by
  unfold mV
  rw [List.length_map, List.length_range]
theorem mV_at {n : Nat} {js : List J2} {e : Nat} (h : e < 2 * n) : (mV n js)[e]? = some (oV (mt js e)) := by
  unfold mV
  rw [List.getElem?_map, List.getElem?_range h]
  rfl
theorem range_set {α : Type} {N i : Nat} (f : Nat → α) (v : α) : ((List.range N).map f).set i v = (List.range N).map fun e => if e = i then v else f e := by
  apply List.ext_getElem
  · rw [List.length_set, List.length_map, List.length_map]
  · intro k h1 h2
    rw [List.getElem_set, List.getElem_map, List.getElem_map, List.getElem_range]
    by_cases c : i = k
    · rw [if_pos c, if_pos c.symm]
    · rw [if_neg c, if_neg (Ne.symm c)]
theorem mV_step {n : Nat} {xs : List J2} {p : J2} (h1 : ¬ Seen xs p.1) (h2 : ¬ Seen xs p.2) : ((mV n xs).set p.1 (.int (p.2 : Nat))).set p.2 (.int (p.1 : Nat)) = mV n (xs ++ [p]) := by
  unfold mV
  rw [range_set, range_set]
  refine List.map_congr_left fun e _ => ?_
  rw [mt_app]
  by_cases a : e = p.2
  · subst a
    rw [if_pos rfl, mt_none h2]
    by_cases b : p.2 = p.1
    · rw [if_pos b, b]
      rfl
    · rw [if_neg b, if_pos rfl]
      rfl
  · rw [if_neg a]
    by_cases b : e = p.1
    · subst b
      rw [if_pos rfl, mt_none h1, if_pos rfl]
      rfl
    · rw [if_neg b, if_neg b, if_neg a, Option.or_none]
/-- the other end of the same link -/
def fel (e : Nat) : Nat := if e % 2 = 0 then e + 1 else e - 1
def tld (e : Nat) : Int := if e % 2 = 0 then ((e / 2 + 1 : Nat) : Int) else -((e / 2 + 1 : Nat) : Int)
/-- the free ends -/
def frees (n : Nat) (js : List J2) : List Nat := (List.range (2 * n)).filter fun e => (mt js e).isNone
end DC
-- C03
set_option Elab.async false
set_option linter.all false
set_option maxRecDepth 100000
set_option maxHeartbeats 4000000
/-! C03: walks along the links of a lay. -/
namespace DC
theorem fel_fel (e : Nat) : fel (fel e) = e := by
  unfold fel
  split <;> split <;> omega
theorem fel_ne (e : Nat) : fel e ≠ e := by
  unfold fel
  split <;> omega
theorem fel_lt {n e : Nat} (h : e < 2 * n) : fel e < 2 * n := by
  unfold fel
  split <;> omega
theorem fel_inj {a b : Nat} (h : fel a = fel b) : a = b := by rw [← fel_fel a, h, fel_fel]
theorem fel_div (e : Nat) : fel e / 2 = e / 2 := by
  unfold fel
  split <;> omega
theorem same_link {a b : Nat} (h : a / 2 = b / 2) : a = b ∨ a = fel b := by
  unfold fel
  split <;> omega
theorem tld_fel (e : Nat) : tld (fel e) = - tld e := by
  unfold tld fel
  split <;> split <;> omega
theorem tld_inj {a b : Nat} (h : tld a = tld b) : a = b := by
  unfold tld at h
  split at h <;> split at h <;> omega
theorem nodup_le {α : Type} [DecidableEq α] : ∀ {l m : List α}, l.Nodup → (∀ x ∈ l, x ∈ m) → l.length ≤ m.length
  | [], _, _, _ => Nat.zero_le _
  | a :: l, m, h, s => by
    have ha := s a (List.mem_cons_self ..)
    have h' := List.nodup_cons.mp h
    have q := nodup_le (l := l) (m := m.erase a) h'.2 fun x hx => (List.mem_erase_of_ne (show x ≠ a from fun e => h'.1 (e ▸ hx))).mpr (s x (List.mem_cons_of_mem _ hx))
    rw [List.length_erase_of_mem ha] at q
    have := List.length_pos_of_mem ha
    rw [List.length_cons]
    omega
def it (f : Nat → Option Nat) (a : Nat) : Nat → Option Nat
  | 0 => some a
  | k + 1 => (it f a k).bind fun e => f (fel e)
theorem it_step {f : Nat → Option Nat} {a k x : Nat} (h : it f a (k + 1) = some x) : ∃ y, it f a k = some y ∧ f (fel y) = some x := Option.bind_eq_some_iff.mp h
theorem it_next {f : Nat → Option Nat} {a k y : Nat} (h : it f a k = some y) : it f a (k + 1) = f (fel y) := by
  show (it f a k).bind _ = _
  rw [h]
  rfl
theorem it_add {f : Nat → Option Nat} {a b j : Nat} (h : it f a j = some b) : ∀ i, it f b i = it f a (j + i)
  | 0 => h.symm
  | i + 1 => by
    show (it f b i).bind _ = (it f a (j + i)).bind _
    rw [it_add h i]
structure Part (f : Nat → Option Nat) (a k : Nat) : Prop where
  pos : 0 < k
  all : ∀ i, i < k → ∃ x, it f a i = some x
  no : ∀ i, 0 < i → i < k → it f a i ≠ some a
/-- a whole walk: it ends at a free end, or where it began -/
structure Run (f : Nat → Option Nat) (a k : Nat) : Prop extends Part f a k where
  fin : it f a k = none ∨ it f a k = some a
def wk (f : Nat → Option Nat) (a k : Nat) : List Nat := (List.range k).map fun i => (it f a i).getD 0
section
variable {f : Nat → Option Nat} {N a k : Nat}
theorem wk_len : (wk f a k).length = k := by
  unfold wk
  rw [List.length_map, List.length_range]
theorem wk_at {i x : Nat} (hi : i < k) (h : it f a i = some x) : (wk f a k)[i]? = some x := by
  unfold wk
  rw [List.getElem?_map, List.getElem?_range hi, Option.map_some, h]
  rfl
theorem mem_wk (P : Part f a k) {x : Nat} : x ∈ wk f a k ↔ ∃ i, i < k ∧ it f a i = some x := by
  unfold wk
  rw [List.mem_map]
  constructor
  · rintro ⟨i, hi, rfl⟩
    have hi := List.mem_range.mp hi
    obtain ⟨y, hy⟩ := P.all i hi
    exact ⟨i, hi, by rw [hy]; rfl⟩
  · rintro ⟨i, hi, h⟩
    exact ⟨i, List.mem_range.mpr hi, by rw [h]; rfl⟩
theorem wk_succ (x : Nat) (h : it f a k = some x) : wk f a (k + 1) = wk f a k ++ [x] := by
  unfold wk
  rw [List.range_succ, List.map_append, List.map_cons, h]
  rfl
theorem Part.one : Part f a 1 := ⟨by decide, fun i hi => ⟨a, by rw [show i = 0 by omega]; rfl⟩, fun i h1 h2 => by omega⟩
theorem Part.next (P : Part f a k) {x : Nat} (h : it f a k = some x) (hx : x ≠ a) : Part f a (k + 1) := by
  refine ⟨Nat.succ_pos _, fun i hi => ?_, fun i h1 h2 => ?_⟩
  · by_cases c : i = k
    · exact ⟨x, c ▸ h⟩
    · exact P.all i (by omega)
  · by_cases c : i = k
    · rw [c, h]
      exact fun z => hx (Option.some.inj z)
    · exact P.no i h1 (by omega)
theorem it_back (M : Mt N f) : ∀ (i d x : Nat), it f a i = some x → it f a (i + d) = some x → it f a d = some a
  | 0, d, x, h1, h2 => by
    rw [Nat.zero_add] at h2
    rw [h2]
    exact h1.symm
  | i + 1, d, x, h1, h2 => by
    obtain ⟨y, hy, ey⟩ := it_step h1
    rw [show i + 1 + d = (i + d) + 1 by omega] at h2
    obtain ⟨z, hz, ez⟩ := it_step h2
    have e := (M.inv ey).symm.trans (M.inv ez)
    have e2 := fel_inj (Option.some.inj e)
    subst e2
    exact it_back M i d y hy hz
theorem Part.inj (P : Part f a k) (M : Mt N f) {i j x : Nat} (hi : i < k) (hj : j < k) (h1 : it f a i = some x) (h2 : it f a j = some x) : i = j := by
  rcases Nat.lt_trichotomy i j with c | c | c
  · rw [show j = i + (j - i) by omega] at h2
    exact absurd (it_back M i (j - i) x h1 h2) (P.no _ (by omega) (by omega))
  · exact c
  · rw [show i = j + (i - j) by omega] at h1
    exact absurd (it_back M j (i - j) x h2 h1) (P.no _ (by omega) (by omega))
theorem Part.lt (P : Part f a k) (M : Mt N f) (ha : a < N) : ∀ x ∈ wk f a k, x < N := by
  intro x hx
  obtain ⟨i, hi, h⟩ := (mem_wk P).mp hx
  cases i with
  | zero =>
    have e : a = x := Option.some.inj h
    omega
  | succ i =>
    obtain ⟨y, _, e⟩ := it_step h
    exact (M.lt e).2
theorem Part.nodup (P : Part f a k) (M : Mt N f) : (wk f a k).Nodup := by
  unfold wk
  rw [List.Nodup, List.pairwise_map]
  refine List.Pairwise.imp_of_mem (fun {i j} hi hj hne e => ?_) (List.nodup_range (n := k))
  obtain ⟨x, hx⟩ := P.all i (List.mem_range.mp hi)
  obtain ⟨y, hy⟩ := P.all j (List.mem_range.mp hj)
  rw [hx, hy] at e
  have e : x = y := e
  subst e
  exact hne (P.inj M (List.mem_range.mp hi) (List.mem_range.mp hj) hx hy)
theorem Part.le (P : Part f a k) (M : Mt N f) (ha : a < N) : k ≤ N := by
  have q := nodup_le (m := List.range N) (P.nodup M) fun x hx => List.mem_range.mpr (P.lt M ha x hx)
  rw [wk_len, List.length_range] at q
  exact q
theorem run_ex (M : Mt N f) (ha : a < N) : ∃ k, Run f a k := by
  have gen : ∀ d k, Part f a k → N - k ≤ d → ∃ k, Run f a k := by
    intro d
    induction d with
    | zero =>
      intro k P h
      cases e : it f a k with
      | none => exact ⟨k, P, .inl e⟩
      | some x =>
        by_cases c : x = a
        · exact ⟨k, P, .inr (by rw [e, c])⟩
        · have := (P.next e c).le M ha
          omega
    | succ d ih =>
      intro k P h
      cases e : it f a k with
      | none => exact ⟨k, P, .inl e⟩
      | some x =>
        by_cases c : x = a
        · exact ⟨k, P, .inr (by rw [e, c])⟩
        · exact ih (k + 1) (P.next e c) (by omega)
  exact gen N 1 .one (by omega)
theorem run_eq {j : Nat} (R : Run f a k) (S : Run f a j) : k = j := by
  have gen : ∀ {k j}, Run f a k → Run f a j → ¬ k < j := by
    intro k j R S c
    rcases R.fin with h | h
    · obtain ⟨x, hx⟩ := S.all k c
      rw [h] at hx
      cases hx
    · exact S.no k R.pos c h
  rcases Nat.lt_trichotomy k j with c | c | c
  · exact absurd c (gen R S)
  · exact c
  · exact absurd c (gen S R)
/-- no link is come to by both its ends -/
theorem no_fel (M : Mt N f) : ∀ (d i x : Nat), it f a i = some x → it f a (i + d) = some (fel x) → False
  | 0, i, x, h1, h2 => by
    have e : some x = some (fel x) := h1.symm.trans h2
    exact fel_ne x (Option.some.inj e).symm
  | 1, i, x, h1, h2 => by
    rw [it_next h1] at h2
    exact M.irr h2
  | d + 2, i, x, h1, h2 => by
    obtain ⟨z, hz, ez⟩ := it_step (k := i + d + 1) h2
    have e := M.inv ez
    rw [← it_next h1] at e
    refine no_fel M d (i + 1) (fel z) e ?_
    rw [fel_fel, show i + 1 + d = i + d + 1 by omega]
    exact hz
theorem Part.link (P : Part f a k) (M : Mt N f) {i j x y : Nat} (hi : i < k) (hj : j < k) (h1 : it f a i = some x) (h2 : it f a j = some y) (h : x / 2 = y / 2) : i = j := by
  rcases same_link h with rfl | rfl
  · exact P.inj M hi hj h1 h2
  · rcases Nat.le_total j i with c | c
    · rw [show i = j + (i - j) by omega] at h1
      exact (no_fel M _ j y h2 h1).elim
    · rw [show j = i + (j - i) by omega] at h2
      rw [← fel_fel y] at h2
      exact (no_fel M _ i (fel y) h1 h2).elim
/-- the walk backwards -/
theorem it_rev (M : Mt N f) (P : Part f a k) {z : Nat} (hz : it f a (k - 1) = some z) : ∀ i, i < k → it f (fel z) i = (it f a (k - 1 - i)).map fel
  | 0, _ => by
    rw [Nat.sub_zero, hz]
    rfl
  | i + 1, hi => by
    have ih := it_rev M P hz i (by omega)
    obtain ⟨y, hy⟩ := P.all (k - 1 - i) (by omega)
    rw [hy] at ih
    have ih' : it f (fel z) i = some (fel y) := ih
    rw [it_next ih', fel_fel]
    have hy' : it f a ((k - 1 - (i + 1)) + 1) = some y := by
      rw [show k - 1 - (i + 1) + 1 = k - 1 - i by omega]
      exact hy
    obtain ⟨w, hw, ew⟩ := it_step hy'
    rw [hw, M.inv ew]
    rfl
theorem rev_part (M : Mt N f) (P : Part f a k) {z : Nat} (hz : it f a (k - 1) = some z) : Part f (fel z) k := by
  have pos := P.pos
  refine ⟨P.pos, fun i hi => ?_, fun i h1 h2 e => ?_⟩
  · obtain ⟨y, hy⟩ := P.all (k - 1 - i) (by omega)
    exact ⟨fel y, by rw [it_rev M P hz i hi, hy]; rfl⟩
  · rw [it_rev M P hz i h2] at e
    obtain ⟨y, hy⟩ := P.all (k - 1 - i) (by omega)
    rw [hy] at e
    have e2 := fel_inj (Option.some.inj e)
    subst e2
    have := P.inj M (by omega) (by omega) hy hz
    omega
theorem rev_wk (M : Mt N f) (P : Part f a k) {z : Nat} (hz : it f a (k - 1) = some z) : wk f (fel z) k = ((wk f a k).reverse).map fel := by
  apply List.ext_getElem?
  intro i
  by_cases hi : i < k
  · obtain ⟨y, hy⟩ := P.all (k - 1 - i) (by omega)
    have h := it_rev M P hz i hi
    rw [hy] at h
    rw [wk_at hi h, List.getElem?_map, List.getElem?_reverse (by rw [wk_len]; exact hi), wk_len, wk_at (by omega) hy]
    rfl
  · rw [List.getElem?_eq_none (by rw [wk_len]; omega), List.getElem?_eq_none (by rw [List.length_map, List.length_reverse, wk_len]; omega)]
theorem rev_fin (M : Mt N f) (P : Part f a k) {z : Nat} (hz : it f a (k - 1) = some z) : it f (fel z) k = f a := by
  have pos := P.pos
  have h := it_rev M P hz (k - 1) (by omega)
  rw [show k - 1 - (k - 1) = 0 by omega] at h
  have h' : it f (fel z) (k - 1) = some (fel a) := h
  have e := it_next h'
  rw [show k - 1 + 1 = k by omega, fel_fel] at e
  exact e
end
end DC
-- C10
set_option Elab.async false
set_option linter.all false
set_option maxRecDepth 100000
set_option maxHeartbeats 4000000
/-! C10: walks by two pairings in turn; what hangs together by both. -/
namespace DC
/-- which pairing is followed at a step -/
def hh (f g : Nat → Option Nat) (i : Nat) : Nat → Option Nat := if i % 2 = 0 then f else g
def jt (f g : Nat → Option Nat) (a : Nat) : Nat → Option Nat
  | 0 => some a
  | k + 1 => (jt f g a k).bind (hh f g k)
section
variable {f g : Nat → Option Nat} {N a k : Nat}
theorem hh_par {i j : Nat} (h : i % 2 = j % 2) : hh f g i = hh f g j := by
  unfold hh
  rw [h]
theorem hh_inv (F : Mt N f) (G : Mt N g) {i x y : Nat} (h : hh f g i x = some y) : hh f g i y = some x := by
  unfold hh at h ⊢
  split at h
  · rename_i c
    rw [if_pos c]
    exact F.inv h
  · rename_i c
    rw [if_neg c]
    exact G.inv h
theorem hh_irr (F : Mt N f) (G : Mt N g) {i x : Nat} : hh f g i x ≠ some x := by
  unfold hh
  split
  · exact F.irr
  · exact G.irr
theorem hh_lt (F : Mt N f) (G : Mt N g) {i x y : Nat} (h : hh f g i x = some y) : y < N := by
  unfold hh at h
  split at h
  · exact (F.lt h).2
  · exact (G.lt h).2
theorem jt_step {x : Nat} (h : jt f g a (k + 1) = some x) : ∃ y, jt f g a k = some y ∧ hh f g k y = some x := Option.bind_eq_some_iff.mp h
theorem jt_next {y : Nat} (h : jt f g a k = some y) : jt f g a (k + 1) = hh f g k y := by
  show (jt f g a k).bind _ = _
  rw [h]
  rfl
theorem jt_odd (F : Mt N f) (G : Mt N g) : ∀ (d i x : Nat), jt f g a i = some x → jt f g a (i + (2 * d + 1)) = some x → False
  | 0, i, x, h1, h2 => by
    rw [show i + (2 * 0 + 1) = i + 1 by omega, jt_next h1] at h2
    exact hh_irr F G h2
  | d + 1, i, x, h1, h2 => by
    rw [show i + (2 * (d + 1) + 1) = (i + 2 * d + 2) + 1 by omega] at h2
    obtain ⟨y, hy, ey⟩ := jt_step h2
    rw [hh_par (show (i + 2 * d + 2) % 2 = i % 2 by omega)] at ey
    have e := hh_inv F G ey
    rw [← jt_next h1] at e
    exact jt_odd F G d (i + 1) y e (by rw [show i + 1 + (2 * d + 1) = i + 2 * d + 2 by omega]; exact hy)
theorem jt_even (F : Mt N f) (G : Mt N g) (d : Nat) : ∀ (i x : Nat), jt f g a i = some x → jt f g a (i + 2 * d) = some x → jt f g a (2 * d) = some a
  | 0, x, h1, h2 => by
    rw [Nat.zero_add] at h2
    rw [h2]
    exact h1.symm
  | i + 1, x, h1, h2 => by
    obtain ⟨y, hy, ey⟩ := jt_step h1
    rw [show i + 1 + 2 * d = (i + 2 * d) + 1 by omega] at h2
    obtain ⟨z, hz, ez⟩ := jt_step h2
    rw [hh_par (show (i + 2 * d) % 2 = i % 2 by omega)] at ez
    have e := (hh_inv F G ey).symm.trans (hh_inv F G ez)
    obtain rfl := Option.some.inj e
    exact jt_even F G d i y hy hz
structure Pj (f g : Nat → Option Nat) (a k : Nat) : Prop where
  pos : 0 < k
  all : ∀ i, i < k → ∃ x, jt f g a i = some x
  no : ∀ i, 0 < i → i < k → jt f g a i ≠ some a
structure Rj (f g : Nat → Option Nat) (a k : Nat) : Prop extends Pj f g a k where
  fin : jt f g a k = none ∨ jt f g a k = some a
def rj (f g : Nat → Option Nat) (a k : Nat) : List Nat := (List.range k).map fun i => (jt f g a i).getD 0
theorem rj_len : (rj f g a k).length = k := by
  unfold rj
  rw [List.length_map, List.length_range]
theorem rj_succ (x : Nat) (h : jt f g a k = some x) : rj f g a (k + 1) = rj f g a k ++ [x] := by
  unfold rj
  rw [List.range_succ, List.map_append, List.map_cons, h]
  rfl
theorem mem_rj (P : Pj f g a k) {x : Nat} : x ∈ rj f g a k ↔ ∃ i, i < k ∧ jt f g a i = some x := by
  unfold rj
  rw [List.mem_map]
  constructor
  · rintro ⟨i, hi, rfl⟩
    have hi := List.mem_range.mp hi
    obtain ⟨y, hy⟩ := P.all i hi
    exact ⟨i, hi, by rw [hy]; rfl⟩
  · rintro ⟨i, hi, h⟩
    exact ⟨i, List.mem_range.mpr hi, by rw [h]; rfl⟩
theorem Pj.one : Pj f g a 1 := ⟨by decide, fun i hi => ⟨a, by rw [show i = 0 by omega]; rfl⟩, fun i h1 h2 => by omega⟩
theorem Pj.next (P : Pj f g a k) {x : Nat} (h : jt f g a k = some x) (hx : x ≠ a) : Pj f g a (k + 1) := by
  refine ⟨Nat.succ_pos _, fun i hi => ?_, fun i h1 h2 => ?_⟩
  · by_cases c : i = k
    · exact ⟨x, c ▸ h⟩
    · exact P.all i (by omega)
  · by_cases c : i = k
    · rw [c, h]
      exact fun z => hx (Option.some.inj z)
    · exact P.no i h1 (by omega)
theorem Pj.inj (P : Pj f g a k) (F : Mt N f) (G : Mt N g) {i j x : Nat} (hi : i < k) (hj : j < k) (h1 : jt f g a i = some x) (h2 : jt f g a j = some x) : i = j := by
  have gen : ∀ {i j : Nat}, j < k → jt f g a i = some x → jt f g a j = some x → ¬ i < j := by
    intro i j hj h1 h2 c
    by_cases e : (j - i) % 2 = 0
    · rw [show j = i + 2 * ((j - i) / 2) by omega] at h2
      exact P.no _ (by omega) (by omega) (jt_even F G ((j - i) / 2) i x h1 h2)
    · rw [show j = i + (2 * ((j - i) / 2) + 1) by omega] at h2
      exact jt_odd F G _ i x h1 h2
  rcases Nat.lt_trichotomy i j with c | c | c
  · exact absurd c (gen hj h1 h2)
  · exact c
  · exact absurd c (gen hi h2 h1)
theorem Pj.lt (P : Pj f g a k) (F : Mt N f) (G : Mt N g) (ha : a < N) : ∀ x ∈ rj f g a k, x < N := by
  intro x hx
  obtain ⟨i, hi, h⟩ := (mem_rj P).mp hx
  cases i with
  | zero =>
    have e : a = x := Option.some.inj h
    omega
  | succ i =>
    obtain ⟨y, _, e⟩ := jt_step h
    exact hh_lt F G e
theorem Pj.nodup (P : Pj f g a k) (F : Mt N f) (G : Mt N g) : (rj f g a k).Nodup := by
  unfold rj
  rw [List.Nodup, List.pairwise_map]
  refine List.Pairwise.imp_of_mem (fun {i j} hi hj hne e => ?_) (List.nodup_range (n := k))
  obtain ⟨x, hx⟩ := P.all i (List.mem_range.mp hi)
  obtain ⟨y, hy⟩ := P.all j (List.mem_range.mp hj)
  rw [hx, hy] at e
  have e : x = y := e
  subst e
  exact hne (P.inj F G (List.mem_range.mp hi) (List.mem_range.mp hj) hx hy)
theorem Pj.le (P : Pj f g a k) (F : Mt N f) (G : Mt N g) (ha : a < N) : k ≤ N := by
  have q := nodup_le (m := List.range N) (P.nodup F G) fun x hx => List.mem_range.mpr (P.lt F G ha x hx)
  rw [rj_len, List.length_range] at q
  exact q
theorem rj_eq {j : Nat} (R : Rj f g a k) (S : Rj f g a j) : k = j := by
  have gen : ∀ {k j}, Rj f g a k → Rj f g a j → ¬ k < j := by
    intro k j R S c
    rcases R.fin with h | h
    · obtain ⟨x, hx⟩ := S.all k c
      rw [h] at hx
      cases hx
    · exact S.no k R.pos c h
  rcases Nat.lt_trichotomy k j with c | c | c
  · exact absurd c (gen R S)
  · exact c
  · exact absurd c (gen S R)
/-- one leads to the other by some pairing -/
def Nb (f g : Nat → Option Nat) (x y : Nat) : Prop := f x = some y ∨ g x = some y
inductive Cl (f g : Nat → Option Nat) (a : Nat) : Nat → Prop
  | base : Cl f g a a
  | step {x y : Nat} : Cl f g a x → Nb f g x y → Cl f g a y
theorem nb_hh {i x y : Nat} (h : hh f g i x = some y) : Nb f g x y := by
  unfold hh at h
  split at h
  · exact .inl h
  · exact .inr h
theorem nb_or {i x y : Nat} (h : Nb f g x y) : hh f g i x = some y ∨ hh f g (i + 1) x = some y := by
  unfold hh
  by_cases c : i % 2 = 0
  · rw [if_pos c, if_neg (show ¬ (i + 1) % 2 = 0 by omega)]
    exact h
  · rw [if_neg c, if_pos (show (i + 1) % 2 = 0 by omega)]
    exact h.symm
theorem nb_symm (F : Mt N f) (G : Mt N g) {x y : Nat} (h : Nb f g x y) : Nb f g y x := h.imp F.inv G.inv
theorem cl_trans {x y : Nat} (h1 : Cl f g a x) (h2 : Cl f g x y) : Cl f g a y := by
  induction h2 with
  | base => exact h1
  | step _ n ih => exact ih.step n
theorem cl_symm (F : Mt N f) (G : Mt N g) {x y : Nat} (h : Cl f g x y) : Cl f g y x := by
  induction h with
  | base => exact .base
  | step _ n ih => exact cl_trans (.step .base (nb_symm F G n)) ih
theorem cl_closed {S : Nat → Prop} (h0 : S a) (hs : ∀ x y, S x → Nb f g x y → S y) : ∀ {x}, Cl f g a x → S x := by
  intro x h
  induction h with
  | base => exact h0
  | step _ n ih => exact hs _ _ ih n
theorem rj_cl (P : Pj f g a k) : ∀ x ∈ rj f g a k, Cl f g a x := by
  have gen : ∀ i x, jt f g a i = some x → Cl f g a x := by
    intro i
    induction i with
    | zero => intro x h; obtain rfl : a = x := Option.some.inj h; exact .base
    | succ i ih =>
      intro x h
      obtain ⟨y, hy, e⟩ := jt_step h
      exact (ih y hy).step (nb_hh e)
  intro x hx
  obtain ⟨i, _, h⟩ := (mem_rj P).mp hx
  exact gen i x h
/-- the row of a piece is all that hangs together with its beginning: begun at a last end, or in a ring -/
theorem cl_rj (F : Mt N f) (G : Mt N g) (R : Rj f g a k) (h0 : g a = none ∨ jt f g a k = some a) : ∀ x, Cl f g a x → x ∈ rj f g a k := by
  have P := R.toPj
  intro x hx
  refine cl_closed (S := fun x => x ∈ rj f g a k) ((mem_rj P).mpr ⟨0, P.pos, rfl⟩) (fun x y hx n => ?_) hx
  obtain ⟨i, hi, hxi⟩ := (mem_rj P).mp hx
  -- ahead: by the pairing that is followed there
  have ahead : hh f g i x = some y → y ∈ rj f g a k := by
    intro e
    rw [← jt_next hxi] at e
    by_cases c : i + 1 < k
    · exact (mem_rj P).mpr ⟨i + 1, c, e⟩
    · rw [show i + 1 = k by omega] at e
      rcases R.fin with z | z
      · rw [z] at e
        cases e
      · rw [z] at e
        obtain rfl : a = y := Option.some.inj e
        exact (mem_rj P).mpr ⟨0, P.pos, rfl⟩
  -- behind: by the other one
  have behind : hh f g (i + 1) x = some y → y ∈ rj f g a k := by
    intro e
    cases i with
    | zero =>
      obtain rfl : a = x := Option.some.inj hxi
      have e' : g a = some y := e
      rcases h0 with z | z
      · rw [z] at e'
        cases e'
      · have pos := P.pos
        have ev : k % 2 = 0 := by
          by_cases c : k % 2 = 0
          · exact c
          · rw [show k = 0 + (2 * (k / 2) + 1) by omega] at z
            exact (jt_odd F G (k / 2) 0 a rfl z).elim
        rw [show k = (k - 1) + 1 by omega] at z
        obtain ⟨w, hw, ew⟩ := jt_step z
        have ew' := hh_inv F G ew
        have e2 : hh f g (k - 1) a = g a := by
          unfold hh
          rw [if_neg (by omega)]
        rw [e2, e'] at ew'
        obtain rfl := Option.some.inj ew'
        exact (mem_rj P).mpr ⟨k - 1, by omega, hw⟩
    | succ i =>
      obtain ⟨w, hw, ew⟩ := jt_step hxi
      rw [hh_par (show (i + 1 + 1) % 2 = i % 2 by omega)] at e
      have ew' := hh_inv F G ew
      rw [e] at ew'
      obtain rfl := Option.some.inj ew'
      exact (mem_rj P).mpr ⟨i, by omega, hw⟩
  rcases nb_or (i := i) n with e | e
  · exact ahead e
  · exact behind e
end
end DC
-- K37c
set_option Elab.async false
set_option linter.all false
set_option maxRecDepth 100000
set_option maxHeartbeats 4000000
namespace K37
open PySem L2 DC
section
variable {P : Program} {w : World} {K : PySem.W.Frag} {mg : Str → Option Value} {base : Heap}
def spMates (K : PySem.W.Frag) : Sp := fun vs H Q _ => ∃ (v : V) (n : Nat) (js : List J2), vs = [v] ∧ Ly K H v n js ∧ Good n js ∧ ∀ (r : Addr) (H' : Hp), Same H H' → H r = none → H' r = some (.lst (mV n js)) → Q (.ref r) H'
theorem non_rep {n : Nat} : (List.replicate (2 * (n : Int)).toNat [V.non]).flatten = mV n [] := by
  rw [show (2 * (n : Int)).toNat = 2 * n by omega]
  unfold mV
  rw [show (fun e => oV (mt [] e)) = fun _ : Nat => V.non from rfl, List.map_const', List.length_range]
  induction 2 * n with
  | zero => rfl
  | succ k ih => rw [List.replicate_succ, List.flatten_cons, ih]; rfl
abbrev N17 : List Str := ["lay", "links", "joints", "found", "low", "high"]
theorem sc17 : FnScope N17 ["lay"] (defScope (top 13)) := ⟨rfl, rfl, rfl, by decide +kernel, rfl, by decide +kernel, by decide +kernel⟩
theorem ok17 {f : Addr} {fd : FuncData} (F : Fun K "mates" "mates" (top 13) f fd) (B : Bn mg) : OkF P w K mg base 1 f fd ["lay"] (spMates K) := by
  refine ok0 F sc17 (fun vs H Q E h => ?_) (fun cdv A outer s H vs Q E hgd hr h => ?_)
  · obtain ⟨v, n, js, rfl, _⟩ := h; rfl
  · obtain ⟨v, n, js, rfl, ⟨t, u, rfl, hS, tj, ws, rfl, hSj, hPj⟩, g, q⟩ := h
    have nd := sc17.nd
    have tp := g.top
    refine ⟨_, pss_cons (ps_asg (pv 0) (pg_tup (by rfl) (pgs_cons (pg_name (i := 1) nd rfl (.inl rfl)) (pgs_cons (pg_name (i := 2) nd rfl (.inl rfl)) pgs_nil))))
      (pss_cons (ps_set (i := 3) nd rfl (.inl rfl) (pe_op op_rep (pe_lst (pa_cons pe_non pa_nil)) (pe_op op_mul pe_int (pv 1))))
      (pss_cons (ps_for PassesOwn.never rfl (pi_tup (pv 2)) (pg_tup (by rfl) (pgs_cons (pg_name (i := 4) nd rfl (.inl rfl)) (pgs_cons (pg_name (i := 5) nd rfl (.inl rfl)) pgs_nil)))
        (pss_cons (ps_asg (pv 5) (pg_sub (pv 3) (pv 4) set_list)) (pss_one (ps_asg (pv 4) (pg_sub (pv 3) (pv 5) set_list)))))
      (pss_one (ps_ret (pv 3))))), ?_⟩
    refine ⟨_, rfl, t, _, rfl, hS, rfl, _, _, rfl, _, _, rfl, rfl, ?_⟩
    refine ⟨by show 1 ≤ sizeLine; decide, fun l0 hl0 => ?_⟩
    refine ⟨_, rfl, 2, (n : Int), rfl, rfl, .inl ⟨by decide, by decide⟩, l0, 2 * (n : Int), [.non], rfl, rfl, upd_same, by omega, by omega, ?_, fun l hl => ?_⟩
    · show 1 * (2 * (n : Int)).toNat ≤ sizeLine
      exact Nat.le_trans (show 1 * (2 * (n : Int)).toNat ≤ 24 by omega) (by decide)
    refine gn ?_
    have Hl : H l = none := Same.free (same_new0 hl0) hl
    have s2 : Same H (upd (upd H l0 (.lst [.non])) l (.lst (List.replicate (2 * (n : Int)).toNat [V.non]).flatten)) := same_put (same_new0 hl0) Hl
    refine ⟨_, rfl, tj, rfl, ⟨ws, Same.t s2 hSj⟩, for_it (walk_tup (xs := ws)) (fun i σ H' => ∃ y4 y5, σ = [some (.ref t), some (.int n), some (.ref tj), some (.ref l), y4, y5] ∧ Same H H' ∧ H' l = some (.lst (mV n (js.take i)))) ⟨none, none, rfl, s2, ?_⟩ ?_ ?_ ?_⟩
    · rw [upd_same, non_rep]
      rfl
    · rintro i σ H' hi ⟨y4, y5, rfl, sm, _⟩
      exact Same.t sm hSj
    · rintro i x σ H1 H2 hi ⟨y4, y5, rfl, sm, hL⟩ ⟨rfl, ex⟩
      obtain ⟨p, hp, j, rfl, hj⟩ := pair_at hPj ex
      obtain ⟨r1, r2, r3, r4, r5⟩ := good_at g hp
      refine ⟨j, _, rfl, Same.t sm hj, rfl, _, _, rfl, _, _, rfl, rfl, ?_⟩
      refine ⟨_, rfl, _, rfl, _, rfl, l, mV n (js.take i), _, p.1, rfl, rfl, hL, Evl.ixN_nat (by rw [mV_len]; omega), ?_⟩
      refine ⟨_, rfl, _, rfl, _, rfl, l, _, _, p.2, rfl, rfl, upd_same, Evl.ixN_nat (by rw [List.length_set, mV_len]; exact r2), ?_⟩
      refine ⟨_, _, rfl, same_put (same_put sm Hl) Hl, ?_⟩
      rw [upd_same, take_next hp, mV_step r3 r4]
    · rintro σ H' ⟨y4, y5, rfl, sm, hL⟩
      rw [List.take_of_length_le (by rw [Paired.length hPj]; exact Nat.le_refl _)] at hL
      exact ⟨_, rfl, q l H' sm Hl hL⟩

def spAlong : Sp := fun vs H Q _ => ∃ (m1 m2 : Addr) (n a : Nat) (js ls : List J2), vs = [.ref m1, .ref m2, .int a] ∧ H m1 = some (.lst (mV n js)) ∧ H m2 = some (.lst (mV n ls)) ∧ Good n js ∧ Good n ls ∧ a < 2 * n ∧
  ∀ (k : Nat) (r : Addr) (H' : Hp), Rj (mt js) (mt ls) a k → Same H H' → H r = none → H' r = some (.lst (Vn (rj (mt js) (mt ls) a k))) → Q (.ref r) H'
abbrev N20 : List Str := ["first", "second", "begun", "row", "here"]
def sw (m1 m2 : Addr) (i : Nat) : Addr := if i % 2 = 0 then m1 else m2
end
end K37
-- C11
set_option Elab.async false
set_option linter.all false
set_option maxRecDepth 100000
set_option maxHeartbeats 4000000
/-! C11: the pieces of a web. -/
namespace DC
open PySem L2
section
variable {f g : Nat → Option Nat} {N a k : Nat}
theorem cl_swap {x : Nat} (h : Cl f g a x) : Cl g f a x := by
  induction h with
  | base => exact .base
  | step _ n ih => exact ih.step n.symm
/-- all that hangs together with a, each once -/
structure Cls (N : Nat) (f g : Nat → Option Nat) (a : Nat) (row : List Nat) : Prop where
  mem : ∀ x, x ∈ row ↔ Cl f g a x
  nd : row.Nodup
  lt : ∀ x ∈ row, x < N
theorem Cls.swap {row : List Nat} (c : Cls N f g a row) : Cls N g f a row := ⟨fun x => (c.mem x).trans ⟨cl_swap, cl_swap⟩, c.nd, c.lt⟩
theorem cls_rj (F : Mt N f) (G : Mt N g) (ha : a < N) (R : Rj f g a k) (h0 : g a = none ∨ jt f g a k = some a) : Cls N f g a (rj f g a k) :=
  ⟨fun x => ⟨rj_cl R.toPj x, cl_rj F G R h0 x⟩, R.toPj.nodup F G, R.toPj.lt F G ha⟩
theorem Cls.beg {row : List Nat} (c : Cls N f g a row) : a ∈ row := (c.mem a).mpr .base
/-- two such are the same, or apart -/
theorem Cls.meet {b : Nat} {row row' : List Nat} (F : Mt N f) (G : Mt N g) (c : Cls N f g a row) (d : Cls N f g b row') {x : Nat} (h : x ∈ row) (h' : x ∈ row') : ∀ y, y ∈ row → y ∈ row' := by
  intro y hy
  have e1 := (c.mem x).mp h
  have e2 := (d.mem x).mp h'
  have e3 := (c.mem y).mp hy
  exact (d.mem y).mpr (cl_trans e2 (cl_trans (cl_symm F G e1) e3))
end
/-- the row of a piece that is no ring, begun with a last end of it; "open" or "shut" where it is even -/
def Pth (js ls : List J2) (a : Nat) (kd : Str) (row : List Nat) : Prop := ∃ k,
  (mt js a = none ∧ Rj (mt ls) (mt js) a k ∧ row = rj (mt ls) (mt js) a k ∧ kd = "open") ∨ (mt js a ≠ none ∧ Rj (mt js) (mt ls) a k ∧ row = rj (mt js) (mt ls) a k ∧ kd = "shut")
def oddK (row : List Nat) (kd : Str) : Str := if row.length % 2 = 1 then "odd" else kd
/-- an end that is free in one of both -/
def Lst (js ls : List J2) (e : Nat) : Prop := mt js e = none ∨ mt ls e = none
theorem pth_cls {n : Nat} {js ls : List J2} (g1 : Good n js) (g2 : Good n ls) {a : Nat} (ha : a < 2 * n) {kd : Str} {row : List Nat} (h : Pth js ls a kd row) (hl : Lst js ls a) : Cls (2 * n) (mt js) (mt ls) a row := by
  obtain ⟨k, ⟨e, R, rfl, _⟩ | ⟨e, R, rfl, _⟩⟩ := h
  · exact (cls_rj g2.mt g1.mt ha R (.inl e)).swap
  · exact cls_rj g1.mt g2.mt ha R (.inl (hl.resolve_left e))
/-- a piece: its kind, its row -/
def Wpc (n : Nat) (js ls : List J2) (p : Str × List Nat) : Prop := ∃ a, a < 2 * n ∧ Cls (2 * n) (mt js) (mt ls) a p.2 ∧
  ((Lst js ls a ∧ (∃ kd, Pth js ls a kd p.2 ∧ p.1 = oddK p.2 kd) ∧ ∀ e ∈ p.2, Lst js ls e → a ≤ e) ∨
   ((∀ e ∈ p.2, ¬ Lst js ls e) ∧ p.1 = "ring" ∧ (∃ k, Rj (mt js) (mt ls) a k ∧ p.2 = rj (mt js) (mt ls) a k) ∧ ∀ e ∈ p.2, a ≤ e))
/-- the pieces found so far, the ends seen -/
structure Wi (n : Nat) (js ls : List J2) (ps : List (Str × List Nat)) (bs : List Bool) : Prop where
  len : bs.length = 2 * n
  seen : ∀ e, e < 2 * n → (bs[e]? = some true ↔ ∃ p ∈ ps, e ∈ p.2)
  pcs : ∀ p ∈ ps, Wpc n js ls p
  dis : ps.Pairwise (fun p q => ∀ e, e ∈ p.2 → e ∉ q.2)
section
variable {n : Nat} {js ls : List J2} {ps : List (Str × List Nat)} {bs : List Bool}
theorem Wi.apart (W : Wi n js ls ps bs) (g1 : Good n js) (g2 : Good n ls) {a : Nat} (ha : a < 2 * n) (hn : bs[a]? ≠ some true) {row : List Nat} (c : Cls (2 * n) (mt js) (mt ls) a row) :
    ∀ p ∈ ps, ∀ e, e ∈ p.2 → e ∉ row := by
  intro p hp e he he'
  obtain ⟨b, hb, cb, _⟩ := W.pcs p hp
  have := c.meet g1.mt g2.mt cb he' he a c.beg
  exact hn ((W.seen a ha).mpr ⟨p, hp, this⟩)
theorem Wi.add (W : Wi n js ls ps bs) {p : Str × List Nat} (hp : Wpc n js ls p) (hd : ∀ q ∈ ps, ∀ e, e ∈ q.2 → e ∉ p.2) {bs' : List Bool} (hl : bs'.length = 2 * n)
    (hs : ∀ e, e < 2 * n → (bs'[e]? = some true ↔ bs[e]? = some true ∨ e ∈ p.2)) : Wi n js ls (ps ++ [p]) bs' := by
  refine ⟨hl, fun e he => ?_, fun q hq => ?_, ?_⟩
  · rw [hs e he, W.seen e he]
    constructor
    · rintro (⟨q, hq, h⟩ | h)
      · exact ⟨q, List.mem_append_left _ hq, h⟩
      · exact ⟨p, List.mem_append_right _ List.mem_cons_self, h⟩
    · rintro ⟨q, hq, h⟩
      rcases List.mem_append.mp hq with hq | hq
      · exact .inl ⟨q, hq, h⟩
      · obtain rfl := List.mem_singleton.mp hq
        exact .inr h
  · rcases List.mem_append.mp hq with hq | hq
    · exact W.pcs q hq
    · obtain rfl := List.mem_singleton.mp hq
      exact hp
  · refine List.pairwise_append.mpr ⟨W.dis, List.pairwise_singleton _ _, fun q hq r hr => ?_⟩
    obtain rfl := List.mem_singleton.mp hr
    exact hd q hq
/-- a path begun at an unseen last end, all lesser last ends seen -/
theorem Wi.path (W : Wi n js ls ps bs) (g1 : Good n js) (g2 : Good n ls) {a : Nat} (ha : a < 2 * n) (hn : bs[a]? ≠ some true) (hl : Lst js ls a) (hi : ∀ e, e < a → Lst js ls e → bs[e]? = some true)
    {kd : Str} {row : List Nat} (h : Pth js ls a kd row) : Wpc n js ls (oddK row kd, row) ∧ ∀ p ∈ ps, ∀ e, e ∈ p.2 → e ∉ row := by
  have c := pth_cls g1 g2 ha h hl
  have ap := W.apart g1 g2 ha hn c
  refine ⟨⟨a, ha, c, .inl ⟨hl, ⟨kd, h, rfl⟩, fun e he le => ?_⟩⟩, ap⟩
  by_cases z : a ≤ e
  · exact z
  · obtain ⟨p, hp, hep⟩ := (W.seen e (by omega)).mp (hi e (by omega) le)
    exact absurd he (ap p hp e hep)
/-- a ring begun at an unseen end, all last ends and all lesser ends seen -/
theorem Wi.ring (W : Wi n js ls ps bs) (g1 : Good n js) (g2 : Good n ls) {a k : Nat} (ha : a < 2 * n) (hn : bs[a]? ≠ some true) (hl : ∀ e, e < 2 * n → Lst js ls e → bs[e]? = some true) (hi : ∀ e, e < a → bs[e]? = some true)
    (R : Rj (mt js) (mt ls) a k) : Wpc n js ls ("ring", rj (mt js) (mt ls) a k) ∧ ∀ p ∈ ps, ∀ e, e ∈ p.2 → e ∉ rj (mt js) (mt ls) a k := by
  have F := g1.mt
  have G := g2.mt
  -- no end that hangs together with a is a last end
  have nol : ∀ x, Cl (mt js) (mt ls) a x → x < 2 * n → ¬ Lst js ls x := by
    intro x hx hlt hlx
    obtain ⟨p, hp, hxp⟩ := (W.seen x hlt).mp (hl x hlt hlx)
    obtain ⟨b, hb, cb, _⟩ := W.pcs p hp
    have e2 := (cb.mem x).mp hxp
    exact hn ((W.seen a ha).mpr ⟨p, hp, (cb.mem a).mpr (cl_trans e2 (cl_symm F G hx))⟩)
  have fin : jt (mt js) (mt ls) a k = some a := by
    rcases R.fin with z | z
    · exfalso
      have pos := R.pos
      obtain ⟨y, hy⟩ := R.all (k - 1) (by omega)
      have hm : y ∈ rj (mt js) (mt ls) a k := (mem_rj R.toPj).mpr ⟨k - 1, by omega, hy⟩
      have hc := rj_cl R.toPj y hm
      have hlt := R.toPj.lt F G ha y hm
      have e := jt_next hy
      rw [show k - 1 + 1 = k by omega, z] at e
      refine nol y hc hlt ?_
      unfold hh at e
      split at e
      · exact .inl e.symm
      · exact .inr e.symm
    · exact z
  have c := cls_rj F G ha R (.inr fin)
  have ap := W.apart g1 g2 ha hn c
  refine ⟨⟨a, ha, c, .inr ⟨fun e he => nol e ((c.mem e).mp he) (c.lt e he), rfl, ⟨k, R, rfl⟩, fun e he => ?_⟩⟩, ap⟩
  by_cases z : a ≤ e
  · exact z
  · obtain ⟨p, hp, hep⟩ := (W.seen e (by omega)).mp (hi e (by omega))
    exact absurd he (ap p hp e hep)
end
end DC
-- K37d
set_option Elab.async false
set_option linter.all false
set_option maxRecDepth 100000
set_option maxHeartbeats 4000000
namespace K37
open PySem L2 DC
theorem oV_none {o : Option Nat} : decide (oV o = .non) = o.isNone := by
  cases o with
  | none => rfl
  | some x => rfl
section
variable {P : Program} {w : World} {K : PySem.W.Frag} {mg : Str → Option Value} {base : Heap}
def spPath : Sp := fun vs H Q _ => ∃ (m1 m2 : Addr) (n a : Nat) (js ls : List J2), vs = [.ref m1, .ref m2, .int a] ∧ H m1 = some (.lst (mV n js)) ∧ H m2 = some (.lst (mV n ls)) ∧ Good n js ∧ Good n ls ∧ a < 2 * n ∧
  ∀ (kd : Str) (row : List Nat) (r t : Addr) (H' : Hp), Pth js ls a kd row → Same H H' → H r = none → H t = none → H' r = some (.tup [.str (oddK row kd), .ref t]) → H' t = some (.tup (Vn row)) → Q (.ref r) H'
abbrev N21 : List Str := ["ones", "others", "end", "row", "kind"]
end
end K37
-- DC0
set_option Elab.async false
set_option linter.all false
set_option maxRecDepth 100000
set_option maxHeartbeats 4000000
/-! DC0: a def of the text by its body, its code object told. -/
namespace DC
open PySem PySem.Spec PyProof.Rows L2 Evl
section
variable {P : Program} {w : World} {K : PySem.W.Frag} {mg : Str → Option Value} {base : Heap}
theorem okC {x qual : Str} {st : Stmt} {f : Addr} {N ps : List Str} {k : Nat} {sp : Sp} {oc : Value} {od an : Option Addr} {osl : Array (Option Value)} {kV doc pm cdv ct : Value}
    (lk : K.lookup f = some ⟨oc, od, .func (PySem.W.fnOf x qual (defArgs st) (defBody st) (defScope st) .none kV doc pm an cdv ct), osl⟩) (hcd : PySem.W.codeIn K cdv qual = true)
    (S : FnScope N ps (defScope st)) (cnt : ∀ vs H Q E, sp vs H Q E → vs.length = ps.length)
    (body : ∀ (A : Around) (outer : List Env) (s : Shared) (H : Hp) (vs : List V) (Q : VK) (E : XK),
      A.guards = some [] → Room k (A.deeper (envOfC qual (defScope st) s.heap.objs.size f cdv)) → sp vs H Q E →
      ∃ t, PSs (cxOf CX0 P w K mg base N qual (defScope st) f cdv A outer s H E).nox (defBody st) t ∧
        t { nx := fun _ H' => Q .non H', rt := Q } (start N vs) H) :
    OkG P w K mg base CX0 (k + 1) f (PySem.W.fnOf x qual (defArgs st) (defBody st) (defScope st) .none kV doc pm an cdv ct) ps sp := by
  refine ⟨cnt, fun A outer s H args us vs Q E hgd hr e0 hb r hsp => ?_⟩
  have len := cnt _ _ _ _ hsp
  have keeps : ∀ b o, base.get? b = some o → s.heap.get? b = some o := fun b o e => (e0.bs b o e).1
  have places : ∀ y ∈ ps.zip us, (defScope st).names.lookup y.1 = some .local ∨
      ((defScope st).names.lookup y.1 = some .cell ∧ ((cellsFrom (s.heap.objs.size + 1) (defScope st).names []).lookup y.1).isSome = true) := by
    rintro ⟨nm, v⟩ hy
    rcases S.par nm (List.of_mem_zip hy).1 with q | q
    · exact .inl q
    · exact .inr ⟨q, PySem.W.cellsFrom_some _ _ _ (.inl q)⟩
  have KX : K.In s.heap := e0.mod.kin.keeps keeps
  refine codeAny_call_function hr.depth (KX _ _ lk) rfl S.co S.gen rfl (PySem.W.codeRec_of KX hcd) (hb _ _ _ _ (wpAny_newFunctionEnv_cells S.kind places fun env he s1 x => ?_))
  subst he
  refine ⟨(e0.mod.nolimit.keeps keeps).keeps x.toInCall.keep, codeAny_func ?_⟩
  obtain ⟨t, ht, hq⟩ := body A outer s H vs Q E hgd (hr.deeper _) hsp
  have I := inv_start (E := E) (CX := CX0) (f := f) (qual := qual) (cd := cdv) S hr.hd e0 len r x
  have out : ∀ {σ' : L2.St} {H' : Hp} {s' : Shared} {v : V} {u : Value}, Inv (cxOf CX0 P w K mg base N qual (defScope st) f cdv A outer s H E) [] σ' H' s' → RelV v u → Q v H' → CE outer P w H s Q u s' :=
    fun J rv q => ⟨_, _, J.os, J.bare, J.base, J.hok, rv, q⟩
  refine wpAny_mono (ht.nox.run [] s1 (start N vs) H _ I hq) (fun fl s' hs => ?_) (fun _ _ hs => hs)
  cases fl with
  | ret u =>
    obtain ⟨v, σ', H', J, rv, q⟩ := hs
    exact out J rv q
  | next =>
    obtain ⟨σ', H', J, q⟩ := hs
    exact out (v := V.non) (u := Value.none) J rfl q
  | brk =>
    obtain ⟨_, _, _, q⟩ := hs
    exact q.elim
  | cont =>
    obtain ⟨_, _, _, q⟩ := hs
    exact q.elim
end
end DC
-- K37e
set_option Elab.async false
set_option linter.all false
set_option maxRecDepth 100000
set_option maxHeartbeats 4000000
namespace K37
open PySem L2 DC LamX
def nI (ys : List Nat) : List Int := ys.map fun y => ((y : Nat) : Int)
theorem vn_nI (ys : List Nat) : Vn ys = (nI ys).map V.int := by
  unfold Vn nI
  rw [List.map_map]
  rfl
def rowKey (p : Str × List Nat) : PyData := tupD (nI p.2)
/-- a piece in the heap -/
def Pce (K : PySem.W.Frag) (H : Hp) (v : V) (p : Str × List Nat) : Prop := ∃ r t, v = .ref r ∧ SqT K H r [.str p.1, .ref t] ∧ SqT K H t (Vn p.2)
theorem extN_t {K : PySem.W.Frag} {H H' : Hp} {a : Addr} {xs : List V} (e : ExtN H H') (h : SqT K H a xs) : SqT K H' a xs := by
  rcases h with (h | ⟨o, h⟩) | h
  · exact .inl (.inl (e _ _ h (fun _ z => nomatch z)))
  · exact .inl (.inr ⟨o, e _ _ h (fun _ z => nomatch z)⟩)
  · exact .inr h
theorem Pce.ext {K : PySem.W.Frag} {H H' : Hp} (e : ExtN H H') {v : V} {p : Str × List Nat} : Pce K H v p → Pce K H' v p
  | ⟨r, t, q, h1, h2⟩ => ⟨r, t, q, extN_t e h1, extN_t e h2⟩
theorem Pce.up {K : PySem.W.Frag} {H H' : Hp} (e : Same H H') {v : V} {p : Str × List Nat} : Pce K H v p → Pce K H' v p
  | ⟨r, t, q, h1, h2⟩ => ⟨r, t, q, Same.t e h1, Same.t e h2⟩
theorem Pce.put {K : PySem.W.Frag} {H : Hp} {l : Addr} {ys : List V} {o : HO} (hl : H l = some (.lst ys)) {v : V} {p : Str × List Nat} : Pce K H v p → Pce K (upd H l o) v p
  | ⟨r, t, q, h1, h2⟩ => ⟨r, t, q, sqT_put h1 hl, sqT_put h2 hl⟩
theorem paired_zip {α β : Type} {R : α → β → Prop} : ∀ {xs : List α} {ys : List β}, Paired R xs ys → ∀ p ∈ xs.zip ys, R p.1 p.2
  | _, _, .nil, p, h => by simp at h
  | _, _, .cons a t, p, h => by
    rw [List.zip_cons_cons] at h
    rcases List.mem_cons.mp h with rfl | h
    · exact a
    · exact paired_zip t p h
theorem paired_of {α β : Type} {R : α → β → Prop} : ∀ (zs : List (α × β)), (∀ p ∈ zs, R p.1 p.2) → Paired R (zs.map Prod.fst) (zs.map Prod.snd)
  | [], _ => .nil
  | z :: zs, h => .cons (h z List.mem_cons_self) (paired_of zs fun p hp => h p (List.mem_cons_of_mem _ hp))
theorem sort_paired {β : Type} {R : V → β → Prop} {vs : List V} {ps : List β} (key : β → List Int) (h : Paired R vs ps) :
    Paired R (((vs.zip (ps.map key)).mergeSort (PySem.W.dataLe false byKey)).map Prod.fst) (ps.mergeSort (PySem.W.dataLe false fun p => tupD (key p))) := by
  have len := Paired.length h
  have e1 : vs.zip (ps.map key) = (vs.zip ps).map fun z => (z.1, key z.2) := by
    rw [List.zip_map_right]
    rfl
  have e2 := List.map_mergeSort (r := PySem.W.dataLe false fun z : V × β => tupD (key z.2)) (s := PySem.W.dataLe false byKey) (f := fun z : V × β => (z.1, key z.2)) (l := vs.zip ps) (fun a _ b _ => rfl)
  have e3 := List.map_mergeSort (r := PySem.W.dataLe false fun z : V × β => tupD (key z.2)) (s := PySem.W.dataLe false fun p : β => tupD (key p)) (f := Prod.snd) (l := vs.zip ps) (fun a _ b _ => rfl)
  rw [List.map_snd_zip (by omega)] at e3
  rw [e1, ← e2, List.map_map, ← e3]
  exact paired_of _ fun p hp => paired_zip h p ((List.mergeSort_perm _ _).mem_iff.mp hp)
/-- the state of web_of's loops -/
structure WH (K : PySem.W.Frag) (n : Nat) (js ls : List J2) (Hb : Hp) (sA fo : Addr) (vs : List V) (ps : List (Str × List Nat)) (bs : List Bool) (H' : Hp) : Prop where
  sm : Same Hb H'
  sl : H' sA = some (.lst (bs.map V.bl))
  fl : H' fo = some (.lst vs)
  pr : Paired (Pce K H') vs ps
  wi : Wi n js ls ps bs
theorem map_set' {α β : Type} (g : α → β) : ∀ (l : List α) (i : Nat) (x : α), (l.map g).set i (g x) = (l.set i x).map g
  | [], _, _ => rfl
  | _ :: _, 0, _ => rfl
  | a :: l, i + 1, x => by
    show g a :: (l.map g).set i (g x) = g a :: (l.set i x).map g
    rw [map_set' g l i x]
theorem mark {K : PySem.W.Frag} {n : Nat} {js ls : List J2} {Hb H1 : Hp} {sA fo T t : Addr} {vs : List V} {ps : List (Str × List Nat)} {bs : List Bool} {p : Str × List Nat} {D : Ends} {x0 x1 x2 x3 x4 x7 x8 : Option V}
    (sm : Same Hb H1) (sl : H1 sA = some (.lst (bs.map V.bl))) (fl : H1 fo = some (.lst (vs ++ [.ref T]))) (pr : Paired (Pce K H1) vs ps) (hT : SqT K H1 T [.str p.1, .ref t]) (ht : SqT K H1 t (Vn p.2)) (wi : Wi n js ls ps bs)
    (hp : Wpc n js ls p) (hd : ∀ q ∈ ps, ∀ e, e ∈ q.2 → e ∉ p.2) (bA : Hb sA = none) (ne : sA ≠ fo)
    (nx : ∀ (y8 : Option V) (bs' : List Bool) (H' : Hp), WH K n js ls Hb sA fo (vs ++ [.ref T]) (ps ++ [p]) bs' H' → (∀ e, e < 2 * n → (bs'[e]? = some true ↔ bs[e]? = some true ∨ e ∈ p.2)) → D.nx [x0, x1, x2, x3, x4, some (.ref sA), some (.ref fo), x7, y8] H') :
    tFor (iTup K (tOp (rIxT K) (tOp (rIxL K) (tVar 6) (tUn (rU fun i => .int (-i)) (tC (.int 1)))) (tC (.int 1)))) (gName 8) (tAsg (tC (.bl true)) (gSub (tVar 5) (tVar 8) rSetL)) D [x0, x1, x2, x3, x4, some (.ref sA), some (.ref fo), x7, x8] H1 := by
  have a1 : atI [V.str p.1, V.ref t] 1 = some (.ref t) := at_of (j := 1) rfl rfl
  obtain ⟨a, ha, ca, _⟩ := id hp
  refine ⟨_, rfl, 1, rfl, fo, _, -1, .ref T, rfl, rfl, SqL.of fl, atI_last vs (.ref T), T, _, 1, .ref t, rfl, rfl, hT, a1, t, rfl, ⟨_, ht⟩, ?_⟩
  refine for_it (walk_tup (xs := Vn p.2)) (fun j σ H' => ∃ (y8 : Option V) (bs' : List Bool), σ = [x0, x1, x2, x3, x4, some (.ref sA), some (.ref fo), x7, y8] ∧ Same Hb H' ∧ H' sA = some (.lst (bs'.map V.bl)) ∧ H' fo = some (.lst (vs ++ [.ref T])) ∧
    Paired (Pce K H') vs ps ∧ SqT K H' T [.str p.1, .ref t] ∧ SqT K H' t (Vn p.2) ∧ bs'.length = 2 * n ∧ ∀ e, e < 2 * n → (bs'[e]? = some true ↔ bs[e]? = some true ∨ e ∈ p.2.take j)) ?_ ?_ ?_ ?_
  · exact ⟨x8, bs, rfl, sm, sl, fl, pr, hT, ht, wi.len, fun e he => by simp⟩
  · rintro j σ H' hj ⟨y8, bs', rfl, _, _, _, _, _, ht', _⟩
    exact ht'
  · rintro j x σ H2 H3 hj ⟨y8, bs', rfl, sm', sl', fl', pr', hT', ht', hl', hs'⟩ ⟨rfl, ex⟩
    rw [Vn_len] at hj
    have ev := Vn_at hj
    have eg : p.2[j]? = some (p.2.getD j 0) := by rw [List.getD_eq_getElem?_getD, List.getElem?_eq_getElem hj]; rfl
    generalize p.2.getD j 0 = e0 at ev eg
    obtain rfl : x = V.int (e0 : Nat) := Option.some.inj (Eq.trans (Eq.symm ex) ev)
    have hlt : e0 < 2 * n := ca.lt e0 (List.mem_of_getElem? eg)
    refine gn ?_
    refine ⟨_, rfl, _, rfl, sA, bs'.map V.bl, _, e0, rfl, rfl, sl', Evl.ixN_nat (by rw [List.length_map, hl']; exact hlt), ?_⟩
    refine ⟨_, bs'.set e0 true, rfl, same_put sm' bA, ?_, ?_, L2.Paired.mapP pr' fun _ _ z => z.put sl', sqT_put hT' sl', sqT_put ht' sl', by rw [List.length_set]; exact hl', fun e he => ?_⟩
    · rw [upd_same, map_set' V.bl]
    · rw [upd_ne (Ne.symm ne)]
      exact fl'
    · rw [take_next eg, List.mem_append, List.mem_singleton]
      by_cases c : e = e0
      · subst c
        rw [List.getElem?_set_self (by omega)]
        exact ⟨fun _ => .inr (.inr rfl), fun _ => rfl⟩
      · rw [List.getElem?_set_ne (Ne.symm c), hs' e he]
        constructor
        · rintro (h | h)
          · exact .inl h
          · exact .inr (.inl h)
        · rintro (h | h | h)
          · exact .inl h
          · exact .inr h
          · exact absurd h c
  · rintro σ H' ⟨y8, bs', rfl, sm', sl', fl', pr', hT', ht', hl', hs'⟩
    rw [List.take_of_length_le (by rw [Vn_len]; exact Nat.le_refl _)] at hs'
    exact nx y8 bs' H' ⟨sm', sl', fl', pair_snoc pr' ⟨T, t, rfl, hT', ht'⟩, wi.add hp hd hl' hs'⟩ hs'
theorem body1 {K : PySem.W.Frag} {n i : Nat} {js ls : List J2} {Hb H1 : Hp} {m1 m2 sA fo : Addr} {vs : List V} {ps : List (Str × List Nat)} {bs : List Bool} {D : Ends} {x0 x1 x4 x8 : Option V}
    (g1 : Good n js) (g2 : Good n ls) (W : WH K n js ls Hb sA fo vs ps bs H1) (b1 : Hb m1 = some (.lst (mV n js))) (b2 : Hb m2 = some (.lst (mV n ls))) (bA : Hb sA = none) (bF : Hb fo = none) (ne : sA ≠ fo) (hi : i < 2 * n) (hc : ps.length ≤ i)
    (hn : bs[i]? ≠ some true) (hl : Lst js ls i) (hs : ∀ a, a < i → Lst js ls a → bs[a]? = some true)
    (nx : ∀ (y8 : Option V) (vs' : List V) (ps' : List (Str × List Nat)) (bs' : List Bool) (H' : Hp), WH K n js ls Hb sA fo vs' ps' bs' H' → ps'.length ≤ i + 1 → (∀ a, a < i + 1 → Lst js ls a → bs'[a]? = some true) →
      D.nx [x0, x1, some (.ref m1), some (.ref m2), x4, some (.ref sA), some (.ref fo), some (.int (i : Nat)), y8] H') :
    tSeq (tDrop (tBM K "list" rAppend (tVar 6) (tCons (tCall spPath [] E0 (tCons (tVar 2) (tCons (tVar 3) (tCons (tVar 7) tNil)))) tNil)))
      (tFor (iTup K (tOp (rIxT K) (tOp (rIxL K) (tVar 6) (tUn (rU fun i => .int (-i)) (tC (.int 1)))) (tC (.int 1)))) (gName 8) (tAsg (tC (.bl true)) (gSub (tVar 5) (tVar 8) rSetL))) D
      [x0, x1, some (.ref m1), some (.ref m2), x4, some (.ref sA), some (.ref fo), some (.int (i : Nat)), x8] H1 := by
  have tp := g1.top
  have vl : vs.length = ps.length := Paired.length W.pr
  refine ⟨_, rfl, .inl ⟨rfl, _, SqL.of W.fl⟩, _, rfl, _, rfl, _, rfl, m1, m2, n, i, js, ls, rfl, W.sm _ _ b1, W.sm _ _ b2, g1, g2, hi, fun kd row r t H2 hP s2 hr0 ht0 hr ht => ?_⟩
  refine ⟨fo, _, _, rfl, rfl, s2 _ _ W.fl, Nat.lt_of_le_of_lt (show vs.length ≤ 1000 by omega) (by decide), ?_⟩
  have fl2 := s2 _ _ W.fl
  obtain ⟨wp, ap⟩ := W.wi.path g1 g2 hi hn hl hs hP
  refine mark (p := (oddK row kd, row)) (same_put (W.sm.trans s2) bF) (by rw [upd_ne ne]; exact s2 _ _ W.sl) upd_same (L2.Paired.mapP W.pr fun _ _ z => (z.up s2).put fl2) (sqT_put (SqT.of hr) fl2) (sqT_put (SqT.of ht) fl2) W.wi wp ap bA ne fun y8 bs' H' W' hs' => ?_
  refine nx y8 _ _ bs' H' W' (by rw [List.length_append]; exact Nat.succ_le_succ hc) fun a ha la => ?_
  obtain ⟨b, hb, cb, _⟩ := id wp
  by_cases c : a = i
  · subst c
    exact (hs' a hi).mpr (.inr ((pth_cls g1 g2 hi hP hl).beg))
  · exact (hs' a (by omega)).mpr (.inl (hs a (by omega) la))
theorem body2 {K : PySem.W.Frag} {n i : Nat} {js ls : List J2} {Hb H1 : Hp} {m1 m2 sA fo : Addr} {vs : List V} {ps : List (Str × List Nat)} {bs : List Bool} {D : Ends} {x0 x1 x4 x8 : Option V}
    (g1 : Good n js) (g2 : Good n ls) (W : WH K n js ls Hb sA fo vs ps bs H1) (b1 : Hb m1 = some (.lst (mV n js))) (b2 : Hb m2 = some (.lst (mV n ls))) (bA : Hb sA = none) (bF : Hb fo = none) (ne : sA ≠ fo) (hi : i < 2 * n) (hc : ps.length ≤ 2 * n + i)
    (hn : bs[i]? ≠ some true) (hl : ∀ a, a < 2 * n → Lst js ls a → bs[a]? = some true) (hs : ∀ a, a < i → bs[a]? = some true)
    (nx : ∀ (y8 : Option V) (vs' : List V) (ps' : List (Str × List Nat)) (bs' : List Bool) (H' : Hp), WH K n js ls Hb sA fo vs' ps' bs' H' → ps'.length ≤ 2 * n + (i + 1) → (∀ a, a < 2 * n → Lst js ls a → bs'[a]? = some true) → (∀ a, a < i + 1 → bs'[a]? = some true) →
      D.nx [x0, x1, some (.ref m1), some (.ref m2), x4, some (.ref sA), some (.ref fo), some (.int (i : Nat)), y8] H') :
    tSeq (tDrop (tBM K "list" rAppend (tVar 6) (tCons (tTup (tCons (tC (.str "ring")) (tCons (tCB (fun xs H_1 Q => ∃ p ys, xs = [V.ref p] ∧ (SqL K H_1 p ys ∧ (∀ (l : Addr), H_1 l = none → Q (V.ref l) (upd H_1 l (HO.tup ys))) ∨ SqT K H_1 p ys ∧ Q (V.ref p) H_1))
        (tCons (tCall spAlong [] E0 (tCons (tVar 2) (tCons (tVar 3) (tCons (tVar 7) tNil)))) tNil)) tNil))) tNil)))
      (tFor (iTup K (tOp (rIxT K) (tOp (rIxL K) (tVar 6) (tUn (rU fun i => .int (-i)) (tC (.int 1)))) (tC (.int 1)))) (gName 8) (tAsg (tC (.bl true)) (gSub (tVar 5) (tVar 8) rSetL))) D
      [x0, x1, some (.ref m1), some (.ref m2), x4, some (.ref sA), some (.ref fo), some (.int (i : Nat)), x8] H1 := by
  have tp := g1.top
  have vl : vs.length = ps.length := Paired.length W.pr
  refine ⟨_, rfl, .inl ⟨rfl, _, SqL.of W.fl⟩, _, rfl, _, rfl, _, rfl, m1, m2, n, i, js, ls, rfl, W.sm _ _ b1, W.sm _ _ b2, g1, g2, hi, fun k l H2 R s2 hl0 hll => ?_⟩
  refine ⟨l, _, rfl, .inl ⟨SqL.of hll, fun t ht => ⟨by show 2 ≤ sizeLine; decide, fun T hT => ?_⟩⟩⟩
  have st := s2.trans (Same.new (o := .tup (Vn (rj (mt js) (mt ls) i k))) ht)
  have sT := st.trans (Same.new (o := .tup [.str "ring", .ref t]) hT)
  have fl2 := sT _ _ W.fl
  have ht2 := Same.new (o := .tup [.str "ring", .ref t]) hT _ _ (upd_same (H := H2) (a := t) (o := .tup (Vn (rj (mt js) (mt ls) i k))))
  refine ⟨fo, _, _, rfl, rfl, fl2, Nat.lt_of_le_of_lt (show vs.length ≤ 1000 by omega) (by decide), ?_⟩
  obtain ⟨wp, ap⟩ := W.wi.ring g1 g2 hi hn hl hs R
  refine mark (p := ("ring", rj (mt js) (mt ls) i k)) (same_put (W.sm.trans sT) bF) (by rw [upd_ne ne]; exact sT _ _ W.sl) upd_same (L2.Paired.mapP W.pr fun _ _ z => (z.up sT).put fl2) (sqT_put (SqT.of upd_same) fl2) (sqT_put (SqT.of ht2) fl2) W.wi wp ap bA ne fun y8 bs' H' W' hs' => ?_
  refine nx y8 _ _ bs' H' W' (by rw [List.length_append]; show ps.length + 1 ≤ _; omega) (fun a ha la => (hs' a ha).mpr (.inl (hl a ha la))) fun a ha => ?_
  by_cases c : a = i
  · subst c
    exact (hs' a hi).mpr (.inr ((mem_rj R.toPj).mpr ⟨0, R.pos, rfl⟩))
  · exact (hs' a (by omega)).mpr (.inl (hs a (by omega)))
abbrev Tw (Pt : Addr) : List (Addr × Str) := [(Pt, (("web_of" : Str) ++ ".<locals>.") ++ "<lambda>")]
section
variable {P : Program} {w : World} {K : PySem.W.Frag} {mg : Str → Option Value} {base : Heap}
def spWeb (K : PySem.W.Frag) (Pt : Addr) : Sp := fun vs H Q _ => ∃ (v1 v2 : V) (n : Nat) (js ls : List J2), vs = [v1, v2] ∧ Ly K H v1 n js ∧ Ly K H v2 n ls ∧ Good n js ∧ Good n ls ∧ Tabs (Tw Pt) H ∧
  ∀ (ps : List (Str × List Nat)) (bs : List Bool) (r : Addr) (xs : List V) (H' : Hp), Wi n js ls ps bs → (∀ e, e < 2 * n → ∃ p ∈ ps, e ∈ p.2) → ExtN H H' → Tabs (Tw Pt) H' → (∀ o, H r = some o → ∃ ps, o = .tbl ps) → H' r = some (.lst xs) →
    Paired (Pce K H') xs (ps.mergeSort (PySem.W.dataLe false rowKey)) → Q (.ref r) H'
abbrev N22 : List Str := ["one", "other", "ones", "others", "ends", "seen", "found", "end", "met"]
end
end K37
-- K37f
set_option Elab.async false
set_option linter.all false
set_option maxRecDepth 100000
set_option maxHeartbeats 4000000
namespace K37
open PySem L2 DC LamX
def szD (p : Str × List Nat) : PyData := .tuple [.str p.1, .int (p.2.length : Nat)]
def byRow (ps : List (Str × List Nat)) : List (Str × List Nat) := ps.mergeSort (PySem.W.dataLe false rowKey)
def sizesD (ps : List (Str × List Nat)) : List PyData := ((byRow ps).map szD).mergeSort (PySem.W.dataLe false id)
def FrT (H : Hp) (r : Addr) : Prop := ∀ o, H r = some o → ∃ ps, o = .tbl ps
theorem sz_alike (ps : List (Str × List Nat)) : PySem.W.AllAlike (ps.map szD) := by
  intro d hd d' hd'
  obtain ⟨p, _, rfl⟩ := List.mem_map.mp hd
  obtain ⟨p', _, rfl⟩ := List.mem_map.mp hd'
  unfold szD
  simp only [PySem.W.alike, PySem.W.alikeAll, Bool.and_self]
theorem sz_sortable (ps : List (Str × List Nat)) : PySem.W.Sortable (ps.map szD) := by
  refine .inl fun d hd => ?_
  obtain ⟨p, _, rfl⟩ := List.mem_map.mp hd
  exact ⟨_, _, rfl⟩
theorem sz_depth (ps : List (Str × List Nat)) : ∀ d ∈ ps.map szD, d.depth ≤ 60 := by
  intro d hd
  obtain ⟨p, _, rfl⟩ := List.mem_map.mp hd
  unfold szD
  simp only [PyData.depth, PyData.depthAll]
  decide
theorem dpAll_snoc {K : PySem.W.Frag} {H : Hp} : ∀ {xs : List V} {ds : List PyData} {x : V} {d : PyData}, DpAll K H xs ds → Dp K H x d → DpAll K H (xs ++ [x]) (ds ++ [d])
  | _, _, _, _, .nil, h => .cons h .nil
  | _, _, _, _, .cons a t, h => .cons a (dpAll_snoc t h)
theorem extN_dp {K : PySem.W.Frag} {H H' : Hp} (e : Same H H') {xs : List V} {ds : List PyData} (h : DpAll K H xs ds) : DpAll K H' xs ds := DpAll.up e h
theorem paired_at {α β : Type} {R : α → β → Prop} : ∀ {xs : List α} {ys : List β}, Paired R xs ys → ∀ {i : Nat} {x : α}, xs[i]? = some x → ∃ y, ys[i]? = some y ∧ R x y
  | _, _, .nil, i, x, h => by simp at h
  | _, _, .cons r t, 0, x, h => by
    obtain rfl := Option.some.inj h
    exact ⟨_, rfl, r⟩
  | _, _, .cons r t, i + 1, x, h => paired_at t (i := i) h
theorem wi_len {n : Nat} {js ls : List J2} {ps : List (Str × List Nat)} {bs : List Bool} (W : Wi n js ls ps bs) : ps.length ≤ 2 * n := by
  have gen : ∀ ps : List (Str × List Nat), (∀ p ∈ ps, Wpc n js ls p) → ps.Pairwise (fun p q => ∀ e, e ∈ p.2 → e ∉ q.2) → ∃ l : List Nat, l.Nodup ∧ l.length = ps.length ∧ (∀ x ∈ l, x < 2 * n) ∧ ∀ x ∈ l, ∃ p ∈ ps, x ∈ p.2 := by
    intro ps
    induction ps with
    | nil => intro _ _; exact ⟨[], .nil, rfl, fun x hx => absurd hx (List.not_mem_nil), fun x hx => absurd hx (List.not_mem_nil)⟩
    | cons p ps ih =>
      intro h d
      have d' := List.pairwise_cons.mp d
      obtain ⟨l, nd, len, lt, mem⟩ := ih (fun q hq => h q (List.mem_cons_of_mem _ hq)) d'.2
      obtain ⟨a, ha, ca, _⟩ := h p List.mem_cons_self
      refine ⟨a :: l, List.nodup_cons.mpr ⟨fun hm => ?_, nd⟩, by rw [List.length_cons, List.length_cons, len], fun x hx => ?_, fun x hx => ?_⟩
      · obtain ⟨q, hq, haq⟩ := mem a hm
        exact d'.1 q hq a ca.beg haq
      · rcases List.mem_cons.mp hx with rfl | hx
        · exact ha
        · exact lt x hx
      · rcases List.mem_cons.mp hx with rfl | hx
        · exact ⟨p, List.mem_cons_self, ca.beg⟩
        · obtain ⟨q, hq, hxq⟩ := mem x hx
          exact ⟨q, List.mem_cons_of_mem _ hq, hxq⟩
  obtain ⟨l, nd, len, lt, _⟩ := gen ps W.pcs W.dis
  have q := nodup_le (m := List.range (2 * n)) nd fun x hx => List.mem_range.mpr (lt x hx)
  rw [len, List.length_range] at q
  exact q
def rLen (K : PySem.W.Frag) : List V → Hp → VK → Prop := fun xs H Q => ∃ p ys, xs = [V.ref p] ∧ (SqL K H p ys ∨ SqT K H p ys) ∧ Q (V.int (ys.length : Nat)) H
def SzP (K : PySem.W.Frag) (H : Hp) (v : V) (p : Str × List Nat) : Prop := ∃ t, v = .ref t ∧ SqT K H t [.str p.1, .int (p.2.length : Nat)]
theorem szP_dp {K : PySem.W.Frag} {H : Hp} : ∀ {vs : List V} {ps : List (Str × List Nat)}, Paired (SzP K H) vs ps → DpAll K H vs (ps.map szD)
  | _, _, .nil => .nil
  | _, _, .cons ⟨t, e, h⟩ r => by
    subst e
    exact .cons (Dp.tup h (.cons (.str _) (.cons (.int _) .nil))) (szP_dp r)
section
variable {P : Program} {w : World} {K : PySem.W.Frag} {mg : Str → Option Value} {base : Heap}
def spSz (K : PySem.W.Frag) (Pt : Addr) : Sp := fun vs H Q _ => ∃ (v1 v2 : V) (n : Nat) (js ls : List J2), vs = [v1, v2] ∧ Ly K H v1 n js ∧ Ly K H v2 n ls ∧ Good n js ∧ Good n ls ∧ Tabs (Tw Pt) H ∧
  ∀ (ps : List (Str × List Nat)) (bs : List Bool) (r : Addr) (xs : List V) (H' : Hp), Wi n js ls ps bs → (∀ e, e < 2 * n → ∃ p ∈ ps, e ∈ p.2) → ExtN H H' → Tabs (Tw Pt) H' → H' r = some (.tup xs) → DpAll K H' xs (sizesD ps) → Q (.ref r) H'
abbrev N23 : List Str := ["one", "other", "kind", "row"]
end
end K37
-- K37g
set_option Elab.async false
set_option linter.all false
set_option maxRecDepth 100000
set_option maxHeartbeats 4000000
namespace K37
open PySem L2 DC LamX
def RwP (K : PySem.W.Frag) (H : Hp) (v : V) (p : Str × List Nat) : Prop := ∃ t, v = .ref t ∧ SqT K H t (Vn p.2)
theorem dp_intsN {K : PySem.W.Frag} {H : Hp} : ∀ cs : List Int, DpAll K H (cs.map V.int) (cs.map PyData.int)
  | [] => .nil
  | c :: cs => .cons (.int c) (dp_intsN cs)
theorem rwP_dp {K : PySem.W.Frag} {H : Hp} : ∀ {vs : List V} {ps : List (Str × List Nat)}, Paired (RwP K H) vs ps → DpAll K H vs (ps.map rowKey)
  | _, _, .nil => .nil
  | _, _, .cons ⟨t, e, h⟩ r => by
    subst e
    exact .cons (Dp.tup h (by rw [vn_nI]; exact dp_intsN _)) (rwP_dp r)
section
variable {P : Program} {w : World} {K : PySem.W.Frag} {mg : Str → Option Value} {base : Heap}
theorem in_row (a : Nat) : ∀ l : List Nat, inV (.int (a : Nat)) (Vn l) = decide (a ∈ l)
  | [] => by simp [inV, Vn]
  | b :: l => by
    have ih := in_row a l
    show (eqV (.int (b : Nat)) (.int (a : Nat)) || inV (.int (a : Nat)) (Vn l)) = _
    rw [ih]
    show ((((b : Nat) : Int) == ((a : Nat) : Int)) || decide (a ∈ l)) = decide (a ∈ b :: l)
    rw [Bool.eq_iff_iff]
    simp only [Bool.or_eq_true, beq_iff_eq, decide_eq_true_eq, List.mem_cons]
    exact or_congr (by omega) Iff.rfl
end
end K37
-- DU
set_option Elab.async false
set_option linter.all false
set_option maxRecDepth 100000
set_option maxHeartbeats 4000000
/-! DU: what is sorted comes out the same from any order of the same things. -/
namespace DC
open PySem PySem.Spec PyProof.Rows L2 Evl
theorem dl_trans (a b c : PyData) (h1 : PySem.W.dataLt a b = true) (h2 : PySem.W.dataLt b c = true) : PySem.W.dataLt a c = true := lex_trans (O := itemOrd) _ _ _ h1 h2
theorem dl_irr (a : PyData) : PySem.W.dataLt a a = false := lex_irrefl (O := itemOrd) _
theorem dl_neg (a b c : PyData) (h : PySem.W.dataLt a c = true) : PySem.W.dataLt a b = true ∨ PySem.W.dataLt b c = true := lex_negTrans (O := itemOrd) _ _ _ h
theorem le_def (a b : PyData) : PySem.W.dataLe false id a b = !PySem.W.dataLt b a := rfl
theorem dle_trans (a b c : PyData) (h1 : PySem.W.dataLe false id a b = true) (h2 : PySem.W.dataLe false id b c = true) : PySem.W.dataLe false id a c = true := by
  rw [le_def, Bool.not_eq_true'] at h1 h2 ⊢
  cases e : PySem.W.dataLt c a with
  | false => rfl
  | true =>
    rcases dl_neg c b a e with z | z
    · rw [h2] at z; cases z
    · rw [h1] at z; cases z
theorem dle_total (a b : PyData) : (PySem.W.dataLe false id a b || PySem.W.dataLe false id b a) = true := by
  rw [le_def, le_def]
  cases e : PySem.W.dataLt b a with
  | false => rfl
  | true =>
    cases e2 : PySem.W.dataLt a b with
    | false => rfl
    | true =>
      have := dl_trans a b a e2 e
      rw [dl_irr] at this
      cases this
theorem sort_same {ds es : List PyData} (p : ds.Perm es) (inj : ∀ a ∈ ds, ∀ b ∈ ds, PySem.W.keyToks a = PySem.W.keyToks b → a = b) : ds.mergeSort (PySem.W.dataLe false id) = es.mergeSort (PySem.W.dataLe false id) := by
  have p1 := List.mergeSort_perm ds (PySem.W.dataLe false id)
  have p2 := List.mergeSort_perm es (PySem.W.dataLe false id)
  refine List.Perm.eq_of_pairwise (le := fun a b => PySem.W.dataLe false id a b = true) (fun a b ha hb h1 h2 => ?_) (List.pairwise_mergeSort dle_trans dle_total ds) (List.pairwise_mergeSort dle_trans dle_total es) ((p1.trans p).trans p2.symm)
  rw [le_def, Bool.not_eq_true'] at h1 h2
  exact inj a (p1.mem_iff.mp ha) b (p.mem_iff.mpr (p2.mem_iff.mp hb)) (lex_total (O := itemOrd) _ _ h2 h1)
end DC
-- CG
set_option Elab.async false
set_option linter.all false
set_option maxRecDepth 100000
set_option maxHeartbeats 4000000
namespace DC
open PySem L2
theorem ends_nd : ∀ {js : List J2}, js.Pairwise DC.Apart → (∀ p ∈ js, p.1 ≠ p.2) → (js.flatMap fun p => [p.1, p.2]).Nodup
  | [], _, _ => List.nodup_nil
  | p :: js, h, n => by
    have h' := List.pairwise_cons.mp h
    have ih := ends_nd (js := js) h'.2 fun q hq => n q (List.mem_cons_of_mem _ hq)
    have no : ∀ e, (e = p.1 ∨ e = p.2) → e ∉ js.flatMap fun p => [p.1, p.2] := by
      intro e he hm
      obtain ⟨q, hq, hm⟩ := List.mem_flatMap.mp hm
      have a := h'.1 q hq
      simp only [List.mem_cons, List.not_mem_nil, or_false] at hm
      unfold DC.Apart at a
      rcases he with rfl | rfl <;> rcases hm with z | z <;> omega
    show (p.1 :: p.2 :: js.flatMap fun p => [p.1, p.2]).Nodup
    refine List.nodup_cons.mpr ⟨?_, List.nodup_cons.mpr ⟨no _ (.inr rfl), ih⟩⟩
    intro hm
    rcases List.mem_cons.mp hm with z | z
    · exact n p (List.mem_cons_self ..) z
    · exact no _ (.inl rfl) z
theorem Good.le {n : Nat} {js : List J2} (g : Good n js) : js.length ≤ n := by
  have h := nodup_le (m := List.range (2 * n)) (ends_nd g.dis fun p hp => Nat.ne_of_lt (g.rng p hp).1) (by
    intro e he
    obtain ⟨p, hp, hm⟩ := List.mem_flatMap.mp he
    have r := g.rng p hp
    simp only [List.mem_cons, List.not_mem_nil, or_false] at hm
    rw [List.mem_range]
    rcases hm with rfl | rfl <;> omega)
  have l : (js.flatMap fun p => [p.1, p.2]).length = 2 * js.length := by
    clear h
    induction js with
    | nil => rfl
    | cons p js ih =>
      have := ih ⟨g.one, g.top, fun q hq => g.rng q (List.mem_cons_of_mem _ hq), (List.pairwise_cons.mp g.asc).2, (List.pairwise_cons.mp g.dis).2⟩
      rw [List.flatMap_cons, List.length_append, this]
      simp only [List.length_cons, List.length_nil]
      omega
  rw [l, List.length_range] at h
  omega
end DC
-- K37h
set_option Elab.async false
set_option linter.all false
set_option maxRecDepth 100000
set_option maxHeartbeats 4000000
namespace K37
open PySem L2 DC LamX
section
variable {P : Program} {w : World} {K : PySem.W.Frag} {mg : Str → Option Value} {base : Heap}
def MtD (js : List J2) (kvs : List (Key × V)) : Prop := ∀ e : Nat, valV kvs (.inl ((e : Nat) : Int)) = (mt js e).map fun x => V.int (x : Nat)
def spLm (K : PySem.W.Frag) : Sp := fun vs H Q _ => ∃ (v : V) (n : Nat) (js : List J2), vs = [v] ∧ Ly K H v n js ∧ Good n js ∧ ∀ (d : Addr) (kvs : List (Key × V)) (H' : Hp), Same H H' → H d = none → H' d = some (.dK kvs) → MtD js kvs → Q (.ref d) H'
abbrev N34 : List Str := ["lay", "found", "near", "far"]
theorem key_ne {a b : Nat} (h : ¬ a = b) : ¬ ((Sum.inl ((a : Nat) : Int) : Key) = Sum.inl ((b : Nat) : Int)) := fun e => h (by have := Sum.inl.inj e; omega)
theorem mtD_step {xs : List J2} {p : J2} {kvs : List (Key × V)} (h1 : ¬ Seen xs p.1) (h2 : ¬ Seen xs p.2) (hm : MtD xs kvs) :
    MtD (xs ++ [p]) (putK (putK kvs (.inl ((p.1 : Nat) : Int)) (.int (p.2 : Nat))) (.inl ((p.2 : Nat) : Int)) (.int (p.1 : Nat))) := by
  intro e
  rw [valV_put, valV_put, mt_app]
  by_cases c2 : e = p.2
  · subst c2
    rw [if_pos rfl, mt_none h2]
    by_cases c1 : p.2 = p.1
    · rw [if_pos c1, c1]; rfl
    · rw [if_neg c1, if_pos rfl]; rfl
  · rw [if_neg (key_ne c2)]
    by_cases c1 : e = p.1
    · subst c1
      rw [if_pos rfl, mt_none h1, if_pos rfl]; rfl
    · rw [if_neg (key_ne c1), if_neg c1, if_neg c2, Option.or_none]
      exact hm e
end
end K37
-- K37i
set_option Elab.async false
set_option linter.all false
set_option maxRecDepth 100000
set_option maxHeartbeats 4000000
namespace K37
open PySem L2 DC LamX
theorem flat_Vn (l : List Nat) : (Vn l).all flatV = true := by
  unfold Vn
  rw [List.all_map]
  exact List.all_eq_true.mpr fun x _ => rfl
section
variable {P : Program} {w : World} {K : PySem.W.Frag} {mg : Str → Option Value} {base : Heap}
end
end K37
-- DN
set_option Elab.async false
set_option linter.all false
set_option maxRecDepth 100000
set_option maxHeartbeats 4000000
/-! DN: xs.count(y), y and the items numbers, texts, truth values, None. -/
namespace DC
open PySem PySem.Spec PyProof.Rows L2 Evl
section
variable {X : Cx}
theorem count_eqU {x : V} : ∀ {xs : List V} {us : List Value}, Vals xs us → xs.all flatV = true → us.countP (eqU x) = xs.countP fun y => eqV y x
  | _, _, .nil, _ => rfl
  | y :: xs, u :: us, .cons r t, f => by
    have f' := Bool.and_eq_true_iff.mp (List.all_cons.symm.trans f)
    have ih := count_eqU (x := x) t f'.2
    have e := eqU_of (x := x) r f'.1
    rw [List.countP_cons, List.countP_cons, ih, e]
def rCntF (K : PySem.W.Frag) : V → List V → Hp → VK → Prop := fun x xs H Q => ∃ (p : Addr) (ys : List V) (y : V), x = .ref p ∧ xs = [y] ∧ SqL K H p ys ∧ flatV y = true ∧ ys.all flatV = true ∧ Q (.int ((ys.countP fun z => eqV z y : Nat) : Int)) H
theorem mt_countF : MtR X "list.count" (rCntF X.K) := by
  intro pins s σ H x xs v us Q I rx rxs h
  obtain ⟨p, ys, y, rfl, rfl, hs, fy, fs, q⟩ := h
  cases rx
  obtain ⟨u, rfl, ru⟩ := rxs.one
  obtain ⟨its, rv, ⟨⟨cls, dd, data, sl⟩, n, ho, hc, hdn, hd⟩, hlen⟩ := I.list hs
  dsimp only at hc hd
  cases hc
  cases hd
  have body := SeqAt.list_countAt p its.toArray n dd sl u (eqU y)
  refine call_meets PySem.F.slot_list_count ⟨_, ho, rfl⟩ PySem.F.entry_list_count (PySem.F.args_list_count_2 _ _) body ⟨ho, fun z hz => mem_eqAt ru fy rv fs z (by simpa using hz), ?_⟩
  have ec := count_eqU (x := y) rv fs
  refine ⟨.int ((ys.countP fun z => eqV z y : Nat) : Int), H, I.tok _, ⟨s.toks, ?_⟩, q⟩
  rw [← ec]
end
end DC
-- DT
set_option Elab.async false
set_option linter.all false
set_option maxRecDepth 100000
set_option maxHeartbeats 4000000
/-! DT: a tuple written at the top, read by its items. -/
namespace DC
open PySem L2
def absI : Value → Option V
  | .int i _ => some (.int i)
  | .str x _ => some (.str x)
  | .bool b => some (.bl b)
  | .none => some .non
  | .ref a => some (.ref a)
  | _ => none
theorem absI_rel {u : Value} {x : V} (h : absI u = some x) : RelV x u := by
  cases u <;> simp only [absI, Option.some.injEq, reduceCtorEq] at h <;> subst h
  · exact rfl
  · exact rfl
  · exact ⟨_, rfl⟩
  · exact ⟨_, rfl⟩
  · exact rfl
def absAll : List Value → Option (List V)
  | [] => some []
  | u :: us => match absI u, absAll us with
    | some x, some xs => some (x :: xs)
    | _, _ => none
theorem absAll_rel : ∀ {us : List Value} {xs : List V}, absAll us = some xs → Vals xs us
  | [], xs, h => by
    cases (show some [] = some xs from h)
    exact .nil
  | u :: us, xs, h => by
    unfold absAll at h
    split at h
    · rename_i x ys e1 e2
      cases h
      exact .cons (absI_rel e1) (absAll_rel e2)
    · cases h
/-- what a tuple written at the top has -/
def tupIn (K : PySem.W.Frag) (a : Addr) : Option (List V) :=
  match K.lookup a with
  | some o => match o.cls, o.data with
    | .type c, .seq its _ => if c = "tuple" then absAll its.toList else none
    | _, _ => none
  | none => none
theorem tupIn_t {K : PySem.W.Frag} {H : Hp} {a : Addr} {xs : List V} (h : tupIn K a = some xs) (hz : xs.length ≤ sizeLine) : SqT K H a xs := by
  unfold tupIn at h
  split at h
  · rename_i o ho
    split at h
    · rename_i c its n hc hd
      split at h
      · rename_i e
        subst e
        have r := absAll_rel h
        refine .inr ⟨o, its, n, ho, hc, hd, ?_, r⟩
        have e1 : xs.length = its.toList.length := r.length
        have e2 : its.toList.length = its.size := Array.length_toList
        omega
      · cases h
    · cases h
  · cases h
section
open PySem.Spec PyProof.Rows Evl
variable {X : Cx}
/-- pe_bm in a comprehension's block: the written part told apart -/
theorem pe_bmK {K : PySem.W.Frag} {T : String} {name : Str} {id : String} {r : V → List V → Hp → VK → Prop} {o e : Expr} {es : List Expr} {apos cpos : Pos} {to : TE} {t : TA} (hK : X.K = K) (pa : PlainAttrs T) (slot : Slot T name id) (hty : typeOf (.builtin id) = pure (.type "method_descriptor")) (hm : MtR X id r) (ho : PE X o to) (ha : PA X (e :: es) t)
    (hbase : attributeBase o name X.env (eval o X.env) = eval o X.env := by rfl)
    (hfew : ((backTo cpos (starEach (e :: es) X.env)).all (fun x => !x.1) && (backToKw cpos (keywordEach [] X.env)).all (fun x => x.1.isSome)
      && decide ((e :: es).length + ([] : List Keyword).length + (if ([] : List Keyword).isEmpty then 0 else 1) < 30)) = true := by rfl)
    (hline : (apos.endLine == cpos.line) = true := by rfl) (hs : starEach (e :: es) X.env = (false, eval e X.env) :: starEach es X.env := by rfl) (hplain : (backTo cpos (starEach es X.env)).any (·.1) = false := by rfl) :
    PE X (.Call (.Attribute o name apos) (e :: es) [] cpos) (tBM K T r to t) := by
  subst hK
  exact pe_bm pa slot hty hm ho ha hbase hfew hline hs hplain
end
end DC
-- C12
set_option Elab.async false
set_option linter.all false
set_option maxRecDepth 100000
set_option maxHeartbeats 4000000
/-! C12: the web of two lays is one list of pieces, whatever its order; what its pieces lack. -/
namespace DC
open PySem L2
section
variable {f g : Nat → Option Nat} {N a k : Nat}
theorem rj_ex (F : Mt N f) (G : Mt N g) (ha : a < N) : ∃ k, Rj f g a k := by
  have gen : ∀ d k, Pj f g a k → N - k ≤ d → ∃ k, Rj f g a k := by
    intro d
    induction d with
    | zero =>
      intro k P h
      cases e : jt f g a k with
      | none => exact ⟨k, P, .inl e⟩
      | some x =>
        by_cases c : x = a
        · exact ⟨k, P, .inr (by rw [e, c])⟩
        · have := (P.next e c).le F G ha
          omega
    | succ d ih =>
      intro k P h
      cases e : jt f g a k with
      | none => exact ⟨k, P, .inl e⟩
      | some x =>
        by_cases c : x = a
        · exact ⟨k, P, .inr (by rw [e, c])⟩
        · exact ih (k + 1) (P.next e c) (by omega)
  exact gen N 1 .one (by omega)
theorem least_ex {S : Nat → Prop} {x : Nat} (h : S x) : ∃ m, S m ∧ ∀ y, S y → m ≤ y := by
  induction x using Nat.strongRecOn with
  | ind x ih =>
    by_cases c : ∃ y, S y ∧ y < x
    · obtain ⟨y, hy, l⟩ := c
      exact ih y l hy
    · exact ⟨x, h, fun y hy => Nat.le_of_not_lt fun l => c ⟨y, hy, l⟩⟩
theorem cl_lt (F : Mt N f) (G : Mt N g) {e : Nat} (he : e < N) : ∀ {x}, Cl f g e x → x < N :=
  cl_closed (S := fun x => x < N) he fun x y _ n => by
    rcases n with n | n
    · exact (F.lt n).2
    · exact (G.lt n).2
/-- a walk from an end that is free behind comes to no end that it began with -/
theorem path_fin (F : Mt N f) (G : Mt N g) (R : Rj f g a k) (h0 : g a = none) : jt f g a k = none := by
  rcases R.fin with z | z
  · exact z
  · exfalso
    have pos := R.pos
    have ev : k % 2 = 0 := by
      by_cases c : k % 2 = 0
      · exact c
      · rw [show k = 0 + (2 * (k / 2) + 1) by omega] at z
        exact (jt_odd F G (k / 2) 0 a rfl z).elim
    rw [show k = (k - 1) + 1 by omega] at z
    obtain ⟨w, hw, ew⟩ := jt_step z
    have ew' := hh_inv F G ew
    unfold hh at ew'
    rw [if_neg (show ¬ (k - 1) % 2 = 0 by omega), h0] at ew'
    cases ew'
/-- where a path lacks a mate -/
theorem path_lack (F : Mt N f) (G : Mt N g) (R : Rj f g a k) (h0 : g a = none) {i x : Nat} (hi : i < k) (h : jt f g a i = some x) :
    (f x = none ↔ i + 1 = k ∧ i % 2 = 0) ∧ (g x = none ↔ i = 0 ∨ (i + 1 = k ∧ i % 2 = 1)) := by
  have fin := path_fin F G R h0
  have e1 : hh f g i x = none ↔ i + 1 = k := by
    have z := jt_next h
    rw [← z]
    constructor
    · intro n
      by_cases c : i + 1 < k
      · obtain ⟨y, hy⟩ := R.all (i + 1) c
        rw [hy] at n
        cases n
      · omega
    · intro n
      rw [n]
      exact fin
  have e2 : hh f g (i + 1) x = none ↔ i = 0 := by
    cases i with
    | zero =>
      obtain rfl : a = x := Option.some.inj h
      exact ⟨fun _ => rfl, fun _ => h0⟩
    | succ j =>
      obtain ⟨y, hy, ey⟩ := jt_step h
      have b := hh_inv F G ey
      rw [hh_par (show j % 2 = (j + 1 + 1) % 2 by omega)] at b
      constructor
      · intro n
        rw [b] at n
        cases n
      · intro n
        omega
  by_cases c : i % 2 = 0
  · have h1 : hh f g i = f := by unfold hh; rw [if_pos c]
    have h2 : hh f g (i + 1) = g := by unfold hh; rw [if_neg (by omega)]
    rw [h1] at e1
    rw [h2] at e2
    exact ⟨by rw [e1]; omega, by rw [e2]; omega⟩
  · have h1 : hh f g i = g := by unfold hh; rw [if_neg c]
    have h2 : hh f g (i + 1) = f := by unfold hh; rw [if_pos (by omega)]
    rw [h1] at e1
    rw [h2] at e2
    exact ⟨by rw [e2]; omega, by rw [e1]; omega⟩
theorem countP_range_last (p : Nat → Bool) (m : Nat) (h : ∀ i, i < m → p i = false) : (List.range (m + 1)).countP p = if p m = true then 1 else 0 := by
  rw [List.range_succ, List.countP_append, List.countP_eq_zero.mpr fun i hi => by rw [h i (List.mem_range.mp hi)]; decide, List.countP_singleton, Nat.zero_add]
theorem rj_count (P : Pj f g a k) (q : Nat → Bool) : (rj f g a k).countP q = (List.range k).countP fun i => q ((jt f g a i).getD 0) := by
  unfold rj
  rw [List.countP_map]
  rfl
theorem path_cf (F : Mt N f) (G : Mt N g) (R : Rj f g a k) (h0 : g a = none) : (rj f g a k).countP (fun e => (f e).isNone) = if k % 2 = 1 then 1 else 0 := by
  have pos := R.pos
  rw [rj_count R.toPj]
  obtain ⟨m, rfl⟩ : ∃ m, k = m + 1 := ⟨k - 1, by omega⟩
  have key : ∀ i, i < m + 1 → (f ((jt f g a i).getD 0)).isNone = decide (i + 1 = m + 1 ∧ i % 2 = 0) := by
    intro i hi
    obtain ⟨x, hx⟩ := R.all i hi
    have z := (path_lack F G R h0 hi hx).1
    rw [hx, Option.getD_some, Bool.eq_iff_iff, Option.isNone_iff_eq_none, decide_eq_true_eq]
    exact z
  rw [countP_range_last _ m fun i hi => by rw [key i (by omega)]; exact decide_eq_false (by omega), key m (by omega)]
  by_cases c : m % 2 = 0
  · rw [if_pos (decide_eq_true ⟨rfl, c⟩), if_pos (by omega)]
  · rw [if_neg (by rw [decide_eq_true_eq]; omega), if_neg (by omega)]
theorem path_cg (F : Mt N f) (G : Mt N g) (R : Rj f g a k) (h0 : g a = none) : (rj f g a k).countP (fun e => (g e).isNone) = if k % 2 = 1 then 1 else 2 := by
  have pos := R.pos
  rw [rj_count R.toPj]
  have key : ∀ i, i < k → (g ((jt f g a i).getD 0)).isNone = decide (i = 0 ∨ (i + 1 = k ∧ i % 2 = 1)) := by
    intro i hi
    obtain ⟨x, hx⟩ := R.all i hi
    have z := (path_lack F G R h0 hi hx).2
    rw [hx, Option.getD_some, Bool.eq_iff_iff, Option.isNone_iff_eq_none, decide_eq_true_eq]
    exact z
  obtain ⟨m, rfl⟩ : ∃ m, k = m + 1 := ⟨k - 1, by omega⟩
  rw [List.range_succ_eq_map, List.countP_cons, List.countP_map, key 0 (by omega), if_pos (decide_eq_true (.inl rfl))]
  cases m with
  | zero => rfl
  | succ r =>
    have e : (List.range (r + 1)).countP ((fun i => (g ((jt f g a i).getD 0)).isNone) ∘ Nat.succ) = if (r + 1) % 2 = 1 then 1 else 0 := by
      rw [countP_range_last _ r fun i hi => by
        show (g ((jt f g a (i + 1)).getD 0)).isNone = false
        rw [key (i + 1) (by omega)]; exact decide_eq_false (by omega)]
      show (if (g ((jt f g a (r + 1)).getD 0)).isNone = true then 1 else 0) = _
      rw [key (r + 1) (by omega)]
      by_cases c : (r + 1) % 2 = 1
      · rw [if_pos (decide_eq_true (.inr ⟨rfl, c⟩)), if_pos c]
      · rw [if_neg (by rw [decide_eq_true_eq]; omega), if_neg c]
    rw [e]
    split <;> split <;> omega
end
section
variable {n : Nat} {js ls : List J2}
/-- how many ends of a row are free in a lay -/
def cn (js : List J2) (h : List Nat) : Nat := h.countP fun e => (mt js e).isNone
theorem cn_perm {h h' : List Nat} (p : h.Perm h') : cn js h = cn js h' := p.countP_eq _
/-- what kind of piece has these ends -/
def lk (js ls : List J2) (h : List Nat) : Str := if cn js h = 0 ∧ cn ls h = 0 then "ring" else if cn js h = 1 then "odd" else if cn js h = 2 then "open" else "shut"
theorem lk_perm {h h' : List Nat} (p : h.Perm h') : lk js ls h = lk js ls h' := by
  unfold lk
  rw [cn_perm p, cn_perm p]
theorem wpc_cnt (g1 : Good n js) (g2 : Good n ls) {p : Str × List Nat} (h : Wpc n js ls p) :
    (cn js p.2 = 0 ∧ cn ls p.2 = 0 ∧ p.1 = "ring") ∨ (cn js p.2 = 1 ∧ cn ls p.2 = 1 ∧ p.1 = "odd") ∨ (cn js p.2 = 2 ∧ cn ls p.2 = 0 ∧ p.1 = "open") ∨ (cn js p.2 = 0 ∧ cn ls p.2 = 2 ∧ p.1 = "shut") := by
  obtain ⟨a, ha, ca, ⟨la, ⟨kd, ⟨k, ⟨e, R, er, ek⟩ | ⟨e, R, er, ek⟩⟩, e1⟩, _⟩ | ⟨nl, e1, _⟩⟩ := h
  · have c1 := path_cf g2.mt g1.mt R e
    have c2 := path_cg g2.mt g1.mt R e
    rw [← er] at c1 c2
    have len : p.2.length = k := by rw [er, rj_len]
    unfold oddK at e1
    rw [len, ek] at e1
    unfold cn
    rw [c1, c2, e1]
    by_cases c : k % 2 = 1
    · rw [if_pos c, if_pos c, if_pos c]
      exact .inr (.inl ⟨rfl, rfl, rfl⟩)
    · rw [if_neg c, if_neg c, if_neg c]
      exact .inr (.inr (.inl ⟨rfl, rfl, rfl⟩))
  · have e0 := la.resolve_left e
    have c1 := path_cf g1.mt g2.mt R e0
    have c2 := path_cg g1.mt g2.mt R e0
    rw [← er] at c1 c2
    have len : p.2.length = k := by rw [er, rj_len]
    unfold oddK at e1
    rw [len, ek] at e1
    unfold cn
    rw [c1, c2, e1]
    by_cases c : k % 2 = 1
    · rw [if_pos c, if_pos c, if_pos c]
      exact .inr (.inl ⟨rfl, rfl, rfl⟩)
    · rw [if_neg c, if_neg c, if_neg c]
      exact .inr (.inr (.inr ⟨rfl, rfl, rfl⟩))
  · refine .inl ⟨?_, ?_, e1⟩
    · refine List.countP_eq_zero.mpr fun x hx z => nl x hx (.inl (Option.isNone_iff_eq_none.mp z))
    · refine List.countP_eq_zero.mpr fun x hx z => nl x hx (.inr (Option.isNone_iff_eq_none.mp z))
theorem lk_wpc (g1 : Good n js) (g2 : Good n ls) {p : Str × List Nat} (h : Wpc n js ls p) : lk js ls p.2 = p.1 := by
  unfold lk
  rcases wpc_cnt g1 g2 h with ⟨a, b, c⟩ | ⟨a, b, c⟩ | ⟨a, b, c⟩ | ⟨a, b, c⟩ <;> rw [a, b, c] <;> rfl
def swp (k : Str) : Str := if k = "open" then "shut" else if k = "shut" then "open" else k
theorem lk_swap (g1 : Good n js) (g2 : Good n ls) {p : Str × List Nat} (h : Wpc n js ls p) : lk ls js p.2 = swp p.1 := by
  unfold lk swp
  rcases wpc_cnt g1 g2 h with ⟨a, b, c⟩ | ⟨a, b, c⟩ | ⟨a, b, c⟩ | ⟨a, b, c⟩ <;> rw [a, b, c] <;> decide +kernel
theorem pth_eq {a : Nat} {kd kd' : Str} {row row' : List Nat} (h : Pth js ls a kd row) (h' : Pth js ls a kd' row') : kd = kd' ∧ row = row' := by
  obtain ⟨k, ⟨e, R, er, ek⟩ | ⟨e, R, er, ek⟩⟩ := h <;> obtain ⟨k', ⟨e', R', er', ek'⟩ | ⟨e', R', er', ek'⟩⟩ := h'
  · obtain rfl := rj_eq R R'
    exact ⟨ek.trans ek'.symm, er.trans er'.symm⟩
  · exact absurd e e'
  · exact absurd e' e
  · obtain rfl := rj_eq R R'
    exact ⟨ek.trans ek'.symm, er.trans er'.symm⟩
/-- pieces that have an end in common are one -/
theorem wpc_uniq (g1 : Good n js) (g2 : Good n ls) {p q : Str × List Nat} (hp : Wpc n js ls p) (hq : Wpc n js ls q) {e : Nat} (h1 : e ∈ p.2) (h2 : e ∈ q.2) : p = q := by
  obtain ⟨a, ha, ca, A⟩ := hp
  obtain ⟨b, hb, cb, B⟩ := hq
  have aq := ca.meet g1.mt g2.mt cb h1 h2 a ca.beg
  have bp := cb.meet g1.mt g2.mt ca h2 h1 b cb.beg
  rcases A with ⟨la, ⟨kd, P, ep⟩, am⟩ | ⟨nl, ep, ⟨k, R, er⟩, am⟩ <;> rcases B with ⟨lb, ⟨kd', P', eq⟩, bm⟩ | ⟨nl', eq, ⟨k', R', er'⟩, bm⟩
  · obtain rfl : a = b := Nat.le_antisymm (am b bp lb) (bm a aq la)
    obtain ⟨e1, e2⟩ := pth_eq P P'
    subst e1
    refine Prod.ext ?_ e2
    rw [ep, eq, e2]
  · exact absurd la (nl' a aq)
  · exact absurd lb (nl b bp)
  · obtain rfl : a = b := Nat.le_antisymm (am b bp) (bm a aq)
    obtain rfl := rj_eq R R'
    exact Prod.ext (ep.trans eq.symm) (er.trans er'.symm)
theorem wpc_ex (g1 : Good n js) (g2 : Good n ls) {e : Nat} (he : e < 2 * n) : ∃ p, Wpc n js ls p ∧ e ∈ p.2 := by
  have F := g1.mt
  have G := g2.mt
  by_cases c : ∃ x, Cl (mt js) (mt ls) e x ∧ Lst js ls x
  · obtain ⟨x, hx⟩ := c
    obtain ⟨a, ⟨ca, la⟩, least⟩ := least_ex (S := fun x => Cl (mt js) (mt ls) e x ∧ Lst js ls x) hx
    have ha := cl_lt F G he ca
    obtain ⟨kd, row, hP⟩ : ∃ kd row, Pth js ls a kd row := by
      cases ej : mt js a with
      | none =>
        obtain ⟨k, R⟩ := rj_ex G F ha
        exact ⟨_, _, k, .inl ⟨ej, R, rfl, rfl⟩⟩
      | some x =>
        obtain ⟨k, R⟩ := rj_ex F G ha
        exact ⟨_, _, k, .inr ⟨by rw [ej]; exact (fun z => nomatch z), R, rfl, rfl⟩⟩
    have cls := pth_cls g1 g2 ha hP la
    exact ⟨(oddK row kd, row), ⟨a, ha, cls, .inl ⟨la, ⟨kd, hP, rfl⟩, fun x hx lx => least x ⟨cl_trans ca ((cls.mem x).mp hx), lx⟩⟩⟩, (cls.mem e).mpr (cl_symm F G ca)⟩
  · obtain ⟨a, ca, least⟩ := least_ex (S := fun x => Cl (mt js) (mt ls) e x) Cl.base
    have ha := cl_lt F G he ca
    have nol : ∀ x, Cl (mt js) (mt ls) a x → ¬ Lst js ls x := fun x hx lx => c ⟨x, cl_trans ca hx, lx⟩
    obtain ⟨k, R⟩ := rj_ex F G ha
    have fin : jt (mt js) (mt ls) a k = some a := by
      rcases R.fin with z | z
      · exfalso
        have pos := R.pos
        obtain ⟨y, hy⟩ := R.all (k - 1) (by omega)
        have hm : y ∈ rj (mt js) (mt ls) a k := (mem_rj R.toPj).mpr ⟨k - 1, by omega, hy⟩
        have e := jt_next hy
        rw [show k - 1 + 1 = k by omega, z] at e
        refine nol y (rj_cl R.toPj y hm) ?_
        unfold hh at e
        split at e
        · exact .inl e.symm
        · exact .inr e.symm
      · exact z
    have cls := cls_rj F G ha R (.inr fin)
    exact ⟨("ring", rj (mt js) (mt ls) a k), ⟨a, ha, cls, .inr ⟨fun x hx => nol x ((cls.mem x).mp hx), rfl, ⟨k, R, rfl⟩, fun x hx => least x (cl_trans ca ((cls.mem x).mp hx))⟩⟩, (cls.mem e).mpr (cl_symm F G ca)⟩
theorem wpc_beg {p : Str × List Nat} (h : Wpc n js ls p) : ∃ a, a < 2 * n ∧ a ∈ p.2 := by
  obtain ⟨a, ha, ca, _⟩ := h
  exact ⟨a, ha, ca.beg⟩
theorem wpc_lt {p : Str × List Nat} (h : Wpc n js ls p) : ∀ e ∈ p.2, e < 2 * n := by
  obtain ⟨a, ha, ca, _⟩ := h
  exact ca.lt
theorem wpc_nd {p : Str × List Nat} (h : Wpc n js ls p) : p.2.Nodup := by
  obtain ⟨a, ha, ca, _⟩ := h
  exact ca.nd
/-- these are all pieces, each once -/
structure IsWeb (n : Nat) (js ls : List J2) (ps : List (Str × List Nat)) : Prop where
  mem : ∀ p, p ∈ ps ↔ Wpc n js ls p
  nd : ps.Nodup
theorem IsWeb.of (g1 : Good n js) (g2 : Good n ls) {ps : List (Str × List Nat)} (h : ∀ p ∈ ps, Wpc n js ls p) (nd : ps.Nodup) (cov : ∀ e, e < 2 * n → ∃ p ∈ ps, e ∈ p.2) : IsWeb n js ls ps := by
  refine ⟨fun p => ⟨h p, fun hp => ?_⟩, nd⟩
  obtain ⟨a, ha, hm⟩ := wpc_beg hp
  obtain ⟨q, hq, hm'⟩ := cov a ha
  rw [wpc_uniq g1 g2 hp (h q hq) hm hm']
  exact hq
theorem Wi.web {ps : List (Str × List Nat)} {bs : List Bool} (W : Wi n js ls ps bs) (g1 : Good n js) (g2 : Good n ls) (cov : ∀ e, e < 2 * n → ∃ p ∈ ps, e ∈ p.2) : IsWeb n js ls ps := by
  refine .of g1 g2 W.pcs ?_ cov
  refine List.Pairwise.imp_of_mem (fun {p q} hp hq h e => ?_) W.dis
  subst e
  obtain ⟨a, _, hm⟩ := wpc_beg (W.pcs p hp)
  exact h a hm hm
theorem IsWeb.perm {ps qs : List (Str × List Nat)} (A : IsWeb n js ls ps) (B : IsWeb n js ls qs) : ps.Perm qs :=
  (List.perm_ext_iff_of_nodup A.nd B.nd).mpr fun p => (A.mem p).trans (B.mem p).symm
theorem IsWeb.cov {ps : List (Str × List Nat)} (A : IsWeb n js ls ps) (g1 : Good n js) (g2 : Good n ls) : ∀ e, e < 2 * n → ∃ p ∈ ps, e ∈ p.2 := by
  intro e he
  obtain ⟨p, hp, hm⟩ := wpc_ex g1 g2 he
  exact ⟨p, (A.mem p).mpr hp, hm⟩
theorem web_ex (g1 : Good n js) (g2 : Good n ls) : ∃ ps, IsWeb n js ls ps := by
  have gen : ∀ m, m ≤ 2 * n → ∃ ps : List (Str × List Nat), (∀ p ∈ ps, Wpc n js ls p) ∧ ps.Nodup ∧ ∀ e, e < m → ∃ p ∈ ps, e ∈ p.2 := by
    intro m
    induction m with
    | zero => intro _; exact ⟨[], fun p hp => absurd hp (List.not_mem_nil), .nil, fun e he => absurd he (Nat.not_lt_zero _)⟩
    | succ m ih =>
      intro hm
      obtain ⟨ps, h1, h2, h3⟩ := ih (by omega)
      by_cases c : ∃ p ∈ ps, m ∈ p.2
      · refine ⟨ps, h1, h2, fun e he => ?_⟩
        by_cases z : e = m
        · rw [z]; exact c
        · exact h3 e (by omega)
      · obtain ⟨p, hp, hmp⟩ := wpc_ex g1 g2 (show m < 2 * n by omega)
        refine ⟨p :: ps, fun q hq => ?_, List.nodup_cons.mpr ⟨fun hq => c ⟨p, hq, hmp⟩, h2⟩, fun e he => ?_⟩
        · rcases List.mem_cons.mp hq with rfl | hq
          · exact hp
          · exact h1 q hq
        · by_cases z : e = m
          · rw [z]; exact ⟨p, List.mem_cons_self, hmp⟩
          · obtain ⟨q, hq, hm'⟩ := h3 e (by omega)
            exact ⟨q, List.mem_cons_of_mem _ hq, hm'⟩
  obtain ⟨ps, h1, h2, h3⟩ := gen (2 * n) (Nat.le_refl _)
  exact ⟨ps, .of g1 g2 h1 h2 h3⟩
/-! ascending rows -/
def asc (l : List Nat) : List Nat := l.mergeSort fun a b => decide (a ≤ b)
theorem asc_perm (l : List Nat) : (asc l).Perm l := List.mergeSort_perm _ _
theorem asc_pw (l : List Nat) : (asc l).Pairwise (· ≤ ·) := by
  have h := List.pairwise_mergeSort (le := fun a b : Nat => decide (a ≤ b)) (fun a b c h1 h2 => by rw [decide_eq_true_eq] at *; omega) (fun a b => by rw [Bool.or_eq_true, decide_eq_true_eq, decide_eq_true_eq]; omega) l
  exact h.imp fun z => of_decide_eq_true z
theorem asc_eq {l l' : List Nat} (p : l'.Perm l) (h : l'.Pairwise (· ≤ ·)) : l' = asc l :=
  List.Perm.eq_of_pairwise (le := (· ≤ ·)) (fun a b _ _ h1 h2 => Nat.le_antisymm h1 h2) h (asc_pw l) (p.trans (asc_perm l).symm)
theorem asc_same {l l' : List Nat} (p : l'.Perm l) : asc l' = asc l := asc_eq ((asc_perm l').trans p) (asc_pw l')
/-- the heaps of ends that hang together, ascending, each once -/
structure Hps (n : Nat) (js ls : List J2) (hs : List (List Nat)) : Prop where
  mem : ∀ h ∈ hs, ∃ p, Wpc n js ls p ∧ h = asc p.2
  dis : hs.Pairwise fun h h' => ∀ e, e ∈ h → e ∉ h'
  cov : ∀ e, e < 2 * n → ∃ h ∈ hs, e ∈ h
theorem Hps.perm {hs : List (List Nat)} {ps : List (Str × List Nat)} (A : Hps n js ls hs) (W : IsWeb n js ls ps) (g1 : Good n js) (g2 : Good n ls) : hs.Perm (ps.map fun p => asc p.2) := by
  have ne : ∀ p, Wpc n js ls p → ∃ a, a < 2 * n ∧ a ∈ asc p.2 := by
    intro p hp
    obtain ⟨a, ha, hm⟩ := wpc_beg hp
    exact ⟨a, ha, (asc_perm p.2).mem_iff.mpr hm⟩
  refine (List.perm_ext_iff_of_nodup ?_ ?_).mpr fun h => ?_
  · refine List.Pairwise.imp_of_mem (fun {x y} hx hy d e => ?_) A.dis
    subst e
    obtain ⟨p, hp, rfl⟩ := A.mem x hx
    obtain ⟨a, _, hm⟩ := ne p hp
    exact d a hm hm
  · rw [List.Nodup, List.pairwise_map]
    refine List.Pairwise.imp_of_mem (fun {p q} hp hq d e => ?_) W.nd
    obtain ⟨a, _, hm⟩ := ne p ((W.mem p).mp hp)
    have hm' := hm
    rw [e] at hm'
    exact d (wpc_uniq g1 g2 ((W.mem p).mp hp) ((W.mem q).mp hq) ((asc_perm p.2).mem_iff.mp hm) ((asc_perm q.2).mem_iff.mp hm'))
  · constructor
    · intro hh
      obtain ⟨p, hp, rfl⟩ := A.mem h hh
      exact List.mem_map.mpr ⟨p, (W.mem p).mpr hp, rfl⟩
    · intro hh
      obtain ⟨p, hp, rfl⟩ := List.mem_map.mp hh
      have wp := (W.mem p).mp hp
      obtain ⟨a, ha, hm⟩ := ne p wp
      obtain ⟨h', hh', hm'⟩ := A.cov a ha
      obtain ⟨q, hq, rfl⟩ := A.mem h' hh'
      rw [wpc_uniq g1 g2 wp hq ((asc_perm p.2).mem_iff.mp hm) ((asc_perm q.2).mem_iff.mp hm')]
      exact hh'
/-- the web the other way round has the same heaps -/
theorem IsWeb.swap {ps qs : List (Str × List Nat)} (A : IsWeb n js ls ps) (B : IsWeb n ls js qs) (g1 : Good n js) (g2 : Good n ls) : (qs.map fun p => asc p.2).Perm (ps.map fun p => asc p.2) := by
  refine Hps.perm (n := n) (js := js) (ls := ls) ⟨fun h hh => ?_, ?_, ?_⟩ A g1 g2
  · obtain ⟨q, hq, rfl⟩ := List.mem_map.mp hh
    have wq := (B.mem q).mp hq
    obtain ⟨a, ha, ca, _⟩ := id wq
    obtain ⟨p, hp, hm⟩ := wpc_ex g1 g2 ha
    refine ⟨p, hp, asc_same ?_⟩
    obtain ⟨b, hb, cb, _⟩ := id hp
    have e := (cb.mem a).mp hm
    refine (List.perm_ext_iff_of_nodup (wpc_nd wq) (wpc_nd hp)).mpr fun x => ?_
    rw [cb.mem x, ca.mem x]
    exact ⟨fun z => cl_trans e (cl_swap z), fun z => cl_swap (cl_trans (cl_symm g1.mt g2.mt e) z)⟩
  · rw [List.pairwise_map]
    refine List.Pairwise.imp_of_mem (fun {p q} hp hq d e h1 h2 => ?_) B.nd
    exact d (wpc_uniq g2 g1 ((B.mem p).mp hp) ((B.mem q).mp hq) ((asc_perm p.2).mem_iff.mp h1) ((asc_perm q.2).mem_iff.mp h2))
  · intro e he
    obtain ⟨q, hq, hm⟩ := B.cov g2 g1 e he
    exact ⟨asc q.2, List.mem_map.mpr ⟨q, hq, rfl⟩, (asc_perm q.2).mem_iff.mpr hm⟩
end
end DC
-- K37j
set_option Elab.async false
set_option linter.all false
set_option maxRecDepth 100000
set_option maxHeartbeats 4000000
namespace K37
open PySem L2 DC LamX
def cntK (ps : List (Str × List Nat)) (k : Str) : Nat := ps.countP fun p => p.1 == k
def KD : List Str := ["ring", "odd", "open", "shut"]
def kcnt (ps : List (Str × List Nat)) : List V := KD.map fun k => .int ((cntK ps k : Nat) : Int)
def szOrd (ps : List (Str × List Nat)) : List (Str × List Nat) := (byRow ps).mergeSort (PySem.W.dataLe false szD)
theorem sizesD_map (ps : List (Str × List Nat)) : sizesD ps = (szOrd ps).map szD := by
  unfold sizesD szOrd
  exact (List.map_mergeSort (r := PySem.W.dataLe false szD) (s := PySem.W.dataLe false id) (f := szD) (l := byRow ps) (fun a _ b _ => rfl)).symm
theorem szOrd_perm (ps : List (Str × List Nat)) : (szOrd ps).Perm ps := (List.mergeSort_perm _ _).trans (List.mergeSort_perm _ _)
theorem dp_sz {K : PySem.W.Frag} {H : Hp} {x : V} {p : Str × List Nat} (h : Dp K H x (szD p)) : ∃ t, x = .ref t ∧ SqT K H t [.str p.1, .int (p.2.length : Nat)] := by
  unfold szD at h
  cases h with
  | tup hS ha =>
    cases ha with
    | cons h1 t1 =>
      cases h1
      cases t1 with
      | cons h2 t2 =>
        cases h2
        cases t2
        exact ⟨_, rfl, hS⟩
theorem flat_str (l : List Str) : (l.map V.str).all flatV = true := by
  rw [List.all_map]
  exact List.all_eq_true.mpr fun x _ => rfl
theorem count_kd (qs : List (Str × List Nat)) (k : Str) : ((qs.map fun p => V.str p.1).countP fun z => eqV z (.str k)) = cntK qs k := by
  unfold cntK
  rw [List.countP_map]
  rfl
theorem cntK_perm {ps qs : List (Str × List Nat)} (h : ps.Perm qs) (k : Str) : cntK ps k = cntK qs k := h.countP_eq _
section
variable {P : Program} {w : World} {K : PySem.W.Frag} {mg : Str → Option Value} {base : Heap}
end
end K37
-- C13
set_option Elab.async false
set_option linter.all false
set_option maxRecDepth 100000
set_option maxHeartbeats 4000000
/-! C13: a heap grown along both pairings is all that hangs together. -/
namespace DC
open PySem L2
/-- the partner of an end, or itself -/
def ptn (f : Nat → Option Nat) (x : Nat) : Nat := (f x).getD x
def gr (hl : List Nat) (y : Nat) : List Nat := if y ∈ hl then hl else hl ++ [y]
theorem gr_pre (hl : List Nat) (y : Nat) : ∃ t, gr hl y = hl ++ t := by
  unfold gr
  split
  · exact ⟨[], (List.append_nil _).symm⟩
  · exact ⟨[y], rfl⟩
theorem gr_sub {hl : List Nat} {y x : Nat} (h : x ∈ hl) : x ∈ gr hl y := by
  obtain ⟨t, e⟩ := gr_pre hl y
  rw [e]
  exact List.mem_append_left _ h
theorem gr_at {hl : List Nat} {y i x : Nat} (h : hl[i]? = some x) : (gr hl y)[i]? = some x := by
  obtain ⟨t, e⟩ := gr_pre hl y
  rw [e, List.getElem?_append_left (List.getElem?_eq_some_iff.mp h).1]
  exact h
theorem gr_mem (hl : List Nat) (y : Nat) : y ∈ gr hl y := by
  unfold gr
  split
  · assumption
  · exact List.mem_append_right _ List.mem_cons_self
theorem gr_cases {hl : List Nat} {y x : Nat} (h : x ∈ gr hl y) : x ∈ hl ∨ x = y := by
  unfold gr at h
  split at h
  · exact .inl h
  · rcases List.mem_append.mp h with h | h
    · exact .inl h
    · exact .inr (List.mem_singleton.mp h)
theorem gr_nd {hl : List Nat} {y : Nat} (h : hl.Nodup) : (gr hl y).Nodup := by
  unfold gr
  split
  · exact h
  · rename_i c
    rw [List.nodup_append]
    exact ⟨h, List.nodup_cons.mpr ⟨List.not_mem_nil, .nil⟩, fun a ha b hb e => by
      obtain rfl := List.mem_singleton.mp hb
      subst e
      exact c ha⟩
theorem gr_len (hl : List Nat) (y : Nat) : hl.length ≤ (gr hl y).length := by
  obtain ⟨t, e⟩ := gr_pre hl y
  rw [e, List.length_append]
  omega
section
variable {f g : Nat → Option Nat} {N a : Nat}
theorem ptn_cl {h : Nat → Option Nat} (hh : h = f ∨ h = g) {x : Nat} (c : Cl f g a x) : Cl f g a (ptn h x) := by
  unfold ptn
  cases e : h x with
  | none => exact c
  | some y =>
    refine c.step ?_
    rcases hh with rfl | rfl
    · exact .inl e
    · exact .inr e
structure Hh (f g : Nat → Option Nat) (a : Nat) (hl : List Nat) (at_ j : Nat) : Prop where
  nd : hl.Nodup
  cl : ∀ x ∈ hl, Cl f g a x
  mem : a ∈ hl
  le : at_ ≤ hl.length
  clo : ∀ i x, i < at_ → hl[i]? = some x → ptn f x ∈ hl ∧ ptn g x ∈ hl
  cnt : at_ = j ∨ (at_ = hl.length ∧ at_ ≤ j)
theorem Hh.zero : Hh f g a [a] 0 0 := ⟨List.nodup_cons.mpr ⟨List.not_mem_nil, .nil⟩, fun x hx => by obtain rfl := List.mem_singleton.mp hx; exact .base, List.mem_cons_self, Nat.zero_le _, fun i x h => absurd h (Nat.not_lt_zero _), .inl rfl⟩
theorem Hh.stay {hl : List Nat} {at_ j : Nat} (h : Hh f g a hl at_ j) (c : ¬ at_ < hl.length) : Hh f g a hl at_ (j + 1) := by
  have e := Nat.le_antisymm h.le (Nat.le_of_not_lt c)
  exact ⟨h.nd, h.cl, h.mem, h.le, h.clo, .inr ⟨e, by rcases h.cnt with z | z <;> omega⟩⟩
theorem Hh.next {hl : List Nat} {at_ j x : Nat} (h : Hh f g a hl at_ j) (hx : hl[at_]? = some x) : Hh f g a (gr (gr hl (ptn f x)) (ptn g x)) (at_ + 1) (j + 1) := by
  have lt := (List.getElem?_eq_some_iff.mp hx).1
  have cx := h.cl x (List.mem_of_getElem? hx)
  refine ⟨gr_nd (gr_nd h.nd), fun y hy => ?_, gr_sub (gr_sub h.mem), ?_, fun i y hi hy => ?_, ?_⟩
  · rcases gr_cases hy with hy | rfl
    · rcases gr_cases hy with hy | rfl
      · exact h.cl y hy
      · exact ptn_cl (.inl rfl) cx
    · exact ptn_cl (.inr rfl) cx
  · have := gr_len hl (ptn f x)
    have := gr_len (gr hl (ptn f x)) (ptn g x)
    omega
  · by_cases c : i = at_
    · subst c
      obtain rfl : x = y := Option.some.inj ((gr_at (gr_at hx)).symm.trans hy)
      exact ⟨gr_sub (gr_mem _ _), gr_mem _ _⟩
    · obtain ⟨z, hz⟩ : ∃ z, hl[i]? = some z := ⟨_, List.getElem?_eq_getElem (by omega)⟩
      obtain rfl : z = y := Option.some.inj ((gr_at (gr_at hz)).symm.trans hy)
      obtain ⟨a1, a2⟩ := h.clo i z (by omega) hz
      exact ⟨gr_sub (gr_sub a1), gr_sub (gr_sub a2)⟩
  · rcases h.cnt with z | z
    · exact .inl (by omega)
    · omega
theorem Hh.lt {hl : List Nat} {at_ j : Nat} (h : Hh f g a hl at_ j) (F : Mt N f) (G : Mt N g) (ha : a < N) : ∀ x ∈ hl, x < N := fun x hx => cl_lt F G ha (h.cl x hx)
theorem Hh.len {hl : List Nat} {at_ j : Nat} (h : Hh f g a hl at_ j) (F : Mt N f) (G : Mt N g) (ha : a < N) : hl.length ≤ N := by
  have q := nodup_le (m := List.range N) h.nd fun x hx => List.mem_range.mpr (h.lt F G ha x hx)
  rw [List.length_range] at q
  exact q
theorem Hh.fin {hl : List Nat} {at_ : Nat} (h : Hh f g a hl at_ N) (F : Mt N f) (G : Mt N g) (ha : a < N) : Cls N f g a hl := by
  have len := h.len F G ha
  have full : at_ = hl.length := by
    rcases h.cnt with z | z
    · have := h.le
      omega
    · exact z.1
  refine ⟨fun x => ⟨h.cl x, fun c => ?_⟩, h.nd, h.lt F G ha⟩
  refine cl_closed (S := fun x => x ∈ hl) h.mem (fun x y hx n => ?_) c
  obtain ⟨i, hi, e⟩ := List.mem_iff_getElem.mp hx
  have hx' : hl[i]? = some x := by rw [List.getElem?_eq_getElem hi, e]
  obtain ⟨a1, a2⟩ := h.clo i x (by omega) hx'
  rcases n with n | n
  · unfold ptn at a1
    rw [n] at a1
    exact a1
  · unfold ptn at a2
    rw [n] at a2
    exact a2
end
section
variable {n : Nat} {js ls : List J2}
theorem cls_wpc (g1 : Good n js) (g2 : Good n ls) {a : Nat} (ha : a < 2 * n) {hl : List Nat} (c : Cls (2 * n) (mt js) (mt ls) a hl) : ∃ p, Wpc n js ls p ∧ hl.Perm p.2 := by
  obtain ⟨p, hp, hm⟩ := wpc_ex g1 g2 ha
  refine ⟨p, hp, ?_⟩
  obtain ⟨b, hb, cb, _⟩ := id hp
  have e := (cb.mem a).mp hm
  refine (List.perm_ext_iff_of_nodup c.nd (wpc_nd hp)).mpr fun x => ?_
  rw [cb.mem x, c.mem x]
  exact ⟨fun z => cl_trans e z, fun z => cl_trans (cl_symm g1.mt g2.mt e) z⟩
theorem Hps.of_perm {hs hs' : List (List Nat)} (A : Hps n js ls hs) (p : hs'.Perm hs) : Hps n js ls hs' :=
  ⟨fun h hh => A.mem h (p.mem_iff.mp hh), (p.pairwise_iff (fun {x y} d e h1 h2 => d e h2 h1)).mpr A.dis, fun e he => by
    obtain ⟨h, hh, hm⟩ := A.cov e he
    exact ⟨h, p.mem_iff.mpr hh, hm⟩⟩
theorem perm_map_ex {α β : Type} {g : α → β} {l m : List β} (h : l.Perm m) : ∀ ps0 : List α, m = ps0.map g → ∃ ps : List α, l = ps.map g ∧ ps.Perm ps0 := by
  induction h with
  | nil =>
    intro ps0 e
    exact ⟨[], rfl, by rw [List.map_eq_nil_iff.mp e.symm]⟩
  | cons x h ih =>
    intro ps0 e
    cases ps0 with
    | nil => cases e
    | cons p ps0 =>
      rw [List.map_cons, List.cons.injEq] at e
      obtain ⟨ps, e1, e2⟩ := ih ps0 e.2
      exact ⟨p :: ps, by rw [List.map_cons, e.1, e1], e2.cons _⟩
  | swap x y l =>
    intro ps0 e
    match ps0, e with
    | p :: q :: r, e =>
      rw [List.map_cons, List.map_cons, List.cons.injEq, List.cons.injEq] at e
      exact ⟨q :: p :: r, by rw [List.map_cons, List.map_cons, e.1, e.2.1, e.2.2], .swap ..⟩
  | trans h1 h2 ih1 ih2 =>
    intro ps0 e
    obtain ⟨ps1, e1, q1⟩ := ih2 ps0 e
    obtain ⟨ps2, e2, q2⟩ := ih1 ps1 e1
    exact ⟨ps2, e2, q2.trans q1⟩
theorem IsWeb.of_perm {ps qs : List (Str × List Nat)} (A : IsWeb n js ls ps) (p : qs.Perm ps) : IsWeb n js ls qs := ⟨fun x => p.mem_iff.trans (A.mem x), p.nodup_iff.mpr A.nd⟩
theorem Hps.web {hs : List (List Nat)} (A : Hps n js ls hs) (g1 : Good n js) (g2 : Good n ls) : ∃ ps : List (Str × List Nat), IsWeb n js ls ps ∧ hs = ps.map fun p => asc p.2 := by
  obtain ⟨ps0, W⟩ := web_ex g1 g2
  obtain ⟨ps, e, p⟩ := perm_map_ex (A.perm W g1 g2) ps0 rfl
  exact ⟨ps, W.of_perm p, e⟩
theorem IsWeb.len {ps : List (Str × List Nat)} (A : IsWeb n js ls ps) (g1 : Good n js) (g2 : Good n ls) : ps.length ≤ 2 * n := by
  have gen : ∀ ps : List (Str × List Nat), (∀ p ∈ ps, Wpc n js ls p) → ps.Nodup → ∃ l : List Nat, l.Nodup ∧ l.length = ps.length ∧ (∀ x ∈ l, x < 2 * n) ∧ ∀ x ∈ l, ∃ p ∈ ps, x ∈ p.2 := by
    intro ps
    induction ps with
    | nil => intro _ _; exact ⟨[], .nil, rfl, fun x hx => absurd hx (List.not_mem_nil), fun x hx => absurd hx (List.not_mem_nil)⟩
    | cons p ps ih =>
      intro h d
      have d' := List.nodup_cons.mp d
      obtain ⟨l, nd, len, lt, mem⟩ := ih (fun q hq => h q (List.mem_cons_of_mem _ hq)) d'.2
      obtain ⟨a, ha, hm⟩ := wpc_beg (h p List.mem_cons_self)
      refine ⟨a :: l, List.nodup_cons.mpr ⟨fun ml => ?_, nd⟩, by rw [List.length_cons, List.length_cons, len], fun x hx => ?_, fun x hx => ?_⟩
      · obtain ⟨q, hq, haq⟩ := mem a ml
        rw [wpc_uniq g1 g2 (h p List.mem_cons_self) (h q (List.mem_cons_of_mem _ hq)) hm haq] at d'
        exact d'.1 hq
      · rcases List.mem_cons.mp hx with rfl | hx
        · exact ha
        · exact lt x hx
      · rcases List.mem_cons.mp hx with rfl | hx
        · exact ⟨p, List.mem_cons_self, hm⟩
        · obtain ⟨q, hq, hxq⟩ := mem x hx
          exact ⟨q, List.mem_cons_of_mem _ hq, hxq⟩
  obtain ⟨l, nd, len, lt, _⟩ := gen ps (fun p hp => (A.mem p).mp hp) A.nd
  have q := nodup_le (m := List.range (2 * n)) nd fun x hx => List.mem_range.mpr (lt x hx)
  rw [len, List.length_range] at q
  exact q
/-- the heaps found so far, and the ends left -/
structure Ho (n : Nat) (js ls : List J2) (hs : List (List Nat)) (es : List Nat) (i : Nat) : Prop where
  mem : ∀ h ∈ hs, ∃ p, Wpc n js ls p ∧ h = asc p.2
  dis : hs.Pairwise fun h h' => ∀ e, e ∈ h → e ∉ h'
  lt : ∀ e ∈ es, e < 2 * n
  out : ∀ e ∈ es, ∀ h ∈ hs, e ∉ h
  cov : ∀ e, e < 2 * n → e ∈ es ∨ ∃ h ∈ hs, e ∈ h
  len : es.length ≤ 2 * n - i
  cnt : hs.length ≤ i
theorem Ho.zero : Ho n js ls [] (List.range (2 * n)) 0 :=
  ⟨fun h hh => absurd hh List.not_mem_nil, .nil, fun e he => List.mem_range.mp he, fun e he h hh => absurd hh List.not_mem_nil, fun e he => .inl (List.mem_range.mpr he), by rw [List.length_range]; omega, Nat.le_refl _⟩
theorem Ho.stay {hs : List (List Nat)} {i : Nat} (h : Ho n js ls hs [] i) : Ho n js ls hs [] (i + 1) := ⟨h.mem, h.dis, h.lt, h.out, h.cov, Nat.zero_le _, Nat.le_succ_of_le h.cnt⟩
theorem Ho.next {hs : List (List Nat)} {a : Nat} {er hl : List Nat} {i : Nat} (h : Ho n js ls hs (a :: er) i) (g1 : Good n js) (g2 : Good n ls) (c : Cls (2 * n) (mt js) (mt ls) a hl) :
    Ho n js ls (hs ++ [asc hl]) ((a :: er).filter fun e => !decide (e ∈ hl)) (i + 1) := by
  have ha := h.lt a List.mem_cons_self
  obtain ⟨p, hp, pp⟩ := cls_wpc g1 g2 ha c
  have ea : asc hl = asc p.2 := asc_same pp
  refine ⟨fun x hx => ?_, ?_, fun e he => h.lt e (List.mem_filter.mp he).1, fun e he x hx => ?_, fun e he => ?_, ?_, ?_⟩
  · rcases List.mem_append.mp hx with hx | hx
    · exact h.mem x hx
    · exact ⟨p, hp, (List.mem_singleton.mp hx).trans ea⟩
  · refine List.pairwise_append.mpr ⟨h.dis, List.pairwise_singleton _ _, fun x hx y hy e he he' => ?_⟩
    obtain rfl := List.mem_singleton.mp hy
    obtain ⟨q, hq, rfl⟩ := h.mem x hx
    rw [ea] at he'
    have e1 := (asc_perm q.2).mem_iff.mp he
    have e2 := (asc_perm p.2).mem_iff.mp he'
    obtain rfl := wpc_uniq g1 g2 hq hp e1 e2
    exact h.out a List.mem_cons_self _ hx ((asc_perm q.2).mem_iff.mpr (pp.mem_iff.mp c.beg))
  · obtain ⟨he, hn⟩ := List.mem_filter.mp he
    rcases List.mem_append.mp hx with hx | hx
    · exact h.out e he x hx
    · obtain rfl := List.mem_singleton.mp hx
      intro z
      have := (asc_perm hl).mem_iff.mp z
      rw [decide_eq_true this] at hn
      cases hn
  · rcases h.cov e he with z | ⟨x, hx, hm⟩
    · by_cases c : e ∈ hl
      · exact .inr ⟨asc hl, List.mem_append_right _ List.mem_cons_self, (asc_perm hl).mem_iff.mpr c⟩
      · exact .inl (List.mem_filter.mpr ⟨z, by rw [decide_eq_false c]; rfl⟩)
    · exact .inr ⟨x, List.mem_append_left _ hx, hm⟩
  · have e1 : ((a :: er).filter fun e => !decide (e ∈ hl)) = er.filter fun e => !decide (e ∈ hl) := List.filter_cons_of_neg (by rw [decide_eq_true c.beg]; decide)
    rw [e1]
    have := List.length_filter_le (fun e => !decide (e ∈ hl)) er
    have := h.len
    rw [List.length_cons] at this
    omega
  · rw [List.length_append]
    exact Nat.succ_le_succ h.cnt
theorem Ho.fin {hs : List (List Nat)} {es : List Nat} (h : Ho n js ls hs es (2 * n)) : Hps n js ls hs := by
  refine ⟨h.mem, h.dis, fun e he => ?_⟩
  have : es = [] := List.length_eq_zero_iff.mp (by have := h.len; omega)
  subst this
  rcases h.cov e he with z | z
  · exact absurd z List.not_mem_nil
  · exact z
end
end DC
-- K37k
set_option Elab.async false
set_option linter.all false
set_option maxRecDepth 100000
set_option maxHeartbeats 4000000
namespace K37
open PySem L2 DC LamX
/-- a heap in the heap -/
def HpT (K : PySem.W.Frag) (H : Hp) (v : V) (h : List Nat) : Prop := ∃ t, v = .ref t ∧ SqT K H t (Vn h)
theorem hpT_dp {K : PySem.W.Frag} {H : Hp} : ∀ {vs : List V} {hs : List (List Nat)}, Paired (HpT K H) vs hs → DpAll K H vs (hs.map fun h => tupD (nI h))
  | _, _, .nil => .nil
  | _, _, .cons ⟨t, e, h⟩ r => by
    subst e
    exact .cons (Dp.tup h (by rw [vn_nI]; exact dp_intsN _)) (hpT_dp r)
theorem nI_inj {a b : List Nat} (h : nI a = nI b) : a = b := by
  have e := congrArg (fun l : List Int => l.map Int.toNat) h
  unfold nI at e
  simp only [List.map_map] at e
  have id1 : ∀ l : List Nat, l.map (Int.toNat ∘ fun y : Nat => ((y : Nat) : Int)) = l := by
    intro l
    induction l with
    | nil => rfl
    | cons x l ih => rw [List.map_cons, ih]; rfl
  rw [id1, id1] at e
  exact e
theorem sorted_nI {hl : List Nat} {ns : List Int} (p : ns.Perm (nI hl)) (h : ns.Pairwise (· ≤ ·)) : ns = nI (asc hl) := by
  refine List.Perm.eq_of_pairwise (le := (· ≤ ·)) (fun a b _ _ h1 h2 => Int.le_antisymm h1 h2) h ?_ (p.trans ?_)
  · unfold nI
    rw [List.pairwise_map]
    exact (asc_pw hl).imp fun z => by omega
  · unfold nI
    exact ((asc_perm hl).map _).symm
theorem gr_V (hl : List Nat) (y : Nat) : Vn (gr hl y) = Vn hl ++ (List.replicate (if (!decide (y ∈ hl)) = true then (1 : Int) else 0).toNat [V.int (y : Nat)]).flatten := by
  unfold gr
  by_cases c : y ∈ hl
  · rw [if_pos c, decide_eq_true c]
    exact (List.append_nil _).symm
  · rw [if_neg c, decide_eq_false c, vn_app]
    rfl
theorem nonempty_hp {n : Nat} {js ls : List J2} {h : List Nat} (m : ∃ p, Wpc n js ls p ∧ h = asc p.2) : h ≠ [] := by
  obtain ⟨p, hp, rfl⟩ := m
  intro z
  obtain ⟨a, _, hm⟩ := wpc_beg hp
  have := (asc_perm p.2).mem_iff.mpr hm
  rw [z] at this
  exact absurd this List.not_mem_nil
/-- a heap of a piece -/
def HpP (K : PySem.W.Frag) (H : Hp) (v : V) (p : Str × List Nat) : Prop := HpT K H v (asc p.2)
theorem paired_map {α β γ : Type} {R : α → γ → Prop} {g : β → γ} : ∀ {vs : List α} {ps : List β}, Paired R vs (ps.map g) → Paired (fun v p => R v (g p)) vs ps
  | _, [], h => by
    cases h
    exact .nil
  | _, p :: ps, h => by
    rw [List.map_cons] at h
    cases h with
    | cons a t => exact .cons a (paired_map t)
def hst (f g : Nat → Option Nat) (hl : List Nat) (x : Nat) : Nat → List Nat
  | 0 => hl
  | 1 => gr hl (ptn f x)
  | _ => gr (gr hl (ptn f x)) (ptn g x)
theorem gr_len1 (hl : List Nat) (y : Nat) : (gr hl y).length ≤ hl.length + 1 := by
  unfold gr
  split
  · omega
  · rw [List.length_append]
    exact Nat.le_refl _
/-- partners told by a dict -/
theorem ptn_val {js : List J2} {kvs : List (Key × V)} (m : MtD js kvs) (x : Nat) : (valV kvs (.inl ((x : Nat) : Int))).getD (V.int (x : Nat)) = V.int (ptn (mt js) x : Nat) := by
  rw [m x]
  unfold ptn
  cases mt js x <;> rfl
section
variable {P : Program} {w : World} {K : PySem.W.Frag} {mg : Str → Option Value} {base : Heap}
def spHeaps (K : PySem.W.Frag) : Sp := fun vs H Q _ => ∃ (v1 v2 : V) (n : Nat) (js ls : List J2), vs = [v1, v2] ∧ Ly K H v1 n js ∧ Ly K H v2 n ls ∧ Good n js ∧ Good n ls ∧
  ∀ (ps : List (Str × List Nat)) (r : Addr) (xs : List V) (H' : Hp), Same H H' → H r = none → H' r = some (.lst xs) → Paired (HpP K H') xs ps → IsWeb n js ls ps → ps.length ≤ 2 * n → Q (.ref r) H'
abbrev N35 : List Str := ["one", "other", "mates_v", "left", "found", "turn", "heap", "at", "walk", "known", "end"]
/-- one partner more -/
theorem heap_more {n : Nat} {Hc Hg : Hp} {D : Ends} {hg dk : Addr} {hl : List Nat} {kv : List (Key × V)} {ms : List J2} {at_ x : Nat} {z0 z1 z2 z3 z4 z5 z8 z10 : Option V} (sg : Same Hc Hg) (hG : Hg hg = some (.lst (Vn hl))) (hx : hl[at_]? = some x) (hz : hl.length ≤ 1000) (hdk : Hg dk = some (.dK kv)) (hm : MtD ms kv)
    (nx : ∀ (z : Option V) (hg' : Addr) (Hg' : Hp), Same Hc Hg' → Hg' hg' = some (.lst (Vn (gr hl (ptn (mt ms) x)))) → Hc hg' = none → D.nx [z0, z1, z2, z3, z4, z5, some (.ref hg'), some (.int (at_ : Nat)), z8, some (.ref dk), z] Hg') :
    (tSeq (tAsg (tDGet2 (tVar 9) (tOp (rIxL K) (tVar 6) (tVar 7)) (tOp (rIxL K) (tVar 6) (tVar 7))) (gName 10))
      (tAsg (tOp rCat (tVar 6) (tOp rRep (tLst (tCons (tVar 10) tNil)) (tCB (fun xs H Q => (∃ i, xs = [.int i] ∧ Q (.int i) H) ∨ ∃ k, xs = [.bl k] ∧ Q (.int (if k then 1 else 0)) H) (tCons (tOp (rIn K true) (tVar 10) (tVar 6)) tNil)))) (gName 6))) D
      [z0, z1, z2, z3, z4, z5, some (.ref hg), some (.int (at_ : Nat)), z8, some (.ref dk), z10] Hg := by
  have eat : atI (Vn hl) ((at_ : Nat) : Int) = some (.int (x : Nat)) := by
    have h2 := (List.getElem?_eq_some_iff.mp hx).1
    refine atI_nat ?_
    rw [Vn_at h2, List.getD_eq_getElem?_getD, hx]
    rfl
  refine ⟨_, rfl, dk, rfl, .inl ⟨_, .inl hdk⟩, ?_⟩
  refine ⟨_, rfl, _, rfl, hg, _, _, _, rfl, rfl, SqL.of hG, eat, ?_⟩
  refine ⟨_, rfl, _, rfl, hg, _, _, _, rfl, rfl, SqL.of hG, eat, ?_⟩
  refine ⟨_, DGet.k (k := .inl ((x : Nat) : Int)) hdk, ?_⟩
  rw [ptn_val hm]
  refine gn ?_
  refine ⟨_, rfl, _, rfl, by show 1 ≤ sizeLine; decide, fun l1 hl1 => ?_⟩
  have sl1 := Same.new (o := .lst [.int ((ptn (mt ms) x : Nat) : Int)]) hl1
  refine ⟨_, rfl, _, rfl, hg, _, rfl, .inl (SqL.of (sl1 _ _ hG)), rfl, flat_Vn _, ?_⟩
  refine .inr ⟨_, rfl, ?_⟩
  rw [if_pos rfl, in_row]
  refine ⟨l1, _, _, rfl, rfl, upd_same, ?_, ?_, ?_, fun l2 hl2 => ?_⟩
  · split <;> omega
  · split <;> omega
  · refine Nat.le_trans (show _ ≤ 1 from ?_) (show 1 ≤ sizeLine by decide)
    split
    · exact Nat.le_refl 1
    · exact Nat.zero_le 1
  have sl2 := Same.new (o := .lst (List.replicate (if (!decide (ptn (mt ms) x ∈ hl)) = true then (1 : Int) else 0).toNat [V.int ((ptn (mt ms) x : Nat) : Int)]).flatten) hl2
  refine ⟨hg, l2, _, _, rfl, rfl, sl2 _ _ (sl1 _ _ hG), upd_same, ?_, fun l3 hl3 => ?_⟩
  · rw [Vn_len]
    refine Nat.le_trans (show _ ≤ 1001 from ?_) (show 1001 ≤ sizeLine by decide)
    have : (List.replicate (if (!decide (ptn (mt ms) x ∈ hl)) = true then (1 : Int) else 0).toNat [V.int ((ptn (mt ms) x : Nat) : Int)]).flatten.length ≤ 1 := by
      split
      · exact Nat.le_refl 1
      · exact Nat.zero_le 1
    omega
  rw [← gr_V]
  refine gn ?_
  have sl3 := Same.new (o := .lst (Vn (gr hl (ptn (mt ms) x)))) hl3
  exact nx _ l3 _ (sg.trans (sl1.trans (sl2.trans sl3))) upd_same ((sg.trans (sl1.trans sl2)).free hl3)
end
end K37
-- K37l
set_option Elab.async false
set_option linter.all false
set_option maxRecDepth 100000
set_option maxHeartbeats 4000000
namespace K37
open PySem L2 DC LamX
/-- those of a row that are free in a lay -/
def lacks (js : List J2) (h : List Nat) : List Nat := h.filter fun e => (mt js e).isNone
theorem lacks_len (js : List J2) (h : List Nat) : (lacks js h).length = cn js h := by
  unfold lacks cn
  rw [List.countP_eq_length_filter]
theorem val_none {js : List J2} {kvs : List (Key × V)} (m : MtD js kvs) (e : Nat) : (!(valV kvs (.inl ((e : Nat) : Int))).isSome) = (mt js e).isNone := by
  rw [m e]
  cases mt js e <;> rfl
def kdV (a : Nat) : Option V := if a = 1 then some (.str "odd") else if a = 2 then some (.str "open") else if a = 0 then some (.str "shut") else none
theorem kd_disp (a : Nat) (k : Str) (ha : kdV a = some (.str k)) :
    valV (mergeK [] [((.inl 1 : Key), V.str "odd"), (.inl 2, .str "open"), (.inl 0, .str "shut")]) (.inl ((a : Nat) : Int)) = some (.str k) := by
  unfold kdV at ha
  split at ha
  · rename_i c; subst c; rw [← ha]; rfl
  · split at ha
    · rename_i c; subst c; rw [← ha]; rfl
    · split at ha
      · rename_i c; subst c; rw [← ha]; rfl
      · cases ha
theorem eqv_two (a b : Nat) : PyData.eqv (intD [((a : Nat) : Int), ((b : Nat) : Int)]) (intD [0, 0]) = decide (a = 0 ∧ b = 0) := by
  unfold intD
  simp only [List.map_cons, List.map_nil, PyData.eqv, PyData.eqvAll, Bool.and_true]
  rw [Bool.eq_iff_iff]
  simp only [Bool.and_eq_true, beq_iff_eq, decide_eq_true_eq]
  omega
section
variable {P : Program} {w : World} {K : PySem.W.Frag} {mg : Str → Option Value} {base : Heap}
def spKind (K : PySem.W.Frag) : Sp := fun vs H Q _ => ∃ (v1 v2 v3 : V) (n : Nat) (js ls : List J2) (p : Str × List Nat), vs = [v1, v2, v3] ∧ Ly K H v1 n js ∧ Ly K H v2 n ls ∧ Good n js ∧ Good n ls ∧ HpP K H v3 p ∧ Wpc n js ls p ∧
  ∀ H', Same H H' → Q (.str p.1) H'
abbrev N36 : List Str := ["one", "other", "heap", "near", "far", "lacks", "end"]
end
end K37
-- K37m
set_option Elab.async false
set_option linter.all false
set_option maxRecDepth 100000
set_option maxHeartbeats 4000000
namespace K37
open PySem L2 DC LamX
theorem sz_inj (p q : Str × List Nat) (h : PySem.W.keyToks (szD p) = PySem.W.keyToks (szD q)) : szD p = szD q := by
  unfold szD at h ⊢
  simp only [PySem.W.keyToks, PySem.W.keyToksAll, List.singleton_append, List.cons.injEq, Sum.inr.injEq, Sum.inl.injEq, true_and, and_true] at h
  rw [PySem.W.str_of_cps h.1, h.2]
theorem sz_same {ps qs : List (Str × List Nat)} (h : (ps.map szD).Perm (qs.map szD)) : (ps.map szD).mergeSort (PySem.W.dataLe false id) = (qs.map szD).mergeSort (PySem.W.dataLe false id) := by
  refine sort_same h fun a ha b hb e => ?_
  obtain ⟨p, _, rfl⟩ := List.mem_map.mp ha
  obtain ⟨q, _, rfl⟩ := List.mem_map.mp hb
  exact sz_inj p q e
theorem sizesD_of (ps : List (Str × List Nat)) : (ps.map szD).mergeSort (PySem.W.dataLe false id) = sizesD ps := by
  unfold sizesD byRow
  exact sz_same ((List.mergeSort_perm _ _).symm.map _)
theorem sizesD_perm {ps qs : List (Str × List Nat)} (h : ps.Perm qs) : sizesD ps = sizesD qs := by
  rw [← sizesD_of, ← sizesD_of]
  exact sz_same (h.map _)
theorem toks_ints : ∀ a b : List Int, PySem.W.keyToksAll (a.map PyData.int) = PySem.W.keyToksAll (b.map PyData.int) → a = b
  | [], [], _ => rfl
  | [], y :: ys, h => by
    simp only [List.map_nil, List.map_cons, PySem.W.keyToksAll, List.cons.injEq, Sum.inl.injEq] at h
    exact absurd h.1 (by decide)
  | x :: xs, [], h => by
    simp only [List.map_nil, List.map_cons, PySem.W.keyToksAll, List.cons.injEq, Sum.inl.injEq] at h
    exact absurd h.1 (by decide)
  | x :: xs, y :: ys, h => by
    simp only [List.map_cons, PySem.W.keyToksAll, PySem.W.keyToks, List.singleton_append, List.cons.injEq, Sum.inl.injEq, true_and] at h
    rw [h.1, toks_ints xs ys h.2]
theorem tup_inj (a b : List Int) (h : PySem.W.keyToks (tupD a) = PySem.W.keyToks (tupD b)) : tupD a = tupD b := by
  unfold tupD at h ⊢
  simp only [PySem.W.keyToks] at h
  rw [toks_ints a b h]
theorem row_same {as bs : List (List Int)} (h : (as.map tupD).Perm (bs.map tupD)) : (as.map tupD).mergeSort (PySem.W.dataLe false id) = (bs.map tupD).mergeSort (PySem.W.dataLe false id) := by
  refine sort_same h fun a ha b hb e => ?_
  obtain ⟨p, _, rfl⟩ := List.mem_map.mp ha
  obtain ⟨q, _, rfl⟩ := List.mem_map.mp hb
  exact tup_inj p q e
theorem rowsD_of (ps : List (Str × List Nat)) : (ps.map rowKey).mergeSort (PySem.W.dataLe false id) = (byRow ps).map rowKey := by
  unfold byRow
  exact (List.map_mergeSort (r := PySem.W.dataLe false rowKey) (s := PySem.W.dataLe false id) (f := rowKey) (l := ps) (fun a _ b _ => rfl)).symm
theorem rowsD_perm {ps qs : List (Str × List Nat)} (h : ps.Perm qs) : (byRow ps).map rowKey = (byRow qs).map rowKey := by
  rw [← rowsD_of, ← rowsD_of]
  have e : ∀ rs : List (Str × List Nat), rs.map rowKey = (rs.map fun p => nI p.2).map tupD := by
    intro rs
    rw [List.map_map]
    rfl
  rw [e, e]
  exact row_same ((h.map _).map _)
theorem HpP.up {K : PySem.W.Frag} {H H' : Hp} (e : Same H H') {v : V} {p : Str × List Nat} : HpP K H v p → HpP K H' v p
  | ⟨t, q, h⟩ => ⟨t, q, Same.t e h⟩
section
variable {P : Program} {w : World} {K : PySem.W.Frag} {mg : Str → Option Value} {base : Heap}
def spLp (K : PySem.W.Frag) : Sp := fun vs H Q _ => ∃ (v1 v2 : V) (n : Nat) (js ls : List J2), vs = [v1, v2] ∧ Ly K H v1 n js ∧ Ly K H v2 n ls ∧ Good n js ∧ Good n ls ∧
  ∀ (ps : List (Str × List Nat)) (r : Addr) (xs : List V) (H' : Hp), Same H H' → H r = none → H' r = some (.lst xs) → DpAll K H' xs (sizesD ps) → IsWeb n js ls ps → ps.length ≤ 2 * n → Q (.ref r) H'
abbrev N37 : List Str := ["one", "other", "heap"]
end
end K37
-- K37o
set_option Elab.async false
set_option linter.all false
set_option maxRecDepth 100000
set_option maxHeartbeats 4000000
namespace K37
open PySem L2 DC LamX
section
variable {K : PySem.W.Frag} {H H' : Hp}
theorem extN_l {a : Addr} {xs : List V} (e : ExtN H H') (h : SqL K H a xs) : SqL K H' a xs := by
  rcases h with (h | ⟨o, h⟩) | h
  · exact .inl (.inl (e _ _ h (fun _ z => nomatch z)))
  · exact .inl (.inr ⟨o, e _ _ h (fun _ z => nomatch z)⟩)
  · exact .inr h
mutual
theorem dpX (e : ExtN H H') : ∀ {d : PyData} {v : V}, Dp K H v d → Dp K H' v d
  | _, _, .non => .non
  | _, _, .bl b => .bl b
  | _, _, .int i => .int i
  | _, _, .str x => .str x
  | _, _, .lst h a => .lst (extN_l e h) (dpAllX e a)
  | _, _, .tup h a => .tup (extN_t e h) (dpAllX e a)
theorem dpAllX (e : ExtN H H') : ∀ {ds : List PyData} {vs : List V}, DpAll K H vs ds → DpAll K H' vs ds
  | _, _, .nil => .nil
  | _, _, .cons a b => .cons (dpX e a) (dpAllX e b)
end
theorem lyX (e : ExtN H H') {v : V} {n : Nat} {js : List J2} : Ly K H v n js → Ly K H' v n js
  | ⟨t, u, q, h, tj, ws, qj, hj, hp⟩ => ⟨t, u, q, extN_t e h, tj, ws, qj, extN_t e hj, L2.Paired.mapP hp fun _ _ ⟨t, q, h⟩ => ⟨t, q, extN_t e h⟩⟩
theorem lstX (e : ExtN H H') {a : Addr} {xs : List V} (h : H a = some (.lst xs)) : H' a = some (.lst xs) := e _ _ h (fun _ z => nomatch z)
theorem tupX (e : ExtN H H') {a : Addr} {xs : List V} (h : H a = some (.tup xs)) : H' a = some (.tup xs) := e _ _ h (fun _ z => nomatch z)
theorem dkX (e : ExtN H H') {a : Addr} {xs : List (Key × V)} (h : H a = some (.dK xs)) : H' a = some (.dK xs) := e _ _ h (fun _ z => nomatch z)
end
def layD (n : Nat) (js : List J2) : PyData := .tuple [.int (n : Nat), .tuple (js.map fun p => .tuple [.int (p.1 : Nat), .int (p.2 : Nat)])]
theorem js_dp {K : PySem.W.Frag} {H : Hp} : ∀ {vs : List V} {js : List J2}, Paired (Pr K H) vs js → DpAll K H vs (js.map fun p => .tuple [.int (p.1 : Nat), .int (p.2 : Nat)])
  | _, _, .nil => .nil
  | _, _, .cons ⟨t, e, h⟩ r => by
    subst e
    exact .cons (Dp.tup h (.cons (.int _) (.cons (.int _) .nil))) (js_dp r)
theorem ly_dp {K : PySem.W.Frag} {H : Hp} {v : V} {n : Nat} {js : List J2} (h : Ly K H v n js) : Dp K H v (layD n js) := by
  obtain ⟨t, u, rfl, hS, tj, ws, rfl, hj, hp⟩ := h
  exact Dp.tup hS (.cons (.int _) (.cons (Dp.tup hj (js_dp hp)) .nil))
theorem smAll_of : ∀ {ds : List PyData}, (∀ d ∈ ds, sm d = true) → smAll ds = true
  | [], _ => by simp only [smAll]
  | d :: ds, h => by
    simp only [smAll, h d List.mem_cons_self, smAll_of fun x hx => h x (List.mem_cons_of_mem _ hx), Bool.and_self]
theorem wtAll_le {B : Nat} : ∀ {ds : List PyData}, (∀ d ∈ ds, wt d ≤ B) → wtAll ds ≤ ds.length * (B + 2)
  | [], _ => by simp only [wtAll, List.length_nil, Nat.zero_mul, Nat.le_refl]
  | d :: ds, h => by
    have h1 := h d List.mem_cons_self
    have ih := wtAll_le (ds := ds) fun x hx => h x (List.mem_cons_of_mem _ hx)
    simp only [wtAll, List.length_cons]
    rw [Nat.add_mul]
    omega
theorem depthAll_le {B : Nat} : ∀ {ds : List PyData}, (∀ d ∈ ds, d.depth ≤ B) → PyData.depthAll ds ≤ B
  | [], _ => by simp only [PyData.depthAll, Nat.zero_le]
  | d :: ds, h => by
    have h1 := h d List.mem_cons_self
    have ih := depthAll_le (ds := ds) fun x hx => h x (List.mem_cons_of_mem _ hx)
    simp only [PyData.depthAll]
    omega
structure Short (d : PyData) (B D : Nat) : Prop where
  s : sm d = true
  w : wt d ≤ B
  p : d.depth ≤ D
theorem short_int {n : Nat} (h : n < 10 ^ 20) : Short (.int (n : Nat)) 21 0 := ⟨by simp only [sm, decide_eq_true_eq]; exact h, by simp only [wt, Nat.le_refl], by simp only [PyData.depth, Nat.le_refl]⟩
theorem short_tuple {ds : List PyData} {B D L : Nat} (h : ∀ d ∈ ds, Short d B D) (hl : ds.length ≤ L) : Short (.tuple ds) (L * (B + 2) + 4) (D + 1) := by
  refine ⟨by simp only [sm]; exact smAll_of fun d hd => (h d hd).s, ?_, ?_⟩
  · simp only [wt]
    have := wtAll_le (B := B) (ds := ds) fun d hd => (h d hd).w
    have := Nat.mul_le_mul_right (B + 2) hl
    omega
  · simp only [PyData.depth]
    have := depthAll_le (B := D) (ds := ds) fun d hd => (h d hd).p
    omega
theorem short_list {ds : List PyData} {B D L : Nat} (h : ∀ d ∈ ds, Short d B D) (hl : ds.length ≤ L) : Short (.list ds) (L * (B + 2) + 4) (D + 1) := by
  refine ⟨by simp only [sm]; exact smAll_of fun d hd => (h d hd).s, ?_, ?_⟩
  · simp only [wt]
    have := wtAll_le (B := B) (ds := ds) fun d hd => (h d hd).w
    have := Nat.mul_le_mul_right (B + 2) hl
    omega
  · simp only [PyData.depth]
    have := depthAll_le (B := D) (ds := ds) fun d hd => (h d hd).p
    omega
theorem Short.mono {d : PyData} {B D B' D' : Nat} (h : Short d B D) (hB : B ≤ B') (hD : D ≤ D') : Short d B' D' := ⟨h.s, Nat.le_trans h.w hB, Nat.le_trans h.p hD⟩
theorem short_lay {n : Nat} {js : List J2} (g : Good n js) : Short (layD n js) 2000 4 := by
  have tp := g.top
  have le := g.le
  unfold layD
  have h2 : Short (.tuple (js.map fun p => .tuple [.int (p.1 : Nat), .int (p.2 : Nat)])) (12 * (50 + 2) + 4) 2 := by
    refine short_tuple (B := 50) (D := 1) (fun d hd => ?_) (by rw [List.length_map]; omega)
    obtain ⟨p, hp, rfl⟩ := List.mem_map.mp hd
    have r := g.rng p hp
    refine (short_tuple (B := 21) (D := 0) (L := 2) (fun d hd => ?_) (Nat.le_refl _)).mono (by decide) (by decide)
    simp only [List.mem_cons, List.not_mem_nil, or_false] at hd
    rcases hd with rfl | rfl
    · exact short_int (by omega)
    · exact short_int (by omega)
  refine (short_tuple (B := 628) (D := 2) (L := 2) (fun d hd => ?_) (Nat.le_refl _)).mono (by decide) (by decide)
  simp only [List.mem_cons, List.not_mem_nil, or_false] at hd
  rcases hd with rfl | rfl
  · exact (short_int (by omega)).mono (by decide) (by decide)
  · exact h2
section
variable {n : Nat} {js ls : List J2} {ps : List (Str × List Nat)}
theorem short_str {k : Str} (h : k = "ring" ∨ k = "odd" ∨ k = "open" ∨ k = "shut") : Short (.str k) 1002 0 := by
  refine ⟨?_, by simp only [wt, Nat.le_refl], by simp only [PyData.depth, Nat.le_refl]⟩
  rcases h with rfl | rfl | rfl | rfl <;> decide +kernel
theorem wpc_kind (g1 : Good n js) (g2 : Good n ls) {p : Str × List Nat} (h : Wpc n js ls p) : p.1 = "ring" ∨ p.1 = "odd" ∨ p.1 = "open" ∨ p.1 = "shut" := by
  rcases wpc_cnt g1 g2 h with ⟨_, _, c⟩ | ⟨_, _, c⟩ | ⟨_, _, c⟩ | ⟨_, _, c⟩
  · exact .inl c
  · exact .inr (.inl c)
  · exact .inr (.inr (.inl c))
  · exact .inr (.inr (.inr c))
theorem wpc_len {p : Str × List Nat} (h : Wpc n js ls p) : p.2.length ≤ 2 * n := by
  have q := nodup_le (m := List.range (2 * n)) (wpc_nd h) fun x hx => List.mem_range.mpr (wpc_lt h x hx)
  rw [List.length_range] at q
  exact q
end
end K37
-- DD
set_option Elab.async false
set_option linter.all false
set_option maxRecDepth 100000
set_option maxHeartbeats 4000000
/-! DD: displays of data (tuples and lists of ints and texts), read as a whole. -/
namespace DC
open PySem L2
mutual
inductive Dsp : TE → PyData → Prop
  | int (i : Int) : Dsp (tC (.int i)) (.int i)
  | str (x : Str) : Dsp (tC (.str x)) (.str x)
  | tup {t : TA} {ds : List PyData} : DspA t ds → ds.length ≤ 1000 → Dsp (tTup t) (.tuple ds)
  | lst {t : TA} {ds : List PyData} : DspA t ds → ds.length ≤ 1000 → Dsp (tLst t) (.list ds)
inductive DspA : TA → List PyData → Prop
  | nil : DspA tNil []
  | cons {te : TE} {d : PyData} {t : TA} {ds : List PyData} : Dsp te d → DspA t ds → DspA (tCons te t) (d :: ds)
end
mutual
theorem dsp_ok {K : PySem.W.Frag} : ∀ {te : TE} {d : PyData}, Dsp te d → ∀ {σ : L2.St} {H : Hp} {Q : V → Hp → Prop}, (∀ v H', Same H H' → Dp K H' v d → Q v H') → te σ H Q
  | _, _, .int i, σ, H, Q, q => q _ _ (fun _ _ h => h) (.int i)
  | _, _, .str x, σ, H, Q, q => q _ _ (fun _ _ h => h) (.str x)
  | _, _, .tup (ds := ds) a hz, σ, H, Q, q => dspA_ok (K := K) a fun xs H1 s1 h1 => ⟨by rw [dpAll_len h1]; exact Nat.le_trans hz (by decide), fun p hp => q _ _ (s1.trans (Same.new hp)) (Dp.tup (SqT.of upd_same) (DpAll.up (Same.new hp) h1))⟩
  | _, _, .lst (ds := ds) a hz, σ, H, Q, q => dspA_ok (K := K) a fun xs H1 s1 h1 => ⟨by rw [dpAll_len h1]; exact Nat.le_trans hz (by decide), fun p hp => q _ _ (s1.trans (Same.new hp)) (Dp.lst (SqL.of upd_same) (DpAll.up (Same.new hp) h1))⟩
theorem dspA_ok {K : PySem.W.Frag} : ∀ {t : TA} {ds : List PyData}, DspA t ds → ∀ {σ : L2.St} {H : Hp} {Q : List V → Hp → Prop}, (∀ xs H', Same H H' → DpAll K H' xs ds → Q xs H') → t σ H Q
  | _, _, .nil, σ, H, Q, q => q [] H (fun _ _ h => h) .nil
  | _, _, .cons a b, σ, H, Q, q => dsp_ok (K := K) a fun v H1 s1 h1 => dspA_ok (K := K) b fun xs H2 s2 h2 => q (v :: xs) H2 (s1.trans s2) (.cons (Dp.up s2 h1) h2)
end
/-- the one thing of a call's arguments that is left -/
theorem dsp_one {K : PySem.W.Frag} {te : TE} {d : PyData} (a : Dsp te d) {σ : L2.St} {H : Hp} {Q : List V → Hp → Prop} (q : ∀ v H', Same H H' → Dp K H' v d → Q [v] H') : tCons te tNil σ H Q :=
  dspA_ok (K := K) (.cons a .nil) fun xs H' s h => by
    cases h with
    | cons h1 h2 =>
      cases h2
      exact q _ _ s h1
theorem dsp_set {K : PySem.W.Frag} {te : TE} {d : PyData} (a : Dsp te d) {i : Nat} {D : Ends} {σ : L2.St} {H : Hp} (q : ∀ v H', Same H H' → Dp K H' v d → D.nx (σ.set i (some v)) H') : tAsg te (gName i) D σ H :=
  dsp_ok (K := K) a fun v H' s h => q v H' s h
theorem dsp_cons {K : PySem.W.Frag} {te : TE} {d : PyData} (a : Dsp te d) {ta : TA} {σ : L2.St} {H : Hp} {Q : List V → Hp → Prop} (q : ∀ v H', Same H H' → Dp K H' v d → ta σ H' fun xs H2 => Q (v :: xs) H2) : tCons te ta σ H Q :=
  dsp_ok (K := K) a fun v H' s h => q v H' s h
theorem lst_i {t : TA} {σ : L2.St} {H : Hp} {Q : V → Hp → Prop} (h : t σ H fun xs H1 => xs.length ≤ sizeLine ∧ ∀ p, H1 p = none → Q (.ref p) (upd H1 p (.lst xs))) : tLst t σ H Q := h
theorem cons_i {te : TE} {ta : TA} {σ : L2.St} {H : Hp} {Q : List V → Hp → Prop} (h : te σ H fun x H1 => ta σ H1 fun xs H2 => Q (x :: xs) H2) : tCons te ta σ H Q := h
theorem call_i {sp : Sp} {dvs : List V} {E : XK} {t : TA} {σ : L2.St} {H : Hp} {Q : V → Hp → Prop} (h : t σ H fun vs H1 => sp (vs ++ dvs) H1 Q E) : tCall sp dvs E t σ H Q := h
theorem seq_i {a b : TS} {D : Ends} {σ : L2.St} {H : Hp} (h : a { D with nx := b D } σ H) : tSeq a b D σ H := h
theorem asg_i {te : TE} {g : TG} {D : Ends} {σ : L2.St} {H : Hp} (h : te σ H fun x H1 => g x σ H1 D.nx) : tAsg te g D σ H := h
theorem var_i {i : Nat} {v : V} {σ : L2.St} {H : Hp} {Q : V → Hp → Prop} (e : σ[i]? = some (some v)) (h : Q v H) : tVar i σ H Q := ⟨v, e, h⟩
abbrev tI (i : Int) : TE := tC (.int i)
abbrev tP (a b : Int) : TE := tTup (tCons (tI a) (tCons (tI b) tNil))
theorem dsP {a b : Nat} {x y : Int} (hx : x = (a : Nat)) (hy : y = (b : Nat)) : Dsp (tP x y) (.tuple [.int (a : Nat), .int (b : Nat)]) := by
  subst hx hy
  exact .tup (.cons (.int _) (.cons (.int _) .nil)) (show 2 ≤ 1000 by decide)
theorem dsI : ∀ is : List Int, DspA (is.foldr (fun i t => tCons (tI i) t) tNil) (is.map PyData.int)
  | [] => .nil
  | i :: is => .cons (.int i) (dsI is)
theorem dp_tup2 {K : PySem.W.Frag} {H : Hp} {v : V} {d e : PyData} (h : Dp K H v (.tuple [d, e])) : ∃ t x y, v = .ref t ∧ SqT K H t [x, y] ∧ Dp K H x d ∧ Dp K H y e := by
  cases h with
  | tup hS ha =>
    cases ha with
    | cons h1 t1 =>
      cases t1 with
      | cons h2 t2 =>
        cases t2
        exact ⟨_, _, _, rfl, hS, h1, h2⟩
end DC
-- DWT
set_option Elab.async false
set_option linter.all false
set_option maxRecDepth 100000
set_option maxHeartbeats 4000000
/-! DWT: a law's end over OkG where one lambda is made: its maker's table of code objects is written. -/
namespace DC
open PySem PySem.Spec PyProof.Rows L2 Evl LamX
/-- the main module as the top's name for the built-ins tells it -/
def BmAt (mg : Str → Option Value) (h : Heap) : Prop :=
  ∃ (bm : Addr) (ob : Obj), mg "__builtins__" = some (.ref bm) ∧ bm ≠ builtinsNs ∧ h.get? bm = some ob ∧ ob.cls = .type "module" ∧ ob.dict = some builtinsNs ∧ ob.data = .plain
/-- a maker's code object at c, its table at T, empty still -/
structure TabHd (K : PySem.W.Frag) (h : Heap) (c T : Addr) : Prop where
  emp : h.get? T = some { cls := .none, data := .fields #[] }
  out : K.lookup T = none
  hd : PySem.W.CodeHd h c T
/-- the heap that is looked at: the table, and what is told of the script -/
def HT0 (T a : Addr) (u : Option HO) : Hp := fun b => if b = T then some (.tbl #[]) else if b = a then u else none
theorem HT0.t {T a : Addr} {u : Option HO} : HT0 T a u T = some (.tbl #[]) := if_pos rfl
theorem HT0.a {T a : Addr} {u : Option HO} (h : a ≠ T) : HT0 T a u a = u := by
  unfold HT0
  rw [if_neg h, if_pos rfl]
theorem HT0.n {T a b : Addr} {u : Option HO} (h : b ≠ T) (h2 : b ≠ a) : HT0 T a u b = none := by
  unfold HT0
  rw [if_neg h, if_neg h2]
theorem endT {P : Program} {w : World} {K : PySem.W.Frag} {mg mb : Str → Option Value} {cx : CXT} {k : Nat} {fa a c T : Addr} {fd : FuncData} {x : Str} {sp : Sp}
    {s₁ : Shared} {vs : List Value} {ns : List Int} (KX : K.In s₁.heap) (hns : s₁.heap.Ns mainGlobals mg) (hb : s₁.heap.Ns builtinsNs mb)
    (hbb : ∀ x : Str, x ≠ "__name__" → mb x = bootBuiltins x) (hlim : s₁.heap.NoLimit) (hg : s₁.gens = #[]) (th : TabHd K s₁.heap c T) (hbm : BmAt mg s₁.heap)
    (ha : s₁.heap.get? a = some { cls := .type "list", data := .seq vs.toArray }) (hi : IntsAre vs ns) (hl : ns.length ≤ sizeLine) (hr : Room k callerA)
    (F : ∀ base : Heap, K.In base → base.Ns mainGlobals mg → TabB base mg c T → OkG P w K mg base cx k fa fd [x] sp)
    (hbind : ∀ (s : Shared) (u : Value), BindsTo s fd ⟨[u], []⟩ [(x, u)])
    (hsp : ∀ H : Hp, H T = some (.tbl #[]) → SqL K H a (ns.map V.int) → sp [.ref a] H (fun v _ => v = .bl true) fun _ _ _ => False)
    (hcx : ∀ H e s', cx [] H s₁ (fun _ _ _ => False) e s' → False) :
    codeAny (model P w) callerA (.call (.ref fa) ⟨[.ref a], []⟩)
      (fun r s' => r = .ok (.ret (.bool true)) ∧ OldK s₁.heap s'.heap ∧ s'.os = s₁.os ∧ AllBare s'.gens) s₁ := by
  have vals := vals_ints hi
  have vlen := hi.length
  have naT : a ≠ T := by
    rintro rfl
    have e := ha.symm.trans th.emp
    cases (show Data.seq vs.toArray _ = Data.fields #[] from congrArg Obj.data (Option.some.inj e))
  obtain ⟨u, hu, hS, hK⟩ : ∃ u : Option HO, (u = none ∨ u = some (.frz { cls := .type "list", data := .seq vs.toArray } (.lst (ns.map V.int)))) ∧ SqL K (HT0 T a u) a (ns.map V.int) ∧ (u ≠ none → K.lookup a = none) := by
    cases hk : K.lookup a with
    | some o =>
      have e := KX a o hk
      rw [ha] at e
      cases e
      exact ⟨none, .inl rfl, .inr ⟨_, vs.toArray, _, hk, rfl, rfl, rfl, by rw [List.size_toArray, vlen]; exact hl, by simpa using vals⟩, fun z => absurd rfl z⟩
    | none => exact ⟨_, .inr rfl, .inl (.inr ⟨_, HT0.a naT⟩), fun _ => rfl⟩
  have hok : HOk P w (HT0 T a u) s₁.heap := by
    intro b o z
    by_cases bT : b = T
    · subst bT
      cases HT0.t.symm.trans z
      exact th.emp
    · by_cases ba : b = a
      · subst ba
        rw [HT0.a naT] at z
        rcases hu with rfl | rfl
        · cases z
        · cases z
          exact ⟨ha, by rw [List.length_map]; exact hl, vs, _, vals, ha⟩
      · cases (HT0.n bT ba).symm.trans z
  -- what is neither a list nor an empty thing of fields is not looked at
  have off : ∀ {b : Addr} {o : Obj}, s₁.heap.get? b = some o → (∀ z m, o.data = .seq z m → False) → (o.data = .fields #[] → False) → HT0 T a u b = none := by
    intro b o e n1 n2
    refine HT0.n ?_ ?_
    · rintro rfl
      obtain rfl := Option.some.inj (th.emp.symm.trans e)
      exact n2 rfl
    · rintro rfl
      obtain rfl := Option.some.inj (ha.symm.trans e)
      exact n1 _ _ rfl
  have keepN : ∀ {b : Addr} {o : Obj}, s₁.heap.get? b = some o → HT0 T a u b = none → (hidT s₁.heap (HT0 T a u)).get? b = some o := fun e n => hidT_get e n
  have nsK : ∀ {b : Addr} {m : Str → Option Value}, s₁.heap.Ns b m → (hidT s₁.heap (HT0 T a u)).Ns b m := by
    rintro b m ⟨o, es, ep, e, d, r⟩
    exact ⟨o, es, ep, keepN e (off e (fun _ _ z => by rw [d] at z; cases z) fun z => by rw [d] at z; cases z), d, r⟩
  have hKb : K.In (hidT s₁.heap (HT0 T a u)) := by
    intro b o e
    refine keepN (KX b o e) ?_
    by_cases bT : b = T
    · subst bT
      rw [th.out] at e
      cases e
    · by_cases ba : b = a
      · subst ba
        rw [HT0.a naT]
        rcases hu with rfl | rfl
        · rfl
        · rw [hK (fun z => nomatch z)] at e
          cases e
      · exact HT0.n bT ba
  have nGT : mainGlobals ≠ T := by
    intro z
    obtain ⟨o, es, ep, e, d, _⟩ := hns
    rw [z] at e
    obtain rfl := Option.some.inj (th.emp.symm.trans e)
    cases d
  have tb : TabB (hidT s₁.heap (HT0 T a u)) mg c T := by
    refine ⟨?_, ?_, nGT⟩
    · obtain ⟨o, us, file, tf, flags, tg, inF, text, tt, e1, r1, r2, r3, rest⟩ := th.hd
      refine ⟨o, us, file, tf, flags, tg, inF, text, tt, keepN e1 (off e1 (fun _ _ z => ?_) fun z => ?_), r1, r2, r3, rest⟩
      · rw [r2] at z; cases z
      · rw [r2] at z
        cases z
        simp at r3
    · obtain ⟨bm, ob, b1, b2, b3, b4, b5, b6⟩ := hbm
      have kp := keepN b3 (off b3 (fun _ _ z => by rw [b6] at z; cases z) fun z => by rw [b6] at z; cases z)
      refine ⟨bm, ob, b1, b2, ?_, ?_, kp, b4, b5, b6⟩
      · rintro rfl
        obtain ⟨o, es, ep, e, d, _⟩ := hns
        obtain rfl := Option.some.inj (b3.symm.trans e)
        rw [b6] at d
        cases d
      · rintro rfl
        obtain rfl := Option.some.inj (th.emp.symm.trans b3)
        cases b6
  obtain ⟨mc, l1, l2⟩ := hlim
  have hM : Mod K mg (hidT s₁.heap (HT0 T a u)) := ⟨hKb, nsK hns, ⟨mb, nsK hb, hbb⟩, ⟨mc, nsK l1, l2⟩⟩
  have nil : ∀ b : Addr, b ∉ ([] : List Addr) := fun b z => nomatch z
  have e0 : Env0 P w K mg (hidT s₁.heap (HT0 T a u)) callerA [] s₁ (HT0 T a u) :=
    ⟨rfl, hM, fun b o e => of_hidT e, Nat.le_of_eq (hidT_size _ _), trivial, fun b hb => absurd (show b ∈ ([] : List Addr) from hb) (nil b), hok, .of_eq hg⟩
  have run := (F _ hKb (nsK hns) tb).go callerA [] s₁ (HT0 T a u) ⟨[.ref a], []⟩ [.ref a] [.ref a] _ _ rfl hr e0 (hbind s₁ (.ref a)) (.cons rfl .nil) (hsp _ HT0.t hS)
  refine codeAny_mono run ?_
  intro r s' h
  match r, h with
  | .error e, h => exact (hcx _ e s' h).elim
  | .ok (.ret z), ⟨v, H', os, bare, un, hok', r', q⟩ =>
    obtain rfl : v = .bl true := q
    obtain rfl : z = Value.bool true := r'
    -- the table may have grown, all else stands
    have rest : ∀ b o, b ≠ T → s₁.heap.get? b = some o → s'.heap.get? b = some o := by
      intro b o bT e
      by_cases ba : b = a
      · subst ba
        rcases hu with rfl | rfl
        · exact un.keep b o e (HT0.a naT) (fun z => absurd (show b ∈ ([] : List Addr) from z) (nil b)) (nil b)
        · obtain ⟨e2, _⟩ := hok' b _ (un.frzs b _ _ (HT0.a naT))
          rw [ha] at e
          obtain rfl := Option.some.inj e
          exact e2
      · exact un.keep b o e (HT0.n bT ba) (fun z => absurd (show b ∈ ([] : List Addr) from z) (nil b)) (nil b)
    obtain ⟨more, hmore⟩ := un.tbls T #[] HT0.t
    have grown := hok' T _ hmore
    refine ⟨rfl, ⟨fun b o e => ?_, fun b o e => ?_⟩, os, bare⟩
    · by_cases bT : b = T
      · subst bT
        obtain rfl := Option.some.inj (th.emp.symm.trans e)
        refine .inr (.inl ⟨(th.hd.tab th.emp).isCodeTable, rfl, #[], more, rfl, ?_⟩)
        rw [Array.empty_append]
        have g := grown
        rw [Array.empty_append] at g
        exact g
      · exact .inl (rest b o bT e)
    · by_cases bT : b = T
      · subst bT
        exact ⟨_, grown⟩
      · exact ⟨o, rest b o bT e⟩

theorem walkT {l : PySem.W.OpenLaw} {n k : Nat} {q : Program} {loose : List Str} {XP : (Str → Option Value) → Heap → Prop} {YP : World → Heap → Prop}
    {d : DefRec} {K : Params → PySem.W.Frag} {cx : World → CXT} {sp : World → Addr → Sp} {x : Str}
    (hn : l.most = some n) (hn2 : n ≤ sizeLine) (hdf : d.params.defaults = []) (hr : Room k callerA)
    (hY : ∀ (w : World) (h : Heap), YP w h → (K w.params).In h)
    (F : ∀ (w : World) (mg : Str → Option Value) (fa : Addr) (h : Heap), YP w h → (K w.params).In h → h.Ns mainGlobals mg → mg d.name = some (.ref fa) →
      ∃ (fd : FuncData) (c T : Addr), TabHd (K w.params) h c T ∧ (∀ (s : Shared) (u : Value), BindsTo s fd ⟨[u], []⟩ [(x, u)]) ∧
        ∀ base : Heap, (K w.params).In base → base.Ns mainGlobals mg → TabB base mg c T → OkG l.prog w (K w.params) mg base (cx w) k fa fd [x] (sp w T))
    (hsp : ∀ (w : World) (T : Addr) (H : Hp) (a : Addr) (ns : List Int), ns.length ≤ n → H T = some (.tbl #[]) → SqL (K w.params) H a (ns.map V.int) → sp w T [.ref a] H (fun v _ => v = .bl true) fun _ _ _ => False)
    (hcx : ∀ (w : World) (H : Hp) (s : Shared) (e : Value) (s' : Shared), cx w [] H s (fun _ _ _ => False) e s' → False) :
    PySem.W.WalkO q loose XP YP l.row.toRowW d [] (fun f vs => PySem.call f vs) := by
  refine Att.attach_callB hn hdf ?_
  intro w s₀ s₁ mg mb fa o pm cd doc a vs ns G Y ho hd hcd hmg hobj hints hlen hbits hg
  have KX := hY w _ Y
  obtain ⟨fd, c, T, th, hb, hF⟩ := F w mg fa _ Y KX G.T.g hmg
  exact endT KX G.T.g G.T.b G.T.builtins G.T.nolimit hg th G.T.bmain hobj hints (Nat.le_trans hlen hn2) hr hF hb (fun H hH hS => hsp w T H a ns hlen hH hS) (fun H e s' => hcx w H s₁ e s')
end DC
-- K37r
set_option Elab.async false
set_option linter.all false
set_option maxRecDepth 100000
set_option maxHeartbeats 4000000
namespace K37
open PySem L2 DC LamX
theorem dp_pr {K : PySem.W.Frag} {H : Hp} {v : V} {p : J2} (h : Dp K H v (.tuple [.int (p.1 : Nat), .int (p.2 : Nat)])) : Pr K H v p := by
  obtain ⟨t, x, y, rfl, hS, h1, h2⟩ := dp_tup2 h
  cases h1
  cases h2
  exact ⟨t, rfl, hS⟩
theorem dp_prs {K : PySem.W.Frag} {H : Hp} : ∀ {vs : List V} {js : List J2}, DpAll K H vs (js.map fun p => .tuple [.int (p.1 : Nat), .int (p.2 : Nat)]) → Paired (Pr K H) vs js
  | _, [], h => by
    cases h
    exact .nil
  | _, p :: js, h => by
    rw [List.map_cons] at h
    cases h with
    | cons a t => exact .cons (dp_pr a) (dp_prs t)
theorem dp_ly {K : PySem.W.Frag} {H : Hp} {v : V} {n : Nat} {js : List J2} (h : Dp K H v (layD n js)) : Ly K H v n js := by
  obtain ⟨t, x, y, rfl, hS, h1, h2⟩ := dp_tup2 h
  cases h1
  cases h2 with
  | tup hT ha => exact ⟨t, _, rfl, hS, _, _, rfl, hT, dp_prs ha⟩
theorem dsL {n : Nat} {zn : Int} (hn : zn = (n : Nat)) {t : TA} {js : List J2} (h : DspA t (js.map fun p => .tuple [.int (p.1 : Nat), .int (p.2 : Nat)])) (hl : js.length ≤ 1000) : Dsp (tTup (tCons (tI zn) (tCons (tTup t) tNil))) (layD n js) := by
  subst hn
  exact .tup (.cons (.int _) (.cons (.tup h (by rw [List.length_map]; exact hl)) .nil)) (by show 2 ≤ 1000; decide)
section
variable {n : Nat} {js ls : List J2} {a k : Nat} {row : List Nat} {kd : Str}
end
end K37
-- K37ta
set_option Elab.async false
set_option linter.all false
set_option maxRecDepth 100000
set_option maxHeartbeats 4000000
namespace K37
open PySem L2 DC
abbrev Lot := List (Str × Nat)
def szs (ps : List (Str × List Nat)) : Lot := ps.map fun p => (p.1, p.2.length)
def PcOk (p : Str × Nat) : Prop := (p.1 = "odd" ∧ p.2 % 2 = 1) ∨ ((p.1 = "ring" ∨ p.1 = "open" ∨ p.1 = "shut") ∧ 2 ≤ p.2 ∧ p.2 % 2 = 0)
def szSum (l : Lot) : Nat := (l.map fun p => p.2).sum
theorem pc_pos {p : Str × Nat} (h : PcOk p) : 1 ≤ p.2 := by
  rcases h with ⟨_, h⟩ | ⟨_, h, _⟩ <;> omega
section
variable {P : Program} {w : World} {K : PySem.W.Frag} {mg : Str → Option Value} {base : Heap}
end
end K37

set_option Elab.async false
set_option linter.all false
set_option maxRecDepth 100000
set_option maxHeartbeats 4000000
namespace K37
open PySem L2 DC
def pcost (k : Str) (s : Nat) : Int := if k = "ring" then ((s / 2 : Nat) : Int) - 1 else ((s / 2 : Nat) : Int)
section
variable {P : Program} {w : World} {K : PySem.W.Frag} {mg : Str → Option Value} {base : Heap}
def spPco : Sp := fun vs H Q _ => ∃ (k : Str) (s : Nat), vs = [.str k, .int (s : Nat)] ∧ Q (.int (pcost k s)) H
end
end K37

set_option Elab.async false
set_option linter.all false
set_option maxRecDepth 100000
set_option maxHeartbeats 4000000
namespace K37
open PySem L2 DC LamX
theorem szSum_cons (p : Str × Nat) (l : Lot) : szSum (p :: l) = p.2 + szSum l := by
  unfold szSum
  rw [List.map_cons, List.sum_cons]
section
variable {f g : Nat → Option Nat} {b s : Nat}
end
section
variable {n b s : Nat} {js ls A : List J2}
end
section
variable {n : Nat} {js ls : List J2}
end
end K37

set_option Elab.async false
set_option linter.all false
set_option maxRecDepth 100000
set_option maxHeartbeats 4000000
namespace K37
open PySem L2 DC LamX
theorem flat_nd : ∀ {ps : List (Str × List Nat)}, (∀ p ∈ ps, p.2.Nodup) → ps.Pairwise (fun p q => ∀ e, e ∈ p.2 → e ∉ q.2) → (ps.flatMap fun p => p.2).Nodup
  | [], _, _ => List.nodup_nil
  | p :: ps, h, d => by
    have d' := List.pairwise_cons.mp d
    rw [List.flatMap_cons]
    refine List.nodup_append.mpr ⟨h p List.mem_cons_self, flat_nd (fun q hq => h q (List.mem_cons_of_mem _ hq)) d'.2, fun a ha b hb e => ?_⟩
    subst e
    obtain ⟨q, hq, hm⟩ := List.mem_flatMap.mp hb
    exact d'.1 q hq a ha hm
theorem flat_len : ∀ ps : List (Str × List Nat), (ps.flatMap fun p => p.2).length = szSum (szs ps)
  | [] => rfl
  | p :: ps => by
    rw [List.flatMap_cons, List.length_append, flat_len ps]
    show _ = szSum ((p.1, p.2.length) :: szs ps)
    rw [szSum_cons]
section
variable {n : Nat} {js ls : List J2} {ps qs : List (Str × List Nat)}
theorem web_sum (W : IsWeb n js ls ps) (g1 : Good n js) (g2 : Good n ls) : szSum (szs ps) = 2 * n := by
  have dis : ps.Pairwise (fun p q => ∀ e, e ∈ p.2 → e ∉ q.2) := by
    refine List.Pairwise.imp_of_mem (fun {p q} hp hq hne e h1 h2 => ?_) W.nd
    exact hne (wpc_uniq g1 g2 ((W.mem p).mp hp) ((W.mem q).mp hq) h1 h2)
  have nd := flat_nd (fun p hp => wpc_nd ((W.mem p).mp hp)) dis
  have pm : (ps.flatMap fun p => p.2).Perm (List.range (2 * n)) := by
    refine (List.perm_ext_iff_of_nodup nd List.nodup_range).mpr fun e => ?_
    rw [List.mem_flatMap, List.mem_range]
    constructor
    · rintro ⟨p, hp, he⟩
      exact wpc_lt ((W.mem p).mp hp) e he
    · intro he
      exact W.cov g1 g2 e he
  rw [← flat_len, pm.length_eq, List.length_range]
theorem pc_wpc (g1 : Good n js) (g2 : Good n ls) {p : Str × List Nat} (h : Wpc n js ls p) : PcOk (p.1, p.2.length) := by
  obtain ⟨a, ha, c, ⟨hl, ⟨kd, hP, ek⟩, _⟩ | ⟨hn, ek, ⟨k, R, er⟩, _⟩⟩ := h
  · have hk : kd = "open" ∨ kd = "shut" := by
      obtain ⟨_, ⟨_, _, _, e⟩ | ⟨_, _, _, e⟩⟩ := hP
      · exact .inl e
      · exact .inr e
    have pos : 0 < p.2.length := List.length_pos_of_mem c.beg
    unfold oddK at ek
    by_cases o : p.2.length % 2 = 1
    · rw [if_pos o] at ek
      exact .inl ⟨ek, o⟩
    · rw [if_neg o] at ek
      refine .inr ⟨?_, by show 2 ≤ p.2.length; omega, by show p.2.length % 2 = 0; omega⟩
      show p.1 = "ring" ∨ p.1 = "open" ∨ p.1 = "shut"
      rw [ek]
      exact .inr hk
  · have pos := R.pos
    have hlen : p.2.length = k := by rw [er, rj_len]
    have ev : k % 2 = 0 := by
      rcases R.fin with z | z
      · exfalso
        obtain ⟨y, hy⟩ := R.all (k - 1) (by omega)
        have hm : y ∈ p.2 := by
          rw [er]
          exact (mem_rj R.toPj).mpr ⟨k - 1, by omega, hy⟩
        have e := jt_next hy
        rw [show k - 1 + 1 = k by omega, z] at e
        refine hn y hm ?_
        unfold hh at e
        split at e
        · exact .inl e.symm
        · exact .inr e.symm
      · by_cases o : k % 2 = 0
        · exact o
        · rw [show k = 0 + (2 * (k / 2) + 1) by omega] at z
          exact (jt_odd g1.mt g2.mt (k / 2) 0 a rfl z).elim
    refine .inr ⟨.inl ek, ?_, ?_⟩
    · show 2 ≤ p.2.length
      omega
    · show p.2.length % 2 = 0
      omega
end
end K37
-- C16
set_option Elab.async false
set_option linter.all false
set_option maxRecDepth 100000
set_option maxHeartbeats 4000000
/-! C16: what a web costs, reckoned. -/
namespace DC
open PySem L2
def hpx (f g : Nat → Option Nat) : Nat → List Nat → Nat → List Nat
  | 0, hl, _ => hl
  | k + 1, hl, at_ => match hl[at_]? with
    | some x => hpx f g k (gr (gr hl (ptn f x)) (ptn g x)) (at_ + 1)
    | none => hl
theorem hpx_ok {f g : Nat → Option Nat} {a : Nat} : ∀ (k : Nat) {hl : List Nat} {at_ j : Nat}, Hh f g a hl at_ j → ∃ at', Hh f g a (hpx f g k hl at_) at' (j + k)
  | 0, hl, at_, j, h => ⟨at_, h⟩
  | k + 1, hl, at_, j, h => by
    unfold hpx
    cases e : hl[at_]? with
    | some x =>
      obtain ⟨at', h'⟩ := hpx_ok k (h.next e)
      exact ⟨at', by rw [show j + (k + 1) = j + 1 + k by omega]; exact h'⟩
    | none =>
      have c : ¬ at_ < hl.length := fun z => by
        rw [List.getElem?_eq_getElem z] at e
        cases e
      have gen : ∀ i, Hh f g a hl at_ (j + i) := by
        intro i
        induction i with
        | zero => exact h
        | succ i ih => exact ih.stay c
      exact ⟨at_, gen (k + 1)⟩
def hpsx (n : Nat) (js ls : List J2) : Nat → List Nat → List (List Nat) → List (List Nat)
  | 0, _, acc => acc
  | _ + 1, [], acc => acc
  | k + 1, a :: er, acc => hpsx n js ls k ((a :: er).filter fun e => !decide (e ∈ hpx (mt js) (mt ls) (2 * n) [a] 0)) (acc ++ [hpx (mt js) (mt ls) (2 * n) [a] 0])
section
variable {n : Nat} {js ls : List J2}
theorem hpsx_ok (g1 : Good n js) (g2 : Good n ls) : ∀ (k : Nat) {es : List Nat} {acc : List (List Nat)} {i : Nat}, Ho n js ls (acc.map asc) es i → i + k = 2 * n → Hps n js ls ((hpsx n js ls k es acc).map asc)
  | 0, es, acc, i, h, e => by
    obtain rfl : i = 2 * n := by omega
    exact h.fin
  | k + 1, [], acc, i, h, e => by
    unfold hpsx
    have gen : ∀ d, Ho n js ls (acc.map asc) [] (i + d) := by
      intro d
      induction d with
      | zero => exact h
      | succ d ih => exact ih.stay
    have := gen (k + 1)
    rw [e] at this
    exact this.fin
  | k + 1, a :: er, acc, i, h, e => by
    unfold hpsx
    have ha := h.lt a List.mem_cons_self
    obtain ⟨at', hh⟩ := hpx_ok (f := mt js) (g := mt ls) (2 * n) (Hh.zero (f := mt js) (g := mt ls) (a := a))
    rw [Nat.zero_add] at hh
    have c := hh.fin g1.mt g2.mt ha
    have h' := h.next g1 g2 c
    refine hpsx_ok g1 g2 k (i := i + 1) ?_ (by omega)
    rw [List.map_append]
    exact h'
def hset (n : Nat) (js ls : List J2) : List (List Nat) := hpsx n js ls (2 * n) (List.range (2 * n)) []
theorem hset_ok (g1 : Good n js) (g2 : Good n ls) : Hps n js ls ((hset n js ls).map asc) := hpsx_ok g1 g2 (2 * n) Ho.zero (Nat.zero_add _)
def isRg (js ls : List J2) (h : List Nat) : Bool := cn js h == 0 && cn ls h == 0
def isOd (js : List J2) (h : List Nat) : Bool := cn js h == 1
def rgs (n : Nat) (js ls : List J2) : Nat := (hset n js ls).countP (isRg js ls)
def ods (n : Nat) (js ls : List J2) : Nat := (hset n js ls).countP (isOd js)
def cst (n : Nat) (js ls : List J2) : Nat := n - rgs n js ls - ods n js ls / 2
theorem cnt_asc (q : List Nat → Bool) (hq : ∀ {h h' : List Nat}, h.Perm h' → q h = q h') {ps : List (Str × List Nat)} (g1 : Good n js) (g2 : Good n ls) (W : IsWeb n js ls ps) : (hset n js ls).countP q = ps.countP fun p => q p.2 := by
  have pm := (hset_ok g1 g2).perm W g1 g2
  have e := pm.countP_eq q
  rw [List.countP_map, List.countP_map] at e
  have c1 : (hset n js ls).countP (q ∘ asc) = (hset n js ls).countP q := List.countP_congr fun x _ => by
    show q (asc x) = true ↔ q x = true
    rw [hq (asc_perm x)]
  have c2 : ps.countP (q ∘ fun p => asc p.2) = ps.countP fun p => q p.2 := List.countP_congr fun x _ => by
    show q (asc x.2) = true ↔ q x.2 = true
    rw [hq (asc_perm x.2)]
  rw [← c1, e, c2]
theorem rgs_web {ps : List (Str × List Nat)} (g1 : Good n js) (g2 : Good n ls) (W : IsWeb n js ls ps) : rgs n js ls = ps.countP fun p => p.1 == (("ring" : Str)) := by
  unfold rgs
  rw [cnt_asc (isRg js ls) (fun p => by unfold isRg; rw [cn_perm p, cn_perm p]) g1 g2 W]
  refine List.countP_congr fun p hp => ?_
  have h := wpc_cnt g1 g2 ((W.mem p).mp hp)
  unfold isRg
  rcases h with ⟨a, b, c⟩ | ⟨a, b, c⟩ | ⟨a, b, c⟩ | ⟨a, b, c⟩ <;> rw [a, b, c] <;> decide +kernel
theorem ods_web {ps : List (Str × List Nat)} (g1 : Good n js) (g2 : Good n ls) (W : IsWeb n js ls ps) : ods n js ls = ps.countP fun p => p.1 == (("odd" : Str)) := by
  unfold ods
  rw [cnt_asc (isOd js) (fun p => by unfold isOd; rw [cn_perm p]) g1 g2 W]
  refine List.countP_congr fun p hp => ?_
  have h := wpc_cnt g1 g2 ((W.mem p).mp hp)
  unfold isOd
  rcases h with ⟨a, b, c⟩ | ⟨a, b, c⟩ | ⟨a, b, c⟩ | ⟨a, b, c⟩ <;> rw [a, c] <;> decide +kernel
end
end DC
-- K37u
set_option Elab.async false
set_option linter.all false
set_option maxRecDepth 100000
set_option maxHeartbeats 4000000
namespace K37
open PySem L2 DC LamX
/-! costs -/
def lcost (l : Lot) : Int := (l.map fun p => pcost p.1 p.2).sum
theorem isum_perm {l m : List Int} (h : l.Perm m) : l.sum = m.sum := by
  induction h with
  | nil => rfl
  | cons x _ ih => rw [List.sum_cons, List.sum_cons, ih]
  | swap x y l =>
    rw [List.sum_cons, List.sum_cons, List.sum_cons, List.sum_cons]
    omega
  | trans _ _ h1 h2 => exact h1.trans h2
theorem lcost_sum : ∀ {l : Lot}, (∀ p ∈ l, PcOk p) → 2 * lcost l + 2 * ((l.countP fun p => p.1 == (("ring" : Str)) : Nat) : Int) + ((l.countP fun p => p.1 == (("odd" : Str)) : Nat) : Int) = (szSum l : Nat)
  | [], _ => rfl
  | p :: l, h => by
    have ih := lcost_sum (l := l) fun q hq => h q (List.mem_cons_of_mem _ hq)
    have hp := h p List.mem_cons_self
    have ec : lcost (p :: l) = pcost p.1 p.2 + lcost l := by
      unfold lcost
      rw [List.map_cons, List.sum_cons]
    rw [ec, szSum_cons, List.countP_cons, List.countP_cons]
    rcases hp with ⟨e, o⟩ | ⟨e, h2, o⟩
    · have c1 : (p.1 == (("ring" : Str))) = false := by rw [e]; decide +kernel
      have c2 : (p.1 == (("odd" : Str))) = true := by rw [e]; decide +kernel
      have c3 : pcost p.1 p.2 = ((p.2 / 2 : Nat) : Int) := by
        unfold pcost
        rw [if_neg (by rw [e]; decide +kernel)]
      rw [c1, c2, c3]
      simp only [Bool.false_eq_true, if_false, if_true]
      omega
    · rcases e with e | e | e
      · have c1 : (p.1 == (("ring" : Str))) = true := by rw [e]; decide +kernel
        have c2 : (p.1 == (("odd" : Str))) = false := by rw [e]; decide +kernel
        have c3 : pcost p.1 p.2 = ((p.2 / 2 : Nat) : Int) - 1 := by
          unfold pcost
          rw [if_pos e]
        rw [c1, c2, c3]
        simp only [Bool.false_eq_true, if_false, if_true]
        omega
      all_goals
        have c1 : (p.1 == (("ring" : Str))) = false := by rw [e]; decide +kernel
        have c2 : (p.1 == (("odd" : Str))) = false := by rw [e]; decide +kernel
        have c3 : pcost p.1 p.2 = ((p.2 / 2 : Nat) : Int) := by
          unfold pcost
          rw [if_neg (by rw [e]; decide +kernel)]
        rw [c1, c2, c3]
        simp only [Bool.false_eq_true, if_false]
        omega
theorem lcost_nn : ∀ {l : Lot}, (∀ p ∈ l, PcOk p) → 0 ≤ lcost l
  | [], _ => Int.le_refl _
  | p :: l, h => by
    have ih := lcost_nn (l := l) fun q hq => h q (List.mem_cons_of_mem _ hq)
    have ec : lcost (p :: l) = pcost p.1 p.2 + lcost l := by
      unfold lcost
      rw [List.map_cons, List.sum_cons]
    have hp := h p List.mem_cons_self
    have : 0 ≤ pcost p.1 p.2 := by
      unfold pcost
      by_cases c : p.1 = "ring"
      · rw [if_pos c]
        have h2 : 2 ≤ p.2 := by
          rcases hp with ⟨e, _⟩ | ⟨_, h2, _⟩
          · rw [c] at e
            exact absurd e (by decide +kernel)
          · exact h2
        omega
      · rw [if_neg c]
        omega
    omega
section
variable {n : Nat} {js ls : List J2} {ps : List (Str × List Nat)}
theorem web_cost (g1 : Good n js) (g2 : Good n ls) (W : IsWeb n js ls ps) : lcost (szs ps) = (cst n js ls : Nat) ∧ (n : Int) - ((cntK ps "ring" : Nat) : Int) - ((cntK ps "odd" : Nat) : Int) / 2 = (cst n js ls : Nat) := by
  have ok : ∀ p ∈ szs ps, PcOk p := by
    intro p hp
    obtain ⟨q, hq, rfl⟩ := List.mem_map.mp hp
    exact pc_wpc g1 g2 ((W.mem q).mp hq)
  have h := lcost_sum ok
  have h0 := lcost_nn ok
  rw [web_sum W g1 g2] at h
  have e1 : (szs ps).countP (fun p => p.1 == (("ring" : Str))) = cntK ps "ring" := by
    unfold szs cntK
    rw [List.countP_map]
    rfl
  have e2 : (szs ps).countP (fun p => p.1 == (("odd" : Str))) = cntK ps "odd" := by
    unfold szs cntK
    rw [List.countP_map]
    rfl
  have r1 : rgs n js ls = cntK ps "ring" := rgs_web g1 g2 W
  have r2 : ods n js ls = cntK ps "odd" := ods_web g1 g2 W
  rw [e1, e2] at h
  unfold cst
  rw [r1, r2]
  omega
end
section
variable {P : Program} {w : World} {K : PySem.W.Frag} {mg : Str → Option Value} {base : Heap}
def spCo (K : PySem.W.Frag) (Pt : Addr) : Sp := fun vs H Q _ => ∃ (v1 v2 : V) (n : Nat) (js ls : List J2), vs = [v1, v2] ∧ Ly K H v1 n js ∧ Ly K H v2 n ls ∧ Good n js ∧ Good n ls ∧ Tabs (Tw Pt) H ∧
  ∀ (H' : Hp), ExtN H H' → Tabs (Tw Pt) H' → Q (.int (cst n js ls : Nat)) H'
abbrev NCo : List Str := ["one", "other", "kind", "size"]
def spLcs (K : PySem.W.Frag) : Sp := fun vs H Q _ => ∃ (v1 v2 : V) (n : Nat) (js ls : List J2), vs = [v1, v2] ∧ Ly K H v1 n js ∧ Ly K H v2 n ls ∧ Good n js ∧ Good n ls ∧
  ∀ (H' : Hp), Same H H' → Q (.int (cst n js ls : Nat)) H'
abbrev NLcs : List Str := ["one", "other", "some", "piece"]
end
end K37
-- C37b
set_option Elab.async false
set_option linter.all false
set_option maxRecDepth 100000
set_option maxHeartbeats 4000000
namespace K37
open PySem L2 DC
def mk2 (a b : Nat) : J2 := (min a b, max a b)
def sm2 (p q : J2) : List J2 := if p.1 < q.1 then [p, q] else [q, p]
def stAt (n : Nat) (js : List J2) (k : Nat) (j : J2) : List (List J2 × List J2) :=
  ([j], []) :: ((frees n js).flatMap fun e => [([j], [mk2 j.1 e]), ([j], [mk2 j.2 e])]) ++ (js.drop (k + 1)).flatMap fun o => [([j, o], sm2 (mk2 j.1 o.1) (mk2 j.2 o.2)), ([j, o], sm2 (mk2 j.1 o.2) (mk2 j.2 o.1))]
def stJ (n : Nat) (js : List J2) : List (List J2 × List J2) :=
  ((List.range js.length).flatMap fun k => stAt n js k (js.getD k (0, 0))) ++ (List.range (frees n js).length).flatMap fun k => ((frees n js).drop (k + 1)).map fun b => ([], [((frees n js).getD k 0, b)])
def insJ (p : J2) : List J2 → List J2
  | [] => [p]
  | q :: l => if p.1 ≤ q.1 then p :: q :: l else q :: insJ p l
def srtJ (l : List J2) : List J2 := l.foldr insJ []
def aftJ (js : List J2) (st : List J2 × List J2) : List J2 := srtJ ((js.filter fun p => !decide (p ∈ st.1)) ++ st.2)
end K37
-- DS2
set_option Elab.async false
set_option linter.all false
set_option maxRecDepth 100000
set_option maxHeartbeats 4000000
/-! DS2: sorted of a tuple of data of one shape. -/
namespace DC
open PySem PySem.Spec PyProof.Rows L2 Evl
theorem collect_tuple {prog : Program} {w : World} {A : Around} {E : Value → Shared → Prop} {s : Shared} {l : Addr} {vs : List Value} {Q : List Value → Shared → Prop}
    (hl : s.heap.IsTuple l vs.toArray) (h : Q vs { heap := (s.heap.push (seqObj "list" #[] 0)).update s.heap.objs.size (Obj.mapSeq fun x => x ++ vs.toArray), gens := s.gens, drawn := s.drawn, toks := s.toks, os := s.os })
    (hsz : vs.length ≤ sizeLine) : wpAny (model prog w) A (collect (.ref l)) Q E s := by
  obtain ⟨o, ho, hc, n, hd⟩ := hl
  refine wpAny_bind (wpAny_runValue (codeAny_builtin entry_proto_collect' ?_))
  refine wpAny_bind (wpAny_newList (wpAny_pure ⟨Code.quiet_builtin _ (by decide +kernel), codeAny_builtin entry_list_iadd' ?_⟩))
  have ho' := Heap.get?_push_of_some (seqObj "list" #[] 0) ho
  show wpAny _ _ (Builtin.List.listExtendWith (.ref s.heap.objs.size) (.ref l) (.ref s.heap.objs.size)) _ _ _
  unfold Builtin.List.listExtendWith
  refine wpAny_bind (wpAny_typeOf (v := .ref l) (T := "tuple") (show ∃ o, _ from ⟨o, ho', hc⟩) ?_)
  have e : (Builtin.List.listSameRef (Value.ref s.heap.objs.size) (Value.ref l) || Value.type "tuple" == Value.type "list" || Value.type "tuple" == Value.type "tuple") = true := by
    have : (Value.type "tuple" == Value.type "tuple") = true := rfl
    rw [this, Bool.or_true]
  rw [if_pos e]
  refine wpAny_bind (listItems_at ho' hd ?_)
  refine wpAny_bind (listItems_at (Heap.get?_push_size _ rfl) rfl ?_)
  rw [if_neg (by show ¬ ((!true && _) = true); rw [Bool.not_true, Bool.false_and]; decide)]
  refine wpAny_bind (listUpdate_at (xs := #[]) (n := 0) (Heap.get?_push_size _ rfl) rfl ?_ (Nat.zero_le _) (by
    show (#[] ++ vs.toArray).size ≤ _
    rw [Array.size_append, List.size_toArray]
    exact Nat.le_trans (show 0 + vs.length ≤ sizeLine by omega) (Nat.le_succ _)))
  refine wpAny_pure ?_
  show wpAny (model prog w) A (load s.heap.objs.size >>= _) Q E _
  refine wpAny_bind (wpAny_load (get?_update_seq (c := "list") (xs := #[]) (n := 0) (Heap.get?_push_size _ rfl) _) ?_)
  refine wpAny_pure ?_
  have e2 : (#[] ++ vs.toArray).toList = vs := by simp
  show Q (#[] ++ vs.toArray).toList _
  rw [e2]
  exact h
theorem sorted_of_sortT {prog : Program} {w : World} {A : Around} {E : Value → Shared → Prop} {s : Shared} {l : Addr} {vs : List Value} {kw : List (Str × Value)} {Q : Value → Shared → Prop}
    (hl : s.heap.IsTuple l vs.toArray) (hL : vs.length ≤ sizeLine) (ha1 : argsOk "sorted" { pos := [Value.ref l], kw := kw }) (ha2 : ∀ x : Addr, argsOk "list.sort" { pos := [Value.ref x], kw := kw })
    (body : ∀ E' : Value → Shared → Prop, wpAny (model prog w) A.in1.in1 (Builtin.«list.sort» { pos := [Value.ref (s.heap.objs.size + 1)], kw := kw }) (fun f s' => f = Fin.done (Flow.ret Value.none) ∧ Q (Value.ref (s.heap.objs.size + 1)) s') E'
      { heap := PySem.W.copyHeap s.heap vs, gens := s.gens, drawn := s.drawn, toks := s.toks, os := s.os }) : wpAny (model prog w) A (call (Value.builtin "sorted") [Value.ref l] kw) Q E s := by
  refine call_function_entry_kw kind_sorted plain_sorted entry_sorted ha1 ?_
  refine wpAny_bind (wpAny_pure ?_)
  refine wpAny_bind (collect_tuple hl ?_ hL)
  refine wpAny_bind (wpAny_newList ?_ hL)
  have hsz : ((s.heap.push (seqObj "list" #[] 0)).update s.heap.objs.size (Obj.mapSeq fun x => x ++ vs.toArray)).objs.size = s.heap.objs.size + 1 := by
    rw [Heap.size_update, size_push']
  show wpAny (model prog w) A.in1 (do
      let _ ← holding [Value.ref ((s.heap.push (seqObj "list" #[] 0)).update s.heap.objs.size (Obj.mapSeq fun x => x ++ vs.toArray)).objs.size] (call (Value.builtin "list.sort") [Value.ref ((s.heap.push (seqObj "list" #[] 0)).update s.heap.objs.size (Obj.mapSeq fun x => x ++ vs.toArray)).objs.size] kw)
      ret (Value.ref ((s.heap.push (seqObj "list" #[] 0)).update s.heap.objs.size (Obj.mapSeq fun x => x ++ vs.toArray)).objs.size)) _ E { heap := PySem.W.copyHeap s.heap vs, gens := s.gens, drawn := s.drawn, toks := s.toks, os := s.os }
  rw [hsz]
  refine wpAny_bind (wpAny_holding (wpAny_call_entry_kw slot_list_sort ⟨seqObj "list" vs.toArray 0, PySem.W.copyHeap_at s.heap vs, rfl⟩ entry_list_sort ?_ (ha2 (s.heap.objs.size + 1))))
  refine wpAny_mono (body E) (fun f s' hf => ?_) (fun _ _ e => e)
  obtain ⟨rfl, hq⟩ := hf
  exact ⟨Value.none, rfl, wpAny_pure ⟨Value.ref (s.heap.objs.size + 1), rfl, hq⟩⟩
theorem sorted_dataT {prog : Program} {w : World} {A : Around} {E : Value → Shared → Prop} {s : Shared} {β : Type} {vs : List Value} {bs : List β} {enc : β → PyData} {R : Value → β → Prop} {l : Addr} {Q : Value → Shared → Prop}
    (hl : s.heap.IsTuple l vs.toArray) (e : PySem.W.EachIs R vs bs) (er : PySem.W.EachIs (fun v b => ∃ as, Reads s.heap v (enc b) as) vs bs) (hal : PySem.W.AllAlike (bs.map enc)) (hk : PySem.W.Sortable (bs.map enc)) (hL : bs.length ≤ sizeLine)
    (hu : ∀ b ∈ bs, A.units + 2 + (enc b).depth < cLine)
    (h : ∀ out : List Value, out.length = bs.length → PySem.W.EachIs R out (bs.mergeSort (PySem.W.dataLe false enc)) → Q (Value.ref (s.heap.objs.size + 1)) { heap := sortedAll s.heap vs out.toArray, gens := s.gens, drawn := s.drawn, toks := s.toks, os := s.os }) :
    wpAny (model prog w) A (call (Value.builtin "sorted") [Value.ref l]) Q E s := by
  have er' : PySem.W.EachIs (fun v b => ∃ as, Reads (PySem.W.sortingHeap (PySem.W.copyHeap s.heap vs) (s.heap.objs.size + 1) vs) v (enc b) as) vs bs :=
    PySem.W.EachIs.mono (fun _ _ x => match x with | ⟨as, r⟩ => ⟨as, Reads.keeps (fun _ _ => PySem.W.sorting_copy_old) r⟩) er
  have hvs : vs.length ≤ sizeLine := by rw [PySem.W.EachIs.length e]; exact hL
  refine sorted_of_sortT hl hvs (args_sorted1 (Value.ref l)) (fun x => args_list_sort (Value.ref x)) fun E' => ?_
  refine PySem.W.list_sort_vals (PySem.W.copyHeap_at s.heap vs) (PySem.W.SortsAt.data (PySem.W.each_map enc er') hal hk (PySem.W.bound_map hu)) hvs ⟨rfl, ?_⟩
  refine h _ ?_ (PySem.W.sortVals_data false e er' hal)
  rw [PySem.W.sortVals_length false rfl]
  exact PySem.W.EachIs.length e
def rSortDT (K : PySem.W.Frag) : List V → Hp → VK → Prop := fun vs H Q => ∃ (a : Addr) (xs : List V) (ds : List PyData), vs = [.ref a] ∧ SqT K H a xs ∧ DpAll K H xs ds ∧ PySem.W.AllAlike ds ∧ PySem.W.Sortable ds ∧ (∀ d ∈ ds, d.depth ≤ 60) ∧
  ∀ (ys : List V) (p : Addr), ys.Perm xs → DpAll K H ys (ds.mergeSort (PySem.W.dataLe false id)) → H p = none → Q (.ref p) (upd H p (.lst ys))
theorem cr_sortDT {X : Cx} (hu : X.A.units + 64 < cLine) : CallR X (.builtin "sorted") (rSortDT X.K) := by
  intro pins s σ H vs us Q I r h
  obtain ⟨a, xs, ds, rfl, hs, hd, hal, hk, hp, q⟩ := h
  obtain ⟨its, rv, hl, hz⟩ := I.tuple hs
  rw [Vals.ref1 r]
  have len := dpAll_len hd
  have snd : (xs.zip ds).map Prod.snd = ds := by rw [List.map_snd_zip]; omega
  have fst : (xs.zip ds).map Prod.fst = xs := by rw [List.map_fst_zip]; omega
  have hb : (xs.zip ds).length = xs.length := by rw [List.length_zip]; omega
  have e1 := each_vals rv len
  have hdp := dpAll_zip hd
  refine sorted_dataT (bs := xs.zip ds) (enc := Prod.snd) (R := fun (v : Value) (b : V × PyData) => RelV b.1 v) hl e1 ?_ (by rw [snd]; exact hal) (by rw [snd]; exact hk) (by rw [hb]; exact hz) (fun b hb => ?_) fun out ho eo => ?_
  · have gen : ∀ {us : List Value} {bs : List (V × PyData)}, PySem.W.EachIs (fun (v : Value) (b : V × PyData) => RelV b.1 v) us bs → (∀ b ∈ bs, Dp X.K H b.1 b.2) → PySem.W.EachIs (fun v (b : V × PyData) => ∃ as, Reads s.heap v b.2 as) us bs := by
      intro us bs e
      induction e with
      | nil => intro _; exact .nil
      | cons r t ih => intro h; exact .cons (Dp.reads I _ _ _ (h _ List.mem_cons_self) r) (ih fun b hb => h b (List.mem_cons_of_mem _ hb))
    exact gen e1 hdp
  · have : b.2 ∈ ds := by
      rw [← snd]
      exact List.mem_map.mpr ⟨b, hb, rfl⟩
    have := hp _ this
    omega
  · obtain ⟨ep, he'⟩ := PyProof.Rows.sortedAll_at s.heap its out.toArray
    have pm : ((xs.zip ds).mergeSort (PySem.W.dataLe false Prod.snd)).Perm (xs.zip ds) := List.mergeSort_perm _ _
    have p2 : (((xs.zip ds).mergeSort (PySem.W.dataLe false Prod.snd)).map Prod.fst).Perm xs := by
      have := pm.map Prod.fst
      rw [fst] at this
      exact this
    have hlen : (((xs.zip ds).mergeSort (PySem.W.dataLe false Prod.snd)).map Prod.fst).length ≤ sizeLine := by
      rw [p2.length_eq]
      exact hz
    have ms : ((xs.zip ds).mergeSort (PySem.W.dataLe false Prod.snd)).map Prod.snd = ds.mergeSort (PySem.W.dataLe false id) := by
      have z := List.map_mergeSort (r := PySem.W.dataLe false (Prod.snd : V × PyData → PyData)) (s := PySem.W.dataLe false id) (f := Prod.snd) (l := xs.zip ds) (fun a _ b _ => rfl)
      rw [snd] at z
      exact z
    refine ⟨.ref _, upd H (s.heap.objs.size + 1) (.lst (((xs.zip ds).mergeSort (PySem.W.dataLe false Prod.snd)).map Prod.fst)), I.laid (t' := s.toks) (fun _ _ => PyProof.Rows.sortedAll_old) (Nat.le_succ _) ⟨hlen, out, ep, each_back eo, he'⟩, rfl, q _ _ p2 ?_ (I.hok.fresh (Nat.le_succ _))⟩
    rw [← ms]
    exact dpAll_of _ fun p hp => hdp p (pm.mem_iff.mp hp)
end DC
-- C37d
set_option Elab.async false
set_option linter.all false
set_option maxRecDepth 100000
set_option maxHeartbeats 4000000
namespace K37
open PySem L2 DC LamX
def pairD (p : J2) : PyData := .tuple [.int (p.1 : Nat), .int (p.2 : Nat)]
theorem pairs_alike (js ls : List J2) : PySem.W.AllAlike (js.map pairD) := by
  intro d hd d' hd'
  obtain ⟨p, _, rfl⟩ := List.mem_map.mp hd
  obtain ⟨q, _, rfl⟩ := List.mem_map.mp hd'
  unfold pairD
  simp only [PySem.W.alike, PySem.W.alikeAll, Bool.and_self]
theorem pairs_sortable (js : List J2) : PySem.W.Sortable (js.map pairD) := by
  refine .inl fun d hd => ?_
  obtain ⟨p, _, rfl⟩ := List.mem_map.mp hd
  exact ⟨_, _, rfl⟩
theorem pairs_depth (js : List J2) : ∀ d ∈ js.map pairD, d.depth ≤ 60 := by
  intro d hd
  obtain ⟨p, _, rfl⟩ := List.mem_map.mp hd
  unfold pairD
  simp only [PyData.depth, PyData.depthAll]
  decide
theorem alikeAll_pairs : ∀ js ls : List J2, PySem.W.alikeAll (js.map pairD) (ls.map pairD) = true
  | [], [] => by simp only [List.map_nil, PySem.W.alikeAll]
  | [], _ :: _ => by simp only [List.map_nil, List.map_cons, PySem.W.alikeAll]
  | _ :: _, [] => by simp only [List.map_nil, List.map_cons, PySem.W.alikeAll]
  | p :: js, q :: ls => by
    have ih := alikeAll_pairs js ls
    simp only [List.map_cons, PySem.W.alikeAll, ih, Bool.and_true]
    unfold pairD
    simp only [PySem.W.alike, PySem.W.alikeAll, Bool.and_self]
theorem lay_eq (n : Nat) (js : List J2) : layD n js = .tuple [.int (n : Nat), .tuple (js.map pairD)] := rfl
theorem depth_pairs : ∀ js : List J2, PyData.depthAll (js.map pairD) ≤ 1
  | [] => by simp only [List.map_nil, PyData.depthAll]; decide
  | p :: js => by
    have ih := depth_pairs js
    simp only [List.map_cons, PyData.depthAll]
    have : (pairD p).depth ≤ 1 := by
      unfold pairD
      simp only [PyData.depth, PyData.depthAll]
      decide
    omega
theorem toks_prs : ∀ (a b : List J2) (r r' : List (Int ⊕ List Nat)), PySem.W.keyToksAll (a.map pairD) ++ r = PySem.W.keyToksAll (b.map pairD) ++ r' → a = b ∧ r = r'
  | [], [], r, r', h => ⟨rfl, List.append_cancel_left h⟩
  | [], q :: b, r, r', h => by
    simp only [List.map_nil, List.map_cons, PySem.W.keyToksAll, List.cons_append, List.nil_append, List.cons.injEq, Sum.inl.injEq] at h
    exact absurd h.1 (by decide)
  | p :: a, [], r, r', h => by
    simp only [List.map_nil, List.map_cons, PySem.W.keyToksAll, List.cons_append, List.nil_append, List.cons.injEq, Sum.inl.injEq] at h
    exact absurd h.1 (by decide)
  | p :: a, q :: b, r, r', h => by
    simp only [List.map_cons, PySem.W.keyToksAll, pairD, PySem.W.keyToks, List.cons_append, List.nil_append, List.append_assoc, List.cons.injEq, Sum.inl.injEq, true_and] at h
    obtain ⟨h1, h2, h3⟩ := h
    have ih := toks_prs a b r r' (by first | exact h3 | exact h3.2)
    refine ⟨?_, ih.2⟩
    rw [ih.1, show p = q from Prod.ext (by omega) (by omega)]
end K37
-- K37v
set_option Elab.async false
set_option linter.all false
set_option maxRecDepth 100000
set_option maxHeartbeats 4000000
namespace K37
open PySem L2 DC LamX
structure TM (K : PySem.W.Frag) (H H' : Hp) : Prop where
  t : ∀ {a : Addr} {xs : List V}, SqT K H a xs → SqT K H' a xs
section
variable {K : PySem.W.Frag} {H H' H'' : Hp} {v : V}
theorem TM.of (e : Same H H') : TM K H H' := ⟨fun h => Same.t e h⟩
theorem TM.put {l : Addr} {ys : List V} {o : HO} (h : H l = some (.lst ys)) : TM K H (upd H l o) := ⟨fun z => sqT_put z h⟩
theorem TM.trans (a : TM K H H') (b : TM K H' H'') : TM K H H'' := ⟨fun z => b.t (a.t z)⟩
theorem TM.refl : TM K H H := ⟨fun z => z⟩
theorem TM.ex (e : ExtN H H') : TM K H H' := ⟨fun h => extN_t e h⟩
theorem TM.pr (e : TM K H H') {p : J2} : Pr K H v p → Pr K H' v p
  | ⟨t, q, h⟩ => ⟨t, q, e.t h⟩
theorem TM.prs (e : TM K H H') {us : List V} {js : List J2} (h : Paired (Pr K H) us js) : Paired (Pr K H') us js := L2.Paired.mapP h fun _ _ z => e.pr z
theorem TM.js (e : TM K H H') {js : List J2} : Js K H v js → Js K H' v js
  | ⟨t, vs, q, h, r⟩ => ⟨t, vs, q, e.t h, e.prs r⟩
theorem TM.jss (e : TM K H H') {us : List V} {js : List (List J2)} (h : Paired (Js K H) us js) : Paired (Js K H') us js := L2.Paired.mapP h fun _ _ z => e.js z
theorem TM.ly (e : TM K H H') {n : Nat} {js : List J2} : Ly K H v n js → Ly K H' v n js
  | ⟨t, u, q, h, r⟩ => ⟨t, u, q, e.t h, e.js r⟩
def Lyn (K : PySem.W.Frag) (H : Hp) (n : Nat) : V → List J2 → Prop := fun v js => Ly K H v n js
theorem TM.lys (e : TM K H H') {n : Nat} {us : List V} {js : List (List J2)} (h : Paired (Lyn K H n) us js) : Paired (Lyn K H' n) us js := L2.Paired.mapP h fun _ _ z => e.ly z
end
theorem pair_app {α β : Type} {R : α → β → Prop} : ∀ {xs : List α} {ys : List β} {xs' : List α} {ys' : List β}, Paired R xs ys → Paired R xs' ys' → Paired R (xs ++ xs') (ys ++ ys')
  | _, _, _, _, .nil, r => r
  | _, _, _, _, .cons a b, r => .cons a (pair_app b r)
theorem sIx_nat (n d b : Nat) : HT.sIx n d (some ((b : Nat) : Int)) = min b n := by
  simp only [HT.sIx]
  rw [if_neg (by omega), Int.toNat_natCast]
theorem cut_ab {xs : List V} {a b : Nat} (ha : a ≤ xs.length) (hb : b ≤ xs.length) : cutV xs (some ((a : Nat) : Int)) (some ((b : Nat) : Int)) = (xs.drop a).take (b - a) := by
  show (xs.drop (HT.sIx _ 0 _)).take (HT.sIx _ _ _ - HT.sIx _ 0 _) = _
  rw [sIx_nat, sIx_nat, Nat.min_eq_left ha, Nat.min_eq_left hb]
theorem cut_a {xs : List V} {a : Nat} (ha : a ≤ xs.length) : cutV xs (some ((a : Nat) : Int)) none = xs.drop a := by
  show (xs.drop (HT.sIx _ 0 _)).take (xs.length - HT.sIx _ 0 _) = _
  rw [sIx_nat, Nat.min_eq_left ha]
  exact List.take_of_length_le (by rw [List.length_drop]; exact Nat.le_refl _)
section
variable {P : Program} {w : World} {K : PySem.W.Frag} {mg : Str → Option Value} {base : Heap}
theorem vn_drop (l : List Nat) (a : Nat) : (Vn l).drop a = Vn (l.drop a) := by
  unfold Vn
  exact List.map_drop.symm
theorem vn_take (l : List Nat) (a : Nat) : (Vn l).take a = Vn (l.take a) := by
  unfold Vn
  exact List.map_take.symm
end
end K37
-- K37w
set_option Elab.async false
set_option linter.all false
set_option maxRecDepth 100000
set_option maxHeartbeats 4000000
namespace K37
open PySem L2 DC LamX
theorem extN_put {H H' : Hp} {D : Addr} {o : HO} (e : ExtN H H') (h : H D = none) : ExtN H (upd H' D o) := fun b u q n => by
  have ne : b ≠ D := fun z => by
    rw [z, h] at q
    cases q
  rw [upd_ne ne]
  exact e b u q n
theorem tabs_put {H : Hp} {T : List (Addr × Str)} {l : Addr} {ys : List V} {o : HO} (t : Tabs T H) (hl : H l = some (.lst ys)) : Tabs T (upd H l o) := by
  have ne : ∀ {a : Addr} {u : HO}, H a = some u → (∀ kvs, u ≠ .lst kvs) → a ≠ l := by
    rintro a u e hu rfl
    rw [hl] at e
    exact hu _ (Option.some.inj e).symm
  intro p hp
  obtain ⟨ps, h1, h2, h3⟩ := t p hp
  refine ⟨ps, ?_, h2, fun pos cv hc => ?_⟩
  · rw [upd_ne (ne h1 (fun _ z => nomatch z))]
    exact h1
  · obtain ⟨c, e1, e2⟩ := h3 pos cv hc
    refine ⟨c, e1, ?_⟩
    rw [upd_ne (ne e2 (fun _ z => nomatch z))]
    exact e2
theorem rg_vn (m : Nat) : rgV 0 ((m : Nat) : Int) = Vn (List.range m) := by
  unfold rgV Vn
  rw [show (((m : Nat) : Int) - 0).toNat = m by omega]
  refine List.map_congr_left fun i _ => ?_
  rw [Int.zero_add]
section
variable {P : Program} {w : World} {K : PySem.W.Frag} {mg : Str → Option Value} {base : Heap}
end
end K37
-- K37x
set_option Elab.async false
set_option linter.all false
set_option maxRecDepth 100000
set_option maxHeartbeats 8000000
namespace K37
open PySem L2 DC LamX
theorem js_dpp {K : PySem.W.Frag} {H : Hp} {us : List V} {js : List J2} (h : Paired (Pr K H) us js) : DpAll K H us (js.map pairD) := js_dp h
def rTupOf (K : PySem.W.Frag) : List V → Hp → VK → Prop := fun xs H Q => ∃ p ys, xs = [V.ref p] ∧ ((SqL K H p ys ∧ ∀ l : Addr, H l = none → Q (V.ref l) (upd H l (HO.tup ys))) ∨ SqT K H p ys ∧ Q (V.ref p) H)
theorem vn_snoc (l : List Nat) (x : Nat) : Vn (l ++ [x]) = Vn l ++ [.int (x : Nat)] := vn_app l [x]
section
variable {P : Program} {w : World} {K : PySem.W.Frag} {mg : Str → Option Value} {base : Heap}
end
end K37
-- DRev
set_option Elab.async false
set_option linter.all false
set_option maxRecDepth 100000
set_option maxHeartbeats 4000000
/-! DRev: t[::-1] of a tuple of two. -/
namespace DC
open PySem PySem.Spec PyProof.Rows L2 Evl
theorem sliceApplied_rev2 {prog : Program} {w : World} {A : Around} {E : Value → Shared → Prop} {s : Shared} {sl : Addr} {vl vu vs : Value} {Q : Int × Int × Nat → Shared → Prop}
    (hs : s.heap.IsSliceOf sl vl vu vs) (pl : IsPart vl none) (pu : IsPart vu none) (ps : IsPart vs (some (-1))) (q : Q (1, -1, 2) s) :
    wpAny (model prog w) A (Builtin.Slice.sliceApplied (.ref sl) (pure ((2 : Nat) : Int))) Q E s := by
  obtain ⟨os, hos, hcs, hds⟩ := hs
  unfold Builtin.Slice.sliceApplied Builtin.Slice.sliceFields
  refine wpAny_bind (wpAny_bind (wpAny_field hos hds rfl (wpAny_bind (wpAny_field hos hds rfl (wpAny_bind (wpAny_field hos hds rfl (wpAny_pure ?_)))))))
  refine wpAny_bind (HT.slicePart_ ps ?_)
  dsimp only
  rw [if_neg (by decide)]
  refine wpAny_bind (HT.slicePart_ pl (wpAny_bind (HT.slicePart_ pu (wpAny_bind (wpAny_pure ?_)))))
  exact wpAny_pure q
theorem getItem_tuple_rev2 {prog : Program} {w : World} {A : Around} {E : Value → Shared → Prop} {s : Shared} {t sl : Addr} {x y : Value} {vl vu vs : Value} {Q : Value → Shared → Prop}
    (ht : IsTup s.heap t #[x, y]) (hs : s.heap.IsSliceOf sl vl vu vs) (pl : IsPart vl none) (pu : IsPart vu none) (ps : IsPart vs (some (-1)))
    (q : Q (Value.ref s.heap.objs.size) { heap := s.heap.push { cls := Value.type "tuple", data := Data.seq #[y, x] }, gens := s.gens, drawn := s.drawn, toks := s.toks, os := s.os }) :
    wpAny (model prog w) A (getItem (Value.ref t) (Value.ref sl)) Q E s := by
  obtain ⟨os, hos, hcs, hds⟩ := id hs
  refine wpAny_holding (wpAny_bind (wpAny_sequenceKey ht.typeIs (by decide) ?_))
  refine wpAny_bind (wpAny_callSpecial?_slot ht.typeIs slot_tuple_getitem (wpAny_call_entry slot_tuple_getitem ht.typeIs entry_tuple_getitem ?_ (args_tuple_getitem (Value.ref t) (Value.ref sl))))
  show wpAny _ _ (Builtin.Tuple.tupleItemsOf (.ref t) >>= _) _ _ _
  refine wpAny_bind (tupleItemsOf_ ht ?_)
  refine wpAny_bind (wpAny_typeOf (v := .ref sl) (T := "slice") (show ∃ o, _ from ⟨os, hos, hcs⟩) ?_)
  rw [if_pos (by decide)]
  refine wpAny_bind (sliceApplied_rev2 hs pl pu ps ?_)
  dsimp only
  rw [if_neg (by show ¬ (false = true); decide)]
  refine wpAny_bind (wpAny_newObj_type ?_ (by show 2 ≤ sizeLine; decide))
  exact wpAny_pure ⟨_, rfl, wpAny_pure q⟩
def tRevT (K : PySem.W.Frag) (te : TE) : TE := fun σ H Q => te σ H fun x H1 => ∃ (a : Addr) (u v : V), x = V.ref a ∧ SqT K H1 a [u, v] ∧ ∀ p : Addr, H1 p = none → Q (V.ref p) (upd H1 p (HO.tup [v, u]))
theorem pe_revT {X : Cx} {e : Expr} {te : TE} {k : Nat} {p1 p2 p3 pos : Pos} (he : PE X e te) : PE X (.Subscript e (.Slice none none (some (.UnaryOp .USub (.Constant (.int 1) k p1) p2)) p3) pos) (tRevT X.K te) := by
  constructor
  intro pins s σ H Q I h
  refine Subscript_ (thn (he.run pins s σ H _ I h) ?_)
  rintro v s1 ⟨x, H1, I1, r1, a, u, z, rfl, hx, q⟩
  cases r1
  refine wpAny_Slice (thn (po_none.run pins s1 σ H1 (fun o H2 => o = none ∧ H2 = H1) I1 ⟨rfl, rfl⟩) ?_)
  rintro vl s2 ⟨l, H2, I2, pl, rfl, rfl⟩
  refine thn (po_none.run pins s2 σ H2 (fun o H3 => o = none ∧ H3 = H2) I2 ⟨rfl, rfl⟩) ?_
  rintro vu s3 ⟨l', H3, I3, pu, rfl, rfl⟩
  refine thn ((po_some (pe_un un_neg pe_int)).run pins s3 σ H3 (fun o H4 => o = some (-1) ∧ H4 = H3) I3 ⟨1, rfl, -1, rfl, rfl, rfl⟩) ?_
  rintro vs s4 ⟨o, H4, I4, ps, rfl, rfl⟩
  have I5 := Inv.kept (t' := s4.toks) I4 (fun b ob q => Heap.get?_push_of_some { cls := Value.type "slice", data := Data.fields #[vl, vu, vs] } q)
  obtain ⟨its, r, ht, hz⟩ := I5.tuple hx
  cases r with
  | cons ra r =>
    cases r with
    | cons rb r =>
      cases r
      refine tail_any (T := "tuple") ht.typeIs slot_tuple_getitem.lookup (getItem_tuple_rev2 ht (Heap.IsSliceOf.new _ _ _ _) pl pu ps ?_) rfl
      exact ⟨V.ref _, upd H4 _ (.tup [z, u]), Inv.laid (t' := s4.toks) I5 (fun b ob q => Heap.get?_push_of_some _ q) (Nat.le_refl _) ⟨by show 2 ≤ sizeLine; decide, [_, _], .cons rb (.cons ra .nil), IsTup.new _ _⟩, rfl, q _ (HOk.fresh I5.hok (Nat.le_refl _))⟩
end DC
-- K37ya
set_option Elab.async false
set_option linter.all false
set_option maxRecDepth 100000
set_option maxHeartbeats 4000000
/-! K16ya: steps as data -/
namespace K37
open PySem L2 DC LamX
abbrev Stp2 := List J2 × List J2
def stD (s : Stp2) : PyData := .tuple [.tuple (s.1.map pairD), .tuple (s.2.map pairD)]
def Stp (K : PySem.W.Frag) (H : Hp) (v : V) (s : Stp2) : Prop := ∃ t a b, v = .ref t ∧ SqT K H t [a, b] ∧ Js K H a s.1 ∧ Js K H b s.2
section
variable {K : PySem.W.Frag} {H H' H0 : Hp} {v : V}
theorem TM.stp (e : TM K H H') {s : Stp2} : Stp K H v s → Stp K H' v s
  | ⟨t, a, b, q, h, h1, h2⟩ => ⟨t, a, b, q, e.t h, e.js h1, e.js h2⟩
theorem TM.stps (e : TM K H H') {us : List V} {l : List Stp2} (h : Paired (Stp K H) us l) : Paired (Stp K H') us l := L2.Paired.mapP h fun _ _ z => e.stp z
theorem jsD_dp {js : List J2} : Js K H v js → Dp K H v (.tuple (js.map pairD))
  | ⟨t, ws, q, h, r⟩ => by
    subst q
    exact Dp.tup h (js_dpp r)
theorem stp_dp {s : Stp2} : Stp K H v s → Dp K H v (stD s)
  | ⟨t, a, b, q, h, h1, h2⟩ => by
    subst q
    exact Dp.tup h (.cons (jsD_dp h1) (.cons (jsD_dp h2) .nil))
theorem stps_dp : ∀ {us : List V} {l : List Stp2}, Paired (Stp K H) us l → DpAll K H us (l.map stD)
  | _, _, .nil => .nil
  | _, _, .cons a t => .cons (stp_dp a) (stps_dp t)
theorem dp_jsD {js : List J2} (h : Dp K H v (.tuple (js.map pairD))) : Js K H v js := by
  cases h with
  | tup hS a => exact ⟨_, _, rfl, hS, dp_prs a⟩
theorem dp_stp {s : Stp2} (h : Dp K H v (stD s)) : Stp K H v s := by
  obtain ⟨t, x, y, rfl, hS, h1, h2⟩ := dp_tup2 h
  exact ⟨t, x, y, rfl, hS, dp_jsD h1, dp_jsD h2⟩
theorem dp_stps : ∀ {us : List V} {l : List Stp2}, DpAll K H us (l.map stD) → Paired (Stp K H) us l
  | _, [], h => by
    cases h
    exact .nil
  | _, s :: l, h => by
    rw [List.map_cons] at h
    cases h with
    | cons a t => exact .cons (dp_stp a) (dp_stps t)
/-- the list of steps made so far, at L -/
structure FI (K : PySem.W.Frag) (H0 H' : Hp) (L : Addr) (l : List Stp2) (B : Nat) : Prop where
  sm : Same H0 H'
  ex : ∃ us, H' L = some (.lst us) ∧ Paired (Stp K H') us l ∧ us.length ≤ B
theorem FI.up {L : Addr} {l : List Stp2} {B : Nat} (f : FI K H0 H L l B) (s : Same H H') : FI K H0 H' L l B := by
  obtain ⟨us, h, p, b⟩ := f.ex
  exact ⟨f.sm.trans s, us, s _ _ h, (TM.of s).stps p, b⟩
theorem FI.mono {L : Addr} {l : List Stp2} {B B' : Nat} (f : FI K H0 H L l B) (s : B ≤ B') : FI K H0 H L l B' := by
  obtain ⟨us, h, p, b⟩ := f.ex
  exact ⟨f.sm, us, h, p, Nat.le_trans b s⟩
theorem FI.put {L : Addr} {l : List Stp2} {B : Nat} {st : Stp2} {us : List V} (f : FI K H0 H L l B) (h0 : H0 L = none) (hL : H L = some (.lst us)) (hs : Stp K H v st) : FI K H0 (upd H L (.lst (us ++ [v]))) L (l ++ [st]) (B + 1) := by
  obtain ⟨us', h, p, b⟩ := f.ex
  rw [hL] at h
  obtain rfl : us = us' := by
    injection h with h
    injection h
  refine ⟨same_put f.sm h0, _, upd_same, pair_snoc ((TM.put hL).stps p) ((TM.put hL).stp hs), ?_⟩
  rw [List.length_append, List.length_singleton]
  omega
end
theorem st_alike (l : List Stp2) : PySem.W.AllAlike (l.map stD) := by
  intro d hd d' hd'
  obtain ⟨js, _, rfl⟩ := List.mem_map.mp hd
  obtain ⟨ls, _, rfl⟩ := List.mem_map.mp hd'
  unfold stD
  simp only [PySem.W.alike, PySem.W.alikeAll, alikeAll_pairs, Bool.and_self]
theorem st_sortable (l : List Stp2) : PySem.W.Sortable (l.map stD) := by
  refine .inl fun d hd => ?_
  obtain ⟨p, _, rfl⟩ := List.mem_map.mp hd
  exact ⟨_, _, rfl⟩
theorem st_depth (l : List Stp2) : ∀ d ∈ l.map stD, d.depth ≤ 60 := by
  intro d hd
  obtain ⟨s, _, rfl⟩ := List.mem_map.mp hd
  unfold stD
  have h1 := depth_pairs s.1
  have h2 := depth_pairs s.2
  simp only [PyData.depth, PyData.depthAll]
  omega
theorem st_sorted (l : List Stp2) : (l.map stD).mergeSort (PySem.W.dataLe false id) = (l.mergeSort (PySem.W.dataLe false stD)).map stD :=
  (List.map_mergeSort (r := PySem.W.dataLe false stD) (s := PySem.W.dataLe false id) (f := stD) (l := l) (fun a _ b _ => rfl)).symm
/-! two numbers, two pairs, sorted -/
theorem two_int {ns : List Int} {a c : Nat} (p : ns.Perm [((a : Nat) : Int), ((c : Nat) : Int)]) (h : ns.Pairwise (· ≤ ·)) : ns = [((min a c : Nat) : Int), ((max a c : Nat) : Int)] := by
  have q : ns.Perm [((min a c : Nat) : Int), ((max a c : Nat) : Int)] := by
    refine p.trans ?_
    by_cases z : a ≤ c
    · rw [Nat.min_eq_left z, Nat.max_eq_right z]
    · rw [Nat.min_eq_right (by omega), Nat.max_eq_left (by omega)]
      exact List.Perm.swap _ _ _
  refine List.Perm.eq_of_pairwise (le := (· ≤ ·)) (fun a b _ _ h1 h2 => Int.le_antisymm h1 h2) h ?_ q
  refine List.pairwise_cons.mpr ⟨fun x hx => ?_, List.pairwise_singleton _ _⟩
  obtain rfl := List.mem_singleton.mp hx
  omega
theorem le6 {a b c d : Nat} (h : a < c) : PySem.W.dataLe false id (pairD (a, b)) (pairD (c, d)) = true := by
  have e := congrFun (congrFun (PySem.W.dataLe_ii (fun p : J2 => ((p.1 : Nat) : Int)) (fun p : J2 => ((p.2 : Nat) : Int))) (a, b)) (c, d)
  show PySem.W.dataLe false (fun p : J2 => PyData.tuple [.int ((p.1 : Nat) : Int), .int ((p.2 : Nat) : Int)]) (a, b) (c, d) = true
  rw [e]
  refine decide_eq_true (.inl ?_)
  show ((a : Nat) : Int) < ((c : Nat) : Int)
  omega
theorem pair_inj (p q : J2) (h : PySem.W.keyToks (pairD p) = PySem.W.keyToks (pairD q)) : pairD p = pairD q := by
  have := toks_prs [p] [q] [] [] (by
    simp only [List.map_cons, List.map_nil, PySem.W.keyToksAll, h])
  rw [(List.cons.inj this.1).1]
theorem two_sort {p q : J2} (h : p.1 ≠ q.1) : ([p, q].map pairD).mergeSort (PySem.W.dataLe false id) = (sm2 p q).map pairD := by
  have e : ([p, q].map pairD).Perm ((sm2 p q).map pairD) := by
    refine List.Perm.map _ ?_
    unfold sm2
    by_cases c : p.1 < q.1
    · rw [if_pos c]
    · rw [if_neg c]
      exact List.Perm.swap _ _ _
  rw [sort_same e fun a ha b hb e => by
    obtain ⟨js, _, rfl⟩ := List.mem_map.mp ha
    obtain ⟨ls, _, rfl⟩ := List.mem_map.mp hb
    exact pair_inj js ls e]
  refine List.mergeSort_of_pairwise ?_
  unfold sm2
  by_cases c : p.1 < q.1
  · rw [if_pos c]
    refine List.pairwise_cons.mpr ⟨fun x hx => ?_, List.pairwise_singleton _ _⟩
    obtain rfl := List.mem_singleton.mp hx
    exact le6 c
  · rw [if_neg c]
    refine List.pairwise_cons.mpr ⟨fun x hx => ?_, List.pairwise_singleton _ _⟩
    obtain rfl := List.mem_singleton.mp hx
    exact le6 (by omega)
end K37
-- K37y
set_option Elab.async false
set_option linter.all false
set_option maxRecDepth 100000
set_option maxHeartbeats 8000000
/-! K16y: _law_steps -/
namespace K37
open PySem L2 DC LamX
theorem imin (a b : Nat) : (if ((b : Nat) : Int) < ((a : Nat) : Int) then ((b : Nat) : Int) else ((a : Nat) : Int)) = ((min a b : Nat) : Int) := by
  split <;> omega
theorem imax (a b : Nat) : (if ((b : Nat) : Int) > ((a : Nat) : Int) then ((b : Nat) : Int) else ((a : Nat) : Int)) = ((max a b : Nat) : Int) := by
  split <;> omega
def pre1 (n : Nat) (js : List J2) (i : Nat) : List Stp2 := (List.range i).flatMap fun k => stAt n js k (js.getD k (0, 0))
def pre2 (fr : List Nat) (i : Nat) : List Stp2 := (List.range i).flatMap fun k => (fr.drop (k + 1)).map fun b => ([], [(fr.getD k 0, b)])
theorem pre1_succ (n : Nat) (js : List J2) (i : Nat) : pre1 n js (i + 1) = pre1 n js i ++ stAt n js i (js.getD i (0, 0)) := by
  unfold pre1
  rw [List.range_succ, List.flatMap_append]
  simp only [List.flatMap_cons, List.flatMap_nil, List.append_nil]
theorem pre2_succ (fr : List Nat) (i : Nat) : pre2 fr (i + 1) = pre2 fr i ++ (fr.drop (i + 1)).map fun b => ([], [(fr.getD i 0, b)]) := by
  unfold pre2
  rw [List.range_succ, List.flatMap_append]
  simp only [List.flatMap_cons, List.flatMap_nil, List.append_nil]
def sA (p : J2) (e : Nat) (near : Nat) : Stp2 := ([p], [mk2 near e])
def sB (p q : J2) (s : J2) : Stp2 := ([p, q], sm2 (mk2 p.1 s.1) (mk2 p.2 s.2))
theorem stAt_eq (n : Nat) (js : List J2) (k : Nat) (p : J2) : stAt n js k p = ([p], []) :: ((frees n js).flatMap fun e => [p.1, p.2].map (sA p e)) ++ (js.drop (k + 1)).flatMap fun q => [(q.1, q.2), (q.2, q.1)].map (sB p q) := rfl
section
variable {P : Program} {w : World} {K : PySem.W.Frag} {mg : Str → Option Value} {base : Heap}
def stS (n : Nat) (js : List J2) : List Stp2 := (stJ n js).mergeSort (PySem.W.dataLe false stD)
def spSteps (K : PySem.W.Frag) : Sp := fun vs H Q _ => ∃ (v : V) (n : Nat) (js : List J2), vs = [v] ∧ Ly K H v n js ∧ Good n js ∧ n ≤ 5 ∧
  ∀ (r : Addr) (us : List V) (H' : Hp), Same H H' → H r = none → H' r = some (.lst us) → Paired (Stp K H') us (stS n js) → us.length ≤ 300 → Q (.ref r) H'
abbrev NSt : List Str := ["lay", "known", "end", "loose", "found", "k", "joint", "near", "other", "swap", "made", "far"]
end
end K37
-- K37za
set_option Elab.async false
set_option linter.all false
set_option maxRecDepth 100000
set_option maxHeartbeats 8000000
namespace DC
open PySem L2
def rNotInDT (K : PySem.W.Frag) : V → V → Hp → VK → Prop := fun x y H Q => ∃ d ds, Dp K H x d ∧ Dp K H y (.tuple ds) ∧ SeqAt.shaped d = true ∧ SeqAt.shaped (.tuple ds) = true ∧ Q (.bl (!ds.any fun z => PyData.eqv z d)) H
theorem op_notInDT {X : Cx} (hu : X.A.units + 65 < cLine) : OpR X (compareOp CmpOp.NotIn) (rNotInDT X.K) := by
  intro pins s σ H x y v u Q I rx ry h
  obtain ⟨d, ds, hd, he, sd, se, q⟩ := h
  obtain ⟨as, r1⟩ := Dp.reads I d x v hd rx
  obtain ⟨bs, r2⟩ := Dp.reads I (.tuple ds) y u he ry
  exact SeqAt.notIn_tuple_reads r2 r1 (SeqAt.canLay_of_shaped se) (SeqAt.canLay_of_shaped sd) (PyProof.Rows.room_in_shaped sd hu) ⟨V.bl _, H, I, rfl, q⟩
end DC
namespace K37
open PySem L2 DC LamX
theorem u65 {k : Nat} {A : Around} (r : Room k A) : A.units + 65 < cLine := by
  have := r.un
  omega
theorem lay_pairs : ∀ l : List J2, PyData.canLayAll0 (l.map pairD) = true
  | [] => by simp only [List.map_nil, PyData.canLayAll0]
  | p :: l => by
    simp only [List.map_cons, pairD, PyData.canLayAll0, PyData.canLay0, Bool.and_self, Bool.true_and]
    exact lay_pairs l
theorem shaped_pairs (l : List J2) : SeqAt.shaped (.tuple (l.map pairD)) = true := by
  unfold SeqAt.shaped
  have := depth_pairs l
  rw [Bool.and_eq_true]
  refine ⟨by simp only [PyData.canLay0]; exact lay_pairs l, decide_eq_true ?_⟩
  simp only [PyData.depth]
  omega
theorem shaped_pair (p : J2) : SeqAt.shaped (pairD p) = true := by
  unfold SeqAt.shaped pairD
  rw [Bool.and_eq_true]
  refine ⟨by simp only [PyData.canLay0, PyData.canLayAll0, Bool.and_self], decide_eq_true ?_⟩
  simp only [PyData.depth, PyData.depthAll]
  decide
theorem eqv_pair (p q : J2) : (pairD p).eqv (pairD q) = decide (p = q) := by
  unfold pairD
  simp only [PyData.eqv, PyData.eqvAll, Bool.and_true]
  rw [Bool.eq_iff_iff]
  simp only [Bool.and_eq_true, beq_iff_eq, decide_eq_true_eq]
  constructor
  · rintro ⟨a, b⟩
    exact Prod.ext (by omega) (by omega)
  · rintro rfl
    exact ⟨rfl, rfl⟩
theorem any_pair (l : List J2) (p : J2) : (l.map pairD).any (fun z => PyData.eqv z (pairD p)) = decide (p ∈ l) := by
  induction l with
  | nil => rfl
  | cons q l ih =>
    rw [List.map_cons, List.any_cons, ih, eqv_pair, Bool.eq_iff_iff]
    simp only [Bool.or_eq_true, decide_eq_true_eq, List.mem_cons]
    constructor
    · rintro (h | h)
      · exact .inl h.symm
      · exact .inr h
    · rintro (h | h)
      · exact .inl h.symm
      · exact .inr h
theorem insJ_perm (p : J2) : ∀ l : List J2, (insJ p l).Perm (p :: l)
  | [] => List.Perm.refl _
  | q :: l => by
    unfold insJ
    split
    · exact List.Perm.refl _
    · exact ((insJ_perm p l).cons q).trans (List.Perm.swap p q l)
theorem srtJ_perm : ∀ l : List J2, (srtJ l).Perm l
  | [] => List.Perm.refl _
  | p :: l => (insJ_perm p (srtJ l)).trans ((srtJ_perm l).cons p)
section
variable {P : Program} {w : World} {K : PySem.W.Frag} {mg : Str → Option Value} {base : Heap}
end
end K37
-- K37n
set_option Elab.async false
set_option linter.all false
set_option maxRecDepth 100000
set_option maxHeartbeats 4000000
namespace K37
open PySem L2 DC LamX
section
variable {P : Program} {w : World} {K : PySem.W.Frag} {mg : Str → Option Value} {base : Heap}
def spAlike (K : PySem.W.Frag) : Sp := fun vs H Q _ => ∃ (l : Addr) (n : Nat) (xs : List V), vs = [.ref l] ∧ H l = some (.lst xs) ∧ (xs.length = 2 ∨ xs.length = 3) ∧ (∀ x ∈ xs, ∃ t u, x = .ref t ∧ SqT K H t [.int (n : Nat), u]) ∧ ∀ H', Same H H' → Q .non H'
def spTwo (K : PySem.W.Frag) : Sp := fun vs H Q _ => ∃ (v1 v2 : V) (n : Nat) (js ls : List J2), vs = [v1, v2] ∧ Ly K H v1 n js ∧ Ly K H v2 n ls ∧ Good n js ∧ Good n ls ∧ ∀ v H', Same H H' → Q v H'
/-! least_steps, stands_between, is_between -/
def spLst (K : PySem.W.Frag) (Pt : Addr) : Sp := fun vs H Q _ => ∃ (v1 v2 : V) (n : Nat) (js ls : List J2), vs = [v1, v2] ∧ Ly K H v1 n js ∧ Ly K H v2 n ls ∧ Good n js ∧ Good n ls ∧ Tabs (Tw Pt) H ∧
  ∀ (H' : Hp), ExtN H H' → Tabs (Tw Pt) H' → Q (.int (cst n js ls : Nat)) H'
def btw (n : Nat) (ja jb jc : List J2) : Bool := decide (cst n ja jb + cst n jb jc = cst n ja jc)
def spSb (K : PySem.W.Frag) (Pt : Addr) : Sp := fun vs H Q _ => ∃ (v1 v2 v3 : V) (n : Nat) (ja jb jc : List J2), vs = [v1, v2, v3] ∧ Ly K H v1 n ja ∧ Ly K H v2 n jb ∧ Ly K H v3 n jc ∧ Good n ja ∧ Good n jb ∧ Good n jc ∧ Tabs (Tw Pt) H ∧
  ∀ (H' : Hp), ExtN H H' → Tabs (Tw Pt) H' → Q (.bl (btw n ja jb jc)) H'
end
end K37
-- K37jt
set_option Elab.async false
set_option linter.all false
set_option maxRecDepth 100000
set_option maxHeartbeats 4000000
namespace K37
open PySem L2 DC
section
variable {P : Program} {w : World} {K : PySem.W.Frag} {mg : Str → Option Value} {base : Heap}
def nm (p : J2) : J2 := if p.1 < p.2 then p else (p.2, p.1)
def spJt (K : PySem.W.Frag) : Sp := fun vs H Q _ => ∃ a b : Nat, vs = [.int a, .int b] ∧ ∀ t H', Same H H' → H t = none → H' t = some (.tup [.int ((nm (a, b)).1 : Nat), .int ((nm (a, b)).2 : Nat)]) → Q (.ref t) H'
theorem scJt : FnScope ["one", "other"] ["one", "other"] (defScope (top 12)) := ⟨rfl, rfl, rfl, by decide +kernel, rfl, by decide +kernel, by decide +kernel⟩
theorem okJt {f : Addr} {fd : FuncData} (F : Fun K "joint_of" "joint_of" (top 12) f fd) (B : Bn mg) : OkF P w K mg base 1 f fd ["one", "other"] (spJt K) := by
  refine ok0 F scJt (fun vs H Q E h => ?_) (fun cdv A outer s H vs Q E hgd hr h => ?_)
  · obtain ⟨a, b, rfl, _⟩ := h; rfl
  · obtain ⟨a, b, rfl, q⟩ := h
    refine ⟨_, pss_one (ps_ret (pe_ifExp (pt_cmpR op_lt (pv 0) (pv 1) (nomark _)) (pe_tup (pa_cons (pv 0) (pa_cons (pv 1) pa_nil))) (pe_tup (pa_cons (pv 1) (pa_cons (pv 0) pa_nil))))), ?_⟩
    refine ⟨_, rfl, _, rfl, (a : Int), (b : Int), rfl, rfl, _, rfl, ite2 (fun d => ?_) (fun d => ?_)⟩
    · have z : a < b := by
        have := of_decide_eq_true d
        omega
      refine ⟨_, rfl, _, rfl, by show 2 ≤ sizeLine; decide, fun T hT => q T _ (Same.new hT) hT ?_⟩
      rw [upd_same, show nm (a, b) = (a, b) from if_pos z]
    · have z : ¬ a < b := fun z => d (decide_eq_true (by omega))
      refine ⟨_, rfl, _, rfl, by show 2 ≤ sizeLine; decide, fun T hT => q T _ (Same.new hT) hT ?_⟩
      rw [upd_same, show nm (a, b) = (b, a) from if_neg z]
end
end K37
-- K37s
set_option Elab.async false
set_option linter.all false
set_option maxRecDepth 100000
set_option maxHeartbeats 8000000
namespace K37
open PySem L2 DC LamX
inductive IsSt (n : Nat) (js : List J2) : Stp2 → Prop
  | cut (p : J2) (h : p ∈ js) : IsSt n js ([p], [])
  | shift (p : J2) (e near : Nat) (h : p ∈ js) (he : e ∈ frees n js) (hn : near = p.1 ∨ near = p.2) : IsSt n js ([p], [mk2 near e])
  | dbl (p q : J2) (h : p ∈ js) (h' : q ∈ js) (a : p.1 < q.1) (ap : Apart p q) : IsSt n js ([p, q], [(p.1, q.1), mk2 p.2 q.2])
  | dbl2 (p q : J2) (h : p ∈ js) (h' : q ∈ js) (a : p.1 < q.1) (ap : Apart p q) : IsSt n js ([p, q], [(p.1, q.2), mk2 p.2 q.1])
  | join (a b : Nat) (ha : a ∈ frees n js) (hb : b ∈ frees n js) (h : a < b) : IsSt n js ([], [(a, b)])
theorem frees_asc (n : Nat) (js : List J2) : (frees n js).Pairwise (· < ·) := by
  unfold frees
  exact List.pairwise_lt_range.filter _
theorem free_lt {n : Nat} {js : List J2} {e : Nat} (h : e ∈ frees n js) : e < 2 * n ∧ mt js e = none := by
  unfold frees at h
  obtain ⟨h1, h2⟩ := List.mem_filter.mp h
  exact ⟨List.mem_range.mp h1, Option.isNone_iff_eq_none.mp h2⟩
theorem mt_end {n : Nat} {js : List J2} (g : Good n js) {p : J2} (h : p ∈ js) {x : Nat} (hx : x = p.1 ∨ x = p.2) : mt js x ≠ none := by
  obtain ⟨h1, h2⟩ := mt_of g.dis (fun q hq => Nat.ne_of_lt (g.rng q hq).1) h
  rcases hx with rfl | rfl
  · rw [h1]; exact fun z => nomatch z
  · rw [h2]; exact fun z => nomatch z
theorem sm2_lt {p q : J2} (h : p.1 < q.1) : sm2 p q = [p, q] := if_pos h
theorem mk2_lt {a b : Nat} (h : a < b) : mk2 a b = (a, b) := by
  unfold mk2
  rw [Nat.min_eq_left (by omega), Nat.max_eq_right (by omega)]
theorem nm_mk2 (a b : Nat) : nm (a, b) = mk2 a b := by
  unfold nm mk2
  by_cases h : a < b
  · rw [if_pos h, Nat.min_eq_left (by omega), Nat.max_eq_right (by omega)]
  · rw [if_neg h, Nat.min_eq_right (by omega), Nat.max_eq_left (by omega)]
theorem isSt_of {n : Nat} {js : List J2} (g : Good n js) {st : Stp2} (h : st ∈ stJ n js) : IsSt n js st := by
  unfold stJ at h
  rcases List.mem_append.mp h with h | h
  · obtain ⟨k, hk, h⟩ := List.mem_flatMap.mp h
    have hk := List.mem_range.mp hk
    have ek : js.getD k (0, 0) = js[k] := by
      rw [List.getD_eq_getElem?_getD, List.getElem?_eq_getElem hk]
      rfl
    have pm : js[k] ∈ js := List.getElem_mem hk
    rw [ek] at h
    unfold stAt at h
    rcases List.mem_append.mp h with h | h
    · rcases List.mem_cons.mp h with rfl | h
      · exact .cut _ pm
      · obtain ⟨e, he, h⟩ := List.mem_flatMap.mp h
        simp only [List.mem_cons, List.not_mem_nil, or_false] at h
        rcases h with rfl | rfl
        · exact .shift _ e _ pm he (.inl rfl)
        · exact .shift _ e _ pm he (.inr rfl)
    · obtain ⟨o, ho, h⟩ := List.mem_flatMap.mp h
      obtain ⟨m, hm, rfl⟩ := List.getElem_of_mem ho
      rw [List.getElem_drop] at h
      rw [List.length_drop] at hm
      have l2 : k + 1 + m < js.length := by omega
      have qm : js[k + 1 + m] ∈ js := List.getElem_mem l2
      have lt := List.pairwise_iff_getElem.mp g.asc k (k + 1 + m) hk l2 (by omega)
      have ap := List.pairwise_iff_getElem.mp g.dis k (k + 1 + m) hk l2 (by omega)
      have rp := g.rng _ pm
      have rq := g.rng _ qm
      simp only [List.mem_cons, List.not_mem_nil, or_false] at h
      rcases h with rfl | rfl
      · rw [mk2_lt lt, sm2_lt (p := (js[k].1, js[k + 1 + m].1)) (q := mk2 js[k].2 js[k + 1 + m].2) (by unfold mk2; dsimp only; omega)]
        exact .dbl _ _ pm qm lt ap
      · rw [mk2_lt (show js[k].1 < js[k + 1 + m].2 by omega), sm2_lt (p := (js[k].1, js[k + 1 + m].2)) (q := mk2 js[k].2 js[k + 1 + m].1) (by unfold mk2; dsimp only; omega)]
        exact .dbl2 _ _ pm qm lt ap
  · obtain ⟨k, hk, h⟩ := List.mem_flatMap.mp h
    have hk := List.mem_range.mp hk
    have ek : (frees n js).getD k 0 = (frees n js)[k] := by
      rw [List.getD_eq_getElem?_getD, List.getElem?_eq_getElem hk]
      rfl
    obtain ⟨b, hb, rfl⟩ := List.mem_map.mp h
    rw [ek]
    obtain ⟨m, hm, rfl⟩ := List.getElem_of_mem hb
    rw [List.getElem_drop]
    rw [List.length_drop] at hm
    exact .join _ _ (List.getElem_mem hk) (List.getElem_mem (by omega)) (List.pairwise_iff_getElem.mp (frees_asc n js) k (k + 1 + m) hk (by omega) (by omega))
theorem good_nil {n : Nat} {js : List J2} (g : Good n js) : Good n [] := ⟨g.one, g.top, fun _ h => absurd h List.not_mem_nil, .nil, .nil⟩
theorem good_one {n : Nat} {js : List J2} (g : Good n js) {p : J2} (h : p.1 < p.2 ∧ p.2 < 2 * n) : Good n [p] := ⟨g.one, g.top, fun q hq => by obtain rfl := List.mem_singleton.mp hq; exact h, List.pairwise_singleton _ _, List.pairwise_singleton _ _⟩
theorem good_two {n : Nat} {js : List J2} (g : Good n js) {p q : J2} (h : p.1 < p.2 ∧ p.2 < 2 * n) (h' : q.1 < q.2 ∧ q.2 < 2 * n) (a : p.1 < q.1) (ap : Apart p q) : Good n [p, q] := by
  refine ⟨g.one, g.top, fun r hr => ?_, List.pairwise_cons.mpr ⟨fun r hr => ?_, List.pairwise_singleton _ _⟩, List.pairwise_cons.mpr ⟨fun r hr => ?_, List.pairwise_singleton _ _⟩⟩
  · simp only [List.mem_cons, List.not_mem_nil, or_false] at hr
    rcases hr with rfl | rfl
    · exact h
    · exact h'
  · obtain rfl := List.mem_singleton.mp hr; exact a
  · obtain rfl := List.mem_singleton.mp hr; exact ap
theorem isSt_good {n : Nat} {js : List J2} (g : Good n js) {st : Stp2} (s : IsSt n js st) : Good n st.1 ∧ Good n st.2 := by
  cases s with
  | cut p h => exact ⟨good_one g (g.rng p h), good_nil g⟩
  | shift p e near h he hn =>
    refine ⟨good_one g (g.rng p h), good_one g ?_⟩
    have r := g.rng p h
    obtain ⟨e1, e2⟩ := free_lt he
    have ne : near ≠ e := fun z => mt_end g h (by rw [← z]; exact hn) e2
    unfold mk2
    dsimp only
    rcases hn with rfl | rfl <;> omega
  | dbl p q h h' a ap =>
    have rp := g.rng p h
    have rq := g.rng q h'
    unfold DC.Apart at ap
    refine ⟨good_two g rp rq a ap, good_two g ⟨a, by omega⟩ ?_ ?_ ?_⟩
    · unfold mk2; dsimp only; omega
    · unfold mk2; dsimp only; omega
    · unfold mk2 DC.Apart; dsimp only; omega
  | dbl2 p q h h' a ap =>
    have rp := g.rng p h
    have rq := g.rng q h'
    unfold DC.Apart at ap
    refine ⟨good_two g rp rq a ap, good_two g ⟨by omega, by omega⟩ ?_ ?_ ?_⟩
    · unfold mk2; dsimp only; omega
    · unfold mk2; dsimp only; omega
    · unfold mk2 DC.Apart; dsimp only; omega
  | join a b ha hb h =>
    exact ⟨good_nil g, good_one g ⟨h, (free_lt hb).1⟩⟩
theorem pre2_mem {fr : List Nat} {i : Nat} {st : Stp2} : st ∈ pre2 fr i → ∃ a b, st = ([], [(a, b)]) := by
  intro h
  unfold pre2 at h
  obtain ⟨k, _, h⟩ := List.mem_flatMap.mp h
  obtain ⟨b, _, rfl⟩ := List.mem_map.mp h
  exact ⟨_, _, rfl⟩
theorem pre2_in {fr : List Nat} (asc : fr.Pairwise (· < ·)) {a b : Nat} (ha : a ∈ fr) (hb : b ∈ fr) (h : a < b) : ([], [(a, b)]) ∈ pre2 fr fr.length := by
  obtain ⟨i, hi, rfl⟩ := List.getElem_of_mem ha
  obtain ⟨j, hj, rfl⟩ := List.getElem_of_mem hb
  have ij : i < j := by
    rcases Nat.lt_trichotomy i j with z | z | z
    · exact z
    · subst z
      omega
    · have := List.pairwise_iff_getElem.mp asc j i hj hi z
      omega
  unfold pre2
  refine List.mem_flatMap.mpr ⟨i, List.mem_range.mpr hi, List.mem_map.mpr ⟨fr[j], ?_, ?_⟩⟩
  · rw [show fr[j] = (fr.drop (i + 1))[j - (i + 1)]'(by rw [List.length_drop]; omega) from by rw [List.getElem_drop]; congr 1; omega]
    exact List.getElem_mem _
  · rw [List.getD_eq_getElem?_getD, List.getElem?_eq_getElem hi]
    rfl
theorem st_inj {a b : Stp2} (h : PySem.W.keyToks (stD a) = PySem.W.keyToks (stD b)) : a = b := by
  unfold stD at h
  simp only [PySem.W.keyToks, PySem.W.keyToksAll, List.cons_append, List.append_assoc, List.cons.injEq, Sum.inl.injEq, true_and] at h
  obtain ⟨h1, h2⟩ := toks_prs a.1 b.1 _ _ h
  simp only [List.cons_append, List.append_assoc, List.cons.injEq, Sum.inl.injEq, true_and] at h2
  obtain ⟨h3, _⟩ := toks_prs a.2 b.2 _ _ h2
  exact Prod.ext h1 h3
theorem eqv_prs : ∀ l m : List J2, PyData.eqvAll (l.map pairD) (m.map pairD) = decide (l = m)
  | [], [] => by simp only [List.map_nil, PyData.eqvAll]; rfl
  | [], q :: m => by simp only [List.map_nil, List.map_cons, PyData.eqvAll]; rfl
  | p :: l, [] => by simp only [List.map_nil, List.map_cons, PyData.eqvAll]; rfl
  | p :: l, q :: m => by
    simp only [List.map_cons, PyData.eqvAll]
    rw [eqv_pair, eqv_prs l m, Bool.eq_iff_iff]
    simp only [Bool.and_eq_true, decide_eq_true_eq, List.cons.injEq]
theorem eqv_st (a b : Stp2) : (stD a).eqv (stD b) = decide (a = b) := by
  unfold stD
  simp only [PyData.eqv, PyData.eqvAll, Bool.and_true]
  rw [eqv_prs, eqv_prs, Bool.eq_iff_iff]
  simp only [Bool.and_eq_true, decide_eq_true_eq]
  exact ⟨fun h => Prod.ext h.1 h.2, fun h => by rw [h]; exact ⟨rfl, rfl⟩⟩
theorem any_st (l : List Stp2) (s : Stp2) : (l.map stD).any (fun z => PyData.eqv z (stD s)) = decide (s ∈ l) := by
  induction l with
  | nil => rfl
  | cons q l ih =>
    rw [List.map_cons, List.any_cons, ih, eqv_st, Bool.eq_iff_iff]
    simp only [Bool.or_eq_true, decide_eq_true_eq, List.mem_cons]
    exact or_congr_left eq_comm
end K37
-- TI
/-! TI: the triangle inequality by counting: subgroups of the vectors over a field of five. -/
set_option Elab.async false
set_option linter.all false
set_option maxRecDepth 100000
set_option maxHeartbeats 4000000
namespace TI
abbrev F := Fin 5
def allV : Nat → List (List F)
  | 0 => [[]]
  | m + 1 => (List.finRange 5).flatMap fun a => (allV m).map fun t => a :: t
theorem mem_allV : ∀ {m : Nat} {t : List F}, t ∈ allV m ↔ t.length = m
  | 0, t => by
    unfold allV
    rw [List.mem_singleton, List.length_eq_zero_iff]
  | m + 1, t => by
    unfold allV
    rw [List.mem_flatMap]
    constructor
    · rintro ⟨a, _, h⟩
      obtain ⟨t', h', rfl⟩ := List.mem_map.mp h
      rw [List.length_cons, mem_allV.mp h']
    · intro h
      cases t with
      | nil => simp at h
      | cons a t => exact ⟨a, List.mem_finRange a, List.mem_map.mpr ⟨t, mem_allV.mpr (by simpa using h), rfl⟩⟩
theorem len_allV : ∀ m : Nat, (allV m).length = 5 ^ m
  | 0 => rfl
  | m + 1 => by
    unfold allV
    have : ∀ l : List F, (l.flatMap fun a => (allV m).map fun t => a :: t).length = l.length * 5 ^ m := by
      intro l
      induction l with
      | nil => simp
      | cons a l ih =>
        rw [List.flatMap_cons, List.length_append, ih, List.length_map, len_allV m, List.length_cons, Nat.add_mul]
        omega
    rw [this, List.length_finRange, Nat.pow_succ]
    omega
theorem nodup_allV : ∀ m : Nat, (allV m).Nodup
  | 0 => by
    unfold allV
    exact List.nodup_cons.mpr ⟨List.not_mem_nil, List.nodup_nil⟩
  | m + 1 => by
    unfold allV
    have ih := nodup_allV m
    have : ∀ l : List F, l.Nodup → (l.flatMap fun a => (allV m).map fun t => a :: t).Nodup := by
      intro l
      induction l with
      | nil => intro _; exact List.nodup_nil
      | cons a l ih2 =>
        intro h
        have h' := List.nodup_cons.mp h
        rw [List.flatMap_cons]
        refine List.nodup_append.mpr ⟨?_, ih2 h'.2, ?_⟩
        · exact List.Pairwise.map _ (fun x y hne e => hne (List.cons.inj e).2) ih
        · intro x hx y hy e
          subst e
          obtain ⟨t, _, rfl⟩ := List.mem_map.mp hx
          obtain ⟨b, hb, hm⟩ := List.mem_flatMap.mp hy
          obtain ⟨t', _, e⟩ := List.mem_map.mp hm
          rw [(List.cons.inj e).1] at hb
          exact h'.1 hb
    exact this _ (List.nodup_finRange 5)
theorem nodup_len {α : Type} [DecidableEq α] : ∀ {l m : List α}, l.Nodup → (∀ x ∈ l, x ∈ m) → l.length ≤ m.length
  | [], _, _, _ => Nat.zero_le _
  | a :: l, m, h, s => by
    have h' := List.nodup_cons.mp h
    have ha := s a List.mem_cons_self
    have := nodup_len (l := l) (m := m.erase a) h'.2 fun x hx => (List.mem_erase_of_ne (show x ≠ a from fun e => h'.1 (e ▸ hx))).mpr (s x (List.mem_cons_of_mem _ hx))
    rw [List.length_erase_of_mem ha] at this
    have pos := List.length_pos_of_mem ha
    rw [List.length_cons]
    omega
/-- an injection of the vectors of one length into those of another -/
theorem pigeon {m k : Nat} (f : List F → List F) (h : ∀ t, t.length = m → (f t).length = k) (inj : ∀ t t', t.length = m → t'.length = m → f t = f t' → t = t') : m ≤ k := by
  have nd : ((allV m).map f).Nodup := by
    have := nodup_allV m
    refine List.pairwise_map.mpr (List.Pairwise.imp_of_mem (fun {x y} hx hy ne e => ne (inj x y (mem_allV.mp hx) (mem_allV.mp hy) e)) this)
  have le := nodup_len (m := allV k) nd fun x hx => by
    obtain ⟨t, ht, rfl⟩ := List.mem_map.mp hx
    exact mem_allV.mpr (h t (mem_allV.mp ht))
  rw [List.length_map, len_allV, len_allV] at le
  exact Nat.le_of_not_lt fun c => Nat.not_le_of_lt (Nat.pow_lt_pow_right (by decide) c) le
def sub (x y : List F) : List F := List.zipWith (fun a b => a - b) x y
theorem sub_len {N : Nat} {x y : List F} (hx : x.length = N) (hy : y.length = N) : (sub x y).length = N := by
  unfold sub
  rw [List.length_zipWith, hx, hy, Nat.min_self]
theorem f1 : ∀ a b c : F, a - c = b - c → a = b := by decide
theorem f2 : ∀ a b c d : F, a - b = c - d → a - c = b - d := by decide
theorem f3 : ∀ a b c : F, a - b = a - c → b = c := by decide
theorem sub_right : ∀ {x y z : List F}, x.length = z.length → y.length = z.length → sub x z = sub y z → x = y
  | [], [], _, _, _, _ => rfl
  | a :: x, b :: y, c :: z, h1, h2, e => by
    have e := List.cons.inj (show (a - c) :: sub x z = (b - c) :: sub y z from e)
    rw [f1 a b c e.1, sub_right (by simpa using h1) (by simpa using h2) e.2]
  | [], b :: y, z, h1, h2, _ => by rw [← h1] at h2; simp at h2
  | a :: x, [], z, h1, h2, _ => by rw [← h2] at h1; simp at h1
  | a :: x, b :: y, [], h1, _, _ => by simp at h1
theorem sub_left : ∀ {x y z : List F}, y.length = x.length → z.length = x.length → sub x y = sub x z → y = z
  | [], y, z, h1, h2, _ => by
    rw [List.length_eq_zero_iff.mp (show y.length = 0 by simpa using h1), List.length_eq_zero_iff.mp (show z.length = 0 by simpa using h2)]
  | a :: x, b :: y, c :: z, h1, h2, e => by
    have e := List.cons.inj (show (a - b) :: sub x y = (a - c) :: sub x z from e)
    rw [f3 a b c e.1, sub_left (by simpa using h1) (by simpa using h2) e.2]
  | a :: x, [], z, h1, _, _ => by simp at h1
  | a :: x, b :: y, [], _, h2, _ => by simp at h2
theorem sub_swap : ∀ {x y z w : List F}, y.length = x.length → z.length = x.length → w.length = x.length → sub x y = sub z w → sub x z = sub y w
  | [], y, z, w, h1, h2, h3, _ => by
    rw [List.length_eq_zero_iff.mp (show y.length = 0 by simpa using h1), List.length_eq_zero_iff.mp (show z.length = 0 by simpa using h2), List.length_eq_zero_iff.mp (show w.length = 0 by simpa using h3)]
  | a :: x, b :: y, c :: z, d :: w, h1, h2, h3, e => by
    have e := List.cons.inj (show (a - b) :: sub x y = (c - d) :: sub z w from e)
    show (a - c) :: sub x z = (b - d) :: sub y w
    rw [f2 a b c d e.1, sub_swap (by simpa using h1) (by simpa using h2) (by simpa using h3) e.2]
  | a :: x, [], _, _, h1, _, _, _ => by simp at h1
  | a :: x, b :: y, [], _, _, h2, _, _ => by simp at h2
  | a :: x, b :: y, c :: z, [], _, _, h3, _ => by simp at h3
/-- two subgroups, a third that holds what both hold: the dimensions -/
theorem tri {N d1 d2 d3 : Nat} {K1 K2 K3 : List F → Prop} (e1 e2 u : List F → List F)
    (h1 : ∀ t, t.length = d1 → K1 (e1 t) ∧ (e1 t).length = N) (i1 : ∀ t t', t.length = d1 → t'.length = d1 → e1 t = e1 t' → t = t')
    (h2 : ∀ t, t.length = d2 → K2 (e2 t) ∧ (e2 t).length = N) (i2 : ∀ t t', t.length = d2 → t'.length = d2 → e2 t = e2 t' → t = t')
    (c1 : ∀ x y, x.length = N → y.length = N → K1 x → K1 y → K1 (sub x y)) (c2 : ∀ x y, x.length = N → y.length = N → K2 x → K2 y → K2 (sub x y))
    (c3 : ∀ x, x.length = N → K1 x → K2 x → K3 x)
    (hu : ∀ x, x.length = N → K3 x → (u x).length = d3) (iu : ∀ x y, x.length = N → y.length = N → K3 x → K3 y → u x = u y → x = y) : d1 + d2 ≤ N + d3 := by
  classical
  let R : List F → List F × List F → Prop := fun w p => K1 p.1 ∧ K2 p.2 ∧ p.1.length = N ∧ p.2.length = N ∧ sub p.1 p.2 = w
  let ch : List F → List F × List F := fun w => if h : ∃ p, R w p then Classical.choose h else ([], [])
  have hch : ∀ w p, R w p → R w (ch w) := by
    intro w p hp
    have h : ∃ p, R w p := ⟨p, hp⟩
    show R w (if h : ∃ p, R w p then Classical.choose h else ([], []))
    rw [dif_pos h]
    exact Classical.choose_spec h
  let X : List F → List F := fun t => e1 (t.take d1)
  let Y : List F → List F := fun t => e2 (t.drop d1)
  let Wt : List F → List F := fun t => sub (X t) (Y t)
  have base : ∀ t, t.length = d1 + d2 → R (Wt t) (X t, Y t) := fun t ht => by
    obtain ⟨k1, l1⟩ := h1 (t.take d1) (by rw [List.length_take]; omega)
    obtain ⟨k2, l2⟩ := h2 (t.drop d1) (by rw [List.length_drop]; omega)
    exact ⟨k1, k2, l1, l2, rfl⟩
  have diff : ∀ t, t.length = d1 + d2 → K3 (sub (X t) (ch (Wt t)).1) ∧ (sub (X t) (ch (Wt t)).1).length = N ∧ (X t).length = N ∧ (Y t).length = N ∧ (ch (Wt t)).1.length = N ∧ (Wt t).length = N := fun t ht => by
    have b := base t ht
    obtain ⟨k1, k2, l1, l2, _⟩ := b
    obtain ⟨q1, q2, m1, m2, e⟩ := hch _ _ (base t ht)
    have sw : sub (X t) (ch (Wt t)).1 = sub (Y t) (ch (Wt t)).2 := sub_swap (by rw [l2, l1]) (by rw [m1, l1]) (by rw [m2, l1]) e.symm
    refine ⟨c3 _ (sub_len l1 m1) (c1 _ _ l1 m1 k1 q1) ?_, sub_len l1 m1, l1, l2, m1, sub_len l1 l2⟩
    rw [sw]
    exact c2 _ _ l2 m2 k2 q2
  refine pigeon (m := d1 + d2) (k := N + d3) (fun t => Wt t ++ u (sub (X t) (ch (Wt t)).1)) (fun t ht => ?_) (fun t t' ht ht' e => ?_)
  · obtain ⟨k, l, _, _, _, lw⟩ := diff t ht
    rw [List.length_append, lw, hu _ l k]
  · obtain ⟨k, l, lx, ly, lc, lw⟩ := diff t ht
    obtain ⟨k', l', lx', ly', lc', lw'⟩ := diff t' ht'
    obtain ⟨ew, eu⟩ := List.append_inj e (by rw [lw, lw'])
    have ed := iu _ _ l l' k k' eu
    rw [← ew] at ed
    have ex : X t = X t' := sub_right (by rw [lx, lc]) (by rw [lx', lc]) ed
    have ey : Y t = Y t' := by
      have ew2 : sub (X t) (Y t) = sub (X t') (Y t') := ew
      rw [← ex] at ew2
      exact sub_left (by rw [ly, lx]) (by rw [ly', lx]) ew2
    have a1 := i1 _ _ (by rw [List.length_take]; omega) (by rw [List.length_take]; omega) ex
    have a2 := i2 _ _ (by rw [List.length_drop]; omega) (by rw [List.length_drop]; omega) ey
    rw [← List.take_append_drop d1 t, a1, a2, List.take_append_drop]
end TI
-- TJ
set_option Elab.async false
set_option linter.all false
set_option maxRecDepth 100000
set_option maxHeartbeats 4000000
/-! TJ: what a vector of K (both pairings read the same off it) is along a row. -/
namespace TI
open DC
/-- what a pairing reads off a vector at an end: the mate's number, or the end's own, doubled -/
def vl (f : Nat → Option Nat) (x : Nat → F) (e : Nat) : F := match f e with
  | some q => x q
  | none => 2 * x e
def At (f g : Nat → Option Nat) (x : Nat → F) (e : Nat) : Prop := vl f x e = vl g x e
section
variable {N : Nat} {f g : Nat → Option Nat} {a k : Nat} {x : Nat → F}
theorem vl_some {e q : Nat} (h : f e = some q) : vl f x e = x q := by
  unfold vl
  rw [h]
theorem vl_none {e : Nat} (h : f e = none) : vl f x e = 2 * x e := by
  unfold vl
  rw [h]
theorem at_hh {i e : Nat} (h : At f g x e) : vl (hh f g i) x e = vl (hh f g (i + 1)) x e := by
  unfold hh
  by_cases c : i % 2 = 0
  · rw [if_pos c, if_neg (by omega)]
    exact h
  · rw [if_neg c, if_pos (by omega)]
    exact h.symm
theorem hh_at {i e : Nat} (h : vl (hh f g i) x e = vl (hh f g (i + 1)) x e) : At f g x e := by
  unfold hh at h
  by_cases c : i % 2 = 0
  · rw [if_pos c, if_neg (by omega)] at h
    exact h
  · rw [if_neg c, if_pos (by omega)] at h
    exact h.symm
/-- two on, the same -/
theorem two_on (F1 : Mt N f) (G1 : Mt N g) {i p q r : Nat} (hp : jt f g a i = some p) (hq : jt f g a (i + 1) = some q) (hr : jt f g a (i + 2) = some r) (h : At f g x q) : x r = x p := by
  have h1 : hh f g i p = some q := by rw [← jt_next hp]; exact hq
  have h2 : hh f g (i + 1) q = some r := by rw [← jt_next hq]; exact hr
  have h3 := hh_inv F1 G1 h1
  have e := at_hh (i := i) h
  rw [vl_some h3, vl_some h2] at e
  exact e.symm
theorem path_on (F1 : Mt N f) (G1 : Mt N g) (h0 : g a = none) (hx : ∀ i e, i + 1 < k → jt f g a i = some e → At f g x e) : ∀ i e, i < k → jt f g a i = some e → x e = if i % 2 = 0 then x a else 2 * x a
  | 0, e, _, h => by
    obtain rfl : a = e := Option.some.inj h
    rfl
  | 1, e, hi, h => by
    have h1 : hh f g 0 a = some e := by rw [← jt_next (k := 0) (f := f) (g := g) (a := a) rfl]; exact h
    have A := hx 0 a hi rfl
    have e1 : f a = some e := h1
    unfold At at A
    rw [vl_some e1, vl_none h0] at A
    rw [if_neg (by decide)]
    exact A
  | i + 2, e, hi, h => by
    obtain ⟨q, hq, _⟩ := jt_step h
    obtain ⟨p, hp, _⟩ := jt_step hq
    have := two_on F1 G1 hp hq h (hx (i + 1) q hi hq)
    rw [this, path_on F1 G1 h0 hx i p (by omega) hp]
    by_cases c : i % 2 = 0
    · rw [if_pos c, if_pos (by omega)]
    · rw [if_neg c, if_neg (by omega)]
theorem ring_on (F1 : Mt N f) (G1 : Mt N g) {b : Nat} (hb : jt f g a 1 = some b) (hx : ∀ i e, i + 1 < k → jt f g a i = some e → At f g x e) : ∀ i e, i < k → jt f g a i = some e → x e = if i % 2 = 0 then x a else x b
  | 0, e, _, h => by
    obtain rfl : a = e := Option.some.inj h
    rfl
  | 1, e, hi, h => by
    rw [hb] at h
    obtain rfl := Option.some.inj h
    rfl
  | i + 2, e, hi, h => by
    obtain ⟨q, hq, _⟩ := jt_step h
    obtain ⟨p, hp, _⟩ := jt_step hq
    have := two_on F1 G1 hp hq h (hx (i + 1) q hi hq)
    rw [this, ring_on F1 G1 hb hx i p (by omega) hp]
    by_cases c : i % 2 = 0
    · rw [if_pos c, if_pos (by omega)]
    · rw [if_neg c, if_neg (by omega)]
theorem z5 : ∀ z : F, z = 2 * (2 * z) → z = 0 := by decide
/-- an even path tells nothing but 0 -/
theorem even_zero (F1 : Mt N f) (G1 : Mt N g) (R : Rj f g a k) (h0 : g a = none) (ev : k % 2 = 0) (hx : ∀ i e, i < k → jt f g a i = some e → At f g x e) : x a = 0 := by
  have fin := path_fin F1 G1 R h0
  have pos := R.pos
  obtain ⟨m, rfl⟩ : ∃ m, k = m + 2 := ⟨k - 2, by omega⟩
  obtain ⟨q, hq⟩ := R.all (m + 1) (by omega)
  obtain ⟨p, hp, _⟩ := jt_step hq
  have on := path_on (k := m + 2) (x := x) F1 G1 h0 fun i e hi h => hx i e (by omega) h
  have h1 : hh f g m p = some q := by rw [← jt_next hp]; exact hq
  have h2 : hh f g (m + 1) q = none := by rw [← jt_next hq]; exact fin
  have h3 := hh_inv F1 G1 h1
  have e := at_hh (i := m) (hx (m + 1) q (by omega) hq)
  rw [vl_some h3, vl_none h2, on m p (by omega) hp, on (m + 1) q (by omega) hq, if_pos (by omega), if_neg (by omega)] at e
  exact z5 _ e
end
end TI
-- TK
set_option Elab.async false
set_option linter.all false
set_option maxRecDepth 100000
set_option maxHeartbeats 4000000
/-! TK: the vectors of K along a row, the other way round; the pieces of a web. -/
namespace TI
open PySem L2 DC
section
variable {N : Nat} {f g : Nat → Option Nat} {a k : Nat} {x : Nat → F}
theorem path_mk (F1 : Mt N f) (G1 : Mt N g) (R : Rj f g a k) (h0 : g a = none) {α : F} (hx : ∀ i e, i < k → jt f g a i = some e → x e = if i % 2 = 0 then α else 2 * α) (ev : k % 2 = 0 → α = 0) : ∀ i e, i < k → jt f g a i = some e → At f g x e
  | 0, e, hi, h => by
    obtain rfl : a = e := Option.some.inj h
    have xa : x a = α := hx 0 a hi rfl
    unfold At
    rw [vl_none h0, xa]
    by_cases c : 1 < k
    · obtain ⟨b, hb⟩ := R.all 1 c
      have e1 : f a = some b := by
        have := jt_next (f := f) (g := g) (a := a) (k := 0) rfl
        rw [← show hh f g 0 a = f a from rfl, ← this]
        exact hb
      rw [vl_some e1, hx 1 b c hb, if_neg (by decide)]
    · have e1 : f a = none := by
        have fin := path_fin F1 G1 R h0
        have k1 : k = 0 + 1 := by omega
        rw [k1, jt_next (f := f) (g := g) (a := a) (k := 0) rfl] at fin
        exact fin
      rw [vl_none e1, xa]
  | j + 1, e, hi, h => by
    obtain ⟨p, hp, h1⟩ := jt_step h
    have h3 := hh_inv F1 G1 h1
    refine hh_at (i := j) ?_
    rw [vl_some h3, hx j p (by omega) hp]
    by_cases c : j + 2 < k
    · obtain ⟨r, hr⟩ := R.all (j + 2) c
      have h2 : hh f g (j + 1) e = some r := by rw [← jt_next h]; exact hr
      rw [vl_some h2, hx (j + 2) r c hr]
      by_cases d : j % 2 = 0
      · rw [if_pos d, if_pos (by omega)]
      · rw [if_neg d, if_neg (by omega)]
    · have fin := path_fin F1 G1 R h0
      have k1 : k = j + 1 + 1 := by omega
      rw [k1, jt_next h] at fin
      rw [vl_none fin, hx (j + 1) e hi h]
      by_cases d : j % 2 = 0
      · have z := ev (by omega)
        rw [if_pos d, if_neg (by omega), z]
        decide
      · rw [if_neg d, if_pos (by omega)]
theorem ring_mk (F1 : Mt N f) (G1 : Mt N g) (R : Rj f g a k) (h0 : jt f g a k = some a) (ev : k % 2 = 0) {α β : F} (hx : ∀ i e, i < k → jt f g a i = some e → x e = if i % 2 = 0 then α else β) : ∀ i e, i < k → jt f g a i = some e → At f g x e
  | 0, e, hi, h => by
    obtain rfl : a = e := Option.some.inj h
    have pos := R.pos
    obtain ⟨b, hb⟩ := R.all 1 (by omega)
    have e1 : f a = some b := by
      have := jt_next (f := f) (g := g) (a := a) (k := 0) rfl
      rw [← show hh f g 0 a = f a from rfl, ← this]
      exact hb
    obtain ⟨m, rfl⟩ : ∃ m, k = m + 1 := ⟨k - 1, by omega⟩
    obtain ⟨q, hq, h2⟩ := jt_step h0
    have h3 := hh_inv F1 G1 h2
    have e2 : g a = some q := by
      unfold hh at h3
      rw [if_neg (by omega)] at h3
      exact h3
    unfold At
    rw [vl_some e1, vl_some e2, hx 1 b (by omega) hb, hx m q (by omega) hq, if_neg (by decide), if_neg (by omega)]
  | j + 1, e, hi, h => by
    obtain ⟨p, hp, h1⟩ := jt_step h
    have h3 := hh_inv F1 G1 h1
    refine hh_at (i := j) ?_
    rw [vl_some h3, hx j p (by omega) hp]
    by_cases c : j + 2 < k
    · obtain ⟨r, hr⟩ := R.all (j + 2) c
      have h2 : hh f g (j + 1) e = some r := by rw [← jt_next h]; exact hr
      rw [vl_some h2, hx (j + 2) r c hr]
      by_cases d : j % 2 = 0
      · rw [if_pos d, if_pos (by omega)]
      · rw [if_neg d, if_neg (by omega)]
    · have k1 : k = j + 1 + 1 := by omega
      have h2 : hh f g (j + 1) e = some a := by rw [← jt_next h, ← k1]; exact h0
      rw [vl_some h2, hx 0 a (by omega) rfl, if_pos (by omega), if_pos (by omega)]
end
/-- a piece of a web, walked -/
structure Fm (js ls : List J2) (p : Str × List Nat) (f g : Nat → Option Nat) (a k : Nat) : Prop where
  fg : (f = mt js ∧ g = mt ls) ∨ (f = mt ls ∧ g = mt js)
  R : Rj f g a k
  row : p.2 = rj f g a k
  kind : (g a = none ∧ ((k % 2 = 1 ∧ p.1 = "odd") ∨ (k % 2 = 0 ∧ p.1 ≠ "odd" ∧ p.1 ≠ "ring"))) ∨ (p.1 = "ring" ∧ jt f g a k = some a ∧ k % 2 = 0)
theorem fm_ex {n : Nat} {js ls : List J2} (g1 : Good n js) (g2 : Good n ls) {p : Str × List Nat} (h : Wpc n js ls p) : ∃ f g a k, Fm js ls p f g a k := by
  obtain ⟨a, ha, c, ⟨hl, ⟨kd, ⟨k, hk⟩, ek⟩, _⟩ | ⟨hn, ek, ⟨k, R, er⟩, _⟩⟩ := h
  · have fin : ∀ f g : Nat → Option Nat, ((f = mt js ∧ g = mt ls) ∨ (f = mt ls ∧ g = mt js)) → g a = none → Rj f g a k → p.2 = rj f g a k → (kd = "open" ∨ kd = "shut") → ∃ f g a k, Fm js ls p f g a k := by
      intro f g fg h0 R er hkd
      refine ⟨f, g, a, k, fg, R, er, .inl ⟨h0, ?_⟩⟩
      have hlen : p.2.length = k := by rw [er, rj_len]
      unfold oddK at ek
      rw [hlen] at ek
      by_cases o : k % 2 = 1
      · rw [if_pos o] at ek
        exact .inl ⟨o, ek⟩
      · rw [if_neg o] at ek
        refine .inr ⟨by omega, ?_, ?_⟩ <;> rw [ek] <;> rcases hkd with rfl | rfl <;> decide +kernel
    rcases hk with ⟨e, R, er, ekd⟩ | ⟨e, R, er, ekd⟩
    · exact fin _ _ (.inr ⟨rfl, rfl⟩) e R er (.inl ekd)
    · refine fin _ _ (.inl ⟨rfl, rfl⟩) ?_ R er (.inr ekd)
      rcases hl with z | z
      · exact absurd z e
      · exact z
  · have pos := R.pos
    have cy : jt (mt js) (mt ls) a k = some a := by
      rcases R.fin with z | z
      · exfalso
        obtain ⟨y, hy⟩ := R.all (k - 1) (by omega)
        have hm : y ∈ p.2 := by
          rw [er]
          exact (mem_rj R.toPj).mpr ⟨k - 1, by omega, hy⟩
        have e := jt_next hy
        rw [show k - 1 + 1 = k by omega, z] at e
        refine hn y hm ?_
        unfold hh at e
        split at e
        · exact .inl e.symm
        · exact .inr e.symm
      · exact z
    refine ⟨mt js, mt ls, a, k, .inl ⟨rfl, rfl⟩, R, er, .inr ⟨ek, cy, ?_⟩⟩
    by_cases o : k % 2 = 0
    · exact o
    · rw [show k = 0 + (2 * (k / 2) + 1) by omega] at cy
      exact (jt_odd g1.mt g2.mt (k / 2) 0 a rfl cy).elim
end TI
-- TL
set_option Elab.async false
set_option linter.all false
set_option maxRecDepth 100000
set_option maxHeartbeats 4000000
/-! TL: as many free choices as a web's rings, twice, and its odd pieces. -/
namespace TI
open PySem L2 DC
abbrev Pc := Str × List Nat
def wd (p : Pc) : Nat := if p.1 = "ring" then 2 else if p.1 = "odd" then 1 else 0
def dm (ps : List Pc) : Nat := (ps.map wd).sum
def pval (p : Pc) (t : List F) (i : Nat) : F := if p.1 = "ring" then (if i % 2 = 0 then t.getD 0 0 else t.getD 1 0) else if p.1 = "odd" then (if i % 2 = 0 then t.getD 0 0 else 2 * t.getD 0 0) else 0
def val : List Pc → List F → Nat → F
  | [], _, _ => 0
  | p :: ps, t, e => if e ∈ p.2 then pval p (t.take (wd p)) (p.2.idxOf e) else val ps (t.drop (wd p)) e
def pick (x : Nat → F) (p : Pc) : List F := if p.1 = "ring" then [x (p.2.getD 0 0), x (p.2.getD 1 0)] else if p.1 = "odd" then [x (p.2.getD 0 0)] else []
def picks (x : Nat → F) (ps : List Pc) : List F := ps.flatMap (pick x)
theorem pick_len (x : Nat → F) (p : Pc) : (pick x p).length = wd p := by
  unfold pick wd
  by_cases c : p.1 = "ring"
  · rw [if_pos c, if_pos c]
    rfl
  · rw [if_neg c, if_neg c]
    by_cases d : p.1 = "odd"
    · rw [if_pos d, if_pos d]
      rfl
    · rw [if_neg d, if_neg d]
      rfl
theorem dm_cons (p : Pc) (ps : List Pc) : dm (p :: ps) = wd p + dm ps := by
  unfold dm
  rw [List.map_cons, List.sum_cons]
theorem picks_len (x : Nat → F) : ∀ ps : List Pc, (picks x ps).length = dm ps
  | [] => rfl
  | p :: ps => by
    unfold picks
    rw [List.flatMap_cons, List.length_append, pick_len, dm_cons]
    have := picks_len x ps
    unfold picks at this
    rw [this]
/-- a row that can be told by its first ends -/
structure Rw (p : Pc) : Prop where
  nd : p.2.Nodup
  pos : 0 < p.2.length
  two : p.1 = "ring" → 2 ≤ p.2.length
def Dis (ps : List Pc) : Prop := ps.Pairwise fun p q => ∀ e, e ∈ p.2 → e ∉ q.2
theorem idx_at {l : List Nat} (h : l.Nodup) {i : Nat} (hi : i < l.length) : l.idxOf (l.getD i 0) = i := by
  have e : l.getD i 0 = l[i] := by
    rw [List.getD_eq_getElem?_getD, List.getElem?_eq_getElem hi]
    rfl
  rw [e]
  exact h.idxOf_getElem i hi
theorem mem_at {l : List Nat} {i : Nat} (hi : i < l.length) : l.getD i 0 ∈ l := by
  rw [List.getD_eq_getElem?_getD, List.getElem?_eq_getElem hi]
  exact List.getElem_mem _
theorem val_on : ∀ {ps : List Pc} {t : List F}, Dis ps → ∀ p ∈ ps, ∃ tp : List F, ∀ e ∈ p.2, val ps t e = pval p tp (p.2.idxOf e)
  | [], _, _, p, h => absurd h List.not_mem_nil
  | q :: ps, t, hd, p, h => by
    have hd' := List.pairwise_cons.mp hd
    rcases List.mem_cons.mp h with rfl | h
    · refine ⟨t.take (wd p), fun e he => ?_⟩
      show (if e ∈ p.2 then _ else _) = _
      rw [if_pos he]
    · obtain ⟨tp, htp⟩ := val_on (t := t.drop (wd q)) hd'.2 p h
      refine ⟨tp, fun e he => ?_⟩
      show (if e ∈ q.2 then _ else _) = _
      rw [if_neg fun z => hd'.1 p h e z he]
      exact htp e he
theorem pick_congr {x y : Nat → F} {p : Pc} (r : Rw p) (h : ∀ e ∈ p.2, x e = y e) : pick x p = pick y p := by
  unfold pick
  by_cases c : p.1 = "ring"
  · rw [if_pos c, if_pos c, h _ (mem_at r.pos), h _ (mem_at (r.two c))]
  · rw [if_neg c, if_neg c]
    by_cases d : p.1 = "odd"
    · rw [if_pos d, if_pos d, h _ (mem_at r.pos)]
    · rw [if_neg d, if_neg d]
theorem picks_val : ∀ {ps : List Pc} {t : List F}, Dis ps → (∀ p ∈ ps, Rw p) → t.length = dm ps → picks (val ps t) ps = t
  | [], t, _, _, h => (List.length_eq_zero_iff.mp h).symm
  | p :: ps, t, hd, hr, h => by
    have hd' := List.pairwise_cons.mp hd
    rw [dm_cons] at h
    have r := hr p List.mem_cons_self
    have ih := picks_val (ps := ps) (t := t.drop (wd p)) hd'.2 (fun q hq => hr q (List.mem_cons_of_mem _ hq)) (by rw [List.length_drop]; omega)
    have hv : ∀ e ∈ p.2, val (p :: ps) t e = pval p (t.take (wd p)) (p.2.idxOf e) := fun e he => by
      show (if e ∈ p.2 then _ else _) = _
      rw [if_pos he]
    have e1 : pick (val (p :: ps) t) p = t.take (wd p) := by
      have l : (t.take (wd p)).length = wd p := by rw [List.length_take]; omega
      generalize t.take (wd p) = tp at hv l
      unfold pick
      unfold wd at l
      by_cases c : p.1 = "ring"
      · rw [if_pos c] at l ⊢
        rw [hv _ (mem_at r.pos), hv _ (mem_at (r.two c)), idx_at r.nd r.pos, idx_at r.nd (r.two c)]
        unfold pval
        rw [if_pos c, if_pos c, if_pos (by decide), if_neg (by decide)]
        match tp, l with
        | [u, v], _ => rfl
      · rw [if_neg c] at l ⊢
        by_cases d : p.1 = "odd"
        · rw [if_pos d] at l ⊢
          rw [hv _ (mem_at r.pos), idx_at r.nd r.pos]
          unfold pval
          rw [if_neg c, if_pos d, if_pos (by decide)]
          match tp, l with
          | [u], _ => rfl
        · rw [if_neg d] at l ⊢
          match tp, l with
          | [], _ => rfl
    have e2 : picks (val (p :: ps) t) ps = picks (val ps (t.drop (wd p))) ps := by
      unfold picks
      have gen : ∀ l : List Pc, (∀ q ∈ l, q ∈ ps) → l.flatMap (pick (val (p :: ps) t)) = l.flatMap (pick (val ps (t.drop (wd p)))) := by
        intro l
        induction l with
        | nil => intro _; rfl
        | cons q l ih2 =>
          intro hl
          rw [List.flatMap_cons, List.flatMap_cons, ih2 fun z hz => hl z (List.mem_cons_of_mem _ hz)]
          have hq := hl q List.mem_cons_self
          rw [pick_congr (hr q (List.mem_cons_of_mem _ hq)) fun e he => ?_]
          show (if e ∈ p.2 then _ else _) = _
          rw [if_neg fun z => hd'.1 q hq e z he]
      exact gen ps fun _ h => h
    show pick (val (p :: ps) t) p ++ picks (val (p :: ps) t) ps = t
    rw [e1, e2, ih, List.take_append_drop]
section
variable {n : Nat} {js ls : List J2} {ps : List Pc}
theorem row_ix {f g : Nat → Option Nat} {a k N : Nat} (F1 : Mt N f) (G1 : Mt N g) (R : Rj f g a k) {i e : Nat} (hi : i < k) (h : jt f g a i = some e) : (rj f g a k).idxOf e = i ∧ (rj f g a k).getD i 0 = e := by
  have at_ : (rj f g a k)[i]? = some e := by
    unfold rj
    rw [List.getElem?_map, List.getElem?_range hi]
    show some ((jt f g a i).getD 0) = _
    rw [h]
    rfl
  have l : i < (rj f g a k).length := by rw [rj_len]; exact hi
  have ge : (rj f g a k).getD i 0 = e := by
    rw [List.getD_eq_getElem?_getD, at_]
    rfl
  refine ⟨?_, ge⟩
  have := idx_at (R.toPj.nodup F1 G1) l
  rw [ge] at this
  exact this
theorem fm_mt {f g : Nat → Option Nat} {a k : Nat} {p : Pc} (g1 : Good n js) (g2 : Good n ls) (m : Fm js ls p f g a k) : Mt (2 * n) f ∧ Mt (2 * n) g := by
  rcases m.fg with ⟨rfl, rfl⟩ | ⟨rfl, rfl⟩
  · exact ⟨g1.mt, g2.mt⟩
  · exact ⟨g2.mt, g1.mt⟩
theorem fm_rw {f g : Nat → Option Nat} {a k : Nat} {p : Pc} (g1 : Good n js) (g2 : Good n ls) (m : Fm js ls p f g a k) : Rw p := by
  obtain ⟨F1, G1⟩ := fm_mt g1 g2 m
  have pos := m.R.pos
  refine ⟨?_, ?_, fun hr => ?_⟩
  · rw [m.row]
    exact m.R.toPj.nodup F1 G1
  · rw [m.row, rj_len]
    exact pos
  · rw [m.row, rj_len]
    rcases m.kind with ⟨_, ⟨_, z⟩ | ⟨_, _, z⟩⟩ | ⟨_, _, z⟩
    · rw [hr] at z
      exact absurd z (by decide +kernel)
    · exact absurd hr z
    · omega
theorem fm_at {f g : Nat → Option Nat} {a k : Nat} {p : Pc} (m : Fm js ls p f g a k) {x : Nat → F} {e : Nat} : At f g x e ↔ At (mt js) (mt ls) x e := by
  rcases m.fg with ⟨rfl, rfl⟩ | ⟨rfl, rfl⟩
  · exact Iff.rfl
  · exact ⟨fun h => h.symm, fun h => h.symm⟩
/-- what is chosen so is read the same off both -/
theorem val_K (g1 : Good n js) (g2 : Good n ls) (W : IsWeb n js ls ps) (dis : Dis ps) (t : List F) : ∀ e, e < 2 * n → At (mt js) (mt ls) (val ps t) e := by
  intro e he
  obtain ⟨p, hp, hm⟩ := W.cov g1 g2 e he
  obtain ⟨f, g, a, k, m⟩ := fm_ex g1 g2 ((W.mem p).mp hp)
  obtain ⟨F1, G1⟩ := fm_mt g1 g2 m
  obtain ⟨tp, htp⟩ := val_on (t := t) dis p hp
  refine (fm_at m).mp ?_
  have hm2 := hm
  rw [m.row] at hm2
  obtain ⟨i, hi, hj⟩ := (mem_rj m.R.toPj).mp hm2
  have hx : ∀ i e, i < k → jt f g a i = some e → val ps t e = pval p tp i := fun i e hi hj => by
    have q : e ∈ p.2 := by
      rw [m.row]
      exact (mem_rj m.R.toPj).mpr ⟨i, hi, hj⟩
    rw [htp e q, m.row, (row_ix F1 G1 m.R hi hj).1]
  rcases m.kind with ⟨h0, ⟨o, ek⟩ | ⟨o, nk1, nk2⟩⟩ | ⟨ek, cy, ev⟩
  · refine path_mk F1 G1 m.R h0 (α := tp.getD 0 0) (fun i e hi hj => ?_) (fun z => by omega) i e hi hj
    rw [hx i e hi hj]
    unfold pval
    rw [if_neg (by rw [ek]; decide +kernel), if_pos ek]
  · refine path_mk F1 G1 m.R h0 (α := 0) (fun i e hi hj => ?_) (fun _ => rfl) i e hi hj
    rw [hx i e hi hj]
    unfold pval
    rw [if_neg nk2, if_neg nk1]
    split <;> rfl
  · refine ring_mk F1 G1 m.R cy ev (α := tp.getD 0 0) (β := tp.getD 1 0) (fun i e hi hj => ?_) i e hi hj
    rw [hx i e hi hj]
    unfold pval
    rw [if_pos ek]
/-- what is read the same off both is told by its choices -/
theorem K_uniq (g1 : Good n js) (g2 : Good n ls) (W : IsWeb n js ls ps) {x y : Nat → F} (hx : ∀ e, e < 2 * n → At (mt js) (mt ls) x e) (hy : ∀ e, e < 2 * n → At (mt js) (mt ls) y e) (he : picks x ps = picks y ps) : ∀ e, e < 2 * n → x e = y e := by
  intro e hlt
  obtain ⟨p, hp, hm⟩ := W.cov g1 g2 e hlt
  have ep : pick x p = pick y p := by
    have gen : ∀ l : List Pc, p ∈ l → picks x l = picks y l → pick x p = pick y p := by
      intro l
      induction l with
      | nil => intro h _; exact absurd h List.not_mem_nil
      | cons q l ih =>
        intro h e
        obtain ⟨e1, e2⟩ := List.append_inj (show pick x q ++ picks x l = pick y q ++ picks y l from e) (by rw [pick_len, pick_len])
        rcases List.mem_cons.mp h with rfl | h
        · exact e1
        · exact ih h e2
    exact gen ps hp he
  have wp := (W.mem p).mp hp
  obtain ⟨f, g, a, k, m⟩ := fm_ex g1 g2 wp
  obtain ⟨F1, G1⟩ := fm_mt g1 g2 m
  have r := fm_rw g1 g2 m
  have pos := m.R.pos
  rw [m.row] at hm
  obtain ⟨i, hi, hj⟩ := (mem_rj m.R.toPj).mp hm
  have inR : ∀ i e, i < k → jt f g a i = some e → e < 2 * n := fun i e hi hj => wpc_lt wp e (by rw [m.row]; exact (mem_rj m.R.toPj).mpr ⟨i, hi, hj⟩)
  have ax : ∀ i e, i < k → jt f g a i = some e → At f g x e := fun i e hi hj => (fm_at m).mpr (hx e (inR i e hi hj))
  have ay : ∀ i e, i < k → jt f g a i = some e → At f g y e := fun i e hi hj => (fm_at m).mpr (hy e (inR i e hi hj))
  have r0 : p.2.getD 0 0 = a := by
    rw [m.row]
    exact (row_ix F1 G1 m.R pos rfl).2
  rcases m.kind with ⟨h0, ⟨o, ek⟩ | ⟨o, nk1, nk2⟩⟩ | ⟨ek, cy, ev⟩
  · have e1 : x a = y a := by
      have nr : ¬ p.1 = "ring" := by
        rw [ek]
        decide +kernel
      unfold pick at ep
      rw [if_neg nr, if_pos ek, if_neg nr, if_pos ek, r0] at ep
      exact (List.cons.inj ep).1
    rw [path_on F1 G1 h0 (fun i e hi => ax i e (by omega)) i e hi hj, path_on F1 G1 h0 (fun i e hi => ay i e (by omega)) i e hi hj, e1]
  · have e1 := even_zero F1 G1 m.R h0 o ax
    have e2 := even_zero F1 G1 m.R h0 o ay
    rw [path_on F1 G1 h0 (fun i e hi => ax i e (by omega)) i e hi hj, path_on F1 G1 h0 (fun i e hi => ay i e (by omega)) i e hi hj, e1, e2]
  · obtain ⟨b, hb⟩ := m.R.all 1 (by omega)
    have r1 : p.2.getD 1 0 = b := by
      rw [m.row]
      exact (row_ix F1 G1 m.R (by omega) hb).2
    have e12 : x a = y a ∧ x b = y b := by
      unfold pick at ep
      rw [if_pos ek, if_pos ek, r0, r1] at ep
      exact ⟨(List.cons.inj ep).1, (List.cons.inj (List.cons.inj ep).2).1⟩
    rw [ring_on F1 G1 hb (fun i e hi => ax i e (by omega)) i e hi hj, ring_on F1 G1 hb (fun i e hi => ay i e (by omega)) i e hi hj, e12.1, e12.2]
end
/-! the inequality -/
def fn (l : List F) : Nat → F := fun e => l.getD e 0
def mk (N : Nat) (x : Nat → F) : List F := (List.range N).map x
theorem mk_len (N : Nat) (x : Nat → F) : (mk N x).length = N := by
  unfold mk
  rw [List.length_map, List.length_range]
theorem fn_mk {N : Nat} {x : Nat → F} {e : Nat} (h : e < N) : fn (mk N x) e = x e := by
  unfold fn mk
  rw [List.getD_eq_getElem?_getD, List.getElem?_map, List.getElem?_range h]
  rfl
theorem fn_ext {N : Nat} {x y : List F} (hx : x.length = N) (hy : y.length = N) (h : ∀ e, e < N → fn x e = fn y e) : x = y := by
  refine List.ext_getElem (by rw [hx, hy]) fun i h1 h2 => ?_
  have := h i (by omega)
  unfold fn at this
  rw [List.getD_eq_getElem?_getD, List.getD_eq_getElem?_getD, List.getElem?_eq_getElem h1, List.getElem?_eq_getElem h2] at this
  exact this
theorem fn_sub {N : Nat} {x y : List F} (hx : x.length = N) (hy : y.length = N) {e : Nat} (h : e < N) : fn (sub x y) e = fn x e - fn y e := by
  have l := sub_len hx hy
  unfold fn
  rw [List.getD_eq_getElem?_getD, List.getD_eq_getElem?_getD, List.getD_eq_getElem?_getD, List.getElem?_eq_getElem (by omega), List.getElem?_eq_getElem (by omega), List.getElem?_eq_getElem (by omega)]
  unfold sub
  rw [List.getElem_zipWith]
  rfl
theorem m2 : ∀ u v : F, 2 * (u - v) = 2 * u - 2 * v := by decide
theorem vl_sub {N : Nat} {f : Nat → Option Nat} (M : Mt N f) {x y : List F} (hx : x.length = N) (hy : y.length = N) {e : Nat} (h : e < N) : vl f (fn (sub x y)) e = vl f (fn x) e - vl f (fn y) e := by
  cases c : f e with
  | some q => rw [vl_some c, vl_some c, vl_some c, fn_sub hx hy (M.lt c).2]
  | none => rw [vl_none c, vl_none c, vl_none c, fn_sub hx hy h, m2]
theorem vl_congr {N : Nat} {f : Nat → Option Nat} (M : Mt N f) {x y : Nat → F} (h : ∀ e, e < N → x e = y e) {e : Nat} (he : e < N) : vl f x e = vl f y e := by
  cases c : f e with
  | some q => rw [vl_some c, vl_some c, h q (M.lt c).2]
  | none => rw [vl_none c, vl_none c, h e he]
section
variable {n : Nat} {ja jb jc : List J2} {ps1 ps2 ps3 : List Pc}
theorem web_dis (g1 : Good n ja) (g2 : Good n jb) (W : IsWeb n ja jb ps1) : Dis ps1 := by
  refine List.Pairwise.imp_of_mem (fun {p q} hp hq hne e h1 h2 => ?_) W.nd
  exact hne (wpc_uniq g1 g2 ((W.mem p).mp hp) ((W.mem q).mp hq) h1 h2)
theorem web_rw (g1 : Good n ja) (g2 : Good n jb) (W : IsWeb n ja jb ps1) : ∀ p ∈ ps1, Rw p := fun p hp => by
  obtain ⟨f, g, a, k, m⟩ := fm_ex g1 g2 ((W.mem p).mp hp)
  exact fm_rw g1 g2 m
theorem mk_inj (g1 : Good n ja) (g2 : Good n jb) (W : IsWeb n ja jb ps1) : ∀ t t' : List F, t.length = dm ps1 → t'.length = dm ps1 → mk (2 * n) (val ps1 t) = mk (2 * n) (val ps1 t') → t = t' := fun t t' h h' e => by
  have v : ∀ e, e < 2 * n → val ps1 t e = val ps1 t' e := fun i hi => by
    rw [← fn_mk (x := val ps1 t) hi, e, fn_mk hi]
  have d := web_dis g1 g2 W
  have r := web_rw g1 g2 W
  rw [← picks_val d r h, ← picks_val d r h']
  have gen : ∀ l : List Pc, (∀ q ∈ l, q ∈ ps1) → picks (val ps1 t) l = picks (val ps1 t') l := by
    intro l
    induction l with
    | nil => intro _; rfl
    | cons q l ih =>
      intro hl
      have hq := hl q List.mem_cons_self
      show pick (val ps1 t) q ++ picks (val ps1 t) l = pick (val ps1 t') q ++ picks (val ps1 t') l
      rw [ih fun z hz => hl z (List.mem_cons_of_mem _ hz), pick_congr (r q hq) fun e he => v e (wpc_lt ((W.mem q).mp hq) e he)]
  exact gen ps1 fun _ h => h
theorem mk_K (g1 : Good n ja) (g2 : Good n jb) (W : IsWeb n ja jb ps1) (t : List F) : ∀ e, e < 2 * n → At (mt ja) (mt jb) (fn (mk (2 * n) (val ps1 t))) e := fun e he => by
  have h := val_K g1 g2 W (web_dis g1 g2 W) t e he
  unfold At at h ⊢
  rw [vl_congr g1.mt (fun e h => fn_mk h) he, vl_congr g2.mt (fun e h => fn_mk h) he]
  exact h
theorem sub_K (g1 : Good n ja) (g2 : Good n jb) {x y : List F} (hx : x.length = 2 * n) (hy : y.length = 2 * n) (kx : ∀ e, e < 2 * n → At (mt ja) (mt jb) (fn x) e) (ky : ∀ e, e < 2 * n → At (mt ja) (mt jb) (fn y) e) : ∀ e, e < 2 * n → At (mt ja) (mt jb) (fn (sub x y)) e := fun e he => by
  have h1 := kx e he
  have h2 := ky e he
  unfold At at h1 h2 ⊢
  rw [vl_sub g1.mt hx hy he, vl_sub g2.mt hx hy he, h1, h2]
/-- the triangle inequality -/
theorem tri_dm (g1 : Good n ja) (g2 : Good n jb) (g3 : Good n jc) (W1 : IsWeb n ja jb ps1) (W2 : IsWeb n jb jc ps2) (W3 : IsWeb n ja jc ps3) : dm ps1 + dm ps2 ≤ 2 * n + dm ps3 := by
  refine tri (K1 := fun l => ∀ e, e < 2 * n → At (mt ja) (mt jb) (fn l) e) (K2 := fun l => ∀ e, e < 2 * n → At (mt jb) (mt jc) (fn l) e) (K3 := fun l => ∀ e, e < 2 * n → At (mt ja) (mt jc) (fn l) e)
    (fun t => mk (2 * n) (val ps1 t)) (fun t => mk (2 * n) (val ps2 t)) (fun l => picks (fn l) ps3)
    (fun t _ => ⟨mk_K g1 g2 W1 t, mk_len _ _⟩) (mk_inj g1 g2 W1) (fun t _ => ⟨mk_K g2 g3 W2 t, mk_len _ _⟩) (mk_inj g2 g3 W2)
    (fun x y hx hy kx ky => sub_K g1 g2 hx hy kx ky) (fun x y hx hy kx ky => sub_K g2 g3 hx hy kx ky) (fun x _ k1 k2 e he => ?_)
    (fun x _ _ => picks_len _ _) (fun x y hx hy kx ky e => fn_ext hx hy (K_uniq g1 g3 W3 kx ky e))
  have h1 := k1 e he
  have h2 := k2 e he
  unfold At at h1 h2 ⊢
  rw [h1, h2]
end
end TI
-- TN
set_option Elab.async false
set_option linter.all false
set_option maxRecDepth 100000
set_option maxHeartbeats 4000000
/-! TN: the triangle inequality of the costs themselves. -/
namespace TI
open PySem L2 DC
theorem dm_cnt : ∀ ps : List Pc, dm ps = 2 * (ps.countP fun p => p.1 == (("ring" : Str))) + ps.countP fun p => p.1 == (("odd" : Str))
  | [] => rfl
  | p :: ps => by
    rw [dm_cons, dm_cnt ps, List.countP_cons, List.countP_cons]
    unfold wd
    by_cases c : p.1 = "ring"
    · have c1 : (p.1 == (("ring" : Str))) = true := by rw [c]; decide +kernel
      have c2 : (p.1 == (("odd" : Str))) = false := by rw [c]; decide +kernel
      rw [if_pos c, c1, c2]
      simp only [Bool.false_eq_true, if_false, if_true]
      omega
    · have c1 : (p.1 == (("ring" : Str))) = false := beq_eq_false_iff_ne.mpr c
      rw [if_neg c, c1]
      by_cases d : p.1 = "odd"
      · have c2 : (p.1 == (("odd" : Str))) = true := by rw [d]; decide +kernel
        rw [if_pos d, c2]
        simp only [Bool.false_eq_true, if_false, if_true]
        omega
      · have c2 : (p.1 == (("odd" : Str))) = false := beq_eq_false_iff_ne.mpr d
        rw [if_neg d, c2]
        simp only [Bool.false_eq_true, if_false]
        omega
def lsum (ps : List Pc) : Nat := (ps.map fun p => p.2.length).sum
/-- how long a piece may be -/
def Ln (p : Pc) : Prop := (p.1 = "odd" ∧ p.2.length % 2 = 1) ∨ (p.1 = "ring" ∧ p.2.length % 2 = 0 ∧ 2 ≤ p.2.length) ∨ (p.1 ≠ "odd" ∧ p.1 ≠ "ring" ∧ p.2.length % 2 = 0)
theorem ln_sum : ∀ {ps : List Pc}, (∀ p ∈ ps, Ln p) → dm ps ≤ lsum ps ∧ (lsum ps) % 2 = (ps.countP fun p => p.1 == (("odd" : Str))) % 2
  | [], _ => ⟨Nat.le_refl _, rfl⟩
  | p :: ps, h => by
    obtain ⟨i1, i2⟩ := ln_sum (ps := ps) fun q hq => h q (List.mem_cons_of_mem _ hq)
    have el : lsum (p :: ps) = p.2.length + lsum ps := by
      unfold lsum
      rw [List.map_cons, List.sum_cons]
    rw [dm_cons, el, List.countP_cons]
    unfold wd
    rcases h p List.mem_cons_self with ⟨k, l⟩ | ⟨k, l, l2⟩ | ⟨k, k2, l⟩
    · have c2 : (p.1 == (("odd" : Str))) = true := by rw [k]; decide +kernel
      have nr : ¬ p.1 = "ring" := by rw [k]; decide +kernel
      rw [if_neg nr, if_pos k, c2]
      simp only [if_true]
      omega
    · have c2 : (p.1 == (("odd" : Str))) = false := by rw [k]; decide +kernel
      rw [if_pos k, c2]
      simp only [Bool.false_eq_true, if_false]
      omega
    · have c2 : (p.1 == (("odd" : Str))) = false := beq_eq_false_iff_ne.mpr k
      rw [if_neg k2, if_neg k, c2]
      simp only [Bool.false_eq_true, if_false]
      omega
theorem flat_nd' : ∀ {ps : List Pc}, (∀ p ∈ ps, p.2.Nodup) → Dis ps → (ps.flatMap fun p => p.2).Nodup
  | [], _, _ => List.nodup_nil
  | p :: ps, h, d => by
    have d' := List.pairwise_cons.mp d
    rw [List.flatMap_cons]
    refine List.nodup_append.mpr ⟨h p List.mem_cons_self, flat_nd' (fun q hq => h q (List.mem_cons_of_mem _ hq)) d'.2, fun a ha b hb e => ?_⟩
    subst e
    obtain ⟨q, hq, hm⟩ := List.mem_flatMap.mp hb
    exact d'.1 q hq a ha hm
theorem flat_len' : ∀ ps : List Pc, (ps.flatMap fun p => p.2).length = lsum ps
  | [] => rfl
  | p :: ps => by
    rw [List.flatMap_cons, List.length_append, flat_len' ps]
    unfold lsum
    rw [List.map_cons, List.sum_cons]
section
variable {n : Nat} {js ls : List J2} {ps : List Pc}
theorem fm_ln {f g : Nat → Option Nat} {a k : Nat} {p : Pc} (m : Fm js ls p f g a k) : Ln p := by
  have pos := m.R.pos
  have l : p.2.length = k := by rw [m.row, rj_len]
  rcases m.kind with ⟨_, ⟨o, z⟩ | ⟨o, z1, z2⟩⟩ | ⟨z, _, o⟩
  · exact .inl ⟨z, by omega⟩
  · exact .inr (.inr ⟨z1, z2, by omega⟩)
  · exact .inr (.inl ⟨z, by omega, by omega⟩)
theorem web_lsum (g1 : Good n js) (g2 : Good n ls) (W : IsWeb n js ls ps) : lsum ps = 2 * n := by
  have nd := flat_nd' (fun p hp => wpc_nd ((W.mem p).mp hp)) (web_dis g1 g2 W)
  have pm : (ps.flatMap fun p => p.2).Perm (List.range (2 * n)) := by
    refine (List.perm_ext_iff_of_nodup nd List.nodup_range).mpr fun e => ?_
    rw [List.mem_flatMap, List.mem_range]
    constructor
    · rintro ⟨p, hp, he⟩
      exact wpc_lt ((W.mem p).mp hp) e he
    · intro he
      exact W.cov g1 g2 e he
  rw [← flat_len', pm.length_eq, List.length_range]
/-- twice the cost is what the choices leave -/
theorem cst_dm (g1 : Good n js) (g2 : Good n ls) (W : IsWeb n js ls ps) : 2 * cst n js ls + dm ps = 2 * n := by
  obtain ⟨h1, h2⟩ := ln_sum (ps := ps) fun p hp => by
    obtain ⟨f, g, a, k, m⟩ := fm_ex g1 g2 ((W.mem p).mp hp)
    exact fm_ln m
  rw [web_lsum g1 g2 W] at h1 h2
  have r1 : rgs n js ls = ps.countP fun p => p.1 == (("ring" : Str)) := rgs_web g1 g2 W
  have r2 : ods n js ls = ps.countP fun p => p.1 == (("odd" : Str)) := ods_web g1 g2 W
  rw [dm_cnt] at h1 ⊢
  unfold cst
  rw [r1, r2]
  omega
end
theorem cst_tri {n : Nat} {ja jb jc : List J2} (g1 : Good n ja) (g2 : Good n jb) (g3 : Good n jc) : cst n ja jc ≤ cst n ja jb + cst n jb jc := by
  obtain ⟨ps1, W1⟩ := web_ex g1 g2
  obtain ⟨ps2, W2⟩ := web_ex g2 g3
  obtain ⟨ps3, W3⟩ := web_ex g1 g3
  have t := tri_dm g1 g2 g3 W1 W2 W3
  have c1 := cst_dm g1 g2 W1
  have c2 := cst_dm g2 g3 W2
  have c3 := cst_dm g1 g3 W3
  omega
end TI
-- TS
set_option Elab.async false
set_option linter.all false
set_option maxRecDepth 100000
set_option maxHeartbeats 4000000
/-! TS: costs either way round are the same; a lay costs itself nothing. -/
namespace TI
open PySem L2 DC
section
variable {n : Nat} {ja jb : List J2} {ps1 ps2 : List Pc}
theorem dm_le (g1 : Good n ja) (g2 : Good n jb) (W : IsWeb n ja jb ps1) (W' : IsWeb n jb ja ps2) : dm ps1 ≤ dm ps2 := by
  refine pigeon (fun t => picks (fn (mk (2 * n) (val ps1 t))) ps2) (fun t _ => picks_len _ _) (fun t t' h h' e => ?_)
  have k := K_uniq g2 g1 W' (fun e he => (mk_K g1 g2 W t e he).symm) (fun e he => (mk_K g1 g2 W t' e he).symm) e
  exact mk_inj g1 g2 W t t' h h' (fn_ext (mk_len _ _) (mk_len _ _) k)
theorem cst_symm (g1 : Good n ja) (g2 : Good n jb) : cst n ja jb = cst n jb ja := by
  obtain ⟨ps1, W1⟩ := web_ex g1 g2
  obtain ⟨ps2, W2⟩ := web_ex g2 g1
  have h1 := dm_le g1 g2 W1 W2
  have h2 := dm_le g2 g1 W2 W1
  have c1 := cst_dm g1 g2 W1
  have c2 := cst_dm g2 g1 W2
  omega
/-- a lay costs itself nothing: all vectors are read the same -/
theorem cst_self (g1 : Good n ja) : cst n ja ja = 0 := by
  obtain ⟨ps1, W1⟩ := web_ex g1 g1
  have h : 2 * n ≤ dm ps1 := by
    refine pigeon (fun t => picks (fn t) ps1) (fun t _ => picks_len _ _) (fun t t' h h' e => ?_)
    exact fn_ext h h' (K_uniq g1 g1 W1 (fun _ _ => rfl) (fun _ _ => rfl) e)
  have c1 := cst_dm g1 g1 W1
  omega
end
end TI
-- TG
set_option Elab.async false
set_option linter.all false
set_option maxRecDepth 100000
set_option maxHeartbeats 4000000
/-! TG: what a step does to the cost: at most one; one less where it makes a joint of the other lay, or cuts one between ends that are free there. -/
namespace TI
open PySem L2 DC
def put2 (x : Nat → F) (e f : Nat) (a b : F) : Nat → F := fun i => if i = e then a else if i = f then b else x i
theorem put2_e {x : Nat → F} {e f : Nat} {a b : F} : put2 x e f a b e = a := if_pos rfl
theorem put2_f {x : Nat → F} {e f : Nat} {a b : F} (h : e ≠ f) : put2 x e f a b f = b := by
  unfold put2
  rw [if_neg (Ne.symm h), if_pos rfl]
theorem put2_o {x : Nat → F} {e f i : Nat} {a b : F} (h : i ≠ e) (h' : i ≠ f) : put2 x e f a b i = x i := by
  unfold put2
  rw [if_neg h, if_neg h']
section
variable {n : Nat} {js js' ls : List J2} {ps ps' : List Pc} {e f : Nat}
theorem up2 (g : Good n js) (g' : Good n js') (gl : Good n ls) (W : IsWeb n js ls ps) (W' : IsWeb n js' ls ps') (he : e < 2 * n) (hf : f < 2 * n) (ef : e ≠ f)
    (hK : ∀ x : Nat → F, (∀ i, i < 2 * n → At (mt js) (mt ls) x i) → ∀ a b, ∀ i, i < 2 * n → At (mt js') (mt ls) (put2 x e f a b) i)
    (hI : ∀ x y : Nat → F, (∀ i, i < 2 * n → At (mt js) (mt ls) x i) → (∀ i, i < 2 * n → At (mt js) (mt ls) y i) → (∀ i, i < 2 * n → i ≠ e → i ≠ f → x i = y i) → x e = y e ∧ x f = y f) : dm ps + 2 ≤ dm ps' := by
  refine pigeon (m := dm ps + 2) (fun t => picks (put2 (fn (mk (2 * n) (val ps (t.drop 2)))) e f (t.getD 0 0) (t.getD 1 0)) ps') (fun t _ => picks_len _ _) (fun t t' h h' E => ?_)
  have kt := mk_K g gl W (t.drop 2)
  have kt' := mk_K g gl W (t'.drop 2)
  have k := K_uniq g' gl W' (hK _ kt (t.getD 0 0) (t.getD 1 0)) (hK _ kt' (t'.getD 0 0) (t'.getD 1 0)) E
  have ka := k e he
  rw [put2_e, put2_e] at ka
  have kb := k f hf
  rw [put2_f ef, put2_f ef] at kb
  have ko : ∀ i, i < 2 * n → i ≠ e → i ≠ f → fn (mk (2 * n) (val ps (t.drop 2))) i = fn (mk (2 * n) (val ps (t'.drop 2))) i := fun i hi h1 h2 => by
    have := k i hi
    rwa [put2_o h1 h2, put2_o h1 h2] at this
  obtain ⟨k1, k2⟩ := hI _ _ kt kt' ko
  have all : mk (2 * n) (val ps (t.drop 2)) = mk (2 * n) (val ps (t'.drop 2)) := by
    refine fn_ext (mk_len _ _) (mk_len _ _) fun i hi => ?_
    by_cases h1 : i = e
    · rw [h1]; exact k1
    · by_cases h2 : i = f
      · rw [h2]; exact k2
      · exact ko i hi h1 h2
  have d := mk_inj g gl W (t.drop 2) (t'.drop 2) (by rw [List.length_drop]; omega) (by rw [List.length_drop]; omega) all
  match t, t', h, h', ka, kb, d with
  | a :: b :: t, a' :: b' :: t', _, _, ka, kb, d =>
    have ka : a = a' := ka
    have kb : b = b' := kb
    have d : t = t' := d
    rw [ka, kb, d]
theorem cod2 (g : Good n js) (g' : Good n js') (W : IsWeb n js js' ps) (hP : ∀ x : Nat → F, ∃ a b, ∀ i, i < 2 * n → At (mt js) (mt js') (put2 x e f a b) i) : 2 * n ≤ dm ps + 2 := by
  let A : (Nat → F) → F := fun x => Classical.choose (hP x)
  let B : (Nat → F) → F := fun x => Classical.choose (Classical.choose_spec (hP x))
  have hAB : ∀ x : Nat → F, ∀ i, i < 2 * n → At (mt js) (mt js') (put2 x e f (A x) (B x)) i := fun x => Classical.choose_spec (Classical.choose_spec (hP x))
  refine pigeon (m := 2 * n) (fun t => picks (put2 (fn t) e f (A (fn t)) (B (fn t))) ps ++ [fn t e, fn t f]) (fun t _ => ?_) (fun t t' h h' E => ?_)
  · rw [List.length_append, picks_len]
    rfl
  · obtain ⟨E1, E2⟩ := List.append_inj E (by rw [picks_len, picks_len])
    have k := K_uniq g g' W (hAB (fn t)) (hAB (fn t')) E1
    have e1 : fn t e = fn t' e := (List.cons.inj E2).1
    have e2 : fn t f = fn t' f := (List.cons.inj (List.cons.inj E2).2).1
    refine fn_ext h h' fun i hi => ?_
    by_cases h1 : i = e
    · rw [h1]; exact e1
    · by_cases h2 : i = f
      · rw [h2]; exact e2
      · have := k i hi
        rwa [put2_o h1 h2, put2_o h1 h2] at this
/-- e and f come to be joined, their mates too -/
structure Sw (js js' : List J2) (e f : Nat) : Prop where
  ne : e ≠ f
  no : mt js e ≠ some f
  e1 : mt js' e = some f
  f1 : mt js' f = some e
  ot : ∀ i, i ≠ e → i ≠ f → mt js' i = if mt js i = some e then mt js f else if mt js i = some f then mt js e else mt js i
/-- a and b come free -/
structure Ct (js js' : List J2) (a b : Nat) : Prop where
  ab : mt js a = some b
  a1 : mt js' a = none
  b1 : mt js' b = none
  ot : ∀ i, i ≠ a → i ≠ b → mt js' i = mt js i
theorem f2z : ∀ x y : F, 2 * x = y → 2 * y = x → x = 0 ∧ y = 0 := by decide
theorem vl_put {h : Nat → Option Nat} {x : Nat → F} {a b : F} {i : Nat} (h1 : i ≠ e) (h2 : i ≠ f) (h3 : h i ≠ some e) (h4 : h i ≠ some f) : vl h (put2 x e f a b) i = vl h x i := by
  unfold vl
  cases hi : h i with
  | none => dsimp only; rw [put2_o h1 h2]
  | some j =>
    dsimp only
    rw [put2_o (fun z => h3 (by rw [hi, z])) (fun z => h4 (by rw [hi, z]))]
theorem gs_dm (g : Good n js) (g' : Good n js') (gl : Good n ls) (W : IsWeb n js ls ps) (W' : IsWeb n js' ls ps') (s : Sw js js' e f) (hl : mt ls e = some f) : dm ps + 2 ≤ dm ps' := by
  have M := g.mt
  have M' := g'.mt
  have L := gl.mt
  have hl' := L.inv hl
  obtain ⟨he, hf⟩ := L.lt hl
  refine up2 g g' gl W W' he hf s.ne (fun x kx a b i hi => ?_) (fun x y kx ky ag => ?_)
  · unfold At
    by_cases h1 : i = e
    · subst h1
      rw [vl_some s.e1, vl_some hl]
    · by_cases h2 : i = f
      · subst h2
        rw [vl_some s.f1, vl_some hl']
      · have n1 : mt ls i ≠ some e := fun z => h2 (Option.some.inj ((L.inv z).symm.trans hl))
        have n2 : mt ls i ≠ some f := fun z => h1 (Option.some.inj ((L.inv z).symm.trans hl'))
        rw [vl_put h1 h2 n1 n2, ← kx i hi]
        have ke := kx e he
        unfold At at ke
        rw [vl_some hl] at ke
        have kf := kx f hf
        unfold At at kf
        rw [vl_some hl'] at kf
        have o := s.ot i h1 h2
        by_cases c1 : mt js i = some e
        · rw [if_pos c1] at o
          rw [vl_some c1]
          rw [vl_some (M.inv c1)] at ke
          cases hq : mt js f with
          | none =>
            rw [hq] at o
            rw [vl_none o, put2_o h1 h2]
            rw [vl_none hq] at kf
            rw [ke, kf]
          | some q =>
            rw [hq] at o
            rw [vl_some o]
            rw [vl_some hq] at kf
            have q1 : q ≠ e := fun z => s.no (M.inv (by rw [hq, z]))
            have q2 : q ≠ f := fun z => M.irr (by rw [hq, z])
            rw [put2_o q1 q2, kf]
        · rw [if_neg c1] at o
          by_cases c2 : mt js i = some f
          · rw [if_pos c2] at o
            rw [vl_some c2]
            rw [vl_some (M.inv c2)] at kf
            cases hp : mt js e with
            | none =>
              rw [hp] at o
              rw [vl_none o, put2_o h1 h2]
              rw [vl_none hp] at ke
              rw [kf, ke]
            | some p =>
              rw [hp] at o
              rw [vl_some o]
              rw [vl_some hp] at ke
              have p1 : p ≠ e := fun z => M.irr (by rw [hp, z])
              have p2 : p ≠ f := fun z => s.no (by rw [hp, z])
              rw [put2_o p1 p2, ke]
          · rw [if_neg c2] at o
            rw [← vl_put (h := mt js) (x := x) (a := a) (b := b) h1 h2 c1 c2]
            unfold vl
            rw [o]
  · have key : ∀ z : Nat → F, (∀ i, i < 2 * n → At (mt js) (mt ls) z i) → vl (mt js) z e = z f ∧ vl (mt js) z f = z e := fun z kz => by
      have ke := kz e he
      unfold At at ke
      rw [vl_some hl] at ke
      have kf := kz f hf
      unfold At at kf
      rw [vl_some hl'] at kf
      exact ⟨ke, kf⟩
    obtain ⟨x1, x2⟩ := key x kx
    obtain ⟨y1, y2⟩ := key y ky
    cases hp : mt js e with
    | none =>
      rw [vl_none hp] at x1 y1
      cases hq : mt js f with
      | none =>
        rw [vl_none hq] at x2 y2
        obtain ⟨a1, a2⟩ := f2z _ _ x1 x2
        obtain ⟨b1, b2⟩ := f2z _ _ y1 y2
        exact ⟨a1.trans b1.symm, a2.trans b2.symm⟩
      | some q =>
        rw [vl_some hq] at x2 y2
        have q1 : q ≠ e := fun z => s.no (M.inv (by rw [hq, z]))
        have q2 : q ≠ f := fun z => M.irr (by rw [hq, z])
        have := ag q (M.lt hq).2 q1 q2
        have e1 : x e = y e := by rw [← x2, ← y2, this]
        exact ⟨e1, by rw [← x1, ← y1, e1]⟩
    | some p =>
      rw [vl_some hp] at x1 y1
      have p1 : p ≠ e := fun z => M.irr (by rw [hp, z])
      have p2 : p ≠ f := fun z => s.no (by rw [hp, z])
      have := ag p (M.lt hp).2 p1 p2
      have f1 : x f = y f := by rw [← x1, ← y1, this]
      refine ⟨?_, f1⟩
      cases hq : mt js f with
      | none =>
        rw [vl_none hq] at x2 y2
        rw [← x2, ← y2, f1]
      | some q =>
        rw [vl_some hq] at x2 y2
        have q1 : q ≠ e := fun z => s.no (M.inv (by rw [hq, z]))
        have q2 : q ≠ f := fun z => M.irr (by rw [hq, z])
        have := ag q (M.lt hq).2 q1 q2
        rw [← x2, ← y2, this]
theorem gc_dm (g : Good n js) (g' : Good n js') (gl : Good n ls) (W : IsWeb n js ls ps) (W' : IsWeb n js' ls ps') (s : Ct js js' e f) (la : mt ls e = none) (lb : mt ls f = none) : dm ps + 2 ≤ dm ps' := by
  have M := g.mt
  have L := gl.mt
  have hb := M.inv s.ab
  obtain ⟨he, hf⟩ := M.lt s.ab
  have ne : e ≠ f := fun z => M.irr (a := e) (by rw [s.ab, z])
  refine up2 g g' gl W W' he hf ne (fun x kx a b i hi => ?_) (fun x y kx ky ag => ?_)
  · unfold At
    by_cases h1 : i = e
    · subst h1
      rw [vl_none s.a1, vl_none la]
    · by_cases h2 : i = f
      · subst h2
        rw [vl_none s.b1, vl_none lb]
      · have n1 : mt ls i ≠ some e := fun z => by
          rw [L.inv z] at la
          exact nomatch la
        have n2 : mt ls i ≠ some f := fun z => by
          rw [L.inv z] at lb
          exact nomatch lb
        have m1 : mt js i ≠ some e := fun z => h2 (Option.some.inj ((M.inv z).symm.trans s.ab))
        have m2 : mt js i ≠ some f := fun z => h1 (Option.some.inj ((M.inv z).symm.trans hb))
        rw [vl_put h1 h2 n1 n2, ← kx i hi, ← vl_put (h := mt js) (x := x) (a := a) (b := b) h1 h2 m1 m2]
        unfold vl
        rw [s.ot i h1 h2]
  · have key : ∀ z : Nat → F, (∀ i, i < 2 * n → At (mt js) (mt ls) z i) → z e = 0 ∧ z f = 0 := fun z kz => by
      have ke := kz e he
      unfold At at ke
      rw [vl_some s.ab, vl_none la] at ke
      have kf := kz f hf
      unfold At at kf
      rw [vl_some hb, vl_none lb] at kf
      exact f2z _ _ ke.symm kf.symm
    obtain ⟨x1, x2⟩ := key x kx
    obtain ⟨y1, y2⟩ := key y ky
    exact ⟨x1.trans y1.symm, x2.trans y2.symm⟩
theorem sw_dm (g : Good n js) (g' : Good n js') (W : IsWeb n js js' ps) (s : Sw js js' e f) : 2 * n ≤ dm ps + 2 := by
  have M := g.mt
  refine cod2 (e := e) (f := f) g g' W fun x => ?_
  have step : ∀ a b : F, vl (mt js) (put2 x e f a b) e = b → vl (mt js) (put2 x e f a b) f = a →
      (∀ p, mt js e = some p → vl (mt js') (put2 x e f a b) p = a) → (∀ q, mt js f = some q → vl (mt js') (put2 x e f a b) q = b) → ∀ i, i < 2 * n → At (mt js) (mt js') (put2 x e f a b) i := by
    intro a b h1 h2 h3 h4 i hi
    unfold At
    by_cases c1 : i = e
    · subst c1
      rw [h1, vl_some s.e1, put2_f s.ne]
    · by_cases c2 : i = f
      · subst c2
        rw [h2, vl_some s.f1, put2_e]
      · by_cases d1 : mt js i = some e
        · rw [vl_some d1, put2_e, h3 i (M.inv d1)]
        · by_cases d2 : mt js i = some f
          · rw [vl_some d2, put2_f s.ne, h4 i (M.inv d2)]
          · have o := s.ot i c1 c2
            rw [if_neg d1, if_neg d2] at o
            unfold vl
            rw [o]
  cases hp : mt js e with
  | none =>
    cases hq : mt js f with
    | none =>
      refine ⟨0, 0, step 0 0 ?_ ?_ (fun p h => by rw [hp] at h; exact nomatch h) (fun q h => by rw [hq] at h; exact nomatch h)⟩
      · rw [vl_none hp, put2_e]; rfl
      · rw [vl_none hq, put2_f s.ne]; rfl
    | some q =>
      have q1 : q ≠ e := fun z => s.no (M.inv (by rw [hq, z]))
      have q2 : q ≠ f := fun z => M.irr (by rw [hq, z])
      have oq := s.ot q q1 q2
      have nq : mt js q ≠ some e := fun z => s.ne (Option.some.inj (z.symm.trans (M.inv hq)))
      rw [if_neg nq, if_pos (M.inv hq), hp] at oq
      refine ⟨x q, 2 * x q, step _ _ ?_ ?_ (fun p h => by rw [hp] at h; exact nomatch h) (fun q' h => ?_)⟩
      · rw [vl_none hp, put2_e]
      · rw [vl_some hq, put2_o q1 q2]
      · rw [hq] at h
        cases h
        rw [vl_none oq, put2_o q1 q2]
  | some p =>
    have p1 : p ≠ e := fun z => M.irr (by rw [hp, z])
    have p2 : p ≠ f := fun z => s.no (by rw [hp, z])
    have op := s.ot p p1 p2
    rw [if_pos (M.inv hp)] at op
    cases hq : mt js f with
    | none =>
      rw [hq] at op
      refine ⟨2 * x p, x p, step _ _ ?_ ?_ (fun p' h => ?_) (fun q h => by rw [hq] at h; exact nomatch h)⟩
      · rw [vl_some hp, put2_o p1 p2]
      · rw [vl_none hq, put2_f s.ne]
      · rw [hp] at h
        cases h
        rw [vl_none op, put2_o p1 p2]
    | some q =>
      rw [hq] at op
      have q1 : q ≠ e := fun z => s.no (M.inv (by rw [hq, z]))
      have q2 : q ≠ f := fun z => M.irr (by rw [hq, z])
      have oq := s.ot q q1 q2
      have nq : mt js q ≠ some e := fun z => s.ne (Option.some.inj (z.symm.trans (M.inv hq)))
      rw [if_neg nq, if_pos (M.inv hq), hp] at oq
      refine ⟨x q, x p, step _ _ ?_ ?_ (fun p' h => ?_) (fun q' h => ?_)⟩
      · rw [vl_some hp, put2_o p1 p2]
      · rw [vl_some hq, put2_o q1 q2]
      · rw [hp] at h
        cases h
        rw [vl_some op, put2_o q1 q2]
      · rw [hq] at h
        cases h
        rw [vl_some oq, put2_o p1 p2]
theorem ct_dm (g : Good n js) (g' : Good n js') (W : IsWeb n js js' ps) (s : Ct js js' e f) : 2 * n ≤ dm ps + 2 := by
  have M := g.mt
  have ne : e ≠ f := fun z => M.irr (a := e) (by rw [s.ab, z])
  refine cod2 (e := e) (f := f) g g' W fun x => ⟨0, 0, fun i hi => ?_⟩
  unfold At
  by_cases c1 : i = e
  · subst c1
    rw [vl_some s.ab, vl_none s.a1, put2_f ne, put2_e]; rfl
  · by_cases c2 : i = f
    · subst c2
      rw [vl_some (M.inv s.ab), vl_none s.b1, put2_f ne, put2_e]; rfl
    · unfold vl
      rw [s.ot i c1 c2]
/-! of the costs -/
theorem gs (g : Good n js) (g' : Good n js') (gl : Good n ls) (s : Sw js js' e f) (hl : mt ls e = some f) : cst n js' ls + 1 ≤ cst n js ls := by
  obtain ⟨ps, W⟩ := web_ex g gl
  obtain ⟨ps', W'⟩ := web_ex g' gl
  have h := gs_dm g g' gl W W' s hl
  have c1 := cst_dm g gl W
  have c2 := cst_dm g' gl W'
  omega
theorem gc (g : Good n js) (g' : Good n js') (gl : Good n ls) (s : Ct js js' e f) (la : mt ls e = none) (lb : mt ls f = none) : cst n js' ls + 1 ≤ cst n js ls := by
  obtain ⟨ps, W⟩ := web_ex g gl
  obtain ⟨ps', W'⟩ := web_ex g' gl
  have h := gc_dm g g' gl W W' s la lb
  have c1 := cst_dm g gl W
  have c2 := cst_dm g' gl W'
  omega
theorem sw_one (g : Good n js) (g' : Good n js') (s : Sw js js' e f) : cst n js js' ≤ 1 := by
  obtain ⟨ps, W⟩ := web_ex g g'
  have h := sw_dm g g' W s
  have c1 := cst_dm g g' W
  omega
theorem ct_one (g : Good n js) (g' : Good n js') (s : Ct js js' e f) : cst n js js' ≤ 1 := by
  obtain ⟨ps, W⟩ := web_ex g g'
  have h := ct_dm g g' W s
  have c1 := cst_dm g g' W
  omega
end
end TI
-- K37m1
set_option Elab.async false
set_option linter.all false
set_option maxRecDepth 100000
set_option maxHeartbeats 8000000
/-! K14m1: the lay behind a step; its cost; there is a good step. -/
namespace K37
open PySem L2 DC LamX
theorem mt_iff {n : Nat} {l : List J2} (g : Good n l) {i j : Nat} : mt l i = some j ↔ mk2 i j ∈ l := by
  constructor
  · intro h
    obtain ⟨p, hp, h | h⟩ := mt_some h
    · obtain ⟨rfl, rfl⟩ := h
      rw [mk2_lt (g.rng p hp).1]
      exact hp
    · obtain ⟨rfl, rfl⟩ := h
      have r := (g.rng p hp).1
      rw [show mk2 p.2 p.1 = (p.1, p.2) by unfold mk2; rw [Nat.min_eq_right (by omega), Nat.max_eq_left (by omega)]]
      exact hp
  · intro h
    obtain ⟨h1, h2⟩ := mt_of g.dis (fun q hq => Nat.ne_of_lt (g.rng q hq).1) h
    unfold mk2 at h1 h2
    dsimp only at h1 h2
    by_cases c : i < j
    · rw [Nat.min_eq_left (by omega), Nat.max_eq_right (by omega)] at h1
      exact h1
    · rw [Nat.min_eq_right (by omega), Nat.max_eq_left (by omega)] at h2
      exact h2
theorem mk2_comm (a b : Nat) : mk2 a b = mk2 b a := by
  unfold mk2
  rw [Nat.min_comm, Nat.max_comm]
theorem opt_ext {a b : Option Nat} (h : ∀ j, a = some j ↔ b = some j) : a = b := by
  cases a with
  | none =>
    cases b with
    | none => rfl
    | some y => exact absurd ((h y).mpr rfl) (fun z => nomatch z)
  | some x => exact ((h x).mp rfl).symm
/-- joints of a lay that share an end are the same -/
theorem same_joint {n : Nat} {js : List J2} (g : Good n js) {p r : J2} (hp : p ∈ js) (hr : r ∈ js) {x : Nat} (h1 : x = p.1 ∨ x = p.2) (h2 : x = r.1 ∨ x = r.2) : p = r := by
  have ne : ∀ q ∈ js, q.1 ≠ q.2 := fun q hq => Nat.ne_of_lt (g.rng q hq).1
  obtain ⟨p1, p2⟩ := mt_of g.dis ne hp
  obtain ⟨r1, r2⟩ := mt_of g.dis ne hr
  have a := (g.rng p hp).1
  have b := (g.rng r hr).1
  rcases h1 with rfl | rfl <;> rcases h2 with h2 | h2
  · rw [h2, r1] at p1
    exact Prod.ext h2 (Option.some.inj p1).symm
  · rw [h2, r2] at p1
    have := Option.some.inj p1
    omega
  · rw [h2, r1] at p2
    have := Option.some.inj p2
    omega
  · rw [h2, r2] at p2
    exact Prod.ext (Option.some.inj p2).symm h2
section
variable {n : Nat} {js : List J2} {st : Stp2}
theorem cut_sub (s : IsSt n js st) : ∀ p ∈ st.1, p ∈ js := by
  intro q hq
  cases s with
  | cut p h => obtain rfl := List.mem_singleton.mp hq; exact h
  | shift p e near h _ _ => obtain rfl := List.mem_singleton.mp hq; exact h
  | dbl p q' h h' _ _ =>
    rcases List.mem_cons.mp hq with rfl | hr
    · exact h
    · obtain rfl := List.mem_singleton.mp hr; exact h'
  | dbl2 p q' h h' _ _ =>
    rcases List.mem_cons.mp hq with rfl | hr
    · exact h
    · obtain rfl := List.mem_singleton.mp hr; exact h'
  | join => exact absurd hq List.not_mem_nil
theorem mk2_ends {a b x : Nat} (h : x = (mk2 a b).1 ∨ x = (mk2 a b).2) : x = a ∨ x = b := by
  unfold mk2 at h
  dsimp only at h
  omega
theorem mk2_has (a b : Nat) : (a = (mk2 a b).1 ∨ a = (mk2 a b).2) ∧ (b = (mk2 a b).1 ∨ b = (mk2 a b).2) := by
  unfold mk2
  dsimp only
  omega
theorem made_end (s : IsSt n js st) {m : J2} (hm : m ∈ st.2) {x : Nat} (hx : x = m.1 ∨ x = m.2) : x ∈ frees n js ∨ ∃ p ∈ st.1, x = p.1 ∨ x = p.2 := by
  cases s with
  | cut p h => exact absurd hm List.not_mem_nil
  | shift p e near h he hn =>
    obtain rfl := List.mem_singleton.mp hm
    rcases mk2_ends hx with rfl | rfl
    · exact .inr ⟨p, List.mem_singleton.mpr rfl, hn⟩
    · exact .inl he
  | dbl p q h h' a ap =>
    rcases List.mem_cons.mp hm with rfl | hm
    · rcases hx with rfl | rfl
      · exact .inr ⟨p, List.mem_cons_self, .inl rfl⟩
      · exact .inr ⟨q, List.mem_cons_of_mem _ List.mem_cons_self, .inl rfl⟩
    · obtain rfl := List.mem_singleton.mp hm
      rcases mk2_ends hx with rfl | rfl
      · exact .inr ⟨p, List.mem_cons_self, .inr rfl⟩
      · exact .inr ⟨q, List.mem_cons_of_mem _ List.mem_cons_self, .inr rfl⟩
  | dbl2 p q h h' a ap =>
    rcases List.mem_cons.mp hm with rfl | hm
    · rcases hx with rfl | rfl
      · exact .inr ⟨p, List.mem_cons_self, .inl rfl⟩
      · exact .inr ⟨q, List.mem_cons_of_mem _ List.mem_cons_self, .inr rfl⟩
    · obtain rfl := List.mem_singleton.mp hm
      rcases mk2_ends hx with rfl | rfl
      · exact .inr ⟨p, List.mem_cons_self, .inr rfl⟩
      · exact .inr ⟨q, List.mem_cons_of_mem _ List.mem_cons_self, .inl rfl⟩
  | join a b ha hb h =>
    obtain rfl := List.mem_singleton.mp hm
    rcases hx with rfl | rfl
    · exact .inl ha
    · exact .inl hb
theorem kept_apart (g : Good n js) (s : IsSt n js st) {r m : J2} (hr : r ∈ js) (hn : r ∉ st.1) (hm : m ∈ st.2) {x : Nat} (h1 : x = r.1 ∨ x = r.2) (h2 : x = m.1 ∨ x = m.2) : False := by
  rcases made_end s hm h2 with h | ⟨p, hp, h⟩
  · exact mt_end g hr h1 (free_lt h).2
  · exact hn (same_joint g (cut_sub s p hp) hr h h1 ▸ hp)
/-- what is behind a step, not yet ascending -/
def rawJ (js : List J2) (st : Stp2) : List J2 := (js.filter fun p => !decide (p ∈ st.1)) ++ st.2
theorem raw_mem {p : J2} : p ∈ rawJ js st ↔ (p ∈ js ∧ p ∉ st.1) ∨ p ∈ st.2 := by
  unfold rawJ
  rw [List.mem_append, List.mem_filter, Bool.not_eq_true', decide_eq_false_iff_not]
theorem aft_iff {p : J2} : p ∈ aftJ js st ↔ (p ∈ js ∧ p ∉ st.1) ∨ p ∈ st.2 := by
  rw [← raw_mem]
  exact (srtJ_perm (rawJ js st)).mem_iff
theorem apart_symm {p q : J2} (h : DC.Apart p q) : DC.Apart q p := ⟨fun z => h.1 z.symm, fun z => h.2.2.1 z.symm, fun z => h.2.1 z.symm, fun z => h.2.2.2 z.symm⟩
theorem raw_dis (g : Good n js) (s : IsSt n js st) : (rawJ js st).Pairwise DC.Apart := by
  unfold rawJ
  refine List.pairwise_append.mpr ⟨g.dis.filter _, (isSt_good g s).2.dis, fun r hr m hm => ?_⟩
  obtain ⟨h1, h2⟩ := List.mem_filter.mp hr
  rw [Bool.not_eq_true', decide_eq_false_iff_not] at h2
  refine ⟨fun z => ?_, fun z => ?_, fun z => ?_, fun z => ?_⟩
  · exact kept_apart g s h1 h2 hm (.inl rfl) (.inl z)
  · exact kept_apart g s h1 h2 hm (.inl rfl) (.inr z)
  · exact kept_apart g s h1 h2 hm (.inr rfl) (.inl z)
  · exact kept_apart g s h1 h2 hm (.inr rfl) (.inr z)
theorem insJ_asc {p : J2} : ∀ {l : List J2}, l.Pairwise (fun p q => p.1 < q.1) → (∀ q ∈ l, p.1 ≠ q.1) → (insJ p l).Pairwise (fun p q => p.1 < q.1)
  | [], _, _ => List.pairwise_singleton _ _
  | q :: l, h, d => by
    unfold insJ
    have h' := List.pairwise_cons.mp h
    have dq := d q List.mem_cons_self
    by_cases c : p.1 ≤ q.1
    · rw [if_pos c]
      refine List.pairwise_cons.mpr ⟨fun r hr => ?_, h⟩
      rcases List.mem_cons.mp hr with rfl | hr
      · omega
      · have := h'.1 r hr
        omega
    · rw [if_neg c]
      refine List.pairwise_cons.mpr ⟨fun r hr => ?_, insJ_asc h'.2 fun r hr => d r (List.mem_cons_of_mem _ hr)⟩
      rcases List.mem_cons.mp ((insJ_perm p l).mem_iff.mp hr) with rfl | hr
      · omega
      · exact h'.1 r hr
theorem srtJ_asc : ∀ {l : List J2}, l.Pairwise (fun p q => p.1 ≠ q.1) → (srtJ l).Pairwise (fun p q => p.1 < q.1)
  | [], _ => List.Pairwise.nil
  | p :: l, h => by
    have h' := List.pairwise_cons.mp h
    exact insJ_asc (srtJ_asc h'.2) fun q hq => h'.1 q ((srtJ_perm l).mem_iff.mp hq)
theorem aft_good (g : Good n js) (s : IsSt n js st) : Good n (aftJ js st) := by
  have d := raw_dis g s
  refine ⟨g.one, g.top, fun p hp => ?_, srtJ_asc (d.imp fun h => h.1), ?_⟩
  · rcases aft_iff.mp hp with h | h
    · exact g.rng p h.1
    · exact (isSt_good g s).2.rng p h
  · exact ((srtJ_perm (rawJ js st)).pairwise_iff fun h => apart_symm h).mpr d
/-! mates behind a step -/
theorem aft_same (g : Good n js) (s : IsSt n js st) {i : Nat} (h1 : ∀ p ∈ st.1, i ≠ p.1 ∧ i ≠ p.2) (h2 : ∀ p ∈ st.2, i ≠ p.1 ∧ i ≠ p.2) : mt (aftJ js st) i = mt js i := by
  refine opt_ext fun j => ?_
  rw [mt_iff (aft_good g s), mt_iff g, aft_iff]
  have hi := (mk2_has i j).1
  constructor
  · rintro (h | h)
    · exact h.1
    · have := h2 _ h
      rcases hi with z | z
      · exact absurd z this.1
      · exact absurd z this.2
  · intro h
    refine .inl ⟨h, fun z => ?_⟩
    have := h1 _ z
    rcases hi with z | z
    · exact absurd z this.1
    · exact absurd z this.2
theorem aft_free (g : Good n js) (s : IsSt n js st) {i : Nat} {p : J2} (hp : p ∈ st.1) (hi : i = p.1 ∨ i = p.2) (h2 : ∀ p ∈ st.2, i ≠ p.1 ∧ i ≠ p.2) : mt (aftJ js st) i = none := by
  cases hm : mt (aftJ js st) i with
  | none => rfl
  | some j =>
    rw [mt_iff (aft_good g s), aft_iff] at hm
    have hi' := (mk2_has i j).1
    rcases hm with h | h
    · exact absurd (same_joint g (cut_sub s p hp) h.1 hi hi' ▸ hp) h.2
    · have := h2 _ h
      rcases hi' with z | z
      · exact absurd z this.1
      · exact absurd z this.2
theorem aft_made (g : Good n js) (s : IsSt n js st) {m : J2} (hm : m ∈ st.2) : mt (aftJ js st) m.1 = some m.2 ∧ mt (aftJ js st) m.2 = some m.1 := by
  have ga := aft_good g s
  exact mt_of ga.dis (fun q hq => Nat.ne_of_lt (ga.rng q hq).1) (aft_iff.mpr (.inr hm))
end
end K37
-- K37m2
set_option Elab.async false
set_option linter.all false
set_option maxRecDepth 100000
set_option maxHeartbeats 8000000
/-! K14m2: costs behind a step; there is a good step -/
namespace K37
open PySem L2 DC LamX
section
variable {n : Nat} {js ls : List J2} {st : Stp2}
theorem sw_symm {js js' : List J2} {e f : Nat} {n : Nat} (g : Good n js) (s : TI.Sw js js' e f) : TI.Sw js js' f e := by
  refine ⟨Ne.symm s.ne, fun z => s.no (g.mt.inv z), s.f1, s.e1, fun i h1 h2 => ?_⟩
  rw [s.ot i h2 h1]
  by_cases c1 : mt js i = some e
  · by_cases c2 : mt js i = some f
    · rw [c1] at c2
      exact absurd (Option.some.inj c2) s.ne
    · rw [if_pos c1, if_neg c2, if_pos c1]
  · by_cases c2 : mt js i = some f
    · rw [if_neg c1, if_pos c2, if_pos c2]
    · rw [if_neg c1, if_neg c2, if_neg c2, if_neg c1]
theorem sw_of (g : Good n js) (s : IsSt n js st) : ∀ m ∈ st.2, TI.Sw js (aftJ js st) m.1 m.2 := by
  intro m hm
  have ga := aft_good g s
  obtain ⟨b1, b2⟩ := aft_made g s hm
  have M := g.mt
  have ne : m.1 ≠ m.2 := Nat.ne_of_lt ((isSt_good g s).2.rng m hm).1
  have jne : ∀ q ∈ js, q.1 ≠ q.2 := fun q hq => Nat.ne_of_lt (g.rng q hq).1
  cases s with
  | cut p h => exact absurd hm List.not_mem_nil
  | shift p e near h he hn =>
    have s : IsSt n js ([p], [mk2 near e]) := .shift p e near h he hn
    obtain rfl := List.mem_singleton.mp hm
    obtain ⟨q1, q2⟩ := mt_of g.dis jne h
    have rp := (g.rng p h).1
    have fe := (free_lt he).2
    obtain ⟨far, hfar, mn, mf⟩ : ∃ far, (far = p.1 ∨ far = p.2) ∧ mt js near = some far ∧ mt js far = some near := by
      rcases hn with rfl | rfl
      · exact ⟨p.2, .inr rfl, q1, q2⟩
      · exact ⟨p.1, .inl rfl, q2, q1⟩
    have nne : near ≠ e := fun z => by
      rw [z, fe] at mn
      exact nomatch mn
    have nf : far ≠ near := fun z => M.irr (by rw [mn, z])
    have ends : ∀ x, (x = p.1 ∨ x = p.2) → x = near ∨ x = far := fun x hx => by
      rcases hn with rfl | rfl <;> rcases hfar with rfl | rfl <;> omega
    have sw : mt (aftJ js ([p], [mk2 near e])) near = some e → mt (aftJ js ([p], [mk2 near e])) e = some near → TI.Sw js (aftJ js ([p], [mk2 near e])) near e := fun a1 a2 => by
      refine ⟨nne, fun z => ?_, a1, a2, fun i h1 h2 => ?_⟩
      · have := M.inv z
        rw [fe] at this
        exact nomatch this
      · by_cases c1 : mt js i = some near
        · rw [if_pos c1, fe]
          have ei : i = far := Option.some.inj ((M.inv c1).symm.trans mn)
          refine aft_free g s (p := p) List.mem_cons_self (by rw [ei]; exact hfar) fun m hm => ?_
          obtain rfl := List.mem_singleton.mp hm
          refine ⟨fun z => ?_, fun z => ?_⟩
          · rcases mk2_ends (.inl z) with z | z <;> omega
          · rcases mk2_ends (.inr z) with z | z <;> omega
        · have c2 : ¬ mt js i = some e := fun z => by
            have := M.inv z
            rw [fe] at this
            exact nomatch this
          rw [if_neg c1, if_neg c2]
          refine aft_same g s (fun q hq => ?_) fun m hm => ?_
          · obtain rfl := List.mem_singleton.mp hq
            refine ⟨fun z => ?_, fun z => ?_⟩
            · rcases ends i (.inl z) with w | w
              · exact h1 w
              · exact c1 (by rw [w]; exact mf)
            · rcases ends i (.inr z) with w | w
              · exact h1 w
              · exact c1 (by rw [w]; exact mf)
          · obtain rfl := List.mem_singleton.mp hm
            refine ⟨fun z => ?_, fun z => ?_⟩
            · rcases mk2_ends (.inl z) with z | z <;> omega
            · rcases mk2_ends (.inr z) with z | z <;> omega
    by_cases c : near < e
    · rw [mk2_lt c] at b1 b2 sw ⊢
      exact sw b1 b2
    · rw [mk2_comm, mk2_lt (show e < near by omega)] at b1 b2 sw ⊢
      exact sw_symm g (sw b2 b1)
  | dbl p q h h' a ap =>
    have s : IsSt n js ([p, q], [(p.1, q.1), mk2 p.2 q.2]) := .dbl p q h h' a ap
    obtain ⟨p1, p2⟩ := mt_of g.dis jne h
    obtain ⟨q1, q2⟩ := mt_of g.dis jne h'
    obtain ⟨m1, m2⟩ := aft_made g s (m := (p.1, q.1)) List.mem_cons_self
    obtain ⟨m3, m4⟩ := aft_made g s (m := mk2 p.2 q.2) (List.mem_cons_of_mem _ List.mem_cons_self)
    dsimp only at m1 m2
    have m56 : mt (aftJ js ([p, q], [(p.1, q.1), mk2 p.2 q.2])) p.2 = some q.2 ∧ mt (aftJ js ([p, q], [(p.1, q.1), mk2 p.2 q.2])) q.2 = some p.2 := by
      by_cases c : p.2 < q.2
      · rw [mk2_lt c] at m3 m4
        rw [mk2_lt c]
        exact ⟨m3, m4⟩
      · rw [mk2_comm, mk2_lt (show q.2 < p.2 by obtain ⟨_, _, _, z⟩ := ap; omega)] at m3 m4
        rw [mk2_comm, mk2_lt (show q.2 < p.2 by obtain ⟨_, _, _, z⟩ := ap; omega)]
        exact ⟨m4, m3⟩
    obtain ⟨a1, a2, a3, a4⟩ := ap
    have rp := (g.rng p h).1
    have rq := (g.rng q h').1
    have rest : ∀ i, i ≠ p.1 → i ≠ p.2 → i ≠ q.1 → i ≠ q.2 → mt (aftJ js ([p, q], [(p.1, q.1), mk2 p.2 q.2])) i = mt js i := fun i i1 i2 i3 i4 => by
      refine aft_same g s (fun r hr => ?_) fun m hm => ?_
      · simp only [List.mem_cons, List.not_mem_nil, or_false] at hr
        rcases hr with rfl | rfl
        · exact ⟨i1, i2⟩
        · exact ⟨i3, i4⟩
      · simp only [List.mem_cons, List.not_mem_nil, or_false] at hm
        rcases hm with rfl | rfl
        · exact ⟨i1, i3⟩
        · exact ⟨fun z => by rcases mk2_ends (.inl z) with z | z <;> omega, fun z => by rcases mk2_ends (.inr z) with z | z <;> omega⟩
    have gen : ∀ {e f e' f' : Nat}, mt js e = some e' → mt js e' = some e → mt js f = some f' → mt js f' = some f → e ≠ f → e ≠ f' → e' ≠ f → e' ≠ f' →
        mt (aftJ js ([p, q], [(p.1, q.1), mk2 p.2 q.2])) e = some f → mt (aftJ js ([p, q], [(p.1, q.1), mk2 p.2 q.2])) f = some e → mt (aftJ js ([p, q], [(p.1, q.1), mk2 p.2 q.2])) e' = some f' → mt (aftJ js ([p, q], [(p.1, q.1), mk2 p.2 q.2])) f' = some e' →
        (∀ i, i ≠ e → i ≠ e' → i ≠ f → i ≠ f' → mt (aftJ js ([p, q], [(p.1, q.1), mk2 p.2 q.2])) i = mt js i) → TI.Sw js (aftJ js ([p, q], [(p.1, q.1), mk2 p.2 q.2])) e f := fun {e f e' f'} x1 x2 x3 x4 n1 n2 n3 n4 y1 y2 y3 y4 o => by
      refine ⟨n1, fun z => n3 (Option.some.inj (x1.symm.trans z)), y1, y2, fun i h1 h2 => ?_⟩
      by_cases c1 : i = e'
      · rw [c1, if_pos x2, x3, y3]
      · by_cases c2 : i = f'
        · rw [c2, if_neg (fun z => n1 (Option.some.inj (z.symm.trans x4))), if_pos x4, x1, y4]
        · rw [if_neg (fun z => c1 (Option.some.inj ((M.inv z).symm.trans x1))), if_neg (fun z => c2 (Option.some.inj ((M.inv z).symm.trans x3)))]
          exact o i h1 c1 h2 c2
    have s1 := gen p1 p2 q1 q2 a1 a2 a3 a4 m1 m2 m56.1 m56.2 fun i i1 i2 i3 i4 => rest i i1 i2 i3 i4
    have s2 := gen p2 p1 q2 q1 a4 a3 a2 a1 m56.1 m56.2 m1 m2 fun i i1 i2 i3 i4 => rest i i2 i1 i4 i3
    rcases List.mem_cons.mp hm with rfl | hm
    · exact s1
    · obtain rfl := List.mem_singleton.mp hm
      by_cases c : p.2 < q.2
      · rw [mk2_lt c] at s2 ⊢
        exact s2
      · rw [mk2_comm, mk2_lt (show q.2 < p.2 by omega)] at s2 ⊢
        exact sw_symm g s2
  | dbl2 p q h h' a ap =>
    have s : IsSt n js ([p, q], [(p.1, q.2), mk2 p.2 q.1]) := .dbl2 p q h h' a ap
    obtain ⟨p1, p2⟩ := mt_of g.dis jne h
    obtain ⟨q1, q2⟩ := mt_of g.dis jne h'
    obtain ⟨m1, m2⟩ := aft_made g s (m := (p.1, q.2)) List.mem_cons_self
    obtain ⟨m3, m4⟩ := aft_made g s (m := mk2 p.2 q.1) (List.mem_cons_of_mem _ List.mem_cons_self)
    dsimp only at m1 m2
    have m56 : mt (aftJ js ([p, q], [(p.1, q.2), mk2 p.2 q.1])) p.2 = some q.1 ∧ mt (aftJ js ([p, q], [(p.1, q.2), mk2 p.2 q.1])) q.1 = some p.2 := by
      by_cases c : p.2 < q.1
      · rw [mk2_lt c] at m3 m4
        rw [mk2_lt c]
        exact ⟨m3, m4⟩
      · rw [mk2_comm, mk2_lt (show q.1 < p.2 by obtain ⟨_, _, z, _⟩ := ap; omega)] at m3 m4
        rw [mk2_comm, mk2_lt (show q.1 < p.2 by obtain ⟨_, _, z, _⟩ := ap; omega)]
        exact ⟨m4, m3⟩
    obtain ⟨a1, a2, a3, a4⟩ := ap
    have rp := (g.rng p h).1
    have rq := (g.rng q h').1
    have rest : ∀ i, i ≠ p.1 → i ≠ p.2 → i ≠ q.1 → i ≠ q.2 → mt (aftJ js ([p, q], [(p.1, q.2), mk2 p.2 q.1])) i = mt js i := fun i i1 i2 i3 i4 => by
      refine aft_same g s (fun r hr => ?_) fun m hm => ?_
      · simp only [List.mem_cons, List.not_mem_nil, or_false] at hr
        rcases hr with rfl | rfl
        · exact ⟨i1, i2⟩
        · exact ⟨i3, i4⟩
      · simp only [List.mem_cons, List.not_mem_nil, or_false] at hm
        rcases hm with rfl | rfl
        · exact ⟨i1, i4⟩
        · exact ⟨fun z => by rcases mk2_ends (.inl z) with z | z <;> omega, fun z => by rcases mk2_ends (.inr z) with z | z <;> omega⟩
    have gen : ∀ {e f e' f' : Nat}, mt js e = some e' → mt js e' = some e → mt js f = some f' → mt js f' = some f → e ≠ f → e ≠ f' → e' ≠ f → e' ≠ f' →
        mt (aftJ js ([p, q], [(p.1, q.2), mk2 p.2 q.1])) e = some f → mt (aftJ js ([p, q], [(p.1, q.2), mk2 p.2 q.1])) f = some e → mt (aftJ js ([p, q], [(p.1, q.2), mk2 p.2 q.1])) e' = some f' → mt (aftJ js ([p, q], [(p.1, q.2), mk2 p.2 q.1])) f' = some e' →
        (∀ i, i ≠ e → i ≠ e' → i ≠ f → i ≠ f' → mt (aftJ js ([p, q], [(p.1, q.2), mk2 p.2 q.1])) i = mt js i) → TI.Sw js (aftJ js ([p, q], [(p.1, q.2), mk2 p.2 q.1])) e f := fun {e f e' f'} x1 x2 x3 x4 n1 n2 n3 n4 y1 y2 y3 y4 o => by
      refine ⟨n1, fun z => n3 (Option.some.inj (x1.symm.trans z)), y1, y2, fun i h1 h2 => ?_⟩
      by_cases c1 : i = e'
      · rw [c1, if_pos x2, x3, y3]
      · by_cases c2 : i = f'
        · rw [c2, if_neg (fun z => n1 (Option.some.inj (z.symm.trans x4))), if_pos x4, x1, y4]
        · rw [if_neg (fun z => c1 (Option.some.inj ((M.inv z).symm.trans x1))), if_neg (fun z => c2 (Option.some.inj ((M.inv z).symm.trans x3)))]
          exact o i h1 c1 h2 c2
    have s1 := gen p1 p2 q2 q1 a2 a1 a4 a3 m1 m2 m56.1 m56.2 fun i i1 i2 i3 i4 => rest i i1 i2 i4 i3
    have s2 := gen p2 p1 q1 q2 a3 a4 a1 a2 m56.1 m56.2 m1 m2 fun i i1 i2 i3 i4 => rest i i2 i1 i3 i4
    rcases List.mem_cons.mp hm with rfl | hm
    · exact s1
    · obtain rfl := List.mem_singleton.mp hm
      by_cases c : p.2 < q.1
      · rw [mk2_lt c] at s2 ⊢
        exact s2
      · rw [mk2_comm, mk2_lt (show q.1 < p.2 by omega)] at s2 ⊢
        exact sw_symm g s2
  | join x y hx hy hxy =>
    have s : IsSt n js ([], [(x, y)]) := .join x y hx hy hxy
    obtain rfl := List.mem_singleton.mp hm
    have fx := (free_lt hx).2
    have fy := (free_lt hy).2
    dsimp only at b1 b2 ⊢
    refine ⟨by omega, (fun z => by rw [fx] at z; exact nomatch z), b1, b2, fun i h1 h2 => ?_⟩
    have c1 : ¬ mt js i = some x := fun z => by
      have := M.inv z
      rw [fx] at this
      exact nomatch this
    have c2 : ¬ mt js i = some y := fun z => by
      have := M.inv z
      rw [fy] at this
      exact nomatch this
    rw [if_neg c1, if_neg c2]
    refine aft_same g s (fun q hq => absurd hq List.not_mem_nil) fun m hm => ?_
    obtain rfl := List.mem_singleton.mp hm
    exact ⟨h1, h2⟩
theorem ct_of (g : Good n js) {p : J2} (h : p ∈ js) : TI.Ct js (aftJ js ([p], [])) p.1 p.2 := by
  have s : IsSt n js ([p], []) := .cut p h
  obtain ⟨q1, q2⟩ := mt_of g.dis (fun q hq => Nat.ne_of_lt (g.rng q hq).1) h
  refine ⟨q1, aft_free g s (p := p) List.mem_cons_self (.inl rfl) (fun m hm => absurd hm List.not_mem_nil), aft_free g s (p := p) List.mem_cons_self (.inr rfl) (fun m hm => absurd hm List.not_mem_nil), fun i h1 h2 => ?_⟩
  refine aft_same g s (fun q hq => ?_) fun m hm => absurd hm List.not_mem_nil
  obtain rfl := List.mem_singleton.mp hq
  exact ⟨h1, h2⟩
/-- a step costs one at most -/
theorem st_one (g : Good n js) (s : IsSt n js st) : cst n js (aftJ js st) ≤ 1 := by
  have ga := aft_good g s
  cases hs : st.2 with
  | nil =>
    cases s with
    | cut p h => exact TI.ct_one g ga (ct_of g h)
    | shift p e near h he hn => exact nomatch hs
    | dbl p q h h' a ap => exact nomatch hs
    | dbl2 p q h h' a ap => exact nomatch hs
    | join x y hx hy hxy => exact nomatch hs
  | cons m l => exact TI.sw_one g ga (sw_of g s m (by rw [hs]; exact List.mem_cons_self))
theorem st_gain (g : Good n js) (gl : Good n ls) (s : IsSt n js st) : cst n (aftJ js st) ls ≤ cst n js ls + 1 ∧ cst n js ls ≤ cst n (aftJ js st) ls + 1 := by
  have ga := aft_good g s
  have o := st_one g s
  have t1 := TI.cst_tri g ga gl
  have t2 := TI.cst_tri ga g gl
  rw [TI.cst_symm ga g] at t2
  omega
/-! steps that there are -/
theorem isSt_in (g : Good n js) (s : IsSt n js st) : st ∈ stJ n js := by
  have e0 : pre1 n js js.length ++ pre2 (frees n js) (frees n js).length = stJ n js := rfl
  rw [← e0]
  have at1 : ∀ {p : J2}, p ∈ js → ∀ {s : Stp2}, (∀ k, js[k]? = some p → s ∈ stAt n js k p) → s ∈ pre1 n js js.length := fun {p} hp {s} h => by
    obtain ⟨k, hk, rfl⟩ := List.getElem_of_mem hp
    unfold pre1
    refine List.mem_flatMap.mpr ⟨k, List.mem_range.mpr hk, ?_⟩
    rw [List.getD_eq_getElem?_getD, List.getElem?_eq_getElem hk]
    exact h k (List.getElem?_eq_getElem hk)
  have later : ∀ {p q : J2}, q ∈ js → p.1 < q.1 → ∀ k, js[k]? = some p → q ∈ js.drop (k + 1) := fun {p q} hq a k hk => by
    obtain ⟨hkl, hk⟩ := List.getElem?_eq_some_iff.mp hk
    obtain ⟨m, hm, rfl⟩ := List.getElem_of_mem hq
    have km : k < m := by
      rcases Nat.lt_trichotomy k m with z | z | z
      · exact z
      · subst z
        rw [hk] at a
        omega
      · have := List.pairwise_iff_getElem.mp g.asc m k hm hkl z
        rw [hk] at this
        omega
    rw [show js[m] = (js.drop (k + 1))[m - (k + 1)]'(by rw [List.length_drop]; omega) from by rw [List.getElem_drop]; congr 1; omega]
    exact List.getElem_mem _
  refine List.mem_append.mpr ?_
  cases s with
  | cut p h => exact .inl (at1 h fun k _ => List.mem_append.mpr (.inl List.mem_cons_self))
  | shift p e near h he hn =>
    refine .inl (at1 h fun k _ => List.mem_append.mpr (.inl (List.mem_cons_of_mem _ (List.mem_flatMap.mpr ⟨e, he, ?_⟩))))
    rcases hn with rfl | rfl
    · exact List.mem_cons_self
    · exact List.mem_cons_of_mem _ List.mem_cons_self
  | dbl p q h h' a ap =>
    refine .inl (at1 h fun k hk => List.mem_append.mpr (.inr (List.mem_flatMap.mpr ⟨q, later h' a k hk, ?_⟩)))
    have rp := (g.rng p h).1
    have rq := (g.rng q h').1
    rw [mk2_lt a, sm2_lt (p := (p.1, q.1)) (q := mk2 p.2 q.2) (by unfold mk2; dsimp only; omega)]
    exact List.mem_cons_self
  | dbl2 p q h h' a ap =>
    refine .inl (at1 h fun k hk => List.mem_append.mpr (.inr (List.mem_flatMap.mpr ⟨q, later h' a k hk, ?_⟩)))
    have rp := (g.rng p h).1
    have rq := (g.rng q h').1
    rw [mk2_lt (show p.1 < q.2 by omega), sm2_lt (p := (p.1, q.2)) (q := mk2 p.2 q.1) (by unfold mk2; dsimp only; omega)]
    exact List.mem_cons_of_mem _ List.mem_cons_self
  | join a b ha hb h => exact .inr (pre2_in (frees_asc n js) ha hb h)
theorem free_of_none {i : Nat} (hi : i < 2 * n) (h : mt js i = none) : i ∈ frees n js := by
  unfold frees
  exact List.mem_filter.mpr ⟨List.mem_range.mpr hi, by rw [h]; rfl⟩
/-- any two ends that are not joined can be joined by a step -/
theorem made_ex (g : Good n js) {e f : Nat} (he : e < 2 * n) (hf : f < 2 * n) (ef : e ≠ f) (no : mt js e ≠ some f) : ∃ st, IsSt n js st ∧ mk2 e f ∈ st.2 := by
  have M := g.mt
  cases he' : mt js e with
  | none =>
    have fe := free_of_none he he'
    cases hf' : mt js f with
    | none =>
      have ff := free_of_none hf hf'
      by_cases c : e < f
      · exact ⟨_, .join e f fe ff c, by rw [mk2_lt c]; exact List.mem_cons_self⟩
      · exact ⟨_, .join f e ff fe (by omega), by rw [mk2_comm, mk2_lt (show f < e by omega)]; exact List.mem_cons_self⟩
    | some q =>
      have hq := (mt_iff g).mp hf'
      exact ⟨_, .shift (mk2 f q) e f hq fe (mk2_has f q).1, by rw [mk2_comm e f]; exact List.mem_cons_self⟩
  | some p =>
    have hp := (mt_iff g).mp he'
    cases hf' : mt js f with
    | none => exact ⟨_, .shift (mk2 e p) f e hp (free_of_none hf hf') (mk2_has e p).1, List.mem_cons_self⟩
    | some q =>
      have hq := (mt_iff g).mp hf'
      have key : ∀ {P Q : J2} {x y : Nat}, P ∈ js → Q ∈ js → (x = P.1 ∨ x = P.2) → (y = Q.1 ∨ y = Q.2) → P.1 < Q.1 → DC.Apart P Q → ∃ st, IsSt n js st ∧ mk2 x y ∈ st.2 := fun {P Q x y} hP hQ hx hy a ap => by
        have rq := (g.rng Q hQ).1
        rcases hx with rfl | rfl <;> rcases hy with rfl | rfl
        · exact ⟨_, .dbl P Q hP hQ a ap, by rw [mk2_lt a]; exact List.mem_cons_self⟩
        · exact ⟨_, .dbl2 P Q hP hQ a ap, by rw [mk2_lt (show P.1 < Q.2 by omega)]; exact List.mem_cons_self⟩
        · exact ⟨_, .dbl2 P Q hP hQ a ap, List.mem_cons_of_mem _ List.mem_cons_self⟩
        · exact ⟨_, .dbl P Q hP hQ a ap, List.mem_cons_of_mem _ List.mem_cons_self⟩
      have ne : mk2 e p ≠ mk2 f q := fun z => by
        have h1 := (mk2_has f q).1
        rw [← z] at h1
        rcases mk2_ends h1 with w | w
        · exact ef w.symm
        · exact no (by rw [he', w])
      have apart : ∀ {P Q : J2}, P ∈ js → Q ∈ js → P ≠ Q → DC.Apart P Q := fun {P Q} hP hQ ne => ⟨fun z => ne (same_joint g hP hQ (.inl rfl) (.inl z)), fun z => ne (same_joint g hP hQ (.inl rfl) (.inr z)), fun z => ne (same_joint g hP hQ (.inr rfl) (.inl z)), fun z => ne (same_joint g hP hQ (.inr rfl) (.inr z))⟩
      have ap := apart hp hq ne
      by_cases c : (mk2 e p).1 < (mk2 f q).1
      · exact key hp hq (mk2_has e p).1 (mk2_has f q).1 c ap
      · have n1 := ap.1
        obtain ⟨st, s, hm⟩ := key hq hp (mk2_has f q).1 (mk2_has e p).1 (by omega) (apart hq hp (Ne.symm ne))
        exact ⟨st, s, by rw [mk2_comm e f]; exact hm⟩
/-- unless both lays are the same, some step makes the cost less -/
theorem good_ex (g : Good n js) (gl : Good n ls) (ne : js ≠ ls) : ∃ st ∈ stJ n js, cst n (aftJ js st) ls + 1 = cst n js ls := by
  have fin : ∀ {st : Stp2}, IsSt n js st → cst n (aftJ js st) ls + 1 ≤ cst n js ls → ∃ st ∈ stJ n js, cst n (aftJ js st) ls + 1 = cst n js ls := fun {st} s h => by
    have := st_gain g gl s
    exact ⟨st, isSt_in g s, by omega⟩
  by_cases ex : ∃ e f, mt ls e = some f ∧ mt js e ≠ some f
  · obtain ⟨e, f, hl, no⟩ := ex
    obtain ⟨he, hf⟩ := gl.mt.lt hl
    have ef : e ≠ f := fun z => gl.mt.irr (by rw [hl, z])
    obtain ⟨st, s, hm⟩ := made_ex g he hf ef no
    have ga := aft_good g s
    refine fin s (TI.gs g ga gl (sw_of g s _ hm) ?_)
    have := (mt_iff gl).mp hl
    exact (mt_of gl.dis (fun q hq => Nat.ne_of_lt (gl.rng q hq).1) this).1
  · have sub : ∀ e f, mt ls e = some f → mt js e = some f := fun e f h => Classical.byContradiction fun z => ex ⟨e, f, h, z⟩
    have lsub : ∀ p ∈ ls, p ∈ js := fun p hp => by
      have h := (mt_of gl.dis (fun q hq => Nat.ne_of_lt (gl.rng q hq).1) hp).1
      have := (mt_iff g).mp (sub _ _ h)
      rwa [mk2_lt (gl.rng p hp).1] at this
    obtain ⟨p, hp, hn⟩ : ∃ p ∈ js, p ∉ ls := Classical.byContradiction fun z => by
      have jsub : ∀ p ∈ js, p ∈ ls := fun p hp => Classical.byContradiction fun w => z ⟨p, hp, w⟩
      refine ne (List.Perm.eq_of_pairwise (le := fun p q => p.1 < q.1) (fun a b _ _ h1 h2 => by omega) g.asc gl.asc ?_)
      exact (List.perm_ext_iff_of_nodup (g.asc.imp fun h => fun z => by rw [z] at h; omega) (gl.asc.imp fun h => fun z => by rw [z] at h; omega)).mpr fun p => ⟨jsub p, lsub p⟩
    obtain ⟨q1, q2⟩ := mt_of g.dis (fun q hq => Nat.ne_of_lt (g.rng q hq).1) hp
    have s : IsSt n js ([p], []) := .cut p hp
    have fr : ∀ x y, mt js x = some y → mk2 x y = p → mt ls x = none := fun x y h e => by
      cases hx : mt ls x with
      | none => rfl
      | some z =>
        have h1 := sub _ _ hx
        rw [h] at h1
        rw [← Option.some.inj h1] at hx
        have := (mt_iff gl).mp hx
        rw [e] at this
        exact absurd this hn
    have rp := (g.rng p hp).1
    exact fin s (TI.gc g (aft_good g s) gl (ct_of g hp) (fr _ _ q1 (mk2_lt rp)) (fr _ _ q2 (by rw [mk2_comm, mk2_lt rp])))
end
end K37
-- K37fr
set_option Elab.async false
set_option linter.all false
set_option maxRecDepth 100000
set_option maxHeartbeats 4000000
namespace K37
open PySem L2 DC
section
variable {P : Program} {w : World} {K : PySem.W.Frag} {mg : Str → Option Value} {base : Heap}
theorem frees_step (n : Nat) (js : List J2) (i : Nat) : ((List.range (i + 1)).filter fun e => (mt js e).isNone) = ((List.range i).filter fun e => (mt js e).isNone) ++ (if (mt js i).isNone = true then [i] else []) := by
  rw [List.range_succ, List.filter_append]
  congr 1
  by_cases c : (mt js i).isNone = true
  · rw [if_pos c]
    simp [List.filter_cons, c]
  · rw [if_neg c]
    simp only [List.filter_cons, List.filter_nil]
    rw [if_neg c]
def spFree (K : PySem.W.Frag) : Sp := fun vs H Q _ => ∃ (v : V) (n : Nat) (js : List J2), vs = [v] ∧ Ly K H v n js ∧ Good n js ∧ ∀ (r : Addr) (H' : Hp), Same H H' → H r = none → H' r = some (.lst (Vn (frees n js))) → Q (.ref r) H'
theorem scFree : FnScope ["lay", "end", "mate"] ["lay"] (defScope (top 14)) := ⟨rfl, rfl, rfl, by decide +kernel, rfl, by decide +kernel, by decide +kernel⟩
theorem okFree {f f17 : Addr} {fd fd17 : FuncData} (F : Fun K "free_of" "free_of" (top 14) f fd) (B : Bn mg)
    (D17 : Df K mg "mates" f17 fd17 ["lay"]) (G17 : OkF P w K mg base 1 f17 fd17 ["lay"] (spMates K)) : OkF P w K mg base 2 f fd ["lay"] (spFree K) := by
  refine ok0 F scFree (fun vs H Q E h => ?_) (fun cdv A outer s H vs Q E hgd hr h => ?_)
  · obtain ⟨v, n, js, rfl, _⟩ := h; rfl
  · obtain ⟨v, n, js, rfl, hLy, g, q⟩ := h
    have nd := scFree.nd
    have tp := g.top
    refine ⟨_, pss_one (ps_ret (pe_lc (own := [("end", 1), ("mate", 2)]) (g := gTup K 2 (gCons (gName 1) (gCons (gName 2) gNil))) rfl nd (pi_enum (by rfl) B.enum (pa_cons (cl D17 G17 hgd hr (pa_cons (pv 0) pa_nil)) pa_nil)) (blkOk_by (N := ["lay", "end", "mate"]) (sc := defScope (top 14)) (by decide +kernel))
      (fun _ _ _ _ _ => pg_tup (by rfl) (pgs_cons (pg_name (i := 1) nd rfl (Or.inl rfl)) (pgs_cons (pg_name (i := 2) nd rfl (Or.inl rfl)) pgs_nil))) (fun _ _ _ _ _ => pts_one (pt_cmp (pc_isN (pv 2)) rfl)) (fun _ _ _ _ _ => pv 1))), ?_⟩
    refine ⟨_, rfl, v, n, js, rfl, hLy, g, fun r H1 s1 hr0 h1 => ?_⟩
    refine ⟨r, _, rfl, SqL.of h1, fun D hD => ?_⟩
    refine lc_it (walk_enum (xs := mV n js)) (fun i H' => Same H1 H' ∧ H' D = some (.lst (Vn ((List.range i).filter fun e => (mt js e).isNone)))) ⟨Same.new hD, upd_same⟩ (fun i H' _ hp => SqL.of (hp.1 _ _ h1)) ?_ ?_
    · rintro i x Ha Hb hi ⟨sm, hL⟩ ⟨T, x1, x2, rfl, nT, rfl, e1, e2⟩
      cases e1
      rw [mV_len] at hi
      obtain rfl : x2 = oV (mt js i) := (Option.some.inj ((mV_at hi).symm.trans e2)).symm
      have sT := Same.new (o := .tup [.int (i : Nat), oV (mt js i)]) nT
      refine ⟨T, _, rfl, SqT.of upd_same, rfl, _, _, rfl, _, _, rfl, rfl, rfl, ?_⟩
      rw [frees_step n js i]
      cases hm : mt js i with
      | none =>
        rw [hm] at sT
        refine ⟨_, rfl, true, rfl, iteT ⟨_, rfl, _, sT _ _ hL, ?_, same_put (sm.trans sT) hD, ?_⟩⟩
        · rw [Vn_len]
          refine Nat.lt_of_le_of_lt (Nat.le_trans (List.length_filter_le _ _) (by rw [List.length_range]; exact (show i ≤ 1000 by omega))) (by decide)
        · rw [upd_same]
          unfold Vn
          rw [List.map_append]
          rfl
      | some x =>
        rw [hm] at sT
        refine ⟨_, rfl, false, rfl, iteF ⟨sm.trans sT, ?_⟩⟩
        rw [if_neg (by simp), List.append_nil]
        exact sT _ _ hL
    · rintro H' ⟨sm, hL⟩
      rw [mV_len] at hL
      exact q D H' (s1.trans sm) (s1.free hD) hL
end
end K37
-- K37p
set_option Elab.async false
set_option linter.all false
set_option maxRecDepth 100000
set_option maxHeartbeats 8000000
namespace DC
open PySem L2
theorem it_gen {J : It} {n : Nat} {G : Hp → Prop} {Y : Nat → Hp → V → Hp → Prop} (w : Walk J n G Y) {H0 : Hp} {Qd : Hp → Prop} {body : V → Hp → (Hp → Prop) → Prop} (Pv : Nat → Hp → Prop) (h0 : Pv 0 H0) (hG : ∀ i H, i ≤ n → Pv i H → G H)
    (hs : ∀ i x H H', i < n → Pv i H → Y i H x H' → body x H' (Pv (i + 1))) (hd : ∀ H, Pv n H → Qd H) :
    ∃ W : Nat → Nat → Hp → Prop, (∃ m, W 0 m H0) ∧ ∀ i m H, W i m H →
      (J.stop i H ∧ Qd H) ∨ (J.go i H ∧ ∃ Nx : Hp → Prop, (∀ H', Nx H' → ∃ m', m' < m ∧ W (i + 1) m' H') ∧ ∀ x H', J.yld i H x H' → body x H' Nx) := by
  let Z : Nat → Nat → Hp → Prop := fun a b h => b + a = n ∧ Pv a h
  refine ⟨Z, ⟨n, Nat.add_zero n, h0⟩, fun a b h z => ?_⟩
  obtain ⟨e, p⟩ := z
  have c := hG a h (by omega) p
  rcases Nat.lt_or_ge a n with lt | ge
  · right
    exact ⟨w.goes a h lt c, Pv (a + 1), fun h2 p2 => ⟨b - 1, by omega, by show b - 1 + (a + 1) = n; omega, p2⟩, fun x h2 y => hs a x h h2 lt p (w.yields a h x h2 lt c y)⟩
  · left
    obtain rfl : a = n := by omega
    exact ⟨w.stops h c, hd h p⟩
theorem pi_listK {X : Cx} {K : PySem.W.Frag} {tg a : Expr} {t : TE} (h : PE X a t) (e : X.K = K := by rfl) : PI X tg a (iList K t) := by
  subst e
  exact pi_list h
end DC
namespace K37
open PySem L2 DC LamX
section
variable {P : Program} {w : World} {K : PySem.W.Frag} {mg : Str → Option Value} {base : Heap}
def cutS (p : J2) : Stp2 := ([p], [])
def spCuts (K : PySem.W.Frag) : Sp := fun vs H Q _ => ∃ (v : V) (js : List J2), vs = [v] ∧ Js K H v js ∧ js.length ≤ 24 ∧ ∀ (r : Addr) (us : List V) (H' : Hp), Same H H' → H r = none → H' r = some (.lst us) → Paired (Stp K H') us (js.map cutS) → Q (.ref r) H'
abbrev NCu : List Str := ["joints", "joint"]
def spJoins (K : PySem.W.Frag) : Sp := fun vs H Q _ => ∃ (l : Addr) (fr : List Nat), vs = [.ref l] ∧ H l = some (.lst (Vn fr)) ∧ fr.length ≤ 24 ∧ ∀ (r : Addr) (us : List V) (H' : Hp), Same H H' → H r = none → H' r = some (.lst us) → Paired (Stp K H') us (pre2 fr fr.length) → us.length ≤ 600 → Q (.ref r) H'
abbrev NJn : List Str := ["free", "at", "low", "high"]
def spPg (K : PySem.W.Frag) : Sp := fun vs H Q _ => ∃ (v1 v2 : V) (p q : J2), vs = [v1, v2] ∧ Pr K H v1 p ∧ Pr K H v2 q ∧ ∀ (r : Addr) (us : List V) (H' : Hp), Same H H' → H r = none → H' r = some (.lst us) → Paired (Js K H') us [[(p.1, q.1), nm (p.2, q.2)], [(p.1, q.2), nm (p.2, q.1)]] → Q (.ref r) H'
abbrev NPg : List Str := ["one", "other", "low", "high", "left", "right"]
theorem scPg : FnScope NPg ["one", "other"] (defScope (top 16)) := ⟨rfl, rfl, rfl, by decide +kernel, rfl, by decide +kernel, by decide +kernel⟩
theorem okPg {f fJ : Addr} {fd fdJ : FuncData} (F : Fun K "pairings" "pairings" (top 16) f fd)
    (DJ : Df K mg "joint_of" fJ fdJ ["one", "other"]) (GJ : OkF P w K mg base 1 fJ fdJ ["one", "other"] (spJt K)) : OkF P w K mg base 2 f fd ["one", "other"] (spPg K) := by
  refine ok0 F scPg (fun vs H Q E h => ?_) (fun cdv A outer s H vs Q E hgd hr h => ?_)
  · obtain ⟨v1, v2, p, q, rfl, _⟩ := h; rfl
  · obtain ⟨v1, v2, p, q, rfl, ⟨a, rfl, ha⟩, ⟨b, rfl, hb⟩, fin⟩ := h
    have nd := scPg.nd
    have hr1 : Room 1 _ := hr.mono (by decide)
    refine ⟨_, (pss_cons (ps_asg (pv 0) (pg_tup (by rfl) (pgs_cons (pg_name (i := 2) nd rfl (.inl rfl)) (pgs_cons (pg_name (i := 3) nd rfl (.inl rfl)) pgs_nil)))) (pss_cons (ps_asg (pv 1) (pg_tup (by rfl) (pgs_cons (pg_name (i := 4) nd rfl (.inl rfl)) (pgs_cons (pg_name (i := 5) nd rfl (.inl rfl)) pgs_nil)))) (pss_one (ps_ret (pe_lst (pa_cons (pe_tup (pa_cons (pe_tup (pa_cons (pv 2) (pa_cons (pv 4) pa_nil))) (pa_cons (cl DJ GJ hgd hr1 (pa_cons (pv 3) (pa_cons (pv 5) pa_nil))) pa_nil))) (pa_cons (pe_tup (pa_cons (pe_tup (pa_cons (pv 2) (pa_cons (pv 5) pa_nil))) (pa_cons (cl DJ GJ hgd hr1 (pa_cons (pv 3) (pa_cons (pv 4) pa_nil))) pa_nil))) pa_nil))))))), ?_⟩
    refine ⟨_, rfl, a, _, rfl, ha, rfl, _, _, rfl, _, _, rfl, rfl, ?_⟩
    refine ⟨_, rfl, b, _, rfl, hb, rfl, _, _, rfl, _, _, rfl, rfl, ?_⟩
    refine ⟨_, rfl, _, rfl, by show 2 ≤ sizeLine; decide, fun T1 hT1 => ?_⟩
    have u1 := Same.new (o := .tup [.int (p.1 : Nat), .int (q.1 : Nat)]) hT1
    refine ⟨_, rfl, _, rfl, p.2, q.2, rfl, fun T2 H2 s2 fr2 hT2 => ⟨by show 2 ≤ sizeLine; decide, fun T3 hT3 => ?_⟩⟩
    have u3 := Same.new (o := .tup [.ref T1, .ref T2]) hT3
    refine ⟨_, rfl, _, rfl, by show 2 ≤ sizeLine; decide, fun T4 hT4 => ?_⟩
    have u4 := Same.new (o := .tup [.int (p.1 : Nat), .int (q.2 : Nat)]) hT4
    refine ⟨_, rfl, _, rfl, p.2, q.1, rfl, fun T5 H5 s5 fr5 hT5 => ⟨by show 2 ≤ sizeLine; decide, fun T6 hT6 => ⟨by show 2 ≤ sizeLine; decide, fun L hL => ?_⟩⟩⟩
    have u6 := Same.new (o := .tup [.ref T4, .ref T5]) hT6
    have uL := Same.new (o := .lst [.ref T3, .ref T6]) hL
    have s3L := u4.trans (s5.trans (u6.trans uL))
    have s56 := u6.trans uL
    exact fin L _ _ (u1.trans (s2.trans (u3.trans s3L))) ((u1.trans (s2.trans (u3.trans (u4.trans (s5.trans u6))))).free hL) upd_same (.cons ⟨T3, _, rfl, SqT.of (s3L _ _ upd_same), .cons ⟨T1, rfl, SqT.of ((s2.trans (u3.trans s3L)) _ _ upd_same)⟩ (.cons ⟨T2, rfl, SqT.of ((u3.trans s3L) _ _ hT2)⟩ .nil)⟩
      (.cons ⟨T6, _, rfl, SqT.of (uL _ _ upd_same), .cons ⟨T4, rfl, SqT.of ((s5.trans s56) _ _ upd_same)⟩ (.cons ⟨T5, rfl, SqT.of (s56 _ _ hT5)⟩ .nil)⟩ .nil))
def spAre (K : PySem.W.Frag) : Sp := fun vs H Q _ => ∃ (v : V) (n : Nat) (js : List J2), vs = [v, .int n] ∧ Js K H v js ∧ Good n js ∧ ∀ H', Same H H' → Q (.bl true) H'
end
end K37
-- K37q2
set_option Elab.async false
set_option linter.all false
set_option maxRecDepth 100000
set_option maxHeartbeats 8000000
namespace K37
open PySem L2 DC LamX
theorem any_rep (k : Nat) : (List.replicate k false).any id = false := by
  induction k with
  | zero => rfl
  | succ k ih => rw [List.replicate_succ, List.any_cons, ih]; rfl
theorem made_dp {K : PySem.W.Frag} {H : Hp} {us : List V} {A B : List J2} (h : Paired (Js K H) us [A, B]) : DpAll K H us [.tuple (A.map pairD), .tuple (B.map pairD)] := by
  cases h with
  | cons h1 r =>
  cases r with
  | cons h2 r =>
  cases r
  exact .cons (jsD_dp h1) (.cons (jsD_dp h2) .nil)
theorem shaped_made (a b : List J2) : SeqAt.shaped (.list [.tuple (a.map pairD), .tuple (b.map pairD)]) = true := by
  unfold SeqAt.shaped
  have h1 := depth_pairs a
  have h2 := depth_pairs b
  rw [Bool.and_eq_true]
  refine ⟨by simp only [PyData.canLay0, PyData.canLayAll0, lay_pairs, Bool.and_self], decide_eq_true ?_⟩
  simp only [PyData.depth, PyData.depthAll]
  omega
theorem take_filter {l : List Nat} {i e : Nat} {f : Nat → Bool} (h : l[i]? = some e) : (l.take (i + 1)).filter f = (l.take i).filter f ++ (if f e = true then [e] else []) := by
  rw [take_next h, List.filter_append]
  congr 1
  simp only [List.filter_cons, List.filter_nil]
theorem mk2_list (a b : Nat) : [(mk2 a b).1, (mk2 a b).2] = [a, b] ∨ [(mk2 a b).1, (mk2 a b).2] = [b, a] := by
  unfold mk2
  by_cases h : a < b
  · exact .inl (by rw [Nat.min_eq_left (by omega), Nat.max_eq_right (by omega)])
  · exact .inr (by rw [Nat.min_eq_right (by omega), Nat.max_eq_left (by omega)])
theorem cnt_mk {a b : Nat} {f : Nat → Bool} (h : f a = !f b) : ([(mk2 a b).1, (mk2 a b).2].filter f).length = 1 := by
  rcases mk2_list a b with e | e <;> rw [e] <;> simp only [List.filter_cons, List.filter_nil, h] <;> cases f b <;> rfl
theorem any_two (A B C : List J2) : ([PyData.tuple (A.map pairD), PyData.tuple (B.map pairD)].any fun z => PyData.eqv z (.tuple (C.map pairD))) = (decide (A = C) || decide (B = C)) := by
  simp only [List.any_cons, List.any_nil, PyData.eqv, eqv_prs, Bool.or_false]
section
variable {P : Program} {w : World} {K : PySem.W.Frag} {mg : Str → Option Value} {base : Heap}
abbrev NWo : List Str := ["lay", "cut", "made", "free", "count", "kept", "joint", "end"]
end
end K37
-- K37wd
set_option Elab.async false
set_option linter.all false
set_option maxRecDepth 100000
set_option maxHeartbeats 8000000
/-! K14wd: word_of, whatever is cut and made: a word if and only if it is a step -/
namespace K37
open PySem L2 DC LamX
section
variable {n : Nat} {js : List J2}
theorem no_step3 {c d e : J2} {r ms : List J2} : ¬ IsSt n js (c :: d :: e :: r, ms) := fun h => by cases h
theorem no_step00 : ¬ IsSt n js ([], []) := fun h => by cases h
theorem no_step02 {a b : J2} {r : List J2} : ¬ IsSt n js ([], a :: b :: r) := fun h => by cases h
theorem no_step12 {c a b : J2} {r : List J2} : ¬ IsSt n js ([c], a :: b :: r) := fun h => by cases h
theorem step01 {a : J2} (h : a.1 < a.2) : IsSt n js ([], [a]) ↔ a.1 ∈ frees n js ∧ a.2 ∈ frees n js := by
  constructor
  · intro h
    cases h with
    | join a b ha hb h => exact ⟨ha, hb⟩
  · rintro ⟨h1, h2⟩
    exact .join a.1 a.2 h1 h2 h
theorem step11 (g : Good n js) {c a : J2} (hc : c ∈ js) (h : a.1 < a.2) : IsSt n js ([c], [a]) ↔ (a.1 ∈ frees n js ∧ (a.2 = c.1 ∨ a.2 = c.2)) ∨ (a.2 ∈ frees n js ∧ (a.1 = c.1 ∨ a.1 = c.2)) := by
  constructor
  · intro s
    generalize e1 : ([c] : List J2) = x at s
    generalize e2 : ([a] : List J2) = y at s
    cases s with
    | cut p h => cases e2
    | shift p e near hh he hn =>
      cases e1
      cases e2
      rcases Nat.lt_trichotomy near e with z | z | z
      · rw [mk2_lt z]
        exact .inr ⟨he, hn⟩
      · subst z
        exact absurd (free_lt he).2 (mt_end g hh hn)
      · rw [mk2_comm, mk2_lt z]
        exact .inl ⟨he, hn⟩
    | dbl p q _ _ _ _ => cases e1
    | dbl2 p q _ _ _ _ => cases e1
    | join a b _ _ _ => cases e1
  · rintro (⟨h1, h2⟩ | ⟨h1, h2⟩)
    · have s := IsSt.shift (n := n) c a.1 a.2 hc h1 h2
      rw [mk2_comm, mk2_lt h] at s
      exact s
    · have s := IsSt.shift (n := n) c a.2 a.1 hc h1 h2
      rw [mk2_lt h] at s
      exact s
theorem step2 {c d : J2} (hc : c ∈ js) (hd : d ∈ js) (a : c.1 < d.1) (ap : Apart c d) {ms : List J2} : IsSt n js ([c, d], ms) ↔ ms = [(c.1, d.1), mk2 c.2 d.2] ∨ ms = [(c.1, d.2), mk2 c.2 d.1] := by
  constructor
  · intro s
    generalize e1 : ([c, d] : List J2) = x at s
    cases s with
    | cut p h => cases e1
    | shift p e near h he hn => cases e1
    | dbl p q _ _ _ _ =>
      cases e1
      exact .inl rfl
    | dbl2 p q _ _ _ _ =>
      cases e1
      exact .inr rfl
    | join a b _ _ _ => cases e1
  · rintro (rfl | rfl)
    · exact .dbl c d hc hd a ap
    · exact .dbl2 c d hc hd a ap
end
section
variable {P : Program} {w : World} {K : PySem.W.Frag} {mg : Str → Option Value} {base : Heap}
def WrdV (n : Nat) (js : List J2) (st : Stp2) (v : V) : Prop := (v = .non ∧ ¬ IsSt n js st) ∨ ((∃ s, v = .str s) ∧ IsSt n js st)
def spWord2 (K : PySem.W.Frag) : Sp := fun vs H Q _ => ∃ (v1 v2 v3 : V) (n : Nat) (js cs ms : List J2), vs = [v1, v2, v3] ∧ Ly K H v1 n js ∧ Good n js ∧ Js K H v2 cs ∧ Js K H v3 ms ∧ Good n cs ∧ Good n ms ∧ ∀ (v : V) (H' : Hp), Same H H' → WrdV n js (cs, ms) v → Q v H'
end
end K37
-- K37r1
set_option Elab.async false
set_option linter.all false
set_option maxRecDepth 100000
set_option maxHeartbeats 8000000
namespace K37
open PySem L2 DC LamX
section
variable {P : Program} {w : World} {K : PySem.W.Frag} {mg : Str → Option Value} {base : Heap}
theorem frees_len (n : Nat) (js : List J2) : (frees n js).length ≤ 2 * n := by
  unfold frees
  exact Nat.le_trans (List.length_filter_le _ _) (by rw [List.length_range]; exact Nat.le_refl _)
end
end K37

set_option Elab.async false
set_option linter.all false
set_option maxRecDepth 100000
set_option maxHeartbeats 8000000
namespace K37
open PySem L2 DC LamX
theorem pre2_mem2 {fr : List Nat} {st : Stp2} : st ∈ pre2 fr fr.length → ∃ a ∈ fr, ∃ b ∈ fr, st = ([], [(a, b)]) := by
  intro h
  unfold pre2 at h
  obtain ⟨k, hk, h⟩ := List.mem_flatMap.mp h
  have hk := List.mem_range.mp hk
  obtain ⟨b, hb, rfl⟩ := List.mem_map.mp h
  refine ⟨fr.getD k 0, ?_, b, List.mem_of_mem_drop hb, rfl⟩
  rw [List.getD_eq_getElem?_getD, List.getElem?_eq_getElem hk]
  exact List.getElem_mem hk
theorem short_pair {p : J2} (h1 : p.1 < 1000) (h2 : p.2 < 1000) : Short (pairD p) 50 1 := by
  unfold pairD
  refine short_tuple (B := 21) (D := 0) (L := 2) (fun d hd => ?_) (Nat.le_refl _)
  simp only [List.mem_cons, List.not_mem_nil, or_false] at hd
  rcases hd with rfl | rfl
  · exact short_int (by omega)
  · exact short_int (by omega)
theorem can_st (st : Stp2) : PyData.canLay0 (stD st) = true := by
  unfold stD
  simp only [PyData.canLay0, PyData.canLayAll0, lay_pairs, Bool.and_self]
theorem dep_st (st : Stp2) : (stD st).depth ≤ 4 := by
  have h1 := depth_pairs st.1
  have h2 := depth_pairs st.2
  unfold stD
  simp only [PyData.depth, PyData.depthAll]
  omega
theorem shaped_st (st : Stp2) : SeqAt.shaped (stD st) = true := by
  unfold SeqAt.shaped
  have := dep_st st
  rw [can_st, Bool.true_and]
  exact decide_eq_true (by omega)
theorem can_sts : ∀ l : List Stp2, PyData.canLayAll0 (l.map stD) = true
  | [] => by simp only [List.map_nil, PyData.canLayAll0]
  | s :: l => by
    simp only [List.map_cons, PyData.canLayAll0, can_st, Bool.true_and]
    exact can_sts l
theorem dep_sts : ∀ l : List Stp2, PyData.depthAll (l.map stD) ≤ 4
  | [] => by simp only [List.map_nil, PyData.depthAll]; omega
  | s :: l => by
    have := dep_st s
    have := dep_sts l
    simp only [List.map_cons, PyData.depthAll]
    omega
theorem shaped_sts (l : List Stp2) : SeqAt.shaped (.list (l.map stD)) = true := by
  unfold SeqAt.shaped
  have := dep_sts l
  rw [Bool.and_eq_true]
  refine ⟨by simp only [PyData.canLay0]; exact can_sts l, decide_eq_true ?_⟩
  simp only [PyData.depth]
  omega
theorem stJ_pos {n : Nat} {js : List J2} (g : Good n js) : 0 < (stJ n js).length := by
  have e : pre1 n js js.length ++ pre2 (frees n js) (frees n js).length = stJ n js := rfl
  rw [← e]
  have one := g.one
  cases js with
  | nil =>
    have fr : ∀ x, x < 2 * n → x ∈ frees n [] := fun x hx => by
      unfold frees
      exact List.mem_filter.mpr ⟨List.mem_range.mpr hx, rfl⟩
    have := pre2_in (frees_asc n []) (fr 0 (by omega)) (fr 1 (by omega)) (by decide)
    have := List.length_pos_of_mem this
    rw [List.length_append]
    omega
  | cons p l =>
    have : ([p], []) ∈ pre1 n (p :: l) (p :: l).length := by
      unfold pre1
      refine List.mem_flatMap.mpr ⟨0, List.mem_range.mpr (Nat.succ_pos _), ?_⟩
      exact List.mem_append.mpr (.inl List.mem_cons_self)
    have := List.length_pos_of_mem this
    rw [List.length_append]
    omega
section
variable {P : Program} {w : World} {K : PySem.W.Frag} {mg : Str → Option Value} {base : Heap}
end
end K37
-- K37m3
set_option Elab.async false
set_option linter.all false
set_option maxRecDepth 100000
set_option maxHeartbeats 8000000
/-! K14m3: what is behind a step, sorted; the program's list of steps is the law's -/
namespace K37
open PySem L2 DC LamX
theorem raw_sort {n : Nat} {js : List J2} {st : Stp2} (g : Good n js) (s : IsSt n js st) (h4 : n ≤ 12) : ((rawJ js st).map pairD).mergeSort (PySem.W.dataLe false id) = (aftJ js st).map pairD := by
  have ga := aft_good g s
  have e : ((rawJ js st).map pairD).mergeSort (PySem.W.dataLe false id) = ((aftJ js st).map pairD).mergeSort (PySem.W.dataLe false id) := by
    refine sort_same ((srtJ_perm _).symm.map _) fun a ha b hb e => ?_
    obtain ⟨x, _, rfl⟩ := List.mem_map.mp ha
    obtain ⟨y, _, rfl⟩ := List.mem_map.mp hb
    exact pair_inj x y e
  rw [e]
  refine List.mergeSort_of_pairwise (List.pairwise_map.mpr (List.Pairwise.imp_of_mem (fun {p q} hp hq h => ?_) ga.asc))
  have r1 := ga.rng p hp
  have r2 := ga.rng q hq
  exact le6 h
/-! lists of steps -/
section
variable {α : Type}
theorem range_flat {β : Type} (l : List α) (d : α) (f : α → List β) : ((List.range l.length).flatMap fun k => f (l.getD k d)) = l.flatMap f := by
  have e : (List.range l.length).map (fun k => l.getD k d) = l := by
    refine List.ext_getElem (by rw [List.length_map, List.length_range]) fun i h1 h2 => ?_
    rw [List.getElem_map, List.getElem_range, List.getD_eq_getElem?_getD, List.getElem?_eq_getElem h2]
    rfl
  rw [← List.flatMap_map (f := fun k => l.getD k d) (g := f), e]
theorem count3 (l : List α) (a : α → Stp2) (b c : α → List Stp2) (z : Stp2) : (l.flatMap fun x => a x :: b x ++ c x).count z = (l.flatMap c).count z + (l.flatMap b).count z + (l.map a).count z := by
  induction l with
  | nil => rfl
  | cons x l ih =>
    simp only [List.flatMap_cons, List.map_cons, List.count_append, List.count_cons, List.cons_append] at ih ⊢
    omega
theorem count2 (l : List α) (a b : α → Stp2) (z : Stp2) : (l.flatMap fun x => [a x, b x]).count z = (l.map a).count z + (l.map b).count z := by
  induction l with
  | nil => rfl
  | cons x l ih =>
    simp only [List.flatMap_cons, List.map_cons, List.count_append, List.count_cons, List.count_nil] at ih ⊢
    omega
theorem count_flat (l : List α) {f g : α → List Stp2} (z : Stp2) (h : ∀ x ∈ l, (f x).count z = (g x).count z) : (l.flatMap f).count z = (l.flatMap g).count z := by
  induction l with
  | nil => rfl
  | cons x l ih =>
    rw [List.flatMap_cons, List.flatMap_cons, List.count_append, List.count_append, h x List.mem_cons_self, ih fun y hy => h y (List.mem_cons_of_mem _ hy)]
end
def dbB (p o : J2) : List Stp2 := [([p, o], [(p.1, o.1), mk2 p.2 o.2]), ([p, o], [(p.1, o.2), mk2 p.2 o.1])]
def dbJ (js : List J2) (i : Nat) : List Stp2 := (List.range i).flatMap fun k => (js.drop (k + 1)).flatMap (dbB (js.getD k (0, 0)))
def shE (fr : List Nat) (p : J2) (near : Nat) : List Stp2 := fr.map fun e => ([p], [mk2 near e])
def shJ (js : List J2) (fr : List Nat) : List Stp2 := js.flatMap fun p => [p.1, p.2].flatMap (shE fr p)
theorem dbJ_succ (js : List J2) (i : Nat) : dbJ js (i + 1) = dbJ js i ++ (js.drop (i + 1)).flatMap (dbB (js.getD i (0, 0))) := by
  unfold dbJ
  rw [List.range_succ, List.flatMap_append]
  simp only [List.flatMap_cons, List.flatMap_nil, List.append_nil]
theorem steps_perm {n : Nat} {js : List J2} (g : Good n js) : (((dbJ js js.length ++ shJ js (frees n js)) ++ js.map cutS) ++ pre2 (frees n js) (frees n js).length).Perm (stJ n js) := by
  have e0 : pre1 n js js.length ++ pre2 (frees n js) (frees n js).length = stJ n js := rfl
  rw [← e0]
  refine List.Perm.append_right _ (List.perm_iff_count.mpr fun z => ?_)
  rw [List.count_append, List.count_append]
  unfold pre1
  rw [show ((List.range js.length).flatMap fun k => stAt n js k (js.getD k (0, 0))) = (List.range js.length).flatMap fun k => cutS (js.getD k (0, 0)) :: ((frees n js).flatMap fun e => [([js.getD k (0, 0)], [mk2 (js.getD k (0, 0)).1 e]), ([js.getD k (0, 0)], [mk2 (js.getD k (0, 0)).2 e])]) ++
    (js.drop (k + 1)).flatMap fun o => [([js.getD k (0, 0), o], sm2 (mk2 (js.getD k (0, 0)).1 o.1) (mk2 (js.getD k (0, 0)).2 o.2)), ([js.getD k (0, 0), o], sm2 (mk2 (js.getD k (0, 0)).1 o.2) (mk2 (js.getD k (0, 0)).2 o.1))] from rfl]
  rw [count3]
  have c1 : ((List.range js.length).map fun k => cutS (js.getD k (0, 0))) = js.map cutS := by
    have := range_flat js (0, 0) (fun p => [cutS p])
    rw [← List.map_eq_flatMap, ← List.map_eq_flatMap] at this
    exact this
  have c2 : ((List.range js.length).flatMap fun k => (frees n js).flatMap fun e => [([js.getD k (0, 0)], [mk2 (js.getD k (0, 0)).1 e]), ([js.getD k (0, 0)], [mk2 (js.getD k (0, 0)).2 e])]).count z = (shJ js (frees n js)).count z := by
    rw [range_flat js (0, 0) (fun p => (frees n js).flatMap fun e => [([p], [mk2 p.1 e]), ([p], [mk2 p.2 e])])]
    unfold shJ
    refine count_flat js z fun p _ => ?_
    rw [count2]
    simp only [List.flatMap_cons, List.flatMap_nil, List.append_nil, List.count_append]
    rfl
  have c3 : ((List.range js.length).flatMap fun k => (js.drop (k + 1)).flatMap fun o => [([js.getD k (0, 0), o], sm2 (mk2 (js.getD k (0, 0)).1 o.1) (mk2 (js.getD k (0, 0)).2 o.2)), ([js.getD k (0, 0), o], sm2 (mk2 (js.getD k (0, 0)).1 o.2) (mk2 (js.getD k (0, 0)).2 o.1))]).count z = (dbJ js js.length).count z := by
    unfold dbJ
    refine count_flat _ z fun k hk => ?_
    have hk := List.mem_range.mp hk
    have ek : js.getD k (0, 0) = js[k] := by
      rw [List.getD_eq_getElem?_getD, List.getElem?_eq_getElem hk]
      rfl
    rw [ek]
    refine count_flat _ z fun o ho => ?_
    obtain ⟨m, hm, rfl⟩ := List.getElem_of_mem ho
    rw [List.getElem_drop]
    rw [List.length_drop] at hm
    have lt := List.pairwise_iff_getElem.mp g.asc k (k + 1 + m) hk (by omega) (by omega)
    have r1 := (g.rng js[k] (List.getElem_mem hk)).1
    have r2 := (g.rng (js[k + 1 + m]'(by omega)) (List.getElem_mem _)).1
    rw [mk2_lt lt, mk2_lt (show js[k].1 < (js[k + 1 + m]'(by omega)).2 by omega), sm2_lt (p := (js[k].1, (js[k + 1 + m]'(by omega)).1)) (q := mk2 js[k].2 (js[k + 1 + m]'(by omega)).2) (by unfold mk2; dsimp only; omega),
      sm2_lt (p := (js[k].1, (js[k + 1 + m]'(by omega)).2)) (q := mk2 js[k].2 (js[k + 1 + m]'(by omega)).1) (by unfold mk2; dsimp only; omega)]
    rfl
  rw [c1, c2, c3]
theorem st_sort {n : Nat} {js : List J2} {l : List Stp2} (p : l.Perm (stJ n js)) : (l.map stD).mergeSort (PySem.W.dataLe false id) = (stS n js).map stD := by
  rw [sort_same (p.map stD) fun a ha b hb e => ?_, st_sorted]
  · rfl
  · obtain ⟨x, _, rfl⟩ := List.mem_map.mp ha
    obtain ⟨y, _, rfl⟩ := List.mem_map.mp hb
    rw [st_inj e]
theorem stS_mem {n : Nat} {js : List J2} {st : Stp2} : st ∈ stS n js ↔ st ∈ stJ n js := by
  unfold stS
  rw [List.mem_mergeSort]
end K37
-- LC3
set_option Elab.async false
set_option linter.all false
set_option maxRecDepth 100000
set_option maxHeartbeats 4000000
/-! LC3: list comprehensions of three clauses. One lemma (cl_loop) for a clause's loop whatever it does inside; the inside is an append, or the next clause's loop. -/
namespace DC
open PySem PySem.Spec PyProof.Rows L2
abbrev tsts (qs : List Expr) (env : Env) : Sem Bool := forIn qs true fun q r => if r = true then do let ok ← isTrue q env (eval q env); pure (ForInStep.yield ok) else pure (ForInStep.yield r)
/-- what a turn of the loop of clause k is: the next thing, the store, the tests, the inside -/
def IsTurn (cmp : Expr) (k : Nat) (pk : Pos) (tgt : Expr) (qs : List Expr) (bd : Sem Fin → Sem Fin) (itv acc : Value) (env : Env) : Prop :=
  compTurn cmp k itv acc env = (standAt pk >>= fun _ => pyNext itv >>= fun r => match r with
    | none => pure (.done .next)
    | some u => letOwnedTupleGo tgt itv u >>= fun _ => assign tgt env u >>= fun _ => tsts qs env >>= fun go =>
        if go = true then bd (again (.compLoop cmp k itv acc env)) else again (.compLoop cmp k itv acc env))
/-- σ' knows what σ knows -/
def Kn (σ σ' : L2.St) : Prop := σ.length = σ'.length ∧ ∀ (j : Nat) (v : V), σ[j]? = some (some v) → σ'[j]? = some (some v)
theorem Kn.of_wipe {σ σ' : L2.St} {vs : List Nat} (h : wipe σ' vs = wipe σ vs) : Kn (wipe σ vs) σ' :=
  ⟨by rw [← h, wipe_length], fun j v e => by rw [← h] at e; exact (wipe_some e).1⟩
/-- what a loop's turns are told: at the turn's end Nx -/
def Trn (J : It) (g : TG) (tt : TT) (Bd : L2.St → Hp → (Hp → Prop) → Prop) (σ : L2.St) (Kp : L2.St → Prop) (Fn : Hp → Prop) (W : Nat → Nat → Hp → Prop) : Prop :=
  ∀ i m H, W i m H → (J.stop i H ∧ Fn H) ∨ (J.go i H ∧ ∃ Nx : Hp → Prop, (∀ H', Nx H' → ∃ m', m' < m ∧ W (i + 1) m' H') ∧
    ∀ x H', J.yld i H x H' → g x σ H' fun σ2 H2 => Kp σ2 ∧ tt σ2 H2 fun b H3 => if b = true then Bd σ2 H3 Nx else Nx H3)
section
variable {Y : Cx}
/-- the inside does what it is told -/
def BodyOk (Y : Cx) (pins : List (Addr × Obj)) (σ0 : L2.St) (Kp : L2.St → Prop) (bd : Sem Fin → Sem Fin) (Bd : L2.St → Hp → (Hp → Prop) → Prop) : Prop :=
  ∀ (pl : List (Addr × Obj)) (σ2 : L2.St) (H3 : Hp) (s : Shared) (Nx : Hp → Prop) (kt : Sem Fin) (Q : Fin → Shared → Prop) (E : Value → Shared → Prop), Inv Y (pins ++ pl) σ2 H3 s → Kp σ2 → Bd σ2 H3 Nx →
    (∀ (z : Shared) (σ9 : L2.St) (H' : Hp), Inv Y (pins ++ pl) σ9 H' z → Kn σ0 σ9 → Nx H' → wpAny (model Y.prog Y.w) Y.A kt Q E z) → wpAny (model Y.prog Y.w) Y.A (bd kt) Q E s
theorem cl_loop {pins : List (Addr × Obj)} {σ0 : L2.St} {H0 : Hp} {s0 : Shared} {elt tgt : Expr} {cls : List Comprehension} {scope : Scope} {pos : Pos} {k : Nat} {pk : Pos} {qs : List Expr} {bd : Sem Fin → Sem Fin} {D it : Addr} {fp : List Addr} {tn : Nat → Heap → Prop} {J : It} {g : TG} {tt : TT}
    {R : Result → Shared → Prop} {Kp : L2.St → Prop} {Bd : L2.St → Hp → (Hp → Prop) → Prop} {Fn : Hp → Prop} {W : Nat → Nat → Hp → Prop} {m0 : Nat}
    (xe : Y.xe = fun _ _ => False) (calm : Y.calm = true) (ht : IsTurn (.ListComp elt cls scope pos) k pk tgt qs bd (.ref it) (.ref D) Y.env) (T : Turn Y.prog Y.w Y.K tgt J fp it tn) (pg : PG Y tgt g) (pt : PTs Y qs tt)
    (hb : BodyOk Y pins σ0 Kp bd Bd) (kk : ∀ σ2, Kp σ2 → Kn σ0 σ2)
    (I0 : Inv Y pins σ0 H0 s0) (t0 : tn 0 s0.heap) (hf : ∀ b ∈ fp, FpOk Y pins H0 b) (w0 : W 0 m0 H0) (turn : Trn J g tt Bd σ0 Kp Fn W)
    (fin : ∀ s' H', Inv Y pins σ0 H' s' → Fn H' → R (.ok .next) s') :
    codeAny (model Y.prog Y.w) Y.A (.compLoop (.ListComp elt cls scope pos) k (.ref it) (.ref D) Y.env) R s0 := by
  refine codeAny_loop rfl (fun m z => ∃ i H', Inv Y pins σ0 H' z ∧ tn i z.heap ∧ (∀ b ∈ fp, H' b = none) ∧ W i m H') (fun m z hz => ?_) m0 ⟨0, H0, I0, t0, fun b hb => (hf b hb).1, w0⟩
  obtain ⟨i, H1, I1, t1, no1, w1⟩ := hz
  have own : ∀ {H' : Hp}, (∀ b ∈ fp, H' b = none) → ∀ b ∈ fp, FpOk Y pins H' b := fun h b hb => ⟨h b hb, (hf b hb).2⟩
  show wpAny _ Y.A ((compTurn (.ListComp elt cls scope pos) k (.ref it) (.ref D) Y.env).onRaise (fun x => do noteFrame x Y.env; theTreesLotGoes x)) _ _ z
  refine wpAny_noted ?_
  rw [show compTurn (.ListComp elt cls scope pos) k (.ref it) (.ref D) Y.env = _ from ht]
  refine wpAny_bind (wpAny_standAt (wpAny_bind ?_))
  rcases turn i m H1 w1 with ⟨stop, fn⟩ | ⟨go, Nx, nx, each⟩
  · refine thnF (T.done Y rfl rfl rfl calm i pins z σ0 H1 (fun _ _ => False) I1 (own no1) t1 stop) fun r z2 ⟨er, I2⟩ => ?_
    subst er
    exact wpAny_pure (fin z2 H1 I2 fn)
  · refine thnF (T.item Y rfl rfl rfl calm i pins z σ0 H1 (fun _ _ => False) I1 (own no1) t1 go) fun r z2 ⟨u, er, more⟩ => ?_
    subst er
    refine wpAny_bind (thnF more fun _ z3 ⟨x, H3, I3, rel, y3, t3, no3⟩ => ?_)
    have P3 := I3.pinned (own no3) (T.obj _ _ t3)
    have gr := pg.run _ z3 σ0 H3 x u _ P3 rel (each x H3 y3)
    rw [xe] at gr
    refine wpAny_bind (thnF gr fun _ z4 ⟨σ4, H4, I4, kp, tq⟩ => ?_)
    have tr := pt.run _ z4 σ4 H4 _ I4 tq
    rw [xe] at tr
    refine wpAny_bind (thnF tr fun b z5 ⟨H5, I5, bq⟩ => ?_)
    have ending : ∀ {σ9 : L2.St} {z9 : Shared} {H9 : Hp}, Inv Y (pins ++ pinsAt fp z3.heap) σ9 H9 z9 → Kn σ0 σ9 → Nx H9 → ∃ m', m' < m ∧ ∃ i H', Inv Y pins σ0 H' z9 ∧ tn i z9.heap ∧ (∀ b ∈ fp, H' b = none) ∧ W i m' H' := fun {σ9 z9 H9} I9 kn n9 => by
      obtain ⟨m', lt, w9⟩ := nx H9 n9
      have stay : ∀ b ∈ fp, ∀ o, z3.heap.get? b = some o → z9.heap.get? b = some o ∧ H9 b = none := fun b hb o e =>
        have q := I9.pin (b, o) (List.mem_append_right _ (List.mem_append_right _ (mem_pinsAt hb e)))
        ⟨q.1, q.2.1⟩
      refine ⟨m', lt, i + 1, H9, I9.unpinned.weak kn.1 kn.2, T.keep _ _ _ t3 fun b hb o e => (stay b hb o e).1, fun b hb => ?_, w9⟩
      obtain ⟨o, e, _⟩ := T.obj _ _ t3 b hb
      exact (stay b hb o e).2
    cases b with
    | false =>
      simp only [Bool.false_eq_true, if_false] at bq ⊢
      exact wpAny_pure ⟨rfl, ending I5 (kk _ kp) bq⟩
    | true =>
      simp only [if_true] at bq ⊢
      exact hb _ σ4 H5 z5 Nx _ _ _ I5 kp bq fun z6 σ9 H9 I9 kn n9 => wpAny_pure ⟨rfl, ending I9 kn n9⟩
/-- the inside that appends -/
theorem body_last {pins : List (Addr × Obj)} {σ0 : L2.St} {Kp : L2.St → Prop} {elt : Expr} {te : TE} {D : Addr} (xe : Y.xe = fun _ _ => False) (kk : ∀ σ2, Kp σ2 → Kn σ0 σ2) (pe : PE Y elt te) :
    BodyOk Y pins σ0 Kp (fun kt => (eval elt Y.env >>= fun x => call (.builtin "list.append") [.ref D, x] >>= fun _ => pure ()) >>= fun _ => kt) (fun σ2 H3 Nx => te σ2 H3 fun y H7 => ∃ acc, H7 D = some (.lst acc) ∧ acc.length < sizeLine ∧ Nx (upd H7 D (.lst (acc ++ [y])))) := by
  intro pl σ2 H3 z Nx kt Q E I kp h fin
  have er := pe.run _ z σ2 H3 _ I h
  rw [xe] at er
  refine wpAny_bind (wpAny_bind (thnF er fun u z2 ⟨y, H7, I7, rel, acc, hD, sz, nx⟩ => wpAny_bind ?_))
  exact app_ok I7 hD sz rel fun z3 I3 => wpAny_pure (fin z3 σ2 _ I3 (kk _ kp) nx)
/-- a clause behind the first: its start -/
theorem cl_start {elt : Expr} {cls : List Comprehension} {scope : Scope} {pos : Pos} {k : Nat} {cl : Comprehension} {itv acc : Value} {R : Result → Shared → Prop} {z : Shared} {P : Program} {w : World} {A : Around} {env : Env} (hcl : cls[k]? = some cl) (ha : cl.is_async = 0)
    (h0 : codeAny (model P w) A (.compLoop (.ListComp elt cls scope pos) k itv acc env) R z)
    (h1 : wpAny (model P w) A (pyIter itv) (fun i2 z2 => codeAny (model P w) A (.compLoop (.ListComp elt cls scope pos) k i2 acc env) R z2) (notedBy (model P w) A env fun x z2 => R (.error x) z2) z) :
    codeAny (model P w) A (.compStart (.ListComp elt cls scope pos) k itv acc env) R z := by
  refine codeAny_of_tree ?_
  show wpAny _ _ ((compStart (.ListComp elt cls scope pos) k itv acc env).onRaise (fun x => do noteFrame x env; standAt theWindowsPlace)) _ _ z
  refine wpAny_notedAt ?_
  unfold compStart
  rw [show (clausesOf (.ListComp elt cls scope pos))[k]? = some cl from hcl]
  simp only [Option.elim, ha, bne_self_eq_false, Bool.false_eq_true, if_false]
  refine wpAny_bind (wpAny_askSetting ?_)
  refine wpAny_ite ?_
  split
  · exact wpAny_pure ⟨rfl, h0⟩
  · refine wpAny_bind (wpAny_rule ?_)
    exact wpAny_bind (wpAny_standAt (wpAny_bind (wpAny_mono h1 (fun _ _ q => wpAny_pure ⟨rfl, q⟩) fun _ _ q => q)))
theorem Kn.more {σ σ2 : L2.St} {vs vs1 : List Nat} (h : wipe σ2 vs = wipe σ vs) (sub : ∀ i ∈ vs1, i ∈ vs) : Kn (wipe σ vs) (wipe σ2 vs1) := by
  refine ⟨by rw [← h, wipe_length, wipe_length], fun j v e => ?_⟩
  rw [← h] at e
  obtain ⟨e1, e2⟩ := wipe_some e
  rw [wipe_out fun z => e2 (sub j z)]
  exact e1
/-- the inside that is the next clause -/
abbrev mid (wi : TI) (g : TG) (tt : TT) (vs : List Nat) (B : L2.St → Hp → (Hp → Prop) → Prop) : L2.St → Hp → (Hp → Prop) → Prop := fun σ2 H3 Nx =>
  wi σ2 H3 fun J1 H4 => ∃ W1 : Nat → Nat → Hp → Prop, (∃ m, W1 0 m H4) ∧ Trn J1 g tt B (wipe σ2 vs) (fun σ3 => wipe σ3 vs = wipe σ2 vs) Nx W1
theorem body_mid {pins : List (Addr × Obj)} {σ0 : L2.St} {Kp : L2.St → Prop} {elt tg1 it1 : Expr} {qs1 : List Expr} {cls : List Comprehension} {scope : Scope} {pos : Pos} {k : Nat} {pk : Pos} {D : Addr} {wi1 : TI} {g1 : TG} {tt1 : TT} {vs1 : List Nat} {bd1 : Sem Fin → Sem Fin} {Bd1 : L2.St → Hp → (Hp → Prop) → Prop}
    (xe : Y.xe = fun _ _ => False) (calm : Y.calm = true) (hcl : cls[k]? = some ⟨tg1, it1, qs1, 0⟩) (hs1 : ∀ env x, foldedSetIterable it1 env x = pure x)
    (ht1 : ∀ i2, IsTurn (.ListComp elt cls scope pos) k pk tg1 qs1 bd1 (.ref i2) (.ref D) Y.env) (pi1 : PI Y tg1 it1 wi1) (pg1 : PG Y tg1 g1) (pt1 : PTs Y qs1 tt1)
    (hb1 : ∀ pl σ2, BodyOk Y pl (wipe σ2 vs1) (fun σ3 => wipe σ3 vs1 = wipe σ2 vs1) bd1 Bd1) (kw : ∀ σ2, Kp σ2 → Kn σ0 (wipe σ2 vs1)) :
    BodyOk Y pins σ0 Kp (fun kt => eval it1 Y.env >>= fun x => standAt it1.pos >>= fun _ => foldedSetIterable it1 Y.env x >>= fun x => holding [x] (pyIter x) >>= fun i2 => runOwn (.compStart (.ListComp elt cls scope pos) k i2 (.ref D) Y.env) Y.env >>= fun _ => kt)
      (mid wi1 g1 tt1 vs1 Bd1) := by
  intro pl σ2 H3 z Nx kt Q E I kp h fin
  have ir := pi1.run (pins ++ pl) z σ2 H3 _ I h
  rw [xe] at ir
  refine wpAny_bind (thnF ir fun x z2 more => ?_)
  refine wpAny_bind (wpAny_standAt (wpAny_bind (wpAny_of_eq (hs1 Y.env x) (wpAny_bind (wpAny_holding (thnF more fun i2 z3 pie => ?_))))))
  obtain ⟨it, fp, tn, J, H4, rfl, I4, T, t0, hf, W1, ⟨m1, w1⟩, turn⟩ := pie
  refine wpAny_bind (wpAny_runOwn ?_)
  rw [Around.mark_none]
  have L := cl_loop (R := fun r z' => match r with | .ok _ => ∃ H', Inv Y (pins ++ pl) (wipe σ2 vs1) H' z' ∧ Nx H' | .error _ => False) xe calm (ht1 it) T pg1 pt1 (hb1 (pins ++ pl) σ2) (fun _ q => Kn.of_wipe q)
    (I4.weak (wipe_length _ _) fun j v e => (wipe_some e).1) t0 hf w1 turn (fun s' H' I' n => ⟨H', I', n⟩)
  refine codeAny_mono (cl_start hcl rfl L (T.self Y.A 0 _ _ _ t0 L)) fun r z' hr => ?_
  cases r with
  | ok f =>
    obtain ⟨H', I', n'⟩ := hr
    exact fin _ _ H' I' (kw _ kp) n'
  | error e => exact hr.elim
end
section
variable {X : Cx}
abbrev lst (te : TE) (D : Addr) : L2.St → Hp → (Hp → Prop) → Prop := fun σ2 H3 Nx => te σ2 H3 fun y H7 => ∃ acc, H7 D = some (.lst acc) ∧ acc.length < sizeLine ∧ Nx (upd H7 D (.lst (acc ++ [y])))
/-- [elt for tg in it if .. for tg1 in it1 if .. for tg2 in it2 if ..]; vs: the block's names; vs1: those of the second and third targets; vs2: of the third -/
def tLc3 (wi : TI) (g : TG) (tt : TT) (wi1 : TI) (g1 : TG) (tt1 : TT) (wi2 : TI) (g2 : TG) (tt2 : TT) (te : TE) (vs vs1 vs2 : List Nat) : TE := fun σ H Q =>
  wi σ H fun J H1 => ∀ D, H1 D = none → ∃ W : Nat → Nat → Hp → Prop, (∃ m, W 0 m (upd H1 D (.lst []))) ∧ Trn J g tt (mid wi1 g1 tt1 vs1 (mid wi2 g2 tt2 vs2 (lst te D))) (wipe σ vs) (fun σ2 => wipe σ2 vs = wipe σ vs) (fun H' => Q (.ref D) H') W
section
variable {elt t0 i0 t1 i1 t2 i2 : Expr} {q0 q1 q2 : List Expr} {scope : Scope} {pos : Pos} {itv acc : Value} {env : Env}
abbrev nxt (elt i1 : Expr) (cls : List Comprehension) (scope : Scope) (pos : Pos) (k : Nat) (acc : Value) (env : Env) (kt : Sem Fin) : Sem Fin :=
  eval i1 env >>= fun x => standAt i1.pos >>= fun _ => foldedSetIterable i1 env x >>= fun x => holding [x] (pyIter x) >>= fun it => runOwn (.compStart (.ListComp elt cls scope pos) k it acc env) env >>= fun _ => kt
theorem turn_0 : IsTurn (.ListComp elt [⟨t0, i0, q0, 0⟩, ⟨t1, i1, q1, 0⟩, ⟨t2, i2, q2, 0⟩] scope pos) 0 i0.pos t0 q0 (nxt elt i1 [⟨t0, i0, q0, 0⟩, ⟨t1, i1, q1, 0⟩, ⟨t2, i2, q2, 0⟩] scope pos 1 acc env) itv acc env := by unfold IsTurn; rfl
theorem turn_1 : IsTurn (.ListComp elt [⟨t0, i0, q0, 0⟩, ⟨t1, i1, q1, 0⟩, ⟨t2, i2, q2, 0⟩] scope pos) 1 i1.pos t1 q1 (nxt elt i2 [⟨t0, i0, q0, 0⟩, ⟨t1, i1, q1, 0⟩, ⟨t2, i2, q2, 0⟩] scope pos 2 acc env) itv acc env := by unfold IsTurn; rfl
theorem turn_2 : IsTurn (.ListComp elt [⟨t0, i0, q0, 0⟩, ⟨t1, i1, q1, 0⟩, ⟨t2, i2, q2, 0⟩] scope pos) 2 i2.pos t2 q2 (fun kt => (eval elt env >>= fun x => call (.builtin "list.append") [acc, x] >>= fun _ => pure ()) >>= fun _ => kt) itv acc env := by unfold IsTurn; rfl
end
abbrev Blks (X : Cx) (scope : Scope) (p : Cx → Prop) : Prop := ∀ (s : Shared) (H : Hp) (C : Addr) (cl : List (Str × Addr)) (fp : List Addr), p (X.blk s H scope (compEnvC scope cl C X.env) fp)
theorem pe_lc3 {elt tg iter tg1 it1 tg2 it2 : Expr} {qs qs1 qs2 : List Expr} {scope : Scope} {own : List (Str × Nat)} {vs1 vs2 : List Nat} {pos : Pos} {wi wi1 wi2 : TI} {g g1 g2 : TG} {tt tt1 tt2 : TT} {te : TE}
    (hc : X.calm = true) (hN : X.N.Nodup) (hi : PI X tg iter wi) (ok : BlkOk X.N X.env.scope scope own) (hv1 : ∀ i ∈ vs1, i ∈ own.map (·.2)) (hv2 : ∀ i ∈ vs2, i ∈ vs1)
    (hg : Blks X scope fun Y => PG Y tg g) (ht : Blks X scope fun Y => PTs Y qs tt)
    (hi1 : Blks X scope fun Y => PI Y tg1 it1 wi1) (hg1 : Blks X scope fun Y => PG Y tg1 g1) (ht1 : Blks X scope fun Y => PTs Y qs1 tt1)
    (hi2 : Blks X scope fun Y => PI Y tg2 it2 wi2) (hg2 : Blks X scope fun Y => PG Y tg2 g2) (ht2 : Blks X scope fun Y => PTs Y qs2 tt2)
    (he : Blks X scope fun Y => PE Y elt te)
    (hs : ∀ x, foldedSetIterable iter X.env x = pure x := by intro _; rfl) (hs1 : ∀ env x, foldedSetIterable it1 env x = pure x := by intro _ _; rfl) (hs2 : ∀ env x, foldedSetIterable it2 env x = pure x := by intro _ _; rfl) :
    PE X (.ListComp elt [⟨tg, iter, qs, 0⟩, ⟨tg1, it1, qs1, 0⟩, ⟨tg2, it2, qs2, 0⟩] scope pos) (tLc3 wi g tt wi1 g1 tt1 wi2 g2 tt2 te (own.map (·.2)) vs1 vs2) := by
  refine ⟨fun pins s σ H Q I h => ?_⟩
  rw [eval_ListComp]
  have fr : ∀ y ∈ scope.names, y.2 = .free → ∃ c, X.env.cells.lookup y.1 = some c := fun y hy e => (ok.free y hy e).elim (fun k => I.ok.has _ (.inl k)) (fun k => I.ok.has _ (.inr k))
  refine wpAny_comprehension_free (use := none) rfl hs (closure_ok fr) ok.kind (fun y hy e => by rw [ok.uniq y hy, e])
    (thn (hi.run pins s σ H _ I h) fun _ z1 hz => thn hz fun _ z2 pie => ?_)
  obtain ⟨it, fp, tn, J, H2, rfl, I2, T, t2, f2, q⟩ := pie
  refine wpAny_newObj_type (newEnv_comp ?_) (by show 0 ≤ sizeLine; decide)
  generalize eD : z2.heap.objs.size = D
  have none2 : H2 D = none := I2.hok.fresh (Nat.le_of_eq eD)
  obtain ⟨W, ⟨m0, w0⟩, turn⟩ := q D none2
  generalize ez : ({ z2 with heap := z2.heap.push { cls := .type "list", data := .seq ([] : List Value).toArray } } : Shared) = z3
  have I3 : Inv X pins σ (upd H2 D (.lst [])) z3 := by
    subst ez
    refine I2.laid (t' := z2.toks) (fun b o e => Heap.get?_push_of_some _ e) (Nat.le_of_eq eD) ⟨Nat.zero_le _, [], 0, .nil, ?_⟩
    subst eD
    exact Heap.get?_push_size _ rfl
  have hz3 : z3.heap = z2.heap.push { cls := .type "list", data := .seq ([] : List Value).toArray } := by rw [← ez]
  have f3 : ∀ b ∈ fp, FpOk X pins (upd H2 D (.lst [])) b ∧ b < z3.heap.objs.size := fun b hb => by
    obtain ⟨o, e, _⟩ := T.obj _ _ t2 b hb
    have lt := Heap.lt_size e
    refine ⟨⟨?_, (f2 b hb).2⟩, by rw [hz3, Heap.size_push]; exact Nat.lt_succ_of_lt lt⟩
    rw [upd_ne (by rw [← eD]; exact Nat.ne_of_lt lt)]
    exact (f2 b hb).1
  have t3 : tn 0 z3.heap := T.keep _ _ _ t2 fun b _ o e => by rw [hz3]; exact Heap.get?_push_of_some _ e
  have I4 := block_start I3 ok hN f3
  show codeAny _ _ (.compStart (.ListComp elt [⟨tg, iter, qs, 0⟩, ⟨tg1, it1, qs1, 0⟩, ⟨tg2, it2, qs2, 0⟩] scope pos) 0 (.ref it) (.ref D) (compEnvC scope (cellsFrom (z3.heap.objs.size + 1) scope.names (cloFrom X.env.cells scope.names [])) z3.heap.objs.size X.env)) (compPost (model X.prog X.w) X.A X.xe none _ (.ref D) z3.heap.objs.size) { z3 with heap := pushCells (z3.heap.push { cls := .type "dict", data := .dict #[] }) scope.names }
  generalize cellsFrom (z3.heap.objs.size + 1) scope.names (cloFrom X.env.cells scope.names []) = cl at I4 ⊢
  have t4 : tn 0 (pushCells (z3.heap.push { cls := .type "dict", data := .dict #[] }) scope.names) := T.keep _ _ _ t3 fun b _ o e => pushCells_keeps _ _ _ _ (Heap.get?_push_of_some _ e)
  have loop : codeAny (model X.prog X.w) X.A (.compLoop (.ListComp elt [⟨tg, iter, qs, 0⟩, ⟨tg1, it1, qs1, 0⟩, ⟨tg2, it2, qs2, 0⟩] scope pos) 0 (.ref it) (.ref D) (compEnvC scope cl z3.heap.objs.size X.env)) (compPost (model X.prog X.w) X.A X.xe none (EP X pins σ Q) (.ref D) z3.heap.objs.size) { z3 with heap := pushCells (z3.heap.push { cls := .type "dict", data := .dict #[] }) scope.names } := by
    refine cl_loop (Y := X.blk z3 (upd H2 D (.lst [])) scope (compEnvC scope cl z3.heap.objs.size X.env) fp) rfl hc turn_0 T (hg ..) (ht ..)
      (body_mid rfl hc rfl hs1 (fun _ => turn_1) (hi1 ..) (hg1 ..) (ht1 ..) (fun pl σ2 => body_mid rfl hc rfl hs2 (fun _ => turn_2) (hi2 ..) (hg2 ..) (ht2 ..) (fun pl σ3 => body_last rfl (fun _ q => Kn.of_wipe q) (he ..)) (fun _ q => Kn.more q hv2)) (fun _ q => Kn.more q hv1))
      (fun _ q => Kn.of_wipe q) I4 t4 (fun b hb => ⟨(f3 b hb).1.1, (I4.ok.exf b hb).1, I4.ok.exfs b hb, .inl hb, fun x c e => (I4.ok.exf b hb).2 x c e, fun p hp => absurd (show p ∈ ([] : List (Addr × Obj)) ++ [] from hp) List.not_mem_nil⟩) w0 turn (fun z9 H9 I9 q9 => ?_)
    have back : Inv X pins σ H9 z9 := I3.call' (ch := fp) I9.os I9.base I9.hok I9.bare fun b hb => ⟨(f3 b hb).1.2.2.2.1, (f3 b hb).1.2.1, (f3 b hb).1.2.2.2.2.1, (f3 b hb).1.2.2.2.2.2⟩
    have gone : H9 z3.heap.objs.size = none := I9.free
    obtain ⟨mm, hn, _⟩ := I9.loc
    obtain ⟨o0, o1, _, o3, o4, o5⟩ := I3.fpOk (Nat.le_refl _) gone
    exact ⟨mm, hn, fun h2 sb => ⟨.ref D, H9, back.turned (t' := z9.toks) (fun b o hb e => (sb.2 b hb).trans e) o0 o1 o3 o4 o5, rfl, q9⟩⟩
  exact codeAny_compStart_list loop (T.self X.A 0 _ _ _ t4 loop)
end
end DC
-- K37p2
set_option Elab.async false
set_option linter.all false
set_option maxRecDepth 100000
set_option maxHeartbeats 8000000
/-! K14p2: doubles, shifts, steps_of, stepped, _law_after -/
namespace DC
open PySem L2
theorem pi_tupK {X : Cx} {K : PySem.W.Frag} {tg a : Expr} {t : TE} (h : PE X a t) (e : X.K = K := by rfl) : PI X tg a (iTup K t) := by
  subst e
  exact pi_tup h
end DC
namespace K37
open PySem L2 DC LamX
section
variable {P : Program} {w : World} {K : PySem.W.Frag} {mg : Str → Option Value} {base : Heap}
def spDb (K : PySem.W.Frag) : Sp := fun vs H Q _ => ∃ (v : V) (js : List J2), vs = [v] ∧ Js K H v js ∧ js.length ≤ 12 ∧ ∀ (r : Addr) (us : List V) (H' : Hp), Same H H' → H r = none → H' r = some (.lst us) → Paired (Stp K H') us (dbJ js js.length) → us.length ≤ 300 → Q (.ref r) H'
abbrev NDb : List Str := ["joints", "found", "at", "one", "other", "made"]
def spSh (K : PySem.W.Frag) : Sp := fun vs H Q _ => ∃ (v : V) (l : Addr) (js : List J2) (fr : List Nat), vs = [v, .ref l] ∧ Js K H v js ∧ H l = some (.lst (Vn fr)) ∧ js.length ≤ 12 ∧ fr.length ≤ 24 ∧ ∀ (r : Addr) (us : List V) (H' : Hp), Same H H' → H r = none → H' r = some (.lst us) → Paired (Stp K H') us (shJ js fr) → us.length ≤ 600 → Q (.ref r) H'
abbrev NSh : List Str := ["joints", "free", "joint", "kept", "end"]
end
end K37
-- K37p3
set_option Elab.async false
set_option linter.all false
set_option maxRecDepth 100000
set_option maxHeartbeats 8000000
namespace K37
open PySem L2 DC LamX
section
variable {P : Program} {w : World} {K : PySem.W.Frag} {mg : Str → Option Value} {base : Heap}
def spSo (K : PySem.W.Frag) : Sp := fun vs H Q _ => ∃ (v : V) (n : Nat) (js : List J2), vs = [v] ∧ Ly K H v n js ∧ Good n js ∧ ∀ (r : Addr) (us : List V) (H' : Hp), Same H H' → H r = none → H' r = some (.lst us) → Paired (Stp K H') us (stS n js) → us.length ≤ 1600 → Q (.ref r) H'
def spAf (K : PySem.W.Frag) : Sp := fun vs H Q _ => ∃ (v1 v2 : V) (n : Nat) (js : List J2) (st : Stp2), vs = [v1, v2] ∧ Ly K H v1 n js ∧ Stp K H v2 st ∧ Good n js ∧ n ≤ 12 ∧ IsSt n js st ∧
  ∀ (v : V) (H' : Hp), Same H H' → Ly K H' v n (aftJ js st) → Q v H'
abbrev NSp : List Str := ["lay", "step", "cut", "made", "left", "joint"]
theorem scSp : FnScope NSp ["lay", "step"] (defScope (top 22)) := ⟨rfl, rfl, rfl, by decide +kernel, rfl, by decide +kernel, by decide +kernel⟩
theorem okSp {f : Addr} {fd : FuncData} (F : Fun K "stepped" "stepped" (top 22) f fd) (B : Bn mg) : OkF P w K mg base 1 f fd ["lay", "step"] (spAf K) := by
  refine ok0 F scSp (fun vs H Q E h => ?_) (fun cdv A outer s H vs Q E hgd hr h => ?_)
  · obtain ⟨v1, v2, n, js, st, rfl, _⟩ := h; rfl
  · obtain ⟨v1, v2, n, js, st, rfl, ⟨t, u, rfl, hS, tj, ws, rfl, hSj, hPj⟩, ⟨t2, ua, ub, rfl, hS2, ⟨ta, xa, rfl, hSa, hPa⟩, ⟨tb, xb, rfl, hSb, hPb⟩⟩, g, h4, hst, q⟩ := h
    have nd := scSp.nd
    have jle := g.le
    have g2le := (isSt_good g hst).2.le
    have tp := g.top
    refine ⟨_, (pss_cons (ps_asg (pv 1) (pg_tup (by rfl) (pgs_cons (pg_name (i := 2) nd rfl (.inr rfl)) (pgs_cons (pg_name (i := 3) nd rfl (.inl rfl)) pgs_nil)))) (pss_cons (ps_setLc (i := 4) (own := [("joint", 5)]) (g := gName 5) rfl nd rfl rfl (sw_true rfl rfl rfl (by decide +kernel)) (pi_tup (pe_ix (r := rIxT K) ix_tup (pv 0) pe_int (fun _ _ => rfl))) (blkOk_by (N := NSp) (sc := defScope (top 22)) (by decide +kernel)) (fun _ _ _ _ _ => pg_name (i := 5) nd rfl (Or.inl rfl)) (fun _ _ _ _ _ => pts_one (pt_cmpR (r := rNotInDT K) (op_notInDT (u65 hr)) (pv 5) (pv 2) (by rfl))) (fun _ _ _ _ _ => (pv 5))) (pss_one (ps_ret (pe_tup (pa_cons (pe_ix (r := rIxT K) ix_tup (pv 0) pe_int (fun _ _ => rfl)) (pa_cons (pe_callTy call_tuple_of (by rfl) B.tuple (by decide +kernel) (pa_cons (pe_callB (cr_sortD hr.units) (by rfl) B.sorted (by decide +kernel) (pa_cons (pe_op op_cat (pv 4) (pe_callTy call_list_of (by rfl) B.list (by decide +kernel) (pa_cons (pv 3) pa_nil))) pa_nil)) pa_nil)) pa_nil))))))), ?_⟩
    have a0 : atI [V.int (n : Nat), V.ref tj] 0 = some (.int (n : Nat)) := at_of (j := 0) rfl rfl
    have a1 : atI [V.int (n : Nat), V.ref tj] 1 = some (.ref tj) := at_of (j := 1) rfl rfl
    have b0 : atI [V.ref ta, V.ref tb] 0 = some (.ref ta) := at_of (j := 0) rfl rfl
    have b1 : atI [V.ref ta, V.ref tb] 1 = some (.ref tb) := at_of (j := 1) rfl rfl
    have len : ws.length = js.length := Paired.length hPj
    refine ⟨_, rfl, t2, _, rfl, hS2, rfl, _, _, rfl, _, _, rfl, rfl, ?_⟩
    refine ⟨_, rfl, t, _, 1, .ref tj, rfl, rfl, hS, a1, tj, rfl, ⟨ws, hSj⟩, fun D hD => ?_⟩
    refine lc_it (walk_tup (xs := ws)) (fun i H' => ∃ acc : List V, Same H H' ∧ H' D = some (.lst acc) ∧ Paired (Pr K H') acc ((js.take i).filter fun p => !decide (p ∈ st.1)) ∧ acc.length ≤ i) ⟨[], Same.new hD, upd_same, .nil, Nat.le_refl _⟩ (fun i H' _ hp => by
      obtain ⟨acc, sm, _⟩ := hp
      exact Same.t sm hSj) ?_ ?_
    · rintro i x Ha Hb hi ⟨acc, sm, hL, hd, hal⟩ ⟨rfl, ex⟩
      obtain ⟨p, ep, hx⟩ := paired_at hPj ex
      have hx' := hx.up sm
      refine ⟨rfl, ?_⟩
      obtain ⟨px, rfl, hpx⟩ := hx'
      refine ⟨_, rfl, _, rfl, pairD p, st.1.map pairD, .tup hpx (.cons (.int _) (.cons (.int _) .nil)), .tup (Same.t sm hSa) (js_dpp ((TM.of sm).prs hPa)), shaped_pair p, shaped_pairs st.1, _, rfl, ?_⟩
      rw [any_pair, take_next ep, List.filter_append]
      cases c : (!decide (p ∈ st.1)) with
      | true =>
        refine iteT ⟨_, rfl, acc, hL, Nat.lt_of_le_of_lt (show acc.length ≤ 1000 by omega) (by decide), acc ++ [.ref px], same_put sm hD, upd_same, ?_, by rw [List.length_append]; exact Nat.succ_le_succ hal⟩
        have e1 : ([p].filter fun p => !decide (p ∈ st.1)) = [p] := by simp only [List.filter_cons, c, if_true, List.filter_nil]
        rw [e1]
        exact pair_snoc ((TM.put hL).prs hd) ⟨px, rfl, sqT_put hpx hL⟩
      | false =>
        refine iteF ⟨acc, sm, hL, ?_, Nat.le_succ_of_le hal⟩
        have e1 : ([p].filter fun p => !decide (p ∈ st.1)) = [] := by simp only [List.filter_cons, c, Bool.false_eq_true, if_false, List.filter_nil]
        rw [e1, List.append_nil]
        exact hd
    · rintro H1 ⟨acc, s1, hL, hd, hal⟩
      rw [len, List.take_of_length_le (Nat.le_refl _)] at hd
      refine gn ?_
      have la : acc.length = (js.filter fun p => !decide (p ∈ st.1)).length := Paired.length hd
      have lb : xb.length = st.2.length := Paired.length hPb
      refine ⟨_, rfl, t, _, 0, .int (n : Nat), rfl, rfl, Same.t s1 hS, a0, ?_⟩
      refine ⟨_, rfl, _, rfl, tb, xb, rfl, .inr (Same.t s1 hSb), fun l2 hl2 => ?_⟩
      have u1 := Same.new (o := .lst xb) hl2
      refine ⟨D, l2, acc, xb, rfl, rfl, u1 _ _ hL, upd_same, Nat.le_trans (show acc.length + xb.length ≤ 1000 by omega) (by decide), fun D3 hD3 => ?_⟩
      have u2 := Same.new (o := .lst (acc ++ xb)) hD3
      have S2 := s1.trans (u1.trans u2)
      have PP : Paired (Pr K (upd (upd H1 l2 (.lst xb)) D3 (.lst (acc ++ xb)))) (acc ++ xb) (rawJ js st) := pair_app ((TM.of (u1.trans u2)).prs hd) ((TM.of S2).prs hPb)
      refine ⟨D3, acc ++ xb, _, rfl, SqL.of upd_same, js_dpp PP, pairs_alike _ [], pairs_sortable _, pairs_depth _, fun ys p3 pm hy hp3 => ⟨p3, ys, rfl, .inl ⟨SqL.of upd_same, fun T1 hT1 => ⟨by show 2 ≤ sizeLine; decide, fun T2 hT2 => ?_⟩⟩⟩⟩
      rw [raw_sort g hst h4] at hy
      have x2 := Same.new (o := .lst ys) hp3
      have x3 := Same.new (o := .tup ys) hT1
      have x4 := Same.new (o := .tup [.int (n : Nat), .ref T1]) hT2
      have x := x2.trans (x3.trans x4)
      exact q (.ref T2) _ (S2.trans x) ⟨T2, .ref T1, rfl, SqT.of upd_same, T1, ys, rfl, SqT.of (x4 _ _ upd_same), (TM.of x).prs (dp_prs hy)⟩
end
end K37
-- K37gp
set_option Elab.async false
set_option linter.all false
set_option maxRecDepth 100000
set_option maxHeartbeats 8000000
namespace DC
open PySem L2
end DC
namespace K37
open PySem L2 DC LamX
section
variable {P : Program} {w : World} {K : PySem.W.Frag} {mg : Str → Option Value} {base : Heap}
def outJ (js ls : List J2) : List J2 := js.filter fun p => !decide (p ∈ ls)
def spJw (K : PySem.W.Frag) : Sp := fun vs H Q _ => ∃ (v1 v2 : V) (n : Nat) (js ls : List J2), vs = [v1, v2] ∧ Ly K H v1 n js ∧ Ly K H v2 n ls ∧ js.length ≤ 24 ∧ ∀ (r : Addr) (us : List V) (H' : Hp), Same H H' → H' r = some (.tup us) → Paired (Pr K H') us (outJ js ls) → Q (.ref r) H'
abbrev NJw : List Str := ["one", "other", "joint"]
end
end K37

set_option Elab.async false
set_option linter.all false
set_option maxRecDepth 100000
set_option maxHeartbeats 8000000
namespace K37
open PySem L2 DC LamX
def gapJ (js ls : List J2) : Nat := (outJ js ls).length + (outJ ls js).length
def bothJ (js ls : List J2) : List J2 := js.filter fun p => decide (p ∈ ls)
theorem out_len (js ls : List J2) : (outJ js ls).length + (bothJ js ls).length = js.length := by
  unfold outJ bothJ
  induction js with
  | nil => rfl
  | cons p l ih =>
    simp only [List.filter_cons]
    cases decide (p ∈ ls) <;> simp <;> omega
theorem good_nodup {n : Nat} {js : List J2} (g : Good n js) : js.Nodup := by
  refine g.asc.imp ?_
  rintro a b h rfl
  omega
theorem both_comm {n : Nat} {js ls : List J2} (g : Good n js) (g' : Good n ls) : (bothJ js ls).length = (bothJ ls js).length := by
  refine List.Perm.length_eq ?_
  refine (List.perm_ext_iff_of_nodup ((good_nodup g).filter _) ((good_nodup g').filter _)).mpr fun p => ?_
  simp only [List.mem_filter, decide_eq_true_eq]
  exact and_comm
theorem gap_eq {n : Nat} {js ls : List J2} (g : Good n js) (g' : Good n ls) : ((js.length : Nat) : Int) + ((ls.length : Nat) : Int) - 2 * (((bothJ js ls).length : Nat) : Int) = ((gapJ js ls : Nat) : Int) := by
  have h1 := out_len js ls
  have h2 := out_len ls js
  have h3 := both_comm g g'
  unfold gapJ
  omega
theorem gap_symm (js ls : List J2) : gapJ ls js = gapJ js ls := Nat.add_comm _ _
end K37

set_option Elab.async false
set_option linter.all false
set_option maxRecDepth 100000
set_option maxHeartbeats 8000000
namespace K37
open PySem L2 DC LamX
section
variable {P : Program} {w : World} {K : PySem.W.Frag} {mg : Str → Option Value} {base : Heap}
def spDf (K : PySem.W.Frag) : Sp := fun vs H Q _ => ∃ (v1 v2 : V) (n : Nat) (js ls : List J2), vs = [v1, v2] ∧ Ly K H v1 n js ∧ Ly K H v2 n ls ∧ Good n js ∧ Good n ls ∧ ∀ (H' : Hp), Same H H' → Q (.int (gapJ js ls : Nat)) H'
end
end K37
-- EM
set_option Elab.async false
set_option linter.all false
set_option maxRecDepth 100000
set_option maxHeartbeats 4000000
/-! EM: a pair of lays that lies in another pair; its pieces lie there as well, kind and size. -/
namespace DC
open PySem L2
/-- js, ls of n links lie in js', ls' of N links by φ -/
structure Em (n N : Nat) (js ls js' ls' : List J2) (φ : Nat → Nat) : Prop where
  lt : ∀ e, e < 2 * n → φ e < 2 * N
  inj : ∀ e e', e < 2 * n → e' < 2 * n → φ e = φ e' → e = e'
  m1 : ∀ e, e < 2 * n → mt js' (φ e) = (mt js e).map φ
  m2 : ∀ e, e < 2 * n → mt ls' (φ e) = (mt ls e).map φ
section
variable {n N : Nat} {js ls js' ls' : List J2} {φ : Nat → Nat}
theorem em_cls (E : Em n N js ls js' ls' φ) (g1 : Good n js) (g2 : Good n ls) {a : Nat} (ha : a < 2 * n) {row : List Nat} (c : Cls (2 * n) (mt js) (mt ls) a row) : Cls (2 * N) (mt js') (mt ls') (φ a) (row.map φ) := by
  have up : ∀ {x}, Cl (mt js) (mt ls) a x → Cl (mt js') (mt ls') (φ a) (φ x) := by
    intro x h
    induction h with
    | base => exact .base
    | @step x y h nb ih =>
      have hx : x < 2 * n := cl_lt g1.mt g2.mt ha h
      refine .step ih ?_
      rcases nb with e | e
      · exact .inl (by rw [E.m1 x hx, e]; rfl)
      · exact .inr (by rw [E.m2 x hx, e]; rfl)
  refine ⟨fun y => ⟨fun h => ?_, fun h => ?_⟩, ?_, fun y h => ?_⟩
  · obtain ⟨x, hx, rfl⟩ := List.mem_map.mp h
    exact up ((c.mem x).mp hx)
  · induction h with
    | base => exact List.mem_map.mpr ⟨a, c.beg, rfl⟩
    | step h nb ih =>
      obtain ⟨x, hx, rfl⟩ := List.mem_map.mp ih
      have lx := c.lt x hx
      rcases nb with e | e
      · rw [E.m1 x lx] at e
        obtain ⟨w, ew, rfl⟩ := Option.map_eq_some_iff.mp e
        exact List.mem_map.mpr ⟨w, (c.mem w).mpr (.step ((c.mem x).mp hx) (.inl ew)), rfl⟩
      · rw [E.m2 x lx] at e
        obtain ⟨w, ew, rfl⟩ := Option.map_eq_some_iff.mp e
        exact List.mem_map.mpr ⟨w, (c.mem w).mpr (.step ((c.mem x).mp hx) (.inr ew)), rfl⟩
  · refine List.pairwise_map.mpr (List.Pairwise.imp_of_mem (fun {x y} hx hy ne e => ne (E.inj x y (c.lt x hx) (c.lt y hy) e)) c.nd)
  · obtain ⟨x, hx, rfl⟩ := List.mem_map.mp h
    exact E.lt x (c.lt x hx)
theorem em_cn (E : Em n N js ls js' ls' φ) {row : List Nat} (h : ∀ e ∈ row, e < 2 * n) : cn js' (row.map φ) = cn js row ∧ cn ls' (row.map φ) = cn ls row := by
  unfold cn
  rw [List.countP_map, List.countP_map]
  constructor
  · refine List.countP_congr fun e he => ?_
    show ((mt js' (φ e)).isNone = true) ↔ _
    rw [E.m1 e (h e he), Option.isNone_map]
  · refine List.countP_congr fun e he => ?_
    show ((mt ls' (φ e)).isNone = true) ↔ _
    rw [E.m2 e (h e he), Option.isNone_map]
theorem em_pc (E : Em n N js ls js' ls' φ) (g1 : Good n js) (g2 : Good n ls) (g1' : Good N js') (g2' : Good N ls') {p : Str × List Nat} (h : Wpc n js ls p) : ∃ q, Wpc N js' ls' q ∧ q.1 = p.1 ∧ (p.2.map φ).Perm q.2 := by
  have hk := lk_wpc g1 g2 h
  have hl := wpc_lt h
  obtain ⟨a, ha, c, _⟩ := h
  obtain ⟨q, hq, pm⟩ := cls_wpc g1' g2' (E.lt a ha) (em_cls E g1 g2 ha c)
  refine ⟨q, hq, ?_, pm⟩
  obtain ⟨e1, e2⟩ := em_cn E hl
  rw [← lk_wpc g1' g2' hq, ← lk_perm pm, ← hk]
  unfold lk
  rw [e1, e2]
/-- all pieces of the one, where they lie in the other -/
theorem em_web (E : Em n N js ls js' ls' φ) (g1 : Good n js) (g2 : Good n ls) (g1' : Good N js') (g2' : Good N ls') {ps : List (Str × List Nat)} (W : IsWeb n js ls ps) :
    ∃ qs : List (Str × List Nat), (∀ q ∈ qs, Wpc N js' ls' q) ∧ (qs.map fun p => (p.1, p.2.length)) = (ps.map fun p => (p.1, p.2.length)) ∧ qs.Nodup ∧ ∀ e, (∃ q ∈ qs, e ∈ q.2) ↔ ∃ x, x < 2 * n ∧ φ x = e := by
  have gen : ∀ l : List (Str × List Nat), (∀ p ∈ l, Wpc n js ls p) → l.Nodup → ∃ qs : List (Str × List Nat), (∀ q ∈ qs, Wpc N js' ls' q) ∧ (qs.map fun p => (p.1, p.2.length)) = (l.map fun p => (p.1, p.2.length)) ∧ qs.Nodup ∧ ∀ e, (∃ q ∈ qs, e ∈ q.2) ↔ ∃ p ∈ l, ∃ x ∈ p.2, φ x = e := by
    intro l
    induction l with
    | nil => exact fun _ _ => ⟨[], fun q h => absurd h List.not_mem_nil, rfl, List.nodup_nil, fun e => ⟨fun ⟨q, h, _⟩ => absurd h List.not_mem_nil, fun ⟨p, h, _⟩ => absurd h List.not_mem_nil⟩⟩
    | cons p l ih =>
      intro hw nd
      have nd' := List.nodup_cons.mp nd
      obtain ⟨qs, h1, h2, h3, h4⟩ := ih (fun q hq => hw q (List.mem_cons_of_mem _ hq)) nd'.2
      have hp := hw p List.mem_cons_self
      obtain ⟨q, hq, k, pm⟩ := em_pc E g1 g2 g1' g2' hp
      refine ⟨q :: qs, fun r hr => ?_, ?_, List.nodup_cons.mpr ⟨fun hm => ?_, h3⟩, fun e => ⟨fun h => ?_, fun h => ?_⟩⟩
      · rcases List.mem_cons.mp hr with rfl | hr
        · exact hq
        · exact h1 r hr
      · rw [List.map_cons, List.map_cons, h2, k, ← pm.length_eq, List.length_map]
      · obtain ⟨a, ha, hm'⟩ := wpc_beg hp
        obtain ⟨p2, hp2, x, hx, e⟩ := (h4 (φ a)).mp ⟨q, hm, pm.mem_iff.mp (List.mem_map.mpr ⟨a, hm', rfl⟩)⟩
        have hw2 := hw p2 (List.mem_cons_of_mem _ hp2)
        have := E.inj x a (wpc_lt hw2 x hx) ha e
        subst this
        exact nd'.1 (wpc_uniq g1 g2 hp hw2 hm' hx ▸ hp2)
      · obtain ⟨r, hr, he⟩ := h
        rcases List.mem_cons.mp hr with rfl | hr
        · obtain ⟨x, hx, rfl⟩ := List.mem_map.mp (pm.mem_iff.mpr he)
          exact ⟨p, List.mem_cons_self, x, hx, rfl⟩
        · obtain ⟨p2, hp2, x, hx, e⟩ := (h4 e).mp ⟨r, hr, he⟩
          exact ⟨p2, List.mem_cons_of_mem _ hp2, x, hx, e⟩
      · obtain ⟨p2, hp2, x, hx, rfl⟩ := h
        rcases List.mem_cons.mp hp2 with rfl | hp2
        · exact ⟨q, List.mem_cons_self, pm.mem_iff.mp (List.mem_map.mpr ⟨x, hx, rfl⟩)⟩
        · obtain ⟨r, hr, he⟩ := (h4 (φ x)).mpr ⟨p2, hp2, x, hx, rfl⟩
          exact ⟨r, List.mem_cons_of_mem _ hr, he⟩
  obtain ⟨qs, h1, h2, h3, h4⟩ := gen ps (fun p hp => (W.mem p).mp hp) W.nd
  refine ⟨qs, h1, h2, h3, fun e => (h4 e).trans ⟨?_, ?_⟩⟩
  · rintro ⟨p, hp, x, hx, rfl⟩
    exact ⟨x, wpc_lt ((W.mem p).mp hp) x hx, rfl⟩
  · rintro ⟨x, hx, rfl⟩
    obtain ⟨p, hp, hm⟩ := W.cov g1 g2 x hx
    exact ⟨p, hp, x, hm, rfl⟩
/-- a renaming -/
theorem em_all (E : Em n n js ls js' ls' φ) (g1 : Good n js) (g2 : Good n ls) (g1' : Good n js') (g2' : Good n ls') (sur : ∀ e, e < 2 * n → ∃ x, x < 2 * n ∧ φ x = e) {ps qs : List (Str × List Nat)} (W : IsWeb n js ls ps) (W' : IsWeb n js' ls' qs) :
    (qs.map fun p => (p.1, p.2.length)).Perm (ps.map fun p => (p.1, p.2.length)) := by
  obtain ⟨rs, h1, h2, h3, h4⟩ := em_web E g1 g2 g1' g2' W
  have R : IsWeb n js' ls' rs := .of g1' g2' h1 h3 fun e he => (h4 e).mpr (sur e he)
  rw [← h2]
  exact (W'.perm R).map _
/-- two side by side -/
theorem em_two {n2 : Nat} {js2 ls2 : List J2} {ψ : Nat → Nat} (E : Em n N js ls js' ls' φ) (E2 : Em n2 N js2 ls2 js' ls' ψ) (g1 : Good n js) (g2 : Good n ls) (g3 : Good n2 js2) (g4 : Good n2 ls2) (g1' : Good N js') (g2' : Good N ls')
    (sur : ∀ e, e < 2 * N → (∃ x, x < 2 * n ∧ φ x = e) ∨ ∃ x, x < 2 * n2 ∧ ψ x = e) (dis : ∀ x y, x < 2 * n → y < 2 * n2 → φ x ≠ ψ y) {ps ps2 qs : List (Str × List Nat)} (W : IsWeb n js ls ps) (W2 : IsWeb n2 js2 ls2 ps2) (W' : IsWeb N js' ls' qs) :
    (qs.map fun p => (p.1, p.2.length)).Perm ((ps.map fun p => (p.1, p.2.length)) ++ ps2.map fun p => (p.1, p.2.length)) := by
  obtain ⟨rs, h1, h2, h3, h4⟩ := em_web E g1 g2 g1' g2' W
  obtain ⟨ss, k1, k2, k3, k4⟩ := em_web E2 g3 g4 g1' g2' W2
  have R : IsWeb N js' ls' (rs ++ ss) := by
    refine .of g1' g2' (fun q hq => ?_) (List.nodup_append.mpr ⟨h3, k3, fun a ha b hb e => ?_⟩) fun e he => ?_
    · rcases List.mem_append.mp hq with hq | hq
      · exact h1 q hq
      · exact k1 q hq
    · subst e
      obtain ⟨x, _, hx⟩ := wpc_beg (h1 a ha)
      obtain ⟨y, hy, ey⟩ := (h4 x).mp ⟨a, ha, hx⟩
      obtain ⟨z, hz, ez⟩ := (k4 x).mp ⟨a, hb, hx⟩
      exact dis y z hy hz (ey.trans ez.symm)
    · rcases sur e he with h | h
      · obtain ⟨q, hq, hm⟩ := (h4 e).mpr h
        exact ⟨q, List.mem_append_left _ hq, hm⟩
      · obtain ⟨q, hq, hm⟩ := (k4 e).mpr h
        exact ⟨q, List.mem_append_right _ hq, hm⟩
  rw [← h2, ← k2, ← List.map_append]
  exact (W'.perm R).map _
end
end DC
-- K37em
set_option Elab.async false
set_option linter.all false
set_option maxRecDepth 100000
set_option maxHeartbeats 8000000
/-! K59em: lays told anew; renamed, side by side, without a link; what it costs -/
namespace K37
open PySem L2 DC LamX
theorem raw_iff {l : List J2} (ap : l.Pairwise DC.Apart) (ne : ∀ p ∈ l, p.1 ≠ p.2) {i j : Nat} : mt l i = some j ↔ ∃ p ∈ l, (i = p.1 ∧ j = p.2) ∨ (i = p.2 ∧ j = p.1) := by
  constructor
  · exact mt_some
  · rintro ⟨p, hp, ⟨rfl, rfl⟩ | ⟨rfl, rfl⟩⟩
    · exact (mt_of ap ne hp).1
    · exact (mt_of ap ne hp).2
def pushJ (φ : Nat → Nat) (l : List J2) : List J2 := srtJ (l.map fun p => mk2 (φ p.1) (φ p.2))
section
variable {S : Nat → Prop} {φ : Nat → Nat} {N : Nat} {l : List J2}
structure Dom (S : Nat → Prop) (φ : Nat → Nat) (N : Nat) (l : List J2) : Prop where
  ap : l.Pairwise DC.Apart
  ne : ∀ p ∈ l, p.1 ≠ p.2
  dom : ∀ p ∈ l, S p.1 ∧ S p.2
  inj : ∀ x y, S x → S y → φ x = φ y → x = y
  lt : ∀ x, S x → φ x < 2 * N
theorem mk2_mem {a b x : Nat} : (x = (mk2 a b).1 ∨ x = (mk2 a b).2) ↔ x = a ∨ x = b := by
  constructor
  · exact mk2_ends
  · rintro (rfl | rfl)
    · exact (mk2_has x b).1
    · exact (mk2_has a x).2
theorem mk2_apart {a b c d : Nat} (h : a ≠ c ∧ a ≠ d ∧ b ≠ c ∧ b ≠ d) : DC.Apart (mk2 a b) (mk2 c d) := by
  unfold DC.Apart mk2
  dsimp only
  omega
theorem push_dis (D : Dom S φ N l) : (l.map fun p => mk2 (φ p.1) (φ p.2)).Pairwise DC.Apart := by
  refine List.pairwise_map.mpr (List.Pairwise.imp_of_mem (fun {p q} hp hq h => ?_) D.ap)
  have hp' := D.dom p hp
  have hq' := D.dom q hq
  exact mk2_apart ⟨fun e => h.1 (D.inj _ _ hp'.1 hq'.1 e), fun e => h.2.1 (D.inj _ _ hp'.1 hq'.2 e), fun e => h.2.2.1 (D.inj _ _ hp'.2 hq'.1 e), fun e => h.2.2.2 (D.inj _ _ hp'.2 hq'.2 e)⟩
theorem push_good (D : Dom S φ N l) (h1 : 1 ≤ N) (h12 : N ≤ 12) : Good N (pushJ φ l) := by
  have d := push_dis D
  have pm := srtJ_perm (l.map fun p => mk2 (φ p.1) (φ p.2))
  refine ⟨h1, h12, fun p hp => ?_, srtJ_asc (d.imp fun h => h.1), (pm.pairwise_iff fun h => apart_symm h).mpr d⟩
  obtain ⟨q, hq, rfl⟩ := List.mem_map.mp (pm.mem_iff.mp hp)
  have hq' := D.dom q hq
  have l1 := D.lt _ hq'.1
  have l2 := D.lt _ hq'.2
  have ne : φ q.1 ≠ φ q.2 := fun e => D.ne q hq (D.inj _ _ hq'.1 hq'.2 e)
  unfold mk2
  dsimp only
  omega
theorem push_mt (D : Dom S φ N l) (h1 : 1 ≤ N) (h12 : N ≤ 12) {x : Nat} (hx : S x) : mt (pushJ φ l) (φ x) = (mt l x).map φ := by
  have g := push_good D h1 h12
  refine opt_ext fun j => ?_
  rw [mt_iff g]
  have pm := srtJ_perm (l.map fun p => mk2 (φ p.1) (φ p.2))
  constructor
  · intro h
    obtain ⟨q, hq, e⟩ := List.mem_map.mp (pm.mem_iff.mp h)
    have hq' := D.dom q hq
    have nq : φ q.1 ≠ φ q.2 := fun e => D.ne q hq (D.inj _ _ hq'.1 hq'.2 e)
    have cs : (φ x = φ q.1 ∧ j = φ q.2) ∨ (φ x = φ q.2 ∧ j = φ q.1) := by
      unfold mk2 at e
      have e1 := congrArg Prod.fst e
      have e2 := congrArg Prod.snd e
      dsimp only at e1 e2
      omega
    rcases cs with ⟨e1, rfl⟩ | ⟨e1, rfl⟩
    · have := D.inj _ _ hx hq'.1 e1
      rw [(raw_iff D.ap D.ne).mpr ⟨q, hq, .inl ⟨this, rfl⟩⟩]
      rfl
    · have := D.inj _ _ hx hq'.2 e1
      rw [(raw_iff D.ap D.ne).mpr ⟨q, hq, .inr ⟨this, rfl⟩⟩]
      rfl
  · intro h
    obtain ⟨y, hy, rfl⟩ := Option.map_eq_some_iff.mp h
    obtain ⟨q, hq, c⟩ := (raw_iff D.ap D.ne).mp hy
    refine pm.mem_iff.mpr (List.mem_map.mpr ⟨q, hq, ?_⟩)
    rcases c with ⟨rfl, rfl⟩ | ⟨rfl, rfl⟩
    · rfl
    · exact mk2_comm _ _
end
section
variable {n N : Nat} {js ls js' ls' : List J2} {φ : Nat → Nat}
theorem lcost_app (a b : Lot) : lcost (a ++ b) = lcost a + lcost b := by
  unfold lcost
  rw [List.map_append, List.sum_append]
theorem lcost_perm {a b : Lot} (h : a.Perm b) : lcost a = lcost b := isum_perm (h.map _)
theorem cst_all (E : Em n n js ls js' ls' φ) (g1 : Good n js) (g2 : Good n ls) (g1' : Good n js') (g2' : Good n ls') (sur : ∀ e, e < 2 * n → ∃ x, x < 2 * n ∧ φ x = e) : cst n js' ls' = cst n js ls := by
  obtain ⟨ps, W⟩ := web_ex g1 g2
  obtain ⟨qs, W'⟩ := web_ex g1' g2'
  have h1 := (web_cost g1 g2 W).1
  have h2 := (web_cost g1' g2' W').1
  have h3 : lcost (szs qs) = lcost (szs ps) := lcost_perm (em_all E g1 g2 g1' g2' sur W W')
  omega
theorem cst_two {n2 : Nat} {js2 ls2 : List J2} {ψ : Nat → Nat} (E : Em n N js ls js' ls' φ) (E2 : Em n2 N js2 ls2 js' ls' ψ) (g1 : Good n js) (g2 : Good n ls) (g3 : Good n2 js2) (g4 : Good n2 ls2) (g1' : Good N js') (g2' : Good N ls')
    (sur : ∀ e, e < 2 * N → (∃ x, x < 2 * n ∧ φ x = e) ∨ ∃ x, x < 2 * n2 ∧ ψ x = e) (dis : ∀ x y, x < 2 * n → y < 2 * n2 → φ x ≠ ψ y) : cst N js' ls' = cst n js ls + cst n2 js2 ls2 := by
  obtain ⟨ps, W⟩ := web_ex g1 g2
  obtain ⟨ps2, W2⟩ := web_ex g3 g4
  obtain ⟨qs, W'⟩ := web_ex g1' g2'
  have h1 := (web_cost g1 g2 W).1
  have h2 := (web_cost g1' g2' W').1
  have h4 := (web_cost g3 g4 W2).1
  have h3 : lcost (szs qs) = lcost (szs ps) + lcost (szs ps2) := by
    rw [← lcost_app]
    exact lcost_perm (em_two E E2 g1 g2 g3 g4 g1' g2' sur dis W W2 W')
  omega
/-! side by side -/
def besJ (n : Nat) (js ls : List J2) : List J2 := js ++ ls.map fun p => (p.1 + 2 * n, p.2 + 2 * n)
theorem bes_good {n2 : Nat} (g1 : Good n js) (g2 : Good n2 ls) (h : n + n2 ≤ 12) : Good (n + n2) (besJ n js ls) := by
  have sh : ∀ p ∈ (ls.map fun p => (p.1 + 2 * n, p.2 + 2 * n)), ∃ q ∈ ls, p = (q.1 + 2 * n, q.2 + 2 * n) := fun p hp => by
    obtain ⟨q, hq, rfl⟩ := List.mem_map.mp hp
    exact ⟨q, hq, rfl⟩
  have := g1.one
  refine ⟨by omega, h, fun p hp => ?_, List.pairwise_append.mpr ⟨g1.asc, ?_, fun p hp q hq => ?_⟩, List.pairwise_append.mpr ⟨g1.dis, ?_, fun p hp q hq => ?_⟩⟩
  · rcases List.mem_append.mp hp with hp | hp
    · have := g1.rng p hp
      omega
    · obtain ⟨q, hq, rfl⟩ := sh p hp
      have := g2.rng q hq
      dsimp only
      omega
  · exact List.pairwise_map.mpr (g2.asc.imp fun h => by dsimp only; omega)
  · obtain ⟨r, hr, rfl⟩ := sh q hq
    have := g1.rng p hp
    dsimp only
    omega
  · exact List.pairwise_map.mpr (g2.dis.imp fun h => by unfold DC.Apart at h ⊢; dsimp only; omega)
  · obtain ⟨r, hr, rfl⟩ := sh q hq
    have := g1.rng p hp
    unfold DC.Apart
    dsimp only
    omega
theorem bes_mt1 {n2 : Nat} (g1 : Good n js) (g2 : Good n2 ls) (h : n + n2 ≤ 12) {e : Nat} (he : e < 2 * n) : mt (besJ n js ls) e = mt js e := by
  have g := bes_good g1 g2 h
  refine opt_ext fun j => ?_
  rw [mt_iff g, mt_iff g1]
  unfold besJ
  rw [List.mem_append]
  constructor
  · rintro (h | h)
    · exact h
    · obtain ⟨q, hq, eq⟩ := List.mem_map.mp h
      have e1 := congrArg Prod.fst eq
      unfold mk2 at e1
      dsimp only at e1
      omega
  · exact .inl
theorem bes_mt2 {n2 : Nat} (g1 : Good n js) (g2 : Good n2 ls) (h : n + n2 ≤ 12) {e : Nat} (he : e < 2 * n2) : mt (besJ n js ls) (e + 2 * n) = (mt ls e).map (· + 2 * n) := by
  have g := bes_good g1 g2 h
  refine opt_ext fun j => ?_
  rw [mt_iff g]
  unfold besJ
  rw [List.mem_append]
  constructor
  · rintro (h | h)
    · have r := g1.rng _ h
      unfold mk2 at r
      dsimp only at r
      omega
    · obtain ⟨q, hq, eq⟩ := List.mem_map.mp h
      have r := g2.rng q hq
      have cs : (e = q.1 ∧ j = q.2 + 2 * n) ∨ (e = q.2 ∧ j = q.1 + 2 * n) := by
        unfold mk2 at eq
        have e1 := congrArg Prod.fst eq
        have e2 := congrArg Prod.snd eq
        dsimp only at e1 e2
        omega
      rcases cs with ⟨rfl, rfl⟩ | ⟨rfl, rfl⟩
      · rw [(mt_iff g2).mpr (show mk2 q.1 q.2 ∈ ls by rw [mk2_lt r.1]; exact hq)]
        rfl
      · rw [(mt_iff g2).mpr (show mk2 q.2 q.1 ∈ ls by rw [mk2_comm, mk2_lt r.1]; exact hq)]
        rfl
  · intro h
    obtain ⟨y, hy, rfl⟩ := Option.map_eq_some_iff.mp h
    right
    have hm := (mt_iff g2).mp hy
    refine List.mem_map.mpr ⟨_, hm, ?_⟩
    unfold mk2
    dsimp only
    rw [Nat.add_min_add_right, Nat.add_max_add_right]
theorem cst_bes {n2 : Nat} {js2 ls2 : List J2} (g1 : Good n js) (g2 : Good n ls) (g3 : Good n2 js2) (g4 : Good n2 ls2) (h : n + n2 ≤ 12) : cst (n + n2) (besJ n js js2) (besJ n ls ls2) = cst n js ls + cst n2 js2 ls2 := by
  refine cst_two (φ := id) (ψ := (· + 2 * n)) ⟨fun e he => by show e < _; omega, fun e e' _ _ z => z, fun e he => ?_, fun e he => ?_⟩ ⟨fun e he => by show e + 2 * n < _; omega, fun e e' _ _ z => by have z : e + 2 * n = e' + 2 * n := z; omega, fun e he => bes_mt2 g1 g3 h he, fun e he => bes_mt2 g2 g4 h he⟩ g1 g2 g3 g4 (bes_good g1 g3 h) (bes_good g2 g4 h) (fun e he => ?_) (fun x y hx hy z => by have z : x = y + 2 * n := z; omega)
  · rw [Option.map_id, id, id]
    exact bes_mt1 g1 g3 h he
  · rw [Option.map_id, id, id]
    exact bes_mt1 g2 g4 h he
  · by_cases c : e < 2 * n
    · exact .inl ⟨e, c, rfl⟩
    · exact .inr ⟨e - 2 * n, by omega, by show e - 2 * n + 2 * n = e; omega⟩
end
end K37
-- K37is
set_option Elab.async false
set_option linter.all false
set_option maxRecDepth 100000
set_option maxHeartbeats 8000000
/-! K68is: is_step_of (either answer), need_step_of, need_step, lay_behind, step_between -/
namespace K37
open PySem L2 DC LamX
/-- is it a step of the lay? -/
def isB (n : Nat) (js : List J2) (st : Stp2) : Bool := decide (st ∈ stJ n js)
theorem isB_iff {n : Nat} {js : List J2} {st : Stp2} (g : Good n js) : isB n js st = true ↔ IsSt n js st := by
  unfold isB
  rw [decide_eq_true_iff]
  exact ⟨isSt_of g, isSt_in g⟩
theorem good_sub {n : Nat} {js ls : List J2} (g : Good n js) (h : ls.Sublist js) : Good n ls := ⟨g.one, g.top, fun p hp => g.rng p (h.subset hp), g.asc.sublist h, g.dis.sublist h⟩
theorem out_good {n : Nat} {js ls : List J2} (g : Good n js) : Good n (outJ js ls) := good_sub g List.filter_sublist
section
variable {P : Program} {w : World} {K : PySem.W.Frag} {mg : Str → Option Value} {base : Heap}
def spIs (K : PySem.W.Frag) : Sp := fun vs H Q _ => ∃ (v1 v2 : V) (n : Nat) (js : List J2) (st : Stp2), vs = [v1, v2] ∧ Ly K H v1 n js ∧ Good n js ∧ Stp K H v2 st ∧ Good n st.1 ∧ Good n st.2 ∧ ∀ (H' : Hp), Same H H' → Q (.bl (isB n js st)) H'
abbrev NIs : List Str := ["lay", "value", "cut", "made"]
def spNs (K : PySem.W.Frag) : Sp := fun vs H Q _ => ∃ (v1 v2 : V) (n : Nat) (js : List J2) (st : Stp2), vs = [v1, v2] ∧ Ly K H v1 n js ∧ Good n js ∧ Stp K H v2 st ∧ IsSt n js st ∧ ∀ (H' : Hp), Same H H' → Q v2 H'
def btwJ (js ls : List J2) : Stp2 := (outJ js ls, outJ ls js)
def spSbt (K : PySem.W.Frag) : Sp := fun vs H Q _ => ∃ (v1 v2 : V) (n : Nat) (js ls : List J2), vs = [v1, v2] ∧ Ly K H v1 n js ∧ Ly K H v2 n ls ∧ Good n js ∧ Good n ls ∧
  ∀ (v : V) (H' : Hp), Same H H' → ((v = .non ∧ ¬ IsSt n js (btwJ js ls)) ∨ (∃ a, v = .ref a ∧ Stp K H' (.ref a) (btwJ js ls) ∧ IsSt n js (btwJ js ls))) → Q v H'
end
end K37
-- K37ns
set_option Elab.async false
set_option linter.all false
set_option maxRecDepth 100000
set_option maxHeartbeats 8000000
/-! K68is: is_step_of (either answer), need_step_of, need_step, lay_behind, step_between -/
namespace K37
open PySem L2 DC LamX
section
variable {P : Program} {w : World} {K : PySem.W.Frag} {mg : Str → Option Value} {base : Heap}
end
end K37
-- ITG
set_option Elab.async false
set_option linter.all false
set_option maxRecDepth 100000
set_option maxHeartbeats 4000000
/-! ITG: a clause's loop by an invariant -/
namespace ITG
open PySem PySem.Spec PyProof.Rows L2 DC Evl
theorem it_gen {J : It} {n : Nat} {G : Hp → Prop} {Y : Nat → Hp → V → Hp → Prop} (w : Walk J n G Y) {H0 : Hp} {Qd : Hp → Prop} {body : V → Hp → (Hp → Prop) → Prop} (Pv : Nat → Hp → Prop) (h0 : Pv 0 H0) (hG : ∀ i H, i ≤ n → Pv i H → G H)
    (hs : ∀ i x H H', i < n → Pv i H → Y i H x H' → body x H' (Pv (i + 1))) (hd : ∀ H, Pv n H → Qd H) :
    ∃ W : Nat → Nat → Hp → Prop, (∃ m, W 0 m H0) ∧ ∀ i m H, W i m H →
      (J.stop i H ∧ Qd H) ∨ (J.go i H ∧ ∃ Nx : Hp → Prop, (∀ H', Nx H' → ∃ m', m' < m ∧ W (i + 1) m' H') ∧ ∀ x H', J.yld i H x H' → body x H' Nx) := by
  let Z : Nat → Nat → Hp → Prop := fun a b h => b + a = n ∧ Pv a h
  refine ⟨Z, ⟨n, Nat.add_zero n, h0⟩, fun a b h z => ?_⟩
  obtain ⟨e, p⟩ := z
  have c := hG a h (by omega) p
  rcases Nat.lt_or_ge a n with lt | ge
  · right
    exact ⟨w.goes a h lt c, Pv (a + 1), fun h2 p2 => ⟨b - 1, by omega, by show b - 1 + (a + 1) = n; omega, p2⟩, fun x h2 y => hs a x h h2 lt p (w.yields a h x h2 lt c y)⟩
  · left
    obtain rfl : a = n := by omega
    exact ⟨w.stops h c, hd h p⟩
end ITG
-- K37lb
set_option Elab.async false
set_option linter.all false
set_option maxRecDepth 100000
set_option maxHeartbeats 8000000
/-! K74lb: need_step, lay_behind, _law_of -/
namespace K37
open PySem L2 DC LamX
section
variable {P : Program} {w : World} {K : PySem.W.Frag} {mg : Str → Option Value} {base : Heap}
end
end K37
-- K37hq
set_option Elab.async false
set_option linter.all false
set_option maxRecDepth 100000
set_option maxHeartbeats 4000000
/-! K74hq: twins, ties, twin webs, what halving costs, as functions -/
namespace K37
open PySem L2 DC LamX
def twN (N e : Nat) : Nat := if e < N then e + N else e - N
theorem twN_lt {N e : Nat} (h : e < 2 * N) : twN N e < 2 * N := by
  unfold twN
  split <;> omega
/-- the ties from here on, so many at most -/
def tiesF (f : Nat → Option Nat) (N : Nat) : Nat → Option Nat → List Bool → Nat × List Bool
  | 0, _, s => (0, s)
  | _ + 1, none, s => (0, s)
  | k + 1, some h, s => if s.getD h true = true then (0, s) else ((tiesF f N k (f (twN N h)) ((s.set h true).set (twN N h) true)).1 + 1, (tiesF f N k (f (twN N h)) ((s.set h true).set (twN N h) true)).2)
theorem ties_none {f : Nat → Option Nat} {N k : Nat} {s : List Bool} : tiesF f N k none s = (0, s) := by cases k <;> rfl
theorem ties_seen {f : Nat → Option Nat} {N k h : Nat} {s : List Bool} (e : s[h]? = some true) : tiesF f N k (some h) s = (0, s) := by
  cases k with
  | zero => rfl
  | succ k =>
    unfold tiesF
    rw [if_pos (by rw [List.getD_eq_getElem?_getD, e]; rfl)]
theorem ties_next {f : Nat → Option Nat} {N k h : Nat} {s : List Bool} (e : s[h]? = some false) : tiesF f N (k + 1) (some h) s = ((tiesF f N k (f (twN N h)) ((s.set h true).set (twN N h) true)).1 + 1, (tiesF f N k (f (twN N h)) ((s.set h true).set (twN N h) true)).2) := by
  conv => lhs; unfold tiesF
  rw [if_neg (by rw [List.getD_eq_getElem?_getD, e]; decide)]
/-- how many are unseen -/
def unS (s : List Bool) : Nat := s.countP fun b => !b
theorem unS_le (s : List Bool) : unS s ≤ s.length := List.countP_le_length
theorem unS_set : ∀ (s : List Bool) (y : Nat), unS (s.set y true) ≤ unS s
  | [], _ => Nat.le_refl _
  | b :: s, 0 => by
    unfold unS
    rw [List.set_cons_zero, List.countP_cons, List.countP_cons]
    cases b <;> simp
  | b :: s, y + 1 => by
    have ih := unS_set s y
    unfold unS at ih ⊢
    rw [List.set_cons_succ, List.countP_cons, List.countP_cons]
    omega
theorem unS_new : ∀ (s : List Bool) (x : Nat), s[x]? = some false → unS (s.set x true) + 1 = unS s
  | [], _, h => by simp at h
  | b :: s, 0, h => by
    obtain rfl := Option.some.inj h
    unfold unS
    rw [List.set_cons_zero, List.countP_cons, List.countP_cons]
    simp
  | b :: s, x + 1, h => by
    have ih := unS_new s x (by simpa using h)
    unfold unS at ih ⊢
    rw [List.set_cons_succ, List.countP_cons, List.countP_cons]
    omega
theorem ties_len {f : Nat → Option Nat} {N : Nat} : ∀ (k : Nat) (h : Option Nat) (s : List Bool), (tiesF f N k h s).2.length = s.length
  | 0, _, s => rfl
  | k + 1, none, s => rfl
  | k + 1, some h, s => by
    unfold tiesF
    split
    · rfl
    · show (tiesF f N k _ _).2.length = _
      rw [ties_len k, List.length_set, List.length_set]
/-- a piece of a twin web as data -/
def pcD (p : Str × Nat) : PyData := .tuple [.str p.1, .int (p.2 : Nat)]
theorem pc_alike (ps : List (Str × Nat)) : PySem.W.AllAlike (ps.map pcD) := by
  intro d hd d' hd'
  obtain ⟨p, _, rfl⟩ := List.mem_map.mp hd
  obtain ⟨p', _, rfl⟩ := List.mem_map.mp hd'
  unfold pcD
  simp only [PySem.W.alike, PySem.W.alikeAll, Bool.and_self]
theorem pc_sortable (ps : List (Str × Nat)) : PySem.W.Sortable (ps.map pcD) := by
  refine .inl fun d hd => ?_
  obtain ⟨p, _, rfl⟩ := List.mem_map.mp hd
  exact ⟨_, _, rfl⟩
theorem pc_depth (ps : List (Str × Nat)) : ∀ d ∈ ps.map pcD, d.depth ≤ 60 := by
  intro d hd
  obtain ⟨p, _, rfl⟩ := List.mem_map.mp hd
  unfold pcD
  simp only [PyData.depth, PyData.depthAll]
  decide
/-- one end more -/
def twS (f : Nat → Option Nat) (N : Nat) (word : Str) (a : List (Str × Nat) × List Bool) (e : Nat) : List (Str × Nat) × List Bool :=
  if a.2.getD e true = true then a else (a.1 ++ [(word, (tiesF f N (2 * N) (some e) a.2).1)], (tiesF f N (2 * N) (some e) a.2).2)
def twQ (n : Nat) (js : List J2) : List (Str × Nat) × List Bool := (frees n js).foldl (twS (mt js) n "path") ([], List.replicate (2 * n) false)
def tw (n : Nat) (js : List J2) : List (Str × Nat) × List Bool := (List.range (2 * n)).foldl (twS (mt js) n "ring") (twQ n js)
def hcP (P : List (Str × Nat)) : Int := (P.map fun p => ((p.2 : Nat) : Int)).sum / 2 - ((P.countP fun p => decide (p.1 = ("ring" : Str)) && decide (p.2 % 2 = 0) : Nat) : Int) - ((P.countP fun p => decide (p.1 = ("path" : Str)) && decide (p.2 % 2 = 1) : Nat) : Int) / 2
def hcJ (n : Nat) (js : List J2) : Int := hcP (tw n js).1
theorem hcP_perm {P Q : List (Str × Nat)} (h : P.Perm Q) : hcP P = hcP Q := by
  unfold hcP
  rw [isum_perm (h.map _), h.countP_eq, h.countP_eq]
def twL (n : Nat) (js : List J2) : List (Str × Nat) := (tw n js).1.mergeSort (PySem.W.dataLe false pcD)
theorem twL_data (n : Nat) (js : List J2) : ((tw n js).1.map pcD).mergeSort (PySem.W.dataLe false id) = (twL n js).map pcD := by
  unfold twL
  exact (List.map_mergeSort (r := PySem.W.dataLe false pcD) (s := PySem.W.dataLe false id) (f := pcD) (l := (tw n js).1) (fun a _ b _ => rfl)).symm
theorem twL_perm (n : Nat) (js : List J2) : (twL n js).Perm (tw n js).1 := List.mergeSort_perm _ _
theorem twS_len {f : Nat → Option Nat} {N : Nat} {word : Str} {a : List (Str × Nat) × List Bool} {e : Nat} : (twS f N word a e).2.length = a.2.length ∧ (twS f N word a e).1.length ≤ a.1.length + 1 := by
  unfold twS
  split
  · exact ⟨rfl, Nat.le_succ _⟩
  · exact ⟨ties_len _ _ _, by rw [List.length_append]; exact Nat.le_refl _⟩
theorem twF_len {f : Nat → Option Nat} {N : Nat} {word : Str} : ∀ (l : List Nat) (a : List (Str × Nat) × List Bool), (l.foldl (twS f N word) a).2.length = a.2.length ∧ (l.foldl (twS f N word) a).1.length ≤ a.1.length + l.length
  | [], a => ⟨rfl, Nat.le_refl _⟩
  | e :: l, a => by
    have h1 := twS_len (f := f) (N := N) (word := word) (a := a) (e := e)
    have h2 := twF_len (f := f) (N := N) (word := word) l (twS f N word a e)
    rw [List.foldl_cons, List.length_cons]
    exact ⟨h2.1.trans h1.1, by omega⟩
end K37
-- JN
set_option Elab.async false
set_option linter.all false
set_option maxRecDepth 100000
set_option maxHeartbeats 4000000
/-! JN: two free ends come to be joined: what it does to the heaps, their kinds, the cost. -/
namespace TI
open PySem L2 DC
structure Jn (js js' : List J2) (e e' : Nat) : Prop where
  ne : e ≠ e'
  f1 : mt js e = none
  f2 : mt js e' = none
  e1 : mt js' e = some e'
  e2 : mt js' e' = some e
  ot : ∀ i, i ≠ e → i ≠ e' → mt js' i = mt js i
theorem Jn.symm {js js' : List J2} {e e' : Nat} (J : Jn js js' e e') : Jn js js' e' e := ⟨J.ne.symm, J.f2, J.f1, J.e2, J.e1, fun i h1 h2 => J.ot i h2 h1⟩
abbrev Sm (js ls : List J2) (x y : Nat) : Prop := Cl (mt js) (mt ls) x y
section
variable {n : Nat} {js js' ls : List J2} {e e' : Nat}
theorem jn_up (J : Jn js js' e e') {x y : Nat} (h : Sm js ls x y) : Sm js' ls x y := by
  induction h with
  | base => exact .base
  | @step a b _ nb ih =>
    refine ih.step ?_
    rcases nb with nb | nb
    · refine .inl ?_
      rw [J.ot a (fun z => by rw [z, J.f1] at nb; exact nomatch nb) (fun z => by rw [z, J.f2] at nb; exact nomatch nb)]
      exact nb
    · exact .inr nb
theorem jn_dn (J : Jn js js' e e') {x y : Nat} (h : Sm js' ls x y) : Sm js ls x y ∨ (Sm js ls x e ∧ Sm js ls e' y) ∨ (Sm js ls x e' ∧ Sm js ls e y) := by
  refine cl_closed (S := fun y => Sm js ls x y ∨ (Sm js ls x e ∧ Sm js ls e' y) ∨ (Sm js ls x e' ∧ Sm js ls e y)) (.inl .base) (fun a b ha nb => ?_) h
  have ext : Nb (mt js) (mt ls) a b → (Sm js ls x b ∨ (Sm js ls x e ∧ Sm js ls e' b) ∨ (Sm js ls x e' ∧ Sm js ls e b)) := fun nb => by
    rcases ha with h | ⟨h1, h2⟩ | ⟨h1, h2⟩
    · exact .inl (h.step nb)
    · exact .inr (.inl ⟨h1, h2.step nb⟩)
    · exact .inr (.inr ⟨h1, h2.step nb⟩)
  rcases nb with nb | nb
  · by_cases c1 : a = e
    · subst c1
      rw [J.e1] at nb
      obtain rfl := Option.some.inj nb
      rcases ha with h | ⟨h1, h2⟩ | ⟨h1, h2⟩
      · exact .inr (.inl ⟨h, .base⟩)
      · exact .inr (.inl ⟨h1, .base⟩)
      · exact .inl h1
    · by_cases c2 : a = e'
      · subst c2
        rw [J.e2] at nb
        obtain rfl := Option.some.inj nb
        rcases ha with h | ⟨h1, h2⟩ | ⟨h1, h2⟩
        · exact .inr (.inr ⟨h, .base⟩)
        · exact .inl h1
        · exact .inr (.inr ⟨h1, .base⟩)
      · rw [J.ot a c1 c2] at nb
        exact ext (.inl nb)
  · exact ext (.inr nb)
theorem jn_edge (J : Jn js js' e e') : Sm js' ls e e' := .step .base (.inl J.e1)
theorem jn_iff (J : Jn js js' e e') (g' : Good n js') (gl : Good n ls) {x y : Nat} : Sm js' ls x y ↔ Sm js ls x y ∨ (Sm js ls x e ∧ Sm js ls e' y) ∨ (Sm js ls x e' ∧ Sm js ls e y) := by
  refine ⟨jn_dn J, ?_⟩
  rintro (h | ⟨h1, h2⟩ | ⟨h1, h2⟩)
  · exact jn_up J h
  · exact cl_trans (jn_up J h1) (cl_trans (jn_edge J) (jn_up J h2))
  · exact cl_trans (jn_up J h1) (cl_trans (cl_symm g'.mt gl.mt (jn_edge J)) (jn_up J h2))
/-! heaps -/
abbrev Hp1 (n : Nat) (js ls : List J2) (h : List Nat) : Prop := ∃ a, a < 2 * n ∧ Cls (2 * n) (mt js) (mt ls) a h
structure Hq (n : Nat) (js ls : List J2) (hs : List (List Nat)) : Prop where
  cl : ∀ h ∈ hs, Hp1 n js ls h
  dis : hs.Pairwise fun h h' => ∀ e, e ∈ h → e ∉ h'
  cov : ∀ e, e < 2 * n → ∃ h ∈ hs, e ∈ h
def vk (f g : Nat) : Nat := if f = 0 ∧ g = 0 then 2 else if f = 1 then 1 else 0
def wk (js ls : List J2) (h : List Nat) : Nat := vk (cn js h) (cn ls h)
theorem wk_perm {h h' : List Nat} (p : h.Perm h') : wk js ls h = wk js ls h' := by
  unfold wk
  rw [cn_perm p, cn_perm p]
theorem hp_cnt (g : Good n js) (gl : Good n ls) {h : List Nat} (H : Hp1 n js ls h) : (cn js h = 0 ∧ cn ls h = 0) ∨ (cn js h = 1 ∧ cn ls h = 1) ∨ (cn js h = 2 ∧ cn ls h = 0) ∨ (cn js h = 0 ∧ cn ls h = 2) := by
  obtain ⟨a, ha, c⟩ := H
  obtain ⟨p, hp, hm⟩ := cls_wpc g gl ha c
  rw [cn_perm hm, cn_perm hm]
  rcases wpc_cnt g gl hp with ⟨x, y, _⟩ | ⟨x, y, _⟩ | ⟨x, y, _⟩ | ⟨x, y, _⟩
  · exact .inl ⟨x, y⟩
  · exact .inr (.inl ⟨x, y⟩)
  · exact .inr (.inr (.inl ⟨x, y⟩))
  · exact .inr (.inr (.inr ⟨x, y⟩))
theorem wk_wpc (g : Good n js) (gl : Good n ls) {p : Pc} (hp : Wpc n js ls p) : wk js ls p.2 = wd p := by
  unfold wk vk wd
  rcases wpc_cnt g gl hp with ⟨x, y, z⟩ | ⟨x, y, z⟩ | ⟨x, y, z⟩ | ⟨x, y, z⟩ <;> rw [x, y, z] <;> decide +kernel
theorem hq_web (g : Good n js) (gl : Good n ls) {ps : List Pc} (W : IsWeb n js ls ps) : Hq n js ls (ps.map fun p => p.2) := by
  refine ⟨fun h hh => ?_, ?_, fun x hx => ?_⟩
  · obtain ⟨p, hp, rfl⟩ := List.mem_map.mp hh
    obtain ⟨a, ha, c, _⟩ := (W.mem p).mp hp
    exact ⟨a, ha, c⟩
  · rw [List.pairwise_map]
    refine List.Pairwise.imp_of_mem (fun {p q} hp hq d x h1 h2 => ?_) W.nd
    exact d (wpc_uniq g gl ((W.mem p).mp hp) ((W.mem q).mp hq) h1 h2)
  · obtain ⟨p, hp, hm⟩ := W.cov g gl x hx
    exact ⟨p.2, List.mem_map.mpr ⟨p, hp, rfl⟩, hm⟩
theorem hq_ex (g : Good n js) (gl : Good n ls) : ∃ hs, Hq n js ls hs := by
  obtain ⟨ps, W⟩ := web_ex g gl
  exact ⟨_, hq_web g gl W⟩
theorem Hq.of_perm {hs hs' : List (List Nat)} (A : Hq n js ls hs) (p : hs'.Perm hs) : Hq n js ls hs' :=
  ⟨fun h hh => A.cl h (p.mem_iff.mp hh), (p.pairwise_iff (fun {x y} d e h1 h2 => d e h2 h1)).mpr A.dis, fun e he => by
    obtain ⟨h, hh, hm⟩ := A.cov e he
    exact ⟨h, p.mem_iff.mpr hh, hm⟩⟩
theorem sum_perm {l l' : List Nat} (p : l.Perm l') : l.sum = l'.sum := by
  induction p with
  | nil => rfl
  | cons x _ ih => rw [List.sum_cons, List.sum_cons, ih]
  | swap x y l => rw [List.sum_cons, List.sum_cons, List.sum_cons, List.sum_cons]; omega
  | trans _ _ a b => exact a.trans b
theorem hq_cst (g : Good n js) (gl : Good n ls) {hs : List (List Nat)} (A : Hq n js ls hs) : 2 * cst n js ls + (hs.map (wk js ls)).sum = 2 * n := by
  obtain ⟨ps, W⟩ := web_ex g gl
  have A' : Hps n js ls (hs.map asc) := by
    refine ⟨fun h hh => ?_, ?_, fun x hx => ?_⟩
    · obtain ⟨k, hk, rfl⟩ := List.mem_map.mp hh
      obtain ⟨a, ha, c⟩ := A.cl k hk
      obtain ⟨p, hp, hm⟩ := cls_wpc g gl ha c
      exact ⟨p, hp, asc_same hm⟩
    · rw [List.pairwise_map]
      refine A.dis.imp fun {h h'} d x h1 h2 => ?_
      exact d x ((asc_perm h).mem_iff.mp h1) ((asc_perm h').mem_iff.mp h2)
    · obtain ⟨h, hh, hm⟩ := A.cov x hx
      exact ⟨asc h, List.mem_map.mpr ⟨h, hh, rfl⟩, (asc_perm h).mem_iff.mpr hm⟩
  have P := A'.perm W g gl
  have e1 : hs.map (wk js ls) = (hs.map asc).map (wk js ls) := by
    rw [List.map_map]
    exact List.map_congr_left fun h _ => (wk_perm (asc_perm h)).symm
  have e2 : ((ps.map fun p => asc p.2).map (wk js ls)) = ps.map wd := by
    rw [List.map_map]
    exact List.map_congr_left fun p hp => (wk_perm (asc_perm p.2)).trans (wk_wpc g gl ((W.mem p).mp hp))
  rw [e1, sum_perm (P.map _), e2]
  exact cst_dm g gl W
/-! free ends of a heap -/
theorem cn_split {h : List Nat} {x : Nat} (hx : x ∈ h) : cn js h = cn js (h.erase x) + if (mt js x).isNone = true then 1 else 0 := by
  rw [cn_perm (List.perm_cons_erase hx)]
  unfold cn
  rw [List.countP_cons]
theorem cn_eq {h : List Nat} (H : ∀ x ∈ h, mt js' x = mt js x) : cn js' h = cn js h := by
  unfold cn
  exact List.countP_congr fun x hx => by rw [H x hx]
theorem cn_off (J : Jn js js' e e') {h : List Nat} (h1 : e ∉ h) (h2 : e' ∉ h) : cn js' h = cn js h :=
  cn_eq fun x hx => J.ot x (fun z => h1 (z ▸ hx)) (fun z => h2 (z ▸ hx))
theorem cn_one (J : Jn js js' e e') {h : List Nat} (nd : h.Nodup) (h1 : e ∈ h) (h2 : e' ∉ h) : cn js h = cn js' h + 1 := by
  rw [cn_split (js := js) h1, cn_split (js := js') h1, J.f1, J.e1, cn_off (h := h.erase e) J (fun z => ((List.Nodup.mem_erase_iff nd).mp z).1 rfl) (fun z => h2 (List.mem_of_mem_erase z))]
  rfl
theorem cn_two (J : Jn js js' e e') {h : List Nat} (nd : h.Nodup) (h1 : e ∈ h) (h2 : e' ∈ h) : cn js h = cn js' h + 2 := by
  have h3 : e' ∈ h.erase e := (List.Nodup.mem_erase_iff nd).mpr ⟨J.ne.symm, h2⟩
  have nd2 := nd.erase e
  rw [cn_split (js := js) h1, cn_split (js := js') h1, J.f1, J.e1, cn_split (js := js) h3, cn_split (js := js') h3, J.f2, J.e2, cn_off (h := (h.erase e).erase e') J (fun z => ((List.Nodup.mem_erase_iff nd).mp (List.mem_of_mem_erase z)).1 rfl) (fun z => ((List.Nodup.mem_erase_iff nd2).mp z).1 rfl)]
  rfl
theorem cn_app (h k : List Nat) : cn js (h ++ k) = cn js h + cn js k := List.countP_append
/-! kinds -/
/-- the heap of x has f ends free here, g there -/
def Ks (n : Nat) (js ls : List J2) (x f g : Nat) : Prop := ∃ h, Hp1 n js ls h ∧ x ∈ h ∧ cn js h = f ∧ cn ls h = g
theorem hp_same (g : Good n js) (gl : Good n ls) {h k : List Nat} (H : Hp1 n js ls h) (K : Hp1 n js ls k) {x : Nat} (hx : x ∈ h) (kx : x ∈ k) : h.Perm k := by
  obtain ⟨a, _, c⟩ := H
  obtain ⟨b, _, d⟩ := K
  exact (List.perm_ext_iff_of_nodup c.nd d.nd).mpr fun y => ⟨fun z => c.meet g.mt gl.mt d hx kx y z, fun z => d.meet g.mt gl.mt c kx hx y z⟩
theorem ks_uniq (g : Good n js) (gl : Good n ls) {x f1 g1 f2 g2 : Nat} (h : Ks n js ls x f1 g1) (k : Ks n js ls x f2 g2) : f1 = f2 ∧ g1 = g2 := by
  obtain ⟨h, H, hx, rfl, rfl⟩ := h
  obtain ⟨k, K, kx, rfl, rfl⟩ := k
  have p := hp_same g gl H K hx kx
  exact ⟨cn_perm p, cn_perm p⟩
theorem hp_mem {h : List Nat} (g : Good n js) (gl : Good n ls) (H : Hp1 n js ls h) {x : Nat} (hx : x ∈ h) (y : Nat) : y ∈ h ↔ Sm js ls x y := by
  obtain ⟨a, _, c⟩ := H
  have ax := (c.mem x).mp hx
  rw [c.mem y]
  exact ⟨fun z => cl_trans (cl_symm g.mt gl.mt ax) z, fun z => cl_trans ax z⟩
theorem ks_ex (g : Good n js) (gl : Good n ls) {x : Nat} (hx : x < 2 * n) : ∃ f g, Ks n js ls x f g := by
  obtain ⟨hs, A⟩ := hq_ex g gl
  obtain ⟨h, hh, hm⟩ := A.cov x hx
  exact ⟨_, _, h, A.cl h hh, hm, rfl, rfl⟩
theorem ks_sm (g : Good n js) (gl : Good n ls) {x y f1 g1 : Nat} (h : Ks n js ls x f1 g1) (s : Sm js ls x y) : Ks n js ls y f1 g1 := by
  obtain ⟨h, H, hx, e⟩ := h
  exact ⟨h, H, (hp_mem g gl H hx y).mpr s, e⟩
theorem ks_val (g : Good n js) (gl : Good n ls) {x f1 g1 : Nat} (h : Ks n js ls x f1 g1) : (f1 = 0 ∧ g1 = 0) ∨ (f1 = 1 ∧ g1 = 1) ∨ (f1 = 2 ∧ g1 = 0) ∨ (f1 = 0 ∧ g1 = 2) := by
  obtain ⟨h, H, _, rfl, rfl⟩ := h
  exact hp_cnt g gl H
theorem ks_pos (g : Good n js) (gl : Good n ls) {x f1 g1 : Nat} (h : Ks n js ls x f1 g1) (hx : mt js x = none) : 1 ≤ f1 := by
  obtain ⟨h, H, hm, rfl, rfl⟩ := h
  rw [cn_split hm, hx]
  exact Nat.le_add_left _ _
theorem ks_two (g : Good n js) (gl : Good n ls) {x y f1 g1 : Nat} (h : Ks n js ls x f1 g1) (hx : mt js x = none) (hy : mt js y = none) (ne : x ≠ y) (s : Sm js ls x y) : f1 = 2 ∧ g1 = 0 := by
  have v := ks_val g gl h
  obtain ⟨h, H, hm, rfl, rfl⟩ := h
  have ym := (hp_mem g gl H hm y).mpr s
  obtain ⟨a, ha, c⟩ := id H
  have y2 : y ∈ h.erase x := (List.Nodup.mem_erase_iff c.nd).mpr ⟨ne.symm, ym⟩
  have e1 := cn_split (js := js) hm
  have e2 := cn_split (js := js) y2
  rw [hx] at e1
  rw [hy] at e2
  simp only [Option.isNone_none, if_true] at e1 e2
  omega
/-- no third free end hangs together with two -/
theorem ks_three (g : Good n js) (gl : Good n ls) {x y z : Nat} (hx : x < 2 * n) (fx : mt js x = none) (fy : mt js y = none) (fz : mt js z = none) (xy : x ≠ y) (xz : x ≠ z) (yz : y ≠ z) (s : Sm js ls x y) : ¬ Sm js ls x z := by
  intro t
  obtain ⟨f1, g1, k⟩ := ks_ex g gl hx
  have v := ks_val g gl k
  obtain ⟨h, H, hm, rfl, rfl⟩ := k
  obtain ⟨a, ha, c⟩ := id H
  have y2 : y ∈ h.erase x := (List.Nodup.mem_erase_iff c.nd).mpr ⟨xy.symm, (hp_mem g gl H hm y).mpr s⟩
  have nd2 := c.nd.erase x
  have z2 : z ∈ (h.erase x).erase y := (List.Nodup.mem_erase_iff nd2).mpr ⟨yz.symm, (List.Nodup.mem_erase_iff c.nd).mpr ⟨xz.symm, (hp_mem g gl H hm z).mpr t⟩⟩
  have e1 := cn_split (js := js) hm
  have e2 := cn_split (js := js) y2
  have e3 := cn_split (js := js) z2
  rw [fx] at e1
  rw [fy] at e2
  rw [fz] at e3
  simp only [Option.isNone_none, if_true] at e1 e2 e3
  omega
end
end TI
-- JN2
set_option Elab.async false
set_option linter.all false
set_option maxRecDepth 100000
set_option maxHeartbeats 4000000
/-! JN2: the cost and the kinds behind a join. -/
namespace TI
open PySem L2 DC
section
variable {n : Nat} {js js' ls : List J2} {e e' : Nat}
theorem hp_join_off (J : Jn js js' e e') (g : Good n js) (g' : Good n js') (gl : Good n ls) {h : List Nat} (H : Hp1 n js ls h) (h1 : e ∉ h) (h2 : e' ∉ h) : Hp1 n js' ls h := by
  obtain ⟨a, ha, c⟩ := H
  refine ⟨a, ha, fun x => ?_, c.nd, c.lt⟩
  rw [c.mem x]
  show _ ↔ Sm js' ls a x
  rw [jn_iff J g' gl]
  exact ⟨.inl, fun z => z.elim id fun z => z.elim (fun z => absurd ((c.mem e).mpr z.1) h1) fun z => absurd ((c.mem e').mpr z.1) h2⟩
theorem hp_join_same (J : Jn js js' e e') (g : Good n js) (g' : Good n js') (gl : Good n ls) {h : List Nat} (H : Hp1 n js ls h) (h1 : e ∈ h) (h2 : e' ∈ h) : Hp1 n js' ls h := by
  have m : ∀ {x : Nat}, x ∈ h → ∀ y, y ∈ h ↔ Sm js ls x y := fun hx => hp_mem g gl H hx
  obtain ⟨a, ha, c⟩ := H
  refine ⟨a, ha, fun x => ?_, c.nd, c.lt⟩
  rw [c.mem x]
  show _ ↔ Sm js' ls a x
  rw [jn_iff J g' gl]
  exact ⟨.inl, fun z => z.elim id fun z => z.elim (fun z => (c.mem x).mp ((m h2 x).mpr z.2)) fun z => (c.mem x).mp ((m h1 x).mpr z.2)⟩
theorem hp_join_diff (J : Jn js js' e e') (g : Good n js) (g' : Good n js') (gl : Good n ls) {h k : List Nat} (H : Hp1 n js ls h) (K : Hp1 n js ls k) (h1 : e ∈ h) (h2 : e' ∈ k) (no : ¬ Sm js ls e e') : Hp1 n js' ls (h ++ k) := by
  have m : ∀ {x : Nat}, x ∈ h → ∀ y, y ∈ h ↔ Sm js ls x y := fun hx => hp_mem g gl H hx
  have m' : ∀ {x : Nat}, x ∈ k → ∀ y, y ∈ k ↔ Sm js ls x y := fun hx => hp_mem g gl K hx
  obtain ⟨a, ha, c⟩ := H
  obtain ⟨b, hb, d⟩ := K
  have ae := (c.mem e).mp h1
  refine ⟨a, ha, fun x => ?_, ?_, fun x hx => (List.mem_append.mp hx).elim (c.lt x) (d.lt x)⟩
  · rw [List.mem_append]
    show _ ↔ Sm js' ls a x
    rw [jn_iff J g' gl, m h1 x, m' h2 x]
    constructor
    · rintro (z | z)
      · exact .inl (cl_trans ae z)
      · exact .inr (.inl ⟨ae, z⟩)
    · rintro (z | ⟨_, z⟩ | ⟨z, _⟩)
      · exact .inl (cl_trans (cl_symm g.mt gl.mt ae) z)
      · exact .inr z
      · exact absurd (cl_trans (cl_symm g.mt gl.mt ae) z) no
  · refine List.nodup_append.mpr ⟨c.nd, d.nd, fun x hx y hy z => ?_⟩
    subst z
    exact no (cl_trans ((m h1 x).mp hx) (cl_symm g.mt gl.mt ((m' h2 x).mp hy)))
theorem ks_same (J : Jn js js' e e') (g : Good n js) (g' : Good n js') (gl : Good n ls) (he : e < 2 * n) (s : Sm js ls e e') : Ks n js' ls e 0 0 := by
  obtain ⟨f1, g1, h, H, hm, rfl, rfl⟩ := ks_ex g gl he
  have h2 := (hp_mem g gl H hm e').mpr s
  obtain ⟨a, ha, c⟩ := id H
  have t := cn_two J c.nd hm h2
  have v := hp_cnt g gl H
  exact ⟨h, hp_join_same J g g' gl H hm h2, hm, by omega, by omega⟩
theorem ks_diff (J : Jn js js' e e') (g : Good n js) (g' : Good n js') (gl : Good n ls) (no : ¬ Sm js ls e e') {f1 g1 f2 g2 : Nat} (k1 : Ks n js ls e f1 g1) (k2 : Ks n js ls e' f2 g2) : Ks n js' ls e (f1 + f2 - 2) (g1 + g2) := by
  obtain ⟨h, H, hm, rfl, rfl⟩ := k1
  obtain ⟨k, K, km, rfl, rfl⟩ := k2
  obtain ⟨a, ha, c⟩ := id H
  obtain ⟨b, hb, d⟩ := id K
  have n1 : e' ∉ h := fun z => no ((hp_mem g gl H hm e').mp z)
  have n2 : e ∉ k := fun z => no (cl_symm g.mt gl.mt ((hp_mem g gl K km e).mp z))
  have o1 := cn_one J c.nd hm n1
  have o2 := cn_one J.symm d.nd km n2
  refine ⟨h ++ k, hp_join_diff J g g' gl H K hm km no, List.mem_append_left _ hm, ?_, cn_app h k⟩
  rw [cn_app]
  omega
theorem ks_off (J : Jn js js' e e') (g : Good n js) (g' : Good n js') (gl : Good n ls) {x f1 g1 : Nat} (n1 : ¬ Sm js ls x e) (n2 : ¬ Sm js ls x e') (k : Ks n js ls x f1 g1) : Ks n js' ls x f1 g1 := by
  obtain ⟨h, H, hm, rfl, rfl⟩ := k
  have h1 : e ∉ h := fun z => n1 ((hp_mem g gl H hm e).mp z)
  have h2 : e' ∉ h := fun z => n2 ((hp_mem g gl H hm e').mp z)
  exact ⟨h, hp_join_off J g g' gl H h1 h2, hm, cn_off J h1 h2, rfl⟩
theorem sum_off (J : Jn js js' e e') {hs : List (List Nat)} (h : ∀ h ∈ hs, e ∉ h ∧ e' ∉ h) : (hs.map (wk js' ls)).sum = (hs.map (wk js ls)).sum := by
  congr 1
  refine List.map_congr_left fun k hk => ?_
  unfold wk
  rw [cn_off J (h k hk).1 (h k hk).2]
/-- the heaps behind a join, and before it -/
theorem hq_same (J : Jn js js' e e') (g : Good n js) (g' : Good n js') (gl : Good n ls) {h : List Nat} {r : List (List Nat)} (A : Hq n js ls (h :: r)) (h1 : e ∈ h) (h2 : e' ∈ h) : Hq n js' ls (h :: r) := by
  have d := List.pairwise_cons.mp A.dis
  refine ⟨fun k hk => ?_, A.dis, A.cov⟩
  rcases List.mem_cons.mp hk with rfl | hk
  · exact hp_join_same J g g' gl (A.cl _ List.mem_cons_self) h1 h2
  · exact hp_join_off J g g' gl (A.cl _ (List.mem_cons_of_mem _ hk)) (d.1 k hk e h1) (d.1 k hk e' h2)
theorem hq_diff (J : Jn js js' e e') (g : Good n js) (g' : Good n js') (gl : Good n ls) {h k : List Nat} {r : List (List Nat)} (A : Hq n js ls (h :: k :: r)) (h1 : e ∈ h) (h2 : e' ∈ k) : Hq n js' ls ((h ++ k) :: r) := by
  have d := List.pairwise_cons.mp A.dis
  have d2 := List.pairwise_cons.mp d.2
  have H := A.cl h List.mem_cons_self
  have K := A.cl k (List.mem_cons_of_mem _ List.mem_cons_self)
  have no : ¬ Sm js ls e e' := fun z => d.1 k List.mem_cons_self e' ((hp_mem g gl H h1 e').mpr z) h2
  refine ⟨fun x hx => ?_, List.pairwise_cons.mpr ⟨fun x hx y hy => ?_, d2.2⟩, fun x hx => ?_⟩
  · rcases List.mem_cons.mp hx with rfl | hx
    · exact hp_join_diff J g g' gl H K h1 h2 no
    · exact hp_join_off J g g' gl (A.cl _ (List.mem_cons_of_mem _ (List.mem_cons_of_mem _ hx))) (d.1 x (List.mem_cons_of_mem _ hx) e h1) (d2.1 x hx e' h2)
  · rcases List.mem_append.mp hy with hy | hy
    · exact d.1 x (List.mem_cons_of_mem _ hx) y hy
    · exact d2.1 x hx y hy
  · obtain ⟨q, hq, hm⟩ := A.cov x hx
    rcases List.mem_cons.mp hq with rfl | hq
    · exact ⟨_, List.mem_cons_self, List.mem_append_left _ hm⟩
    · rcases List.mem_cons.mp hq with rfl | hq
      · exact ⟨_, List.mem_cons_self, List.mem_append_right _ hm⟩
      · exact ⟨q, List.mem_cons_of_mem _ hq, hm⟩
/-- the heap of e in front -/
theorem hq_front {hs : List (List Nat)} (A : Hq n js ls hs) {x : Nat} (hx : x < 2 * n) : ∃ h r, Hq n js ls (h :: r) ∧ x ∈ h ∧ hs.Perm (h :: r) := by
  obtain ⟨h, hh, hm⟩ := A.cov x hx
  have p := List.perm_cons_erase hh
  exact ⟨h, hs.erase h, A.of_perm p.symm, hm, p⟩
theorem hq_front2 {h : List Nat} {r : List (List Nat)} (A : Hq n js ls (h :: r)) {x : Nat} (hx : x < 2 * n) (hn : x ∉ h) : ∃ k q, Hq n js ls (h :: k :: q) ∧ x ∈ k ∧ r.Perm (k :: q) := by
  obtain ⟨k, hk, hm⟩ := A.cov x hx
  rcases List.mem_cons.mp hk with rfl | hk
  · exact absurd hm hn
  · have p := List.perm_cons_erase hk
    exact ⟨k, r.erase k, A.of_perm (p.symm.cons _), hm, p⟩
/-- a join's price: one less within a heap, one more of two odd ones, else as much -/
theorem jn_cst (J : Jn js js' e e') (g : Good n js) (g' : Good n js') (gl : Good n ls) (he : e < 2 * n) (he' : e' < 2 * n) :
    (Sm js ls e e' → cst n js' ls + 1 = cst n js ls) ∧ (¬ Sm js ls e e' → Ks n js ls e 1 1 → Ks n js ls e' 1 1 → cst n js' ls = cst n js ls + 1) ∧
    (¬ Sm js ls e e' → ¬ (Ks n js ls e 1 1 ∧ Ks n js ls e' 1 1) → cst n js' ls = cst n js ls) := by
  obtain ⟨hs, A0⟩ := hq_ex g gl
  obtain ⟨h, r, A, hm, _⟩ := hq_front A0 he
  have H := A.cl h List.mem_cons_self
  have c1 := hq_cst g gl A
  have v := hp_cnt g gl H
  have d := List.pairwise_cons.mp A.dis
  obtain ⟨a, ha, c⟩ := id H
  have mem := hp_mem g gl H hm e'
  by_cases s : Sm js ls e e'
  · have h2 := mem.mpr s
    have A' := hq_same J g g' gl A hm h2
    have c2 := hq_cst g' gl A'
    have t := cn_two J c.nd hm h2
    have off := sum_off (ls := ls) J (hs := r) fun k hk => ⟨d.1 k hk e hm, d.1 k hk e' h2⟩
    rw [List.map_cons, List.sum_cons] at c1 c2
    rw [off] at c2
    have f2 : cn js h = 2 ∧ cn ls h = 0 := by omega
    have w1 : wk js ls h = 0 := by unfold wk; rw [f2.1, f2.2]; rfl
    have w2 : wk js' ls h = 2 := by unfold wk; rw [show cn js' h = 0 by omega, f2.2]; rfl
    exact ⟨fun _ => by omega, fun z => absurd s z, fun z => absurd s z⟩
  · have n1 : e' ∉ h := fun z => s (mem.mp z)
    obtain ⟨k, q, B, km, _⟩ := hq_front2 A he' n1
    have Kp := B.cl k (List.mem_cons_of_mem _ List.mem_cons_self)
    have b1 := hq_cst g gl B
    have vk2 := hp_cnt g gl Kp
    have db := List.pairwise_cons.mp B.dis
    have db2 := List.pairwise_cons.mp db.2
    obtain ⟨b, hb, cb⟩ := id Kp
    have n2 : e ∉ k := db.1 k List.mem_cons_self e hm
    have A' := hq_diff J g g' gl B hm km
    have b2 := hq_cst g' gl A'
    have off := sum_off (ls := ls) J (hs := q) fun x hx => ⟨db.1 x (List.mem_cons_of_mem _ hx) e hm, db2.1 x hx e' km⟩
    rw [List.map_cons, List.map_cons, List.sum_cons, List.sum_cons] at b1
    rw [List.map_cons, List.sum_cons, off] at b2
    have o1 := cn_one J c.nd hm n1
    have o2 := cn_one J.symm cb.nd km n2
    have e1 : cn js' (h ++ k) = cn js' h + cn js' k := cn_app h k
    have e2 : cn ls (h ++ k) = cn ls h + cn ls k := cn_app h k
    have kh : Ks n js ls e (cn js h) (cn ls h) := ⟨h, H, hm, rfl, rfl⟩
    have kk : Ks n js ls e' (cn js k) (cn ls k) := ⟨k, Kp, km, rfl, rfl⟩
    have w : ∀ f g, (f = 1 ∧ g = 1) ∨ (f = 2 ∧ g = 0) → vk f g = if f = 1 then 1 else 0 := fun f g hfg => by
      rcases hfg with ⟨rfl, rfl⟩ | ⟨rfl, rfl⟩ <;> rfl
    have p1 : (cn js h = 1 ∧ cn ls h = 1) ∨ (cn js h = 2 ∧ cn ls h = 0) := by omega
    have p2 : (cn js k = 1 ∧ cn ls k = 1) ∨ (cn js k = 2 ∧ cn ls k = 0) := by omega
    unfold wk at b1 b2
    rw [e1, e2] at b2
    refine ⟨fun z => absurd z s, fun _ k1 k2 => ?_, fun _ no => ?_⟩
    · obtain ⟨x1, y1⟩ := ks_uniq g gl kh k1
      obtain ⟨x2, y2⟩ := ks_uniq g gl kk k2
      rw [show cn js' h = 0 by omega, show cn js' k = 0 by omega, y1, y2] at b2
      rw [x1, y1, x2, y2] at b1
      have t1 : vk 1 1 = 1 := rfl
      have t2 : vk (0 + 0) (1 + 1) = 0 := rfl
      rw [t1] at b1
      rw [t2] at b2
      omega
    · rcases p1 with ⟨x1, y1⟩ | ⟨x1, y1⟩ <;> rcases p2 with ⟨x2, y2⟩ | ⟨x2, y2⟩
      · rw [x1, y1] at kh
        rw [x2, y2] at kk
        exact absurd ⟨kh, kk⟩ no
      · rw [show cn js' h = 0 by omega, show cn js' k = 1 by omega, y1, y2] at b2
        rw [x1, y1, x2, y2] at b1
        have t1 : vk 1 1 = 1 := rfl
        have t2 : vk 2 0 = 0 := rfl
        have t3 : vk (0 + 1) (1 + 0) = 1 := rfl
        rw [t1, t2] at b1
        rw [t3] at b2
        omega
      · rw [show cn js' h = 1 by omega, show cn js' k = 0 by omega, y1, y2] at b2
        rw [x1, y1, x2, y2] at b1
        have t1 : vk 1 1 = 1 := rfl
        have t2 : vk 2 0 = 0 := rfl
        have t3 : vk (1 + 0) (0 + 1) = 1 := rfl
        rw [t1, t2] at b1
        rw [t3] at b2
        omega
      · rw [show cn js' h = 1 by omega, show cn js' k = 1 by omega, y1, y2] at b2
        rw [x1, y1, x2, y2] at b1
        have t2 : vk 2 0 = 0 := rfl
        have t3 : vk (1 + 1) (0 + 0) = 0 := rfl
        rw [t2] at b1
        rw [t3] at b2
        omega
end
end TI
-- JN3
set_option Elab.async false
set_option linter.all false
set_option maxRecDepth 100000
set_option maxHeartbeats 4000000
/-! JN3: which steps are good, by the web before them. -/
namespace TI
open PySem L2 DC
noncomputable def bd (p : Prop) : Bool := @decide p (Classical.propDecidable p)
theorem bd_t {p : Prop} (h : p) : bd p = true := @decide_eq_true p (Classical.propDecidable p) h
theorem bd_f {p : Prop} (h : ¬ p) : bd p = false := @decide_eq_false p (Classical.propDecidable p) h
theorem bd_p {p : Prop} (h : bd p = true) : p := @of_decide_eq_true p (Classical.propDecidable p) h
theorem bd_n {p : Prop} (h : bd p = false) : ¬ p := @of_decide_eq_false p (Classical.propDecidable p) h
theorem bd_iff {p q : Prop} (h : p ↔ q) : bd p = bd q := by rw [propext h]
theorem bd_or {p q : Prop} : bd (p ∨ q) = (bd p || bd q) := by
  by_cases h : p
  · rw [bd_t h, bd_t (.inl h)]; rfl
  · rw [bd_f h, Bool.false_or]
    exact bd_iff ⟨fun z => z.resolve_left h, .inr⟩
theorem bd_and {p q : Prop} : bd (p ∧ q) = (bd p && bd q) := by
  by_cases h : p
  · rw [bd_t h, Bool.true_and]
    exact bd_iff ⟨fun z => z.2, fun z => ⟨h, z⟩⟩
  · rw [bd_f h, bd_f fun z => h z.1]; rfl
theorem bd_not {p : Prop} : bd (¬ p) = !bd p := by
  by_cases h : p
  · rw [bd_t h, bd_f fun z => z h]; rfl
  · rw [bd_f h, bd_t h]; rfl
def dl (s a b : Bool) : Int := if s then -1 else if a && b then 1 else 0
section
variable {n : Nat} {js js' ls : List J2} {e e' : Nat}
theorem jn_dl (J : Jn js js' e e') (g : Good n js) (g' : Good n js') (gl : Good n ls) (he : e < 2 * n) (he' : e' < 2 * n) :
    ((cst n js' ls : Nat) : Int) = (cst n js ls : Nat) + dl (bd (Sm js ls e e')) (bd (Ks n js ls e 1 1)) (bd (Ks n js ls e' 1 1)) := by
  obtain ⟨c1, c2, c3⟩ := jn_cst J g g' gl he he'
  by_cases s : Sm js ls e e'
  · have := c1 s
    rw [bd_t s]
    show _ = _ + (-1 : Int)
    omega
  · rw [bd_f s]
    by_cases k : Ks n js ls e 1 1 ∧ Ks n js ls e' 1 1
    · have := c2 s k.1 k.2
      rw [bd_t k.1, bd_t k.2]
      show _ = _ + (1 : Int)
      omega
    · have := c3 s k
      have z : (bd (Ks n js ls e 1 1) && bd (Ks n js ls e' 1 1)) = false := by rw [← bd_and]; exact bd_f k
      unfold dl
      rw [z]
      show _ = _ + (0 : Int)
      omega
theorem sm_symm (g : Good n js) (gl : Good n ls) {x y : Nat} (h : Sm js ls x y) : Sm js ls y x := cl_symm g.mt gl.mt h
theorem bs (g : Good n js) (gl : Good n ls) (x y : Nat) : bd (Sm js ls x y) = bd (Sm js ls y x) := bd_iff ⟨sm_symm g gl, sm_symm g gl⟩
theorem jn_sm (J : Jn js js' e e') (g' : Good n js') (gl : Good n ls) (x y : Nat) : bd (Sm js' ls x y) = (bd (Sm js ls x y) || ((bd (Sm js ls x e) && bd (Sm js ls e' y)) || (bd (Sm js ls x e') && bd (Sm js ls e y)))) := by
  rw [bd_iff (jn_iff J g' gl), bd_or, bd_or, bd_and, bd_and]
theorem jn_od (J : Jn js js' e e') (g : Good n js) (g' : Good n js') (gl : Good n ls) (he : e < 2 * n) (he' : e' < 2 * n) {x : Nat} (hx : x < 2 * n) (x1 : x ≠ e) (x2 : x ≠ e') (fx : mt js x = none) :
    bd (Ks n js' ls x 1 1) = if bd (Sm js ls x e) then bd (Ks n js ls e' 1 1) else if bd (Sm js ls x e') then bd (Ks n js ls e 1 1) else bd (Ks n js ls x 1 1) := by
  have half : ∀ {a b : Nat}, Jn js js' a b → a < 2 * n → b < 2 * n → x ≠ a → x ≠ b → Sm js ls x a → bd (Ks n js' ls x 1 1) = bd (Ks n js ls b 1 1) := by
    intro a b J ha hb xa xb s
    have no : ¬ Sm js ls a b := fun z => ks_three g gl hx fx J.f1 J.f2 xa xb J.ne s (cl_trans s z)
    obtain ⟨f1, g1, k1⟩ := ks_ex g gl ha
    obtain ⟨f2, g2, k2⟩ := ks_ex g gl hb
    have t := ks_two g gl k1 J.f1 fx xa.symm (sm_symm g gl s)
    have k := ks_diff J g g' gl no k1 k2
    have k' : Ks n js' ls x f2 g2 := by
      have := ks_sm g' gl k (sm_symm g' gl (jn_up J s))
      rwa [t.1, t.2, show 2 + f2 - 2 = f2 by omega, show 0 + g2 = g2 by omega] at this
    refine bd_iff ⟨fun z => ?_, fun z => ?_⟩
    · obtain ⟨a1, a2⟩ := ks_uniq g' gl k' z
      subst a1 a2
      exact k2
    · obtain ⟨a1, a2⟩ := ks_uniq g gl k2 z
      subst a1 a2
      exact k'
  by_cases s1 : Sm js ls x e
  · rw [bd_t s1, if_pos rfl]
    exact half J he he' x1 x2 s1
  · rw [bd_f s1, if_neg (by decide)]
    by_cases s2 : Sm js ls x e'
    · rw [bd_t s2, if_pos rfl]
      exact half J.symm he' he x2 x1 s2
    · rw [bd_f s2, if_neg (by decide)]
      obtain ⟨f, q, k⟩ := ks_ex g gl hx
      have k' := ks_off J g g' gl s1 s2 k
      refine bd_iff ⟨fun z => ?_, fun z => ?_⟩
      · obtain ⟨a1, a2⟩ := ks_uniq g' gl k' z
        subst a1 a2
        exact k
      · obtain ⟨a1, a2⟩ := ks_uniq g gl k z
        subst a1 a2
        exact k'
end
/-! two joins -/
def dd (uv uw uz vw vz wz ku kv kw kz : Bool) : Int := dl uv ku kv + dl (wz || ((uw && vz) || (vw && uz))) (if uw then kv else if vw then ku else kw) (if uz then kv else if vz then ku else kz)
/-- four ends apart, free here -/
structure F4 (n : Nat) (j0 : List J2) (u v w z : Nat) : Prop where
  lu : u < 2 * n
  lv : v < 2 * n
  lw : w < 2 * n
  lz : z < 2 * n
  uv : u ≠ v
  uw : u ≠ w
  uz : u ≠ z
  vw : v ≠ w
  vz : v ≠ z
  wz : w ≠ z
  fu : mt j0 u = none
  fv : mt j0 v = none
  fw : mt j0 w = none
  fz : mt j0 z = none
theorem F4.b {n : Nat} {j0 : List J2} {u v w z : Nat} (F : F4 n j0 u v w z) : F4 n j0 u w v z := ⟨F.lu, F.lw, F.lv, F.lz, F.uw, F.uv, F.uz, F.vw.symm, F.wz, F.vz, F.fu, F.fw, F.fv, F.fz⟩
theorem F4.c {n : Nat} {j0 : List J2} {u v w z : Nat} (F : F4 n j0 u v w z) : F4 n j0 u z v w := ⟨F.lu, F.lz, F.lv, F.lw, F.uz, F.uv, F.uw, F.vz.symm, F.wz.symm, F.vw, F.fu, F.fz, F.fv, F.fw⟩
section
variable {n : Nat} {j0 j1 j2 ls : List J2} {u v w z : Nat}
noncomputable abbrev bS (j0 ls : List J2) (x y : Nat) : Bool := bd (Sm j0 ls x y)
noncomputable abbrev bO (n : Nat) (j0 ls : List J2) (x : Nat) : Bool := bd (Ks n j0 ls x 1 1)
theorem dd_cst (F : F4 n j0 u v w z) (J1 : Jn j0 j1 u v) (J2' : Jn j1 j2 w z) (g0 : Good n j0) (g1 : Good n j1) (g2 : Good n j2) (gl : Good n ls) :
    ((cst n j2 ls : Nat) : Int) = (cst n j0 ls : Nat) + dd (bS j0 ls u v) (bS j0 ls u w) (bS j0 ls u z) (bS j0 ls v w) (bS j0 ls v z) (bS j0 ls w z) (bO n j0 ls u) (bO n j0 ls v) (bO n j0 ls w) (bO n j0 ls z) := by
  have h1 := jn_dl J1 g0 g1 gl F.lu F.lv
  have h2 := jn_dl J2' g1 g2 gl F.lw F.lz
  rw [jn_sm J1 g1 gl, jn_od J1 g0 g1 gl F.lu F.lv F.lw F.uw.symm F.vw.symm F.fw, jn_od J1 g0 g1 gl F.lu F.lv F.lz F.uz.symm F.vz.symm F.fz, bs g0 gl w u, bs g0 gl w v, bs g0 gl z u, bs g0 gl z v] at h2
  unfold dd bS bO
  omega
theorem bsS (g0 : Good n j0) (gl : Good n ls) (x y : Nat) : bS j0 ls x y = bS j0 ls y x := bs g0 gl x y
theorem kO (g0 : Good n j0) (gl : Good n ls) {x y : Nat} (hx : x < 2 * n) (fx : mt j0 x = none) (fy : mt j0 y = none) (ne : x ≠ y) (s : bS j0 ls x y = true) : bO n j0 ls x = false := by
  refine bd_f fun k => ?_
  have := ks_two g0 gl k fx fy ne (bd_p s)
  omega
theorem k3 (g0 : Good n j0) (gl : Good n ls) {x y t : Nat} (hx : x < 2 * n) (fx : mt j0 x = none) (fy : mt j0 y = none) (ft : mt j0 t = none) (xy : x ≠ y) (xt : x ≠ t) (yt : y ≠ t) (s : bS j0 ls x y = true) : bS j0 ls x t = false :=
  bd_f (ks_three g0 gl hx fx fy ft xy xt yt (bd_p s))
/-- what cannot be -/
def okB (uv uw uz vw vz wz ku kv kw kz : Bool) : Bool :=
  (!uv || (!uw && !uz && !vw && !vz && !ku && !kv)) && (!uw || (!uz && !vw && !wz && !ku && !kw)) && (!uz || (!vz && !wz && !ku && !kz)) && (!vw || (!vz && !wz && !kv && !kw)) && (!vz || (!wz && !kv && !kz)) && (!wz || (!kw && !kz))
theorem ok_real (F : F4 n j0 u v w z) (g0 : Good n j0) (gl : Good n ls) : okB (bS j0 ls u v) (bS j0 ls u w) (bS j0 ls u z) (bS j0 ls v w) (bS j0 ls v z) (bS j0 ls w z) (bO n j0 ls u) (bO n j0 ls v) (bO n j0 ls w) (bO n j0 ls z) = true := by
  have imp : ∀ {a b : Bool}, (a = true → b = true) → (!a || b) = true := fun {a b} h => by cases a <;> simp_all
  unfold okB
  simp only [Bool.and_eq_true]
  refine ⟨⟨⟨⟨⟨imp fun s => ?_, imp fun s => ?_⟩, imp fun s => ?_⟩, imp fun s => ?_⟩, imp fun s => ?_⟩, imp fun s => ?_⟩
  · rw [k3 g0 gl F.lu F.fu F.fv F.fw F.uv F.uw F.vw s, k3 g0 gl F.lu F.fu F.fv F.fz F.uv F.uz F.vz s, kO g0 gl F.lu F.fu F.fv F.uv s]
    rw [bsS g0 gl] at s
    rw [k3 g0 gl F.lv F.fv F.fu F.fw F.uv.symm F.vw F.uw s, k3 g0 gl F.lv F.fv F.fu F.fz F.uv.symm F.vz F.uz s, kO g0 gl F.lv F.fv F.fu F.uv.symm s]
    rfl
  · rw [k3 g0 gl F.lu F.fu F.fw F.fz F.uw F.uz F.wz s, kO g0 gl F.lu F.fu F.fw F.uw s]
    rw [bsS g0 gl] at s
    rw [bsS g0 gl v w, k3 g0 gl F.lw F.fw F.fu F.fv F.uw.symm F.vw.symm F.uv s, k3 g0 gl F.lw F.fw F.fu F.fz F.uw.symm F.wz F.uz s, kO g0 gl F.lw F.fw F.fu F.uw.symm s]
    rfl
  · rw [kO g0 gl F.lu F.fu F.fz F.uz s]
    rw [bsS g0 gl] at s
    rw [bsS g0 gl v z, bsS g0 gl w z, k3 g0 gl F.lz F.fz F.fu F.fv F.uz.symm F.vz.symm F.uv s, k3 g0 gl F.lz F.fz F.fu F.fw F.uz.symm F.wz.symm F.uw s, kO g0 gl F.lz F.fz F.fu F.uz.symm s]
    rfl
  · rw [k3 g0 gl F.lv F.fv F.fw F.fz F.vw F.vz F.wz s, kO g0 gl F.lv F.fv F.fw F.vw s]
    rw [bsS g0 gl] at s
    rw [k3 g0 gl F.lw F.fw F.fv F.fz F.vw.symm F.wz F.vz s, kO g0 gl F.lw F.fw F.fv F.vw.symm s]
    rfl
  · rw [kO g0 gl F.lv F.fv F.fz F.vz s]
    rw [bsS g0 gl] at s
    rw [bsS g0 gl w z, k3 g0 gl F.lz F.fz F.fv F.fw F.vz.symm F.wz.symm F.vw s, kO g0 gl F.lz F.fz F.fv F.vz.symm s]
    rfl
  · rw [kO g0 gl F.lw F.fw F.fz F.wz s]
    rw [bsS g0 gl] at s
    rw [kO g0 gl F.lz F.fz F.fw F.wz.symm s]
    rfl
def n1 (b : Bool) : Nat := if b then 1 else 0
theorem fin2 : ∀ uv uw uz vw vz wz ku kv kw kz : Bool, okB uv uw uz vw vz wz ku kv kw kz = true →
    n1 (decide (dd uw uv uz vw wz vz ku kw kv kz + 1 = dd uv uw uz vw vz wz ku kv kw kz)) + n1 (decide (dd uz uv uw vz wz vw ku kz kv kw + 1 = dd uv uw uz vw vz wz ku kv kw kz)) =
    if uw || uz || vw || vz then 1 else if (!uv && !ku && !kv && (!wz && kw && kz)) || (!uv && ku && kv && (!wz && !kw && !kz)) then 2 else 0 := by decide +kernel
end
end TI
-- JN4
set_option Elab.async false
set_option linter.all false
set_option maxRecDepth 100000
set_option maxHeartbeats 4000000
/-! JN4: how many of the steps at a place are good. -/
namespace TI
open PySem L2 DC
section
variable {n : Nat} {js js' ls : List J2} {e e' : Nat}
theorem bS_refl (js ls : List J2) (x : Nat) : bS js ls x x = true := bd_t .base
theorem jn_kinds (J : Jn js js' e e') (g : Good n js) (g' : Good n js') (gl : Good n ls) (he : e < 2 * n) (he' : e' < 2 * n) :
    bd (Ks n js' ls e 2 0) = (!bS js ls e e' && (!bO n js ls e && !bO n js ls e')) ∧ bd (Ks n js' ls e 0 2) = (!bS js ls e e' && (bO n js ls e && bO n js ls e')) := by
  by_cases s : Sm js ls e e'
  · have k := ks_same J g g' gl he s
    have s' : bS js ls e e' = true := bd_t s
    rw [s']
    refine ⟨bd_f fun z => ?_, bd_f fun z => ?_⟩
    · have := ks_uniq g' gl k z; omega
    · have := ks_uniq g' gl k z; omega
  · have s' : bS js ls e e' = false := bd_f s
    rw [s']
    obtain ⟨f1, g1, k1⟩ := ks_ex g gl he
    obtain ⟨f2, g2, k2⟩ := ks_ex g gl he'
    have p1 := ks_pos g gl k1 J.f1
    have p2 := ks_pos g gl k2 J.f2
    have v1 := ks_val g gl k1
    have v2 := ks_val g gl k2
    have k := ks_diff J g g' gl s k1 k2
    have o : ∀ {x f q : Nat}, Ks n js ls x f q → ((f = 1 ∧ q = 1) ∨ (f = 2 ∧ q = 0)) → bO n js ls x = decide (f = 1) := fun {x f q} kx h => by
      rcases h with ⟨rfl, rfl⟩ | ⟨rfl, rfl⟩
      · exact bd_t kx
      · exact bd_f fun z => by have := ks_uniq g gl kx z; omega
    have w1 : (f1 = 1 ∧ g1 = 1) ∨ (f1 = 2 ∧ g1 = 0) := by omega
    have w2 : (f2 = 1 ∧ g2 = 1) ∨ (f2 = 2 ∧ g2 = 0) := by omega
    rw [o k1 w1, o k2 w2]
    have r : ∀ {f q : Nat}, bd (Ks n js' ls e f q) = decide (f1 + f2 - 2 = f ∧ g1 + g2 = q) := fun {f q} => by
      by_cases c : f1 + f2 - 2 = f ∧ g1 + g2 = q
      · rw [decide_eq_true c]
        obtain ⟨rfl, rfl⟩ := c
        exact bd_t k
      · rw [decide_eq_false c]
        exact bd_f fun z => c (ks_uniq g' gl k z)
    rw [r, r]
    rcases w1 with ⟨rfl, rfl⟩ | ⟨rfl, rfl⟩ <;> rcases w2 with ⟨rfl, rfl⟩ | ⟨rfl, rfl⟩ <;> decide
theorem jn_off (J : Jn js js' e e') (g : Good n js) (g' : Good n js') (gl : Good n ls) {x : Nat} (hx : x < 2 * n) (n1 : bS js ls x e = false) (n2 : bS js ls x e' = false) (f q : Nat) : bd (Ks n js' ls x f q) = bd (Ks n js ls x f q) := by
  obtain ⟨a, b, k⟩ := ks_ex g gl hx
  have k' := ks_off J g g' gl (bd_n n1) (bd_n n2) k
  refine bd_iff ⟨fun z => ?_, fun z => ?_⟩
  · obtain ⟨a1, a2⟩ := ks_uniq g' gl k' z
    subst a1 a2
    exact k
  · obtain ⟨a1, a2⟩ := ks_uniq g gl k z
    subst a1 a2
    exact k'
end
section
variable {n : Nat} {j0 j1 a1 b1 js ja jb ls : List J2} {u v w z e : Nat}
/-- by what is before: how many of the two ways are good -/
noncomputable def dueD (n : Nat) (js ls : List J2) (u w : Nat) : Nat :=
  if bS js ls u w = true then 1 else if ((bd (Ks n js ls u 2 0) && bd (Ks n js ls w 0 2)) || (bd (Ks n js ls u 0 2) && bd (Ks n js ls w 2 0))) = true then 2 else 0
noncomputable def gd (n : Nat) (ja js ls : List J2) : Nat := n1 (decide (cst n ja ls + 1 = cst n js ls))
theorem gd_dd {c0 : Nat} {x y : Int} (h1 : ((cst n ja ls : Nat) : Int) = (c0 : Nat) + x) (h2 : ((cst n js ls : Nat) : Int) = (c0 : Nat) + y) : gd n ja js ls = n1 (decide (x + 1 = y)) := by
  unfold gd
  congr 1
  rw [decide_eq_decide]
  omega
theorem dbl_count (F : F4 n j0 u v w z) (J1 : Jn j0 j1 u v) (J2' : Jn j1 js w z) (A1 : Jn j0 a1 u w) (A2 : Jn a1 ja v z) (B1 : Jn j0 b1 u z) (B2 : Jn b1 jb v w)
    (g0 : Good n j0) (g1 : Good n j1) (gj : Good n js) (ga1 : Good n a1) (ga : Good n ja) (gb1 : Good n b1) (gb : Good n jb) (gl : Good n ls) :
    gd n ja js ls + gd n jb js ls = dueD n js ls u w := by
  have c := dd_cst F J1 J2' g0 g1 gj gl
  have ca := dd_cst F.b A1 A2 g0 ga1 ga gl
  have cb := dd_cst F.c B1 B2 g0 gb1 gb gl
  rw [gd_dd ca c, gd_dd cb c, bsS g0 gl w v, bsS g0 gl z v, bsS g0 gl z w]
  have ok := ok_real F g0 gl
  have e2 := fin2 _ _ _ _ _ _ _ _ _ _ ok
  refine e2.trans ?_
  -- the web before
  have s1 : bS j1 ls u w = (bS j0 ls u w || ((bS j0 ls u u && bS j0 ls v w) || (bS j0 ls u v && bS j0 ls u w))) := jn_sm J1 g1 gl u w
  have s2 : bS j1 ls u z = (bS j0 ls u z || ((bS j0 ls u u && bS j0 ls v z) || (bS j0 ls u v && bS j0 ls u z))) := jn_sm J1 g1 gl u z
  have s3 : bS js ls u w = (bS j1 ls u w || ((bS j1 ls u w && bS j1 ls z w) || (bS j1 ls u z && bS j1 ls w w))) := jn_sm J2' gj gl u w
  rw [bS_refl] at s1 s2 s3
  have s4 : bS js ls u w = (bS j0 ls u w || bS j0 ls u z || bS j0 ls v w || bS j0 ls v z) := by
    rw [s3, s1, s2]
    cases bS j0 ls u w <;> cases bS j0 ls u z <;> cases bS j0 ls v w <;> cases bS j0 ls v z <;> cases bS j0 ls u v <;> cases bS j1 ls z w <;> rfl
  unfold dueD
  rw [s4]
  cases hs : (bS j0 ls u w || bS j0 ls u z || bS j0 ls v w || bS j0 ls v z) with
  | true => rfl
  | false =>
    have q : bS j0 ls u w = false ∧ bS j0 ls u z = false ∧ bS j0 ls v w = false ∧ bS j0 ls v z = false := by
      simp only [Bool.or_eq_false_iff] at hs
      exact ⟨hs.1.1.1, hs.1.1.2, hs.1.2, hs.2⟩
    obtain ⟨q1, q2, q3, q4⟩ := q
    have t1 : bS j1 ls u w = false := by rw [s1, q1, q3]; cases bS j0 ls u v <;> rfl
    have t2 : bS j1 ls u z = false := by rw [s2, q2, q4]; cases bS j0 ls u v <;> rfl
    obtain ⟨k1, k2⟩ := jn_kinds J1 g0 g1 gl F.lu F.lv
    obtain ⟨m1, m2⟩ := jn_kinds J2' g1 gj gl F.lw F.lz
    have wz : bS j1 ls w z = bS j0 ls w z := by
      have : bS j1 ls w z = (bS j0 ls w z || ((bS j0 ls w u && bS j0 ls v z) || (bS j0 ls w v && bS j0 ls u z))) := jn_sm J1 g1 gl w z
      rw [this, q4, q2]
      cases bS j0 ls w z <;> cases bS j0 ls w u <;> cases bS j0 ls w v <;> rfl
    have ow : bO n j1 ls w = bO n j0 ls w := jn_off J1 g0 g1 gl F.lw (by rw [bsS g0 gl]; exact q1) (by rw [bsS g0 gl]; exact q3) 1 1
    have oz : bO n j1 ls z = bO n j0 ls z := jn_off J1 g0 g1 gl F.lz (by rw [bsS g0 gl]; exact q2) (by rw [bsS g0 gl]; exact q4) 1 1
    rw [jn_off J2' g1 gj gl F.lu t1 t2 2 0, jn_off J2' g1 gj gl F.lu t1 t2 0 2, k1, k2, m1, m2, wz, ow, oz]
    simp only [Bool.false_eq_true, if_false]
    congr 2
    cases bS j0 ls u v <;> cases bS j0 ls w z <;> cases bO n j0 ls u <;> cases bO n j0 ls v <;> cases bO n j0 ls w <;> cases bO n j0 ls z <;> rfl
noncomputable def dueS (n : Nat) (js ls : List J2) (u e : Nat) : Nat :=
  if bS js ls u e = true then 1 else if (bd (Ks n js ls u 0 2) && bd (Ks n js ls e 2 0)) = true then 2 else 0
theorem fin1 : ∀ uv ue ve ku kv ke : Bool, ((!uv || (!ue && !ve && !ku && !kv)) && (!ue || (!ve && !ku && !ke)) && (!ve || (!kv && !ke))) = true →
    n1 (decide (dl ue ku ke + 1 = dl uv ku kv)) + n1 (decide (dl ve kv ke + 1 = dl uv ku kv)) = if ue || ve then 1 else if ((!uv && (ku && kv)) && !ke) then 2 else 0 := by decide +kernel
theorem shift_count (J : Jn j0 js u v) (A : Jn j0 ja u e) (B : Jn j0 jb v e) (lu : u < 2 * n) (lv : v < 2 * n) (le : e < 2 * n) (g0 : Good n j0) (gj : Good n js) (ga : Good n ja) (gb : Good n jb) (gl : Good n ls) :
    gd n ja js ls + gd n jb js ls = dueS n js ls u e := by
  have c := jn_dl J g0 gj gl lu lv
  have ca := jn_dl A g0 ga gl lu le
  have cb := jn_dl B g0 gb gl lv le
  rw [gd_dd ca c, gd_dd cb c]
  have imp : ∀ {a b : Bool}, (a = true → b = true) → (!a || b) = true := fun {a b} h => by cases a <;> simp_all
  have ok : ((!bS j0 ls u v || (!bS j0 ls u e && !bS j0 ls v e && !bO n j0 ls u && !bO n j0 ls v)) && (!bS j0 ls u e || (!bS j0 ls v e && !bO n j0 ls u && !bO n j0 ls e)) && (!bS j0 ls v e || (!bO n j0 ls v && !bO n j0 ls e))) = true := by
    simp only [Bool.and_eq_true]
    refine ⟨⟨imp fun s => ?_, imp fun s => ?_⟩, imp fun s => ?_⟩
    · rw [k3 g0 gl lu J.f1 J.f2 A.f2 J.ne A.ne B.ne s, kO g0 gl lu J.f1 J.f2 J.ne s]
      rw [bsS g0 gl] at s
      rw [k3 g0 gl lv J.f2 J.f1 A.f2 J.ne.symm B.ne A.ne s, kO g0 gl lv J.f2 J.f1 J.ne.symm s]
      rfl
    · rw [kO g0 gl lu J.f1 A.f2 A.ne s]
      rw [bsS g0 gl] at s
      rw [bsS g0 gl v e, k3 g0 gl le A.f2 J.f1 J.f2 A.ne.symm B.ne.symm J.ne s, kO g0 gl le A.f2 J.f1 A.ne.symm s]
      rfl
    · rw [kO g0 gl lv J.f2 A.f2 B.ne s]
      rw [bsS g0 gl] at s
      rw [kO g0 gl le A.f2 J.f2 B.ne.symm s]
      rfl
  have e2 := fin1 _ _ _ _ _ _ ok
  refine e2.trans ?_
  have s1 : bS js ls u e = (bS j0 ls u e || ((bS j0 ls u u && bS j0 ls v e) || (bS j0 ls u v && bS j0 ls u e))) := jn_sm J gj gl u e
  rw [bS_refl] at s1
  have s2 : bS js ls u e = (bS j0 ls u e || bS j0 ls v e) := by
    rw [s1]
    cases bS j0 ls u e <;> cases bS j0 ls v e <;> cases bS j0 ls u v <;> rfl
  unfold dueS
  rw [s2]
  cases hs : (bS j0 ls u e || bS j0 ls v e) with
  | true => rfl
  | false =>
    have q : bS j0 ls u e = false ∧ bS j0 ls v e = false := by
      simp only [Bool.or_eq_false_iff] at hs
      exact hs
    obtain ⟨q1, q2⟩ := q
    obtain ⟨_, k2⟩ := jn_kinds J g0 gj gl lu lv
    have oe : bd (Ks n js ls e 2 0) = bd (Ks n j0 ls e 2 0) := jn_off J g0 gj gl le (by rw [bsS g0 gl]; exact q1) (by rw [bsS g0 gl]; exact q2) 2 0
    have oo : bd (Ks n j0 ls e 2 0) = !bO n j0 ls e := by
      obtain ⟨f, q, k⟩ := ks_ex g0 gl le
      have p := ks_pos g0 gl k A.f2
      have v := ks_val g0 gl k
      have w : (f = 1 ∧ q = 1) ∨ (f = 2 ∧ q = 0) := by omega
      rcases w with ⟨rfl, rfl⟩ | ⟨rfl, rfl⟩
      · rw [show bO n j0 ls e = true from bd_t k]
        exact bd_f fun z => by have := ks_uniq g0 gl k z; omega
      · rw [show bO n j0 ls e = false from bd_f fun z => by have := ks_uniq g0 gl k z; omega]
        exact bd_t k
    rw [k2, oe, oo]
theorem cut_count (J : Jn j0 js u v) (lu : u < 2 * n) (lv : v < 2 * n) (g0 : Good n j0) (gj : Good n js) (gl : Good n ls) : gd n j0 js ls = n1 (bd (Ks n js ls u 0 2)) := by
  have c := jn_dl J g0 gj gl lu lv
  have z : ((cst n j0 ls : Nat) : Int) = (cst n j0 ls : Nat) + 0 := (Int.add_zero _).symm
  rw [gd_dd z c, (jn_kinds J g0 gj gl lu lv).2]
  show n1 (decide ((0 : Int) + 1 = dl (bS j0 ls u v) (bO n j0 ls u) (bO n j0 ls v))) = _
  cases bS j0 ls u v <;> cases bO n j0 ls u <;> cases bO n j0 ls v <;> rfl
theorem join_count (J : Jn js ja u v) (lu : u < 2 * n) (lv : v < 2 * n) (gj : Good n js) (ga : Good n ja) (gl : Good n ls) : gd n ja js ls = n1 (bS js ls u v) := by
  have c := jn_dl J gj ga gl lu lv
  have z : ((cst n js ls : Nat) : Int) = (cst n js ls : Nat) + 0 := (Int.add_zero _).symm
  rw [gd_dd c z]
  show n1 (decide (dl (bS js ls u v) (bO n js ls u) (bO n js ls v) + 1 = 0)) = _
  cases bS js ls u v <;> cases bO n js ls u <;> cases bO n js ls v <;> rfl
end
end TI
-- CT
set_option Elab.async false
set_option linter.all false
set_option maxRecDepth 100000
set_option maxHeartbeats 4000000
/-! CT: sums over places, by heaps. -/
namespace TI
open PySem L2 DC
def tgl (m : Nat) : Nat := m * (m - 1) / 2
theorem tgl_succ (m : Nat) : tgl (m + 1) = tgl m + m := by
  unfold tgl
  cases m with
  | zero => rfl
  | succ k =>
    show (k + 1 + 1) * (k + 1) / 2 = (k + 1) * k / 2 + (k + 1)
    have e : (k + 1 + 1) * (k + 1) = (k + 1) * k + 2 * (k + 1) := by
      rw [Nat.add_mul (k + 1) 1, Nat.mul_add (k + 1) k 1]
      omega
    rw [e]
    omega
def cnt (h A : List Nat) : Nat := A.countP fun x => decide (x ∈ h)
/-- a sum over pairs, the one before the other -/
def prS {α : Type} (F : α → α → Nat) : List α → Nat
  | [] => 0
  | x :: l => (l.map (F x)).sum + prS F l
theorem prS_range {α : Type} (F : α → α → Nat) (d : α) : ∀ l : List α, ((List.range l.length).map fun k => ((l.drop (k + 1)).map (F (l.getD k d))).sum).sum = prS F l
  | [] => rfl
  | x :: l => by
    rw [List.length_cons, List.range_succ_eq_map, List.map_cons, List.sum_cons, List.map_map]
    have := prS_range F d l
    unfold prS
    rw [← this]
    rfl
theorem sum_map_add {α : Type} (f g : α → Nat) : ∀ l : List α, (l.map fun x => f x + g x).sum = (l.map f).sum + (l.map g).sum
  | [] => rfl
  | x :: l => by
    rw [List.map_cons, List.sum_cons, List.map_cons, List.sum_cons, List.map_cons, List.sum_cons, sum_map_add f g l]
    omega
theorem sum_map_mul {α : Type} (c : Nat) (f : α → Nat) : ∀ l : List α, (l.map fun x => c * f x).sum = c * (l.map f).sum
  | [] => rfl
  | x :: l => by
    rw [List.map_cons, List.sum_cons, List.map_cons, List.sum_cons, sum_map_mul c f l, Nat.mul_add]
theorem prS_add {α : Type} (F G : α → α → Nat) : ∀ l : List α, prS (fun x y => F x y + G x y) l = prS F l + prS G l
  | [] => rfl
  | x :: l => by
    unfold prS
    rw [prS_add F G l, sum_map_add]
    omega
theorem prS_congr {α : Type} {F G : α → α → Nat} : ∀ {l : List α}, l.Pairwise (fun x y => F x y = G x y) → prS F l = prS G l
  | [], _ => rfl
  | x :: l, h => by
    have h' := List.pairwise_cons.mp h
    unfold prS
    rw [prS_congr h'.2]
    congr 2
    exact List.map_congr_left fun y hy => h'.1 y hy
theorem prS_mul {α : Type} (c : Nat) (F : α → α → Nat) : ∀ l : List α, prS (fun x y => c * F x y) l = c * prS F l
  | [] => rfl
  | x :: l => by
    unfold prS
    rw [prS_mul c F l, sum_map_mul, Nat.mul_add]
/-- each one with each other one: a of the one, b of the other -/
theorem prS_prod {α : Type} (a b : α → Nat) : ∀ l : List α, (∀ x ∈ l, a x * b x = 0) → prS (fun x y => a x * b y + b x * a y) l = (l.map a).sum * (l.map b).sum
  | [], _ => rfl
  | x :: l, h => by
    have ih := prS_prod a b l fun y hy => h y (List.mem_cons_of_mem _ hy)
    have h0 := h x List.mem_cons_self
    unfold prS
    rw [ih, sum_map_add, sum_map_mul, sum_map_mul, List.map_cons, List.sum_cons, List.map_cons, List.sum_cons, Nat.add_mul, Nat.mul_add, Nat.mul_add, h0, Nat.mul_comm (b x) _]
    omega
section
variable {n : Nat} {js ls : List J2} {hs : List (List Nat)}
/-- the heaps, one of them in front -/
theorem sum_front (A : Hq n js ls hs) {x : Nat} (hx : x < 2 * n) : ∃ h r, hs.Perm (h :: r) ∧ x ∈ h ∧ (∀ k ∈ r, x ∉ k) ∧ Hp1 n js ls h := by
  obtain ⟨h, r, B, hm, p⟩ := hq_front A hx
  exact ⟨h, r, p, hm, fun k hk => (List.pairwise_cons.mp B.dis).1 k hk x hm, B.cl h List.mem_cons_self⟩
theorem cnt_cons_in {h A : List Nat} {x : Nat} (hx : x ∈ h) : cnt h (x :: A) = cnt h A + 1 := by
  unfold cnt
  rw [List.countP_cons, if_pos (decide_eq_true hx)]
theorem cnt_cons_out {h A : List Nat} {x : Nat} (hx : x ∉ h) : cnt h (x :: A) = cnt h A := by
  unfold cnt
  rw [List.countP_cons, if_neg (by rw [decide_eq_true_eq]; exact hx)]
  rfl
/-- a sum over places of what only the heap tells -/
theorem sum_lab (A : Hq n js ls hs) (G : Nat → Nat) (q : List Nat → Nat) (hG : ∀ h ∈ hs, ∀ x ∈ h, G x = q h) : ∀ X : List Nat, (∀ x ∈ X, x < 2 * n) → (X.map G).sum = (hs.map fun h => cnt h X * q h).sum
  | [], _ => by
    have : (fun h : List Nat => cnt h [] * q h) = fun _ => 0 := by
      funext h
      exact Nat.zero_mul _
    rw [this]
    have z : ∀ l : List (List Nat), (l.map fun _ => 0).sum = 0 := fun l => by
      induction l with
      | nil => rfl
      | cons _ _ ih => rw [List.map_cons, List.sum_cons, ih]
    exact (z hs).symm
  | x :: X, hX => by
    obtain ⟨h, r, p, hm, hr, _⟩ := sum_front A (hX x List.mem_cons_self)
    have ih := sum_lab A G q hG X fun y hy => hX y (List.mem_cons_of_mem _ hy)
    rw [List.map_cons, List.sum_cons, ih, sum_perm (p.map _), sum_perm (p.map _), List.map_cons, List.sum_cons, List.map_cons, List.sum_cons, cnt_cons_in hm, hG h (p.mem_iff.mpr List.mem_cons_self) x hm, Nat.add_mul, Nat.one_mul]
    have : r.map (fun h => cnt h (x :: X) * q h) = r.map fun h => cnt h X * q h := List.map_congr_left fun k hk => by rw [cnt_cons_out (hr k hk)]
    rw [this]
    omega
theorem cnt_bS (g : Good n js) (gl : Good n ls) {h : List Nat} (H : Hp1 n js ls h) {x : Nat} (hx : x ∈ h) : ∀ X : List Nat, (X.map fun y => n1 (bS js ls x y)).sum = cnt h X
  | [] => rfl
  | y :: X => by
    rw [List.map_cons, List.sum_cons, cnt_bS g gl H hx X]
    by_cases c : y ∈ h
    · rw [cnt_cons_in c, show bS js ls x y = true from bd_t ((hp_mem g gl H hx y).mp c)]
      show 1 + _ = _
      omega
    · rw [cnt_cons_out c, show bS js ls x y = false from bd_f fun z => c ((hp_mem g gl H hx y).mpr z)]
      show 0 + _ = _
      omega
/-- pairs of places in one heap -/
theorem pr_sum (g : Good n js) (gl : Good n ls) (A : Hq n js ls hs) : ∀ X : List Nat, (∀ x ∈ X, x < 2 * n) → prS (fun x y => n1 (bS js ls x y)) X = (hs.map fun h => tgl (cnt h X)).sum
  | [], _ => by
    have z : ∀ l : List (List Nat), (l.map fun h => tgl (cnt h [])).sum = 0 := fun l => by
      induction l with
      | nil => rfl
      | cons k _ ih =>
        rw [List.map_cons, List.sum_cons, ih, show cnt k [] = 0 from rfl]
        decide
    exact (z hs).symm
  | x :: X, hX => by
    obtain ⟨h, r, p, hm, hr, H⟩ := sum_front A (hX x List.mem_cons_self)
    have ih := pr_sum g gl A X fun y hy => hX y (List.mem_cons_of_mem _ hy)
    unfold prS
    rw [ih, cnt_bS g gl H hm, sum_perm (p.map _), sum_perm (p.map fun h => tgl (cnt h (x :: X))), List.map_cons, List.sum_cons, List.map_cons, List.sum_cons, cnt_cons_in hm, tgl_succ]
    have : r.map (fun h => tgl (cnt h (x :: X))) = r.map fun h => tgl (cnt h X) := List.map_congr_left fun k hk => by rw [cnt_cons_out (hr k hk)]
    rw [this]
    omega
/-- one of these, one of those, in one heap -/
theorem cross_sum (g : Good n js) (gl : Good n ls) (A : Hq n js ls hs) (Y : List Nat) (X : List Nat) (hX : ∀ x ∈ X, x < 2 * n) : (X.map fun x => (Y.map fun y => n1 (bS js ls x y)).sum).sum = (hs.map fun h => cnt h X * cnt h Y).sum :=
  sum_lab A _ (fun h => cnt h Y) (fun h hh x hx => cnt_bS g gl (A.cl h hh) hx Y) X hX
end
end TI
-- CT2
set_option Elab.async false
set_option linter.all false
set_option maxRecDepth 100000
set_option maxHeartbeats 4000000
/-! CT2: joints and free ends of a heap; what they come to. -/
namespace TI
open PySem L2 DC
section
variable {n : Nat} {js ls : List J2} {hs : List (List Nat)}
theorem endsN (g : Good n js) : (js.flatMap fun p => [p.1, p.2]).Nodup := by
  have h : ∀ l : List J2, l.Pairwise DC.Apart → (∀ p ∈ l, p.1 ≠ p.2) → (l.flatMap fun p => [p.1, p.2]).Nodup := fun l => by
    induction l with
    | nil => intro _ _; exact List.nodup_nil
    | cons p l ih =>
      intro d ne
      have d' := List.pairwise_cons.mp d
      show ([p.1, p.2] ++ l.flatMap fun p => [p.1, p.2]).Nodup
      refine List.nodup_append.mpr ⟨?_, ih d'.2 fun q hq => ne q (List.mem_cons_of_mem _ hq), ?_⟩
      · exact List.nodup_cons.mpr ⟨fun h => ne p List.mem_cons_self (List.mem_singleton.mp h), List.nodup_cons.mpr ⟨List.not_mem_nil, List.nodup_nil⟩⟩
      · intro x hx y hy e
        subst e
        obtain ⟨q, hq, hy⟩ := List.mem_flatMap.mp hy
        have a := d'.1 q hq
        simp only [List.mem_cons, List.not_mem_nil, or_false] at hx hy
        obtain ⟨a1, a2, a3, a4⟩ := a
        rcases hx with rfl | rfl <;> rcases hy with hy | hy
        · exact a1 hy
        · exact a2 hy
        · exact a3 hy
        · exact a4 hy
  exact h js g.dis fun p hp => Nat.ne_of_lt (g.rng p hp).1
theorem mt_ends (g : Good n js) {x : Nat} : x ∈ (js.flatMap fun p => [p.1, p.2]) ↔ mt js x ≠ none := by
  have ne : ∀ q ∈ js, q.1 ≠ q.2 := fun q hq => Nat.ne_of_lt (g.rng q hq).1
  rw [List.mem_flatMap]
  constructor
  · rintro ⟨p, hp, hx⟩
    obtain ⟨m1, m2⟩ := mt_of g.dis ne hp
    simp only [List.mem_cons, List.not_mem_nil, or_false] at hx
    rcases hx with rfl | rfl
    · rw [m1]; exact fun z => nomatch z
    · rw [m2]; exact fun z => nomatch z
  · intro h
    cases hm : mt js x with
    | none => exact absurd hm h
    | some y =>
      obtain ⟨p, hp, h | h⟩ := mt_some hm
      · exact ⟨p, hp, by rw [h.1]; exact List.mem_cons_self⟩
      · exact ⟨p, hp, by rw [h.1]; exact List.mem_cons_of_mem _ List.mem_cons_self⟩
abbrev fsts (js : List J2) : List Nat := js.map fun p => p.1
theorem hp_joint (g : Good n js) (gl : Good n ls) {h : List Nat} (H : Hp1 n js ls h) {p : J2} (hp : p ∈ js) : p.2 ∈ h ↔ p.1 ∈ h := by
  have ne : ∀ q ∈ js, q.1 ≠ q.2 := fun q hq => Nat.ne_of_lt (g.rng q hq).1
  obtain ⟨m1, m2⟩ := mt_of g.dis ne hp
  exact ⟨fun z => (hp_mem g gl H z p.1).mpr (.step .base (.inl m2)), fun z => (hp_mem g gl H z p.2).mpr (.step .base (.inl m1))⟩
theorem ends_cnt (g : Good n js) (gl : Good n ls) {h : List Nat} (H : Hp1 n js ls h) : cnt h (js.flatMap fun p => [p.1, p.2]) = 2 * cnt h (fsts js) := by
  have gen : ∀ l : List J2, (∀ p ∈ l, p ∈ js) → cnt h (l.flatMap fun p => [p.1, p.2]) = 2 * cnt h (fsts l) := fun l => by
    induction l with
    | nil => intro _; rfl
    | cons p l ih =>
      intro hl
      have i := ih fun q hq => hl q (List.mem_cons_of_mem _ hq)
      have e := hp_joint g gl H (hl p List.mem_cons_self)
      show cnt h (p.1 :: p.2 :: l.flatMap fun p => [p.1, p.2]) = 2 * cnt h (p.1 :: fsts l)
      by_cases c : p.1 ∈ h
      · rw [cnt_cons_in c, cnt_cons_in (e.mpr c), cnt_cons_in c, i]
        omega
      · rw [cnt_cons_out c, cnt_cons_out fun z => c (e.mp z), cnt_cons_out c, i]
  exact gen js fun p hp => hp
theorem cnt_swap {h X : List Nat} (nh : h.Nodup) (nX : X.Nodup) : cnt h X = h.countP fun x => decide (x ∈ X) := by
  unfold cnt
  rw [List.countP_eq_length_filter, List.countP_eq_length_filter]
  refine ((List.perm_ext_iff_of_nodup (nX.filter _) (nh.filter _)).mpr fun x => ?_).length_eq
  rw [List.mem_filter, List.mem_filter, decide_eq_true_eq, decide_eq_true_eq]
  exact And.comm
theorem hp_size (g : Good n js) (gl : Good n ls) {h : List Nat} (H : Hp1 n js ls h) : h.length = cn js h + 2 * cnt h (fsts js) := by
  obtain ⟨a, ha, c⟩ := id H
  rw [← ends_cnt g gl H, cnt_swap c.nd (endsN g)]
  unfold cn
  rw [List.length_eq_countP_add_countP (fun e => (mt js e).isNone)]
  congr 1
  refine List.countP_congr fun x _ => ?_
  rw [decide_eq_true_eq, decide_eq_true_eq, Option.isNone_iff_eq_none]
  exact (mt_ends g).symm
theorem free_cnt {fr : List Nat} (nf : fr.Nodup) (hf : ∀ x, x ∈ fr ↔ x < 2 * n ∧ mt js x = none) {h : List Nat} (H : Hp1 n js ls h) : cnt h fr = cn js h := by
  obtain ⟨a, ha, c⟩ := H
  rw [cnt_swap c.nd nf]
  unfold cn
  refine List.countP_congr fun x hx => ?_
  rw [decide_eq_true_eq, hf, Option.isNone_iff_eq_none]
  exact ⟨fun z => z.2, fun z => ⟨c.lt x hx, z⟩⟩
/-- what a piece of a kind and a size comes to -/
def prc (k : Str) (s : Nat) : Nat := s / 2 - if k = "ring" then 1 else 0
def inn1 (k : Str) (s : Nat) : Nat := prc k s * (prc k s + 1) / 2
def opn1 (k : Str) (s : Nat) : Nat := if k = "open" then prc k s + 1 else 0
def sht1 (k : Str) (s : Nat) : Nat := if k = "shut" then prc k s else 0
theorem tgl_mul (m : Nat) : m * (m + 1) / 2 = tgl m + m := by
  rw [← tgl_succ]
  unfold tgl
  rw [show m + 1 - 1 = m from rfl, Nat.mul_comm]
theorem piece_in {k : Str} {f q r s : Nat} (hs : s = f + 2 * r) (hv : (f = 0 ∧ q = 0 ∧ k = "ring") ∨ (f = 1 ∧ q = 1 ∧ k = "odd") ∨ (f = 2 ∧ q = 0 ∧ k = "open") ∨ (f = 0 ∧ q = 2 ∧ k = "shut")) (h1 : 1 ≤ s) :
    tgl r + r * f + tgl f + (if f = 0 ∧ q = 2 then r else 0) = inn1 k s ∧ (if f = 2 ∧ q = 0 then r + f else 0) = opn1 k s ∧ (if f = 0 ∧ q = 2 then r else 0) = sht1 k s := by
  subst hs
  unfold inn1 opn1 sht1
  rw [tgl_mul]
  have t0 : tgl 0 = 0 := rfl
  have t1 : tgl 1 = 0 := rfl
  have t2 : tgl 2 = 1 := rfl
  rcases hv with ⟨rfl, rfl, rfl⟩ | ⟨rfl, rfl, rfl⟩ | ⟨rfl, rfl, rfl⟩ | ⟨rfl, rfl, rfl⟩
  · have e : prc "ring" (0 + 2 * r) = r - 1 := by
      show (0 + 2 * r) / 2 - 1 = _
      omega
    rw [e, t0, if_neg (by decide), if_neg (by decide), if_neg (by decide +kernel), if_neg (by decide +kernel)]
    obtain ⟨m, rfl⟩ : ∃ m, r = m + 1 := ⟨r - 1, by omega⟩
    rw [tgl_succ, show m + 1 - 1 = m from rfl]
    exact ⟨by omega, rfl, rfl⟩
  · have e : prc "odd" (1 + 2 * r) = r := by
      show (1 + 2 * r) / 2 - 0 = _
      omega
    rw [e, t1, if_neg (by decide), if_neg (by decide), if_neg (by decide +kernel), if_neg (by decide +kernel)]
    exact ⟨by omega, rfl, rfl⟩
  · have e : prc "open" (2 + 2 * r) = r + 1 := by
      show (2 + 2 * r) / 2 - 0 = _
      omega
    rw [e, t2, if_neg (by decide), if_pos (by decide), if_pos rfl, if_neg (by decide +kernel), tgl_succ]
    exact ⟨by omega, rfl, rfl⟩
  · have e : prc "shut" (0 + 2 * r) = r := by
      show (0 + 2 * r) / 2 - 0 = _
      omega
    rw [e, t0, if_pos (by decide), if_neg (by decide), if_neg (by decide +kernel), if_pos rfl]
    exact ⟨by omega, rfl, rfl⟩
end
end TI
-- CT3
set_option Elab.async false
set_option linter.all false
set_option maxRecDepth 100000
set_option maxHeartbeats 4000000
/-! CT3: how many steps are good, by the pieces. -/
namespace TI
open PySem L2 DC
theorem prS_map {α β : Type} (F : β → β → Nat) (f : α → β) : ∀ l : List α, prS F (l.map f) = prS (fun x y => F (f x) (f y)) l
  | [] => rfl
  | x :: l => by
    show ((l.map f).map (F (f x))).sum + prS F (l.map f) = (l.map fun y => F (f x) (f y)).sum + prS (fun x y => F (f x) (f y)) l
    rw [prS_map F f l, List.map_map]
    rfl
noncomputable abbrev opV (n : Nat) (js ls : List J2) (x : Nat) : Nat := n1 (bd (Ks n js ls x 2 0))
noncomputable abbrev shV (n : Nat) (js ls : List J2) (x : Nat) : Nat := n1 (bd (Ks n js ls x 0 2))
section
variable {n : Nat} {js ls : List J2} {ps : List Pc} {fr : List Nat}
theorem op_sh (g : Good n js) (gl : Good n ls) (x : Nat) : opV n js ls x * shV n js ls x = 0 := by
  by_cases h : Ks n js ls x 2 0
  · rw [show shV n js ls x = 0 by
      show n1 (bd _) = 0
      rw [bd_f fun z => by have := ks_uniq g gl h z; omega]
      rfl]
    exact Nat.mul_zero _
  · rw [show opV n js ls x = 0 by
      show n1 (bd _) = 0
      rw [bd_f h]
      rfl]
    exact Nat.zero_mul _
theorem ks_bS (g : Good n js) (gl : Good n ls) {x y : Nat} (s : Sm js ls x y) (f q : Nat) : bd (Ks n js ls x f q) = bd (Ks n js ls y f q) :=
  bd_iff ⟨fun z => ks_sm g gl z s, fun z => ks_sm g gl z (sm_symm g gl s)⟩
theorem dueD_eq (g : Good n js) (gl : Good n ls) (u w : Nat) : dueD n js ls u w = n1 (bS js ls u w) + 2 * (opV n js ls u * shV n js ls w + shV n js ls u * opV n js ls w) := by
  unfold dueD
  by_cases s : Sm js ls u w
  · rw [show bS js ls u w = true from bd_t s, if_pos rfl]
    have e1 : shV n js ls w = shV n js ls u := by show n1 _ = n1 _; rw [ks_bS g gl s]
    have e2 : opV n js ls w = opV n js ls u := by show n1 _ = n1 _; rw [ks_bS g gl s]
    rw [e1, e2, Nat.mul_comm (shV n js ls u), op_sh g gl u]
    rfl
  · rw [show bS js ls u w = false from bd_f s, if_neg (by decide)]
    have h1 := op_sh g gl u
    have h2 := op_sh g gl w
    unfold opV shV at h1 h2 ⊢
    revert h1 h2
    cases bd (Ks n js ls u 2 0) <;> cases bd (Ks n js ls w 0 2) <;> cases bd (Ks n js ls u 0 2) <;> cases bd (Ks n js ls w 2 0) <;> decide
theorem dueS_eq (g : Good n js) (gl : Good n ls) (u w : Nat) : dueS n js ls u w = n1 (bS js ls u w) + 2 * (shV n js ls u * opV n js ls w) := by
  unfold dueS
  by_cases s : Sm js ls u w
  · rw [show bS js ls u w = true from bd_t s, if_pos rfl]
    have e2 : opV n js ls w = opV n js ls u := by show n1 _ = n1 _; rw [ks_bS g gl s]
    rw [e2, Nat.mul_comm (shV n js ls u), op_sh g gl u]
    rfl
  · rw [show bS js ls u w = false from bd_f s, if_neg (by decide)]
    unfold opV shV
    cases bd (Ks n js ls w 2 0) <;> cases bd (Ks n js ls u 0 2) <;> decide
theorem ks_hp (g : Good n js) (gl : Good n ls) {h : List Nat} (H : Hp1 n js ls h) {x : Nat} (hx : x ∈ h) (f q : Nat) : n1 (bd (Ks n js ls x f q)) = if cn js h = f ∧ cn ls h = q then 1 else 0 := by
  have k : Ks n js ls x (cn js h) (cn ls h) := ⟨h, H, hx, rfl, rfl⟩
  by_cases c : cn js h = f ∧ cn ls h = q
  · rw [if_pos c]
    obtain ⟨rfl, rfl⟩ := c
    rw [bd_t k]
    rfl
  · rw [if_neg c, bd_f fun z => c (ks_uniq g gl k z)]
    rfl
theorem fst_lt (g : Good n js) : ∀ x ∈ fsts js, x < 2 * n := by
  intro x hx
  obtain ⟨p, hp, rfl⟩ := List.mem_map.mp hx
  have := g.rng p hp
  omega
theorem tot_lab (W : IsWeb n js ls ps) (g : Good n js) (gl : Good n ls) (X : List Nat) (hX : ∀ x ∈ X, x < 2 * n) (f q : Nat) :
    (X.map fun x => n1 (bd (Ks n js ls x f q))).sum = (ps.map fun p => cnt p.2 X * if cn js p.2 = f ∧ cn ls p.2 = q then 1 else 0).sum := by
  have A := hq_web g gl W
  rw [sum_lab A _ (fun h => if cn js h = f ∧ cn ls h = q then 1 else 0) (fun h hh x hx => ks_hp g gl (A.cl h hh) hx f q) X hX, List.map_map]
  rfl
theorem pc_at (W : IsWeb n js ls ps) (g : Good n js) (gl : Good n ls) (nf : fr.Nodup) (hf : ∀ x, x ∈ fr ↔ x < 2 * n ∧ mt js x = none) {p : Pc} (hp : p ∈ ps) :
    tgl (cnt p.2 (fsts js)) + cnt p.2 (fsts js) * cnt p.2 fr + tgl (cnt p.2 fr) + (cnt p.2 (fsts js) * if cn js p.2 = 0 ∧ cn ls p.2 = 2 then 1 else 0) = inn1 p.1 p.2.length ∧
    (cnt p.2 (fsts js) * if cn js p.2 = 2 ∧ cn ls p.2 = 0 then 1 else 0) + (cnt p.2 fr * if cn js p.2 = 2 ∧ cn ls p.2 = 0 then 1 else 0) = opn1 p.1 p.2.length ∧
    (cnt p.2 (fsts js) * if cn js p.2 = 0 ∧ cn ls p.2 = 2 then 1 else 0) = sht1 p.1 p.2.length := by
  have wp := (W.mem p).mp hp
  obtain ⟨a, ha, c, _⟩ := id wp
  have H : Hp1 n js ls p.2 := ⟨a, ha, c⟩
  have sz := hp_size g gl H
  have fc := free_cnt nf hf H
  have pos : 1 ≤ p.2.length := List.length_pos_of_mem c.beg
  rw [fc]
  obtain ⟨i1, i2, i3⟩ := piece_in (r := cnt p.2 (fsts js)) sz (wpc_cnt g gl wp) pos
  have m : ∀ (c : Prop) [Decidable c] (x : Nat), (x * if c then 1 else 0) = if c then x else 0 := fun c _ x => by split <;> omega
  rw [m, m, m]
  refine ⟨i1, ?_, i3⟩
  rw [← i2]
  split <;> rfl
theorem tot_sh (W : IsWeb n js ls ps) (g : Good n js) (gl : Good n ls) (nf : fr.Nodup) (hf : ∀ x, x ∈ fr ↔ x < 2 * n ∧ mt js x = none) : ((fsts js).map (shV n js ls)).sum = (ps.map fun p => sht1 p.1 p.2.length).sum := by
  rw [tot_lab W g gl _ (fst_lt g)]
  congr 1
  exact List.map_congr_left fun p hp => (pc_at W g gl nf hf hp).2.2
theorem tot_op (W : IsWeb n js ls ps) (g : Good n js) (gl : Good n ls) (nf : fr.Nodup) (hf : ∀ x, x ∈ fr ↔ x < 2 * n ∧ mt js x = none) : ((fsts js).map (opV n js ls)).sum + (fr.map (opV n js ls)).sum = (ps.map fun p => opn1 p.1 p.2.length).sum := by
  rw [tot_lab W g gl _ (fst_lt g), tot_lab W g gl _ fun x hx => ((hf x).mp hx).1, ← sum_map_add]
  congr 1
  exact List.map_congr_left fun p hp => (pc_at W g gl nf hf hp).2.1
noncomputable def inTot (n : Nat) (js ls : List J2) (fr : List Nat) : Nat :=
  prS (fun x y => n1 (bS js ls x y)) (fsts js) + ((fsts js).map fun x => (fr.map fun y => n1 (bS js ls x y)).sum).sum + prS (fun x y => n1 (bS js ls x y)) fr + ((fsts js).map (shV n js ls)).sum
theorem tot_in (W : IsWeb n js ls ps) (g : Good n js) (gl : Good n ls) (nf : fr.Nodup) (hf : ∀ x, x ∈ fr ↔ x < 2 * n ∧ mt js x = none) : inTot n js ls fr = (ps.map fun p => inn1 p.1 p.2.length).sum := by
  have A := hq_web g gl W
  unfold inTot
  rw [pr_sum g gl A _ (fst_lt g), cross_sum g gl A fr _ (fst_lt g), pr_sum g gl A fr fun x hx => ((hf x).mp hx).1, tot_lab W g gl _ (fst_lt g), List.map_map, List.map_map, List.map_map, ← sum_map_add, ← sum_map_add, ← sum_map_add]
  congr 1
  exact List.map_congr_left fun p hp => (pc_at W g gl nf hf hp).1
/-- all that are good: within pieces, and across -/
noncomputable def gdTot (n : Nat) (js ls : List J2) (fr : List Nat) : Nat :=
  prS (fun x y => dueD n js ls x y) (fsts js) + ((fsts js).map fun x => (fr.map fun y => dueS n js ls x y).sum).sum + prS (fun x y => n1 (bS js ls x y)) fr + ((fsts js).map (shV n js ls)).sum
theorem tot_gd (g : Good n js) (gl : Good n ls) : gdTot n js ls fr = inTot n js ls fr + 2 * (((fsts js).map (opV n js ls)).sum + (fr.map (opV n js ls)).sum) * ((fsts js).map (shV n js ls)).sum := by
  unfold gdTot inTot
  have e1 : prS (fun x y => dueD n js ls x y) (fsts js) = prS (fun x y => n1 (bS js ls x y)) (fsts js) + 2 * (((fsts js).map (opV n js ls)).sum * ((fsts js).map (shV n js ls)).sum) := by
    rw [← prS_prod (opV n js ls) (shV n js ls) (fsts js) fun x _ => op_sh g gl x, ← prS_mul, ← prS_add]
    rw [show (fun x y => dueD n js ls x y) = fun x y => n1 (bS js ls x y) + 2 * (opV n js ls x * shV n js ls y + shV n js ls x * opV n js ls y) from funext fun x => funext fun y => dueD_eq g gl x y]
  have e2 : ((fsts js).map fun x => (fr.map fun y => dueS n js ls x y).sum).sum = ((fsts js).map fun x => (fr.map fun y => n1 (bS js ls x y)).sum).sum + 2 * (((fsts js).map (shV n js ls)).sum * (fr.map (opV n js ls)).sum) := by
    have h : ∀ x, (fr.map fun y => dueS n js ls x y).sum = (fr.map fun y => n1 (bS js ls x y)).sum + (2 * (fr.map (opV n js ls)).sum) * shV n js ls x := fun x => by
      rw [show (fun y => dueS n js ls x y) = fun y => n1 (bS js ls x y) + (2 * shV n js ls x) * opV n js ls y from funext fun y => by rw [dueS_eq g gl, Nat.mul_assoc], sum_map_add, sum_map_mul]
      congr 1
      rw [Nat.mul_right_comm]
    rw [show (fun x => (fr.map fun y => dueS n js ls x y).sum) = fun x => (fr.map fun y => n1 (bS js ls x y)).sum + (2 * (fr.map (opV n js ls)).sum) * shV n js ls x from funext h, sum_map_add, sum_map_mul]
    congr 1
    rw [Nat.mul_assoc, Nat.mul_comm (fr.map (opV n js ls)).sum]
  rw [e1, e2]
  generalize ((fsts js).map (opV n js ls)).sum = a
  generalize ((fsts js).map (shV n js ls)).sum = b
  generalize (fr.map (opV n js ls)).sum = c
  rw [Nat.mul_assoc 2 (a + c) b, Nat.add_mul, Nat.mul_comm b c]
  omega
end
end TI
-- HV
set_option Elab.async false
set_option linter.all false
set_option maxRecDepth 100000
set_option maxHeartbeats 4000000
/-! HV: webs with the lay of all twins: how many of the pieces have an odd number of ties, and what a join does to that. -/
namespace TI
open PySem L2 DC
/-- the lay of all twins -/
def tau (N : Nat) : List J2 := (List.range N).map fun i => (i, i + N)
def tnN (N e : Nat) : Nat := if e < N then e + N else e - N
theorem tau_good {N : Nat} (h1 : 1 ≤ N) (h2 : N ≤ 12) : Good N (tau N) := by
  refine ⟨h1, h2, fun p hp => ?_, ?_, ?_⟩
  · obtain ⟨i, hi, rfl⟩ := List.mem_map.mp hp
    have := List.mem_range.mp hi
    dsimp only
    omega
  · unfold tau
    rw [List.pairwise_map]
    exact List.pairwise_lt_range
  · unfold tau
    rw [List.pairwise_map]
    refine List.Pairwise.imp_of_mem (fun {a b} ha hb lt => ?_) (List.pairwise_lt_range (n := N))
    have := List.mem_range.mp ha
    have := List.mem_range.mp hb
    unfold DC.Apart
    dsimp only
    omega
theorem mt_tau {N e : Nat} (he : e < 2 * N) : mt (tau N) e = some (tnN N e) := by
  have dis : (tau N).Pairwise DC.Apart := by
    unfold tau
    rw [List.pairwise_map]
    refine List.Pairwise.imp_of_mem (fun {a b} ha hb lt => ?_) (List.pairwise_lt_range (n := N))
    have := List.mem_range.mp ha
    have := List.mem_range.mp hb
    unfold DC.Apart
    dsimp only
    omega
  have ne : ∀ p ∈ tau N, p.1 ≠ p.2 := fun p hp => by
    obtain ⟨i, hi, rfl⟩ := List.mem_map.mp hp
    have := List.mem_range.mp hi
    dsimp only
    omega
  by_cases c : e < N
  · have hp : (e, e + N) ∈ tau N := List.mem_map.mpr ⟨e, List.mem_range.mpr c, rfl⟩
    rw [(mt_of dis ne hp).1]
    unfold tnN
    rw [if_pos c]
  · have hp : (e - N, (e - N) + N) ∈ tau N := List.mem_map.mpr ⟨e - N, List.mem_range.mpr (by omega), rfl⟩
    have h := (mt_of dis ne hp).2
    rw [show e - N + N = e by omega] at h
    rw [h]
    unfold tnN
    rw [if_neg c]
theorem tn_lt {N e : Nat} (h : e < 2 * N) : tnN N e < 2 * N := by
  unfold tnN
  split <;> omega
theorem tn_tn {N e : Nat} (h : e < 2 * N) : tnN N (tnN N e) = e := by
  unfold tnN
  split <;> split <;> omega
theorem tn_ne {N e : Nat} (h : e < 2 * N) : tnN N e ≠ e := by
  unfold tnN
  split <;> omega
section
variable {n : Nat} {js js' ls : List J2} {e e' : Nat}
theorem cn_tau {h : List Nat} (H : Hp1 n js (tau n) h) : cn (tau n) h = 0 := by
  obtain ⟨a, ha, c⟩ := H
  unfold cn
  rw [List.countP_eq_zero]
  intro x hx
  rw [mt_tau (c.lt x hx)]
  exact Bool.false_ne_true
theorem tg (g : Good n js) : Good n (tau n) := tau_good g.one g.top
theorem hp2 (g : Good n js) {h : List Nat} (H : Hp1 n js (tau n) h) : cn js h = 0 ∨ cn js h = 2 := by
  have := hp_cnt g (tg g) H
  have := cn_tau H
  omega
theorem hp_even (g : Good n js) {h : List Nat} (H : Hp1 n js (tau n) h) : h.length % 2 = 0 := by
  have := hp_size g (tg g) H
  have := hp2 g H
  omega
/-- an odd number of ties -/
def od (h : List Nat) : Bool := decide (h.length / 2 % 2 = 1)
theorem od_perm {h k : List Nat} (p : h.Perm k) : od h = od k := by
  unfold od
  rw [p.length_eq]
def w2 (js : List J2) (h : List Nat) : Nat := if cn js h = 0 then (if od h then 0 else 2) else (if od h then 1 else 0)
theorem w2_perm {h k : List Nat} (p : h.Perm k) : w2 js h = w2 js k := by
  unfold w2
  rw [od_perm p, cn_perm p]
def fS (js : List J2) (hs : List (List Nat)) : Nat := (hs.map (w2 js)).sum
theorem hp_uniq_map (g : Good n js) (gl : Good n ls) {α : Type} (F : List Nat → α) (hF : ∀ h k, h.Perm k → F h = F k) : ∀ hs hs' : List (List Nat), (∀ h ∈ hs, Hp1 n js ls h) → (∀ h ∈ hs', Hp1 n js ls h) →
    hs.Pairwise (fun h h' => ∀ e, e ∈ h → e ∉ h') → hs'.Pairwise (fun h h' => ∀ e, e ∈ h → e ∉ h') → (∀ e, (∃ h ∈ hs, e ∈ h) ↔ ∃ h ∈ hs', e ∈ h) → (hs.map F).Perm (hs'.map F)
  | [], hs', _, c2, _, _, cov => by
    cases hs' with
    | nil => exact .refl _
    | cons k r =>
      obtain ⟨a, _, c⟩ := c2 k List.mem_cons_self
      obtain ⟨h, hh, _⟩ := (cov a).mpr ⟨k, List.mem_cons_self, c.beg⟩
      exact absurd hh List.not_mem_nil
  | h :: r, hs', c1, c2, d1, d2, cov => by
    have H := c1 h List.mem_cons_self
    obtain ⟨a, _, c⟩ := id H
    obtain ⟨k, hk, ak⟩ := (cov a).mp ⟨h, List.mem_cons_self, c.beg⟩
    have pm := hp_same g gl H (c2 k hk) c.beg ak
    have pe := List.perm_cons_erase hk
    have d2' := List.pairwise_cons.mp ((pe.pairwise_iff (fun {x y} d e h1 h2 => d e h2 h1)).mp d2)
    have d1' := List.pairwise_cons.mp d1
    have ih := hp_uniq_map g gl F hF r (hs'.erase k) (fun x hx => c1 x (List.mem_cons_of_mem _ hx)) (fun x hx => c2 x (List.mem_of_mem_erase hx)) d1'.2 d2'.2 (fun e => ⟨fun ⟨x, hx, ex⟩ => by
        obtain ⟨y, hy, ey⟩ := (cov e).mp ⟨x, List.mem_cons_of_mem _ hx, ex⟩
        rcases List.mem_cons.mp (pe.mem_iff.mp hy) with rfl | hy'
        · exact absurd ex (d1'.1 x hx e (pm.mem_iff.mpr ey))
        · exact ⟨y, hy', ey⟩, fun ⟨y, hy, ey⟩ => by
        obtain ⟨x, hx, ex⟩ := (cov e).mpr ⟨y, List.mem_of_mem_erase hy, ey⟩
        rcases List.mem_cons.mp hx with rfl | hx'
        · exact absurd ey (d2'.1 y hy e (pm.mem_iff.mp ex))
        · exact ⟨x, hx', ex⟩⟩)
    refine List.Perm.trans ?_ ((pe.map F).symm)
    rw [List.map_cons, List.map_cons, hF h k pm]
    exact ih.cons _
theorem hq_map (g : Good n js) (gl : Good n ls) {hs hs' : List (List Nat)} (A : Hq n js ls hs) (B : Hq n js ls hs') {α : Type} (F : List Nat → α) (hF : ∀ h k, h.Perm k → F h = F k) : (hs.map F).Perm (hs'.map F) := by
  refine hp_uniq_map g gl F hF hs hs' A.cl B.cl A.dis B.dis fun e => ⟨fun ⟨h, hh, he⟩ => B.cov e ?_, fun ⟨h, hh, he⟩ => A.cov e ?_⟩
  · obtain ⟨a, _, c⟩ := A.cl h hh
    exact c.lt e he
  · obtain ⟨a, _, c⟩ := B.cl h hh
    exact c.lt e he
open Classical in
/-- twice the even rings, and the odd paths -/
noncomputable def fJ (n : Nat) (js : List J2) : Nat := if h : ∃ hs, Hq n js (tau n) hs then fS js h.choose else 0
theorem fJ_eq (g : Good n js) {hs : List (List Nat)} (A : Hq n js (tau n) hs) : fJ n js = fS js hs := by
  unfold fJ
  have h : ∃ hs, Hq n js (tau n) hs := ⟨hs, A⟩
  rw [dif_pos h]
  exact sum_perm (hq_map g (tg g) h.choose_spec A (w2 js) fun _ _ p => w2_perm p)
noncomputable def oP (n : Nat) (js : List J2) (x : Nat) : Bool := bd (∃ h, Hp1 n js (tau n) h ∧ x ∈ h ∧ od h = true)
theorem oP_eq (g : Good n js) {h : List Nat} (H : Hp1 n js (tau n) h) {x : Nat} (hx : x ∈ h) : oP n js x = od h := by
  unfold oP
  cases c : od h with
  | true => exact bd_t ⟨h, H, hx, c⟩
  | false =>
    refine bd_f fun ⟨k, K, kx, o⟩ => ?_
    rw [od_perm (hp_same g (tg g) K H kx hx), c] at o
    exact nomatch o
theorem od_app {h k : List Nat} (h1 : h.length % 2 = 0) (h2 : k.length % 2 = 0) : od (h ++ k) = (od h ^^ od k) := by
  unfold od
  rw [List.length_append]
  by_cases c1 : h.length / 2 % 2 = 1 <;> by_cases c2 : k.length / 2 % 2 = 1
  · rw [decide_eq_true c1, decide_eq_true c2, decide_eq_false (by omega)]; rfl
  · rw [decide_eq_true c1, decide_eq_false c2, decide_eq_true (by omega)]; rfl
  · rw [decide_eq_false c1, decide_eq_true c2, decide_eq_true (by omega)]; rfl
  · rw [decide_eq_false c1, decide_eq_false c2, decide_eq_false (by omega)]; rfl
def dh (s a b : Bool) : Int := if s then (if a then -1 else 2) else if a && b then -2 else 0
theorem sum_off2 (J : Jn js js' e e') {hs : List (List Nat)} (h : ∀ h ∈ hs, e ∉ h ∧ e' ∉ h) : fS js' hs = fS js hs := by
  unfold fS
  congr 1
  refine List.map_congr_left fun k hk => ?_
  unfold w2
  rw [cn_off J (h k hk).1 (h k hk).2]
theorem fS_cons (h : List Nat) (r : List (List Nat)) : fS js (h :: r) = w2 js h + fS js r := by
  unfold fS
  rw [List.map_cons, List.sum_cons]
theorem w2_path {h : List Nat} (c : cn js h = 2) : w2 js h = if od h then 1 else 0 := by
  unfold w2
  rw [if_neg (by omega)]
theorem w2_ring {h : List Nat} (c : cn js h = 0) : w2 js h = if od h then 0 else 2 := by
  unfold w2
  rw [if_pos c]
theorem cn_pos {h : List Nat} {x : Nat} (hx : x ∈ h) (fx : mt js x = none) : 1 ≤ cn js h := by
  rw [cn_split hx, fx]
  exact Nat.le_add_left _ _
theorem jn_f (J : Jn js js' e e') (g : Good n js) (g' : Good n js') (he : e < 2 * n) (he' : e' < 2 * n) :
    ((fJ n js' : Nat) : Int) = (fJ n js : Nat) + dh (bS js (tau n) e e') (oP n js e) (oP n js e') := by
  have gl := tg g
  obtain ⟨hs, A0⟩ := hq_ex g gl
  obtain ⟨h, r, A, hm, _⟩ := hq_front A0 he
  have H := A.cl h List.mem_cons_self
  have d := List.pairwise_cons.mp A.dis
  obtain ⟨a, ha, c⟩ := id H
  have mem := hp_mem g gl H hm e'
  have o1 := oP_eq g H hm
  have z1 := hp2 g H
  have q1 := cn_pos hm J.f1
  by_cases s : Sm js (tau n) e e'
  · have h2 := mem.mpr s
    have A' := hq_same J g g' gl A hm h2
    have t := cn_two J c.nd hm h2
    have off := sum_off2 (js := js) (js' := js') J (hs := r) fun k hk => ⟨d.1 k hk e hm, d.1 k hk e' h2⟩
    rw [fJ_eq g A, fJ_eq g' A', fS_cons, fS_cons, off, w2_path (js := js) (by omega), w2_ring (js := js') (by omega), o1, show bS js (tau n) e e' = true from bd_t s]
    cases od h <;> simp only [dh, if_true, Bool.false_eq_true, if_false] <;> omega
  · have n1 : e' ∉ h := fun z => s (mem.mp z)
    obtain ⟨k, q, B, km, _⟩ := hq_front2 A he' n1
    have Kp := B.cl k (List.mem_cons_of_mem _ List.mem_cons_self)
    have db := List.pairwise_cons.mp B.dis
    have db2 := List.pairwise_cons.mp db.2
    obtain ⟨b, hb, cb⟩ := id Kp
    have n2 : e ∉ k := db.1 k List.mem_cons_self e hm
    have A' := hq_diff J g g' gl B hm km
    have off := sum_off2 (js := js) (js' := js') J (hs := q) fun x hx => ⟨db.1 x (List.mem_cons_of_mem _ hx) e hm, db2.1 x hx e' km⟩
    have t1 := cn_one J c.nd hm n1
    have t2 := cn_one J.symm cb.nd km n2
    have z2 := hp2 g Kp
    have q2 := cn_pos km J.f2
    have o2 := oP_eq g Kp km
    rw [fJ_eq g B, fJ_eq g' A', fS_cons, fS_cons, fS_cons, off, w2_path (js := js) (h := h) (by omega), w2_path (js := js) (h := k) (by omega), w2_path (js := js') (h := h ++ k) (by rw [cn_app]; omega), od_app (hp_even g H) (hp_even g Kp), o1, o2, show bS js (tau n) e e' = false from bd_f s]
    cases od h <;> cases od k <;> simp only [dh, if_true, Bool.false_eq_true, if_false, Bool.and_self, Bool.and_false, Bool.false_and, Bool.xor_self, Bool.xor_true, Bool.xor_false, Bool.true_xor, Bool.false_xor, Bool.not_false, Bool.not_true] <;> omega
theorem hp_ex (g : Good n js) {x : Nat} (hx : x < 2 * n) : ∃ h, Hp1 n js (tau n) h ∧ x ∈ h := by
  obtain ⟨_, _, h, H, hm, _⟩ := ks_ex g (tg g) hx
  exact ⟨h, H, hm⟩
theorem jn_op (J : Jn js js' e e') (g : Good n js) (g' : Good n js') (he : e < 2 * n) (he' : e' < 2 * n) {x : Nat} (hx : x < 2 * n) :
    oP n js' x = if (bS js (tau n) x e || bS js (tau n) x e') && !bS js (tau n) e e' then (oP n js e ^^ oP n js e') else oP n js x := by
  have gl := tg g
  obtain ⟨h, H, hm⟩ := hp_ex g he
  obtain ⟨k, Kp, km⟩ := hp_ex g he'
  obtain ⟨t, T, tm⟩ := hp_ex g hx
  by_cases s : Sm js (tau n) e e'
  · rw [show bS js (tau n) e e' = true from bd_t s, Bool.not_true, Bool.and_false, if_neg (by decide)]
    have h2 := (hp_mem g gl H hm e').mpr s
    by_cases m : x ∈ h
    · rw [oP_eq g H m, oP_eq g' (hp_join_same J g g' gl H hm h2) m]
    · have p1 : e ∉ t := fun z => m ((hp_mem g gl H hm x).mpr ((hp_mem g gl T z x).mp tm))
      have p2 : e' ∉ t := fun z => m ((hp_mem g gl H h2 x).mpr ((hp_mem g gl T z x).mp tm))
      rw [oP_eq g T tm, oP_eq g' (hp_join_off J g g' gl T p1 p2) tm]
  · rw [show bS js (tau n) e e' = false from bd_f s, Bool.not_false, Bool.and_true]
    by_cases m : bS js (tau n) x e = true ∨ bS js (tau n) x e' = true
    · rw [if_pos (by rw [Bool.or_eq_true]; exact m), oP_eq g H hm, oP_eq g Kp km, ← od_app (hp_even g H) (hp_even g Kp)]
      refine oP_eq g' (hp_join_diff J g g' gl H Kp hm km s) ?_
      rw [List.mem_append]
      rcases m with m | m
      · exact .inl ((hp_mem g gl H hm x).mpr (sm_symm g gl (bd_p m)))
      · exact .inr ((hp_mem g gl Kp km x).mpr (sm_symm g gl (bd_p m)))
    · rw [if_neg (by rw [Bool.or_eq_true]; exact m)]
      have p1 : e ∉ t := fun z => m (.inl (bd_t ((hp_mem g gl T tm e).mp z)))
      have p2 : e' ∉ t := fun z => m (.inr (bd_t ((hp_mem g gl T tm e').mp z)))
      rw [oP_eq g T tm, oP_eq g' (hp_join_off J g g' gl T p1 p2) tm]
theorem oP_sm (g : Good n js) {x y : Nat} (hx : x < 2 * n) (s : Sm js (tau n) x y) : oP n js y = oP n js x := by
  obtain ⟨h, H, hm⟩ := hp_ex g hx
  rw [oP_eq g H hm, oP_eq g H ((hp_mem g (tg g) H hm y).mpr s)]
end
/-! two joins -/
def d2 (uv uw uz vw vz wz pu pv pw pz : Bool) : Int := dh uv pu pv + dh (wz || ((uw && vz) || (vw && uz))) (if (uw || vw) && !uv then (pu ^^ pv) else pw) (if (uz || vz) && !uv then (pu ^^ pv) else pz)
section
variable {n : Nat} {j0 j1 j2 : List J2} {u v w z : Nat}
theorem d2_f (F : F4 n j0 u v w z) (J1 : Jn j0 j1 u v) (J2' : Jn j1 j2 w z) (g0 : Good n j0) (g1 : Good n j1) (g2 : Good n j2) :
    ((fJ n j2 : Nat) : Int) = (fJ n j0 : Nat) + d2 (bS j0 (tau n) u v) (bS j0 (tau n) u w) (bS j0 (tau n) u z) (bS j0 (tau n) v w) (bS j0 (tau n) v z) (bS j0 (tau n) w z) (oP n j0 u) (oP n j0 v) (oP n j0 w) (oP n j0 z) := by
  have gl := tg g0
  have h1 := jn_f J1 g0 g1 F.lu F.lv
  have h2 := jn_f J2' g1 g2 F.lw F.lz
  have s2 : bS j1 (tau n) w z = (bS j0 (tau n) w z || ((bS j0 (tau n) u w && bS j0 (tau n) v z) || (bS j0 (tau n) v w && bS j0 (tau n) u z))) := by
    show bd _ = _
    rw [jn_sm J1 g1 gl, bs g0 gl w u, bs g0 gl w v]
  rw [s2, jn_op J1 g0 g1 F.lu F.lv F.lw, jn_op J1 g0 g1 F.lu F.lv F.lz, bsS g0 gl w u, bsS g0 gl w v, bsS g0 gl z u, bsS g0 gl z v] at h2
  unfold d2
  omega
def okP (uv uw uz vw vz wz pu pv pw pz : Bool) : Bool :=
  (!uv || (!uw && !uz && !vw && !vz && (pu == pv))) && (!uw || (!uz && !vw && !wz && (pu == pw))) && (!uz || (!vz && !wz && (pu == pz))) && (!vw || (!vz && !wz && (pv == pw))) && (!vz || (!wz && (pv == pz))) && (!wz || (pw == pz))
theorem okP_real (F : F4 n j0 u v w z) (g0 : Good n j0) : okP (bS j0 (tau n) u v) (bS j0 (tau n) u w) (bS j0 (tau n) u z) (bS j0 (tau n) v w) (bS j0 (tau n) v z) (bS j0 (tau n) w z) (oP n j0 u) (oP n j0 v) (oP n j0 w) (oP n j0 z) = true := by
  have gl := tg g0
  have imp : ∀ {a b : Bool}, (a = true → b = true) → (!a || b) = true := fun {a b} h => by cases a <;> simp_all
  have pe : ∀ {x y : Nat}, x < 2 * n → bS j0 (tau n) x y = true → (oP n j0 x == oP n j0 y) = true := fun {x y} hx s => by
    rw [oP_sm g0 hx (bd_p s)]
    exact beq_self_eq_true _
  have sy : ∀ {x y : Nat}, bS j0 (tau n) x y = true → bS j0 (tau n) y x = true := fun {x y} s => by rw [bsS g0 gl]; exact s
  unfold okP
  simp only [Bool.and_eq_true]
  refine ⟨⟨⟨⟨⟨imp fun s => ?_, imp fun s => ?_⟩, imp fun s => ?_⟩, imp fun s => ?_⟩, imp fun s => ?_⟩, imp fun s => ?_⟩
  · rw [k3 g0 gl F.lu F.fu F.fv F.fw F.uv F.uw F.vw s, k3 g0 gl F.lu F.fu F.fv F.fz F.uv F.uz F.vz s, k3 g0 gl F.lv F.fv F.fu F.fw F.uv.symm F.vw F.uw (sy s), k3 g0 gl F.lv F.fv F.fu F.fz F.uv.symm F.vz F.uz (sy s), pe F.lu s]
    rfl
  · rw [k3 g0 gl F.lu F.fu F.fw F.fz F.uw F.uz F.wz s, bsS g0 gl v w, k3 g0 gl F.lw F.fw F.fu F.fv F.uw.symm F.vw.symm F.uv (sy s), k3 g0 gl F.lw F.fw F.fu F.fz F.uw.symm F.wz F.uz (sy s), pe F.lu s]
    rfl
  · rw [bsS g0 gl v z, bsS g0 gl w z, k3 g0 gl F.lz F.fz F.fu F.fv F.uz.symm F.vz.symm F.uv (sy s), k3 g0 gl F.lz F.fz F.fu F.fw F.uz.symm F.wz.symm F.uw (sy s), pe F.lu s]
    rfl
  · rw [k3 g0 gl F.lv F.fv F.fw F.fz F.vw F.vz F.wz s, k3 g0 gl F.lw F.fw F.fv F.fz F.vw.symm F.wz F.vz (sy s), pe F.lv s]
    rfl
  · rw [bsS g0 gl w z, k3 g0 gl F.lz F.fz F.fv F.fw F.vz.symm F.wz.symm F.vw (sy s), pe F.lv s]
    rfl
  · exact pe F.lw s
/-- however two joints are joined anew, it changes by two at most -/
theorem finL : ∀ uv uw uz vw vz wz pu pv pw pz : Bool, okP uv uw uz vw vz wz pu pv pw pz = true →
    (decide (-2 ≤ d2 uw uv uz vw wz vz pu pw pv pz - d2 uv uw uz vw vz wz pu pv pw pz) && decide (d2 uw uv uz vw wz vz pu pw pv pz - d2 uv uw uz vw vz wz pu pv pw pz ≤ 2) && decide (-2 ≤ d2 uz uv uw vz wz vw pu pz pv pw - d2 uv uw uz vw vz wz pu pv pw pz) && decide (d2 uz uv uw vz wz vw pu pz pv pw - d2 uv uw uz vw vz wz pu pv pw pz ≤ 2)) = true := by decide +kernel
theorem finS : ∀ uv ue ve pu pv pe : Bool, ((!uv || (!ue && !ve && (pu == pv))) && (!ue || (!ve && (pu == pe))) && (!ve || (pv == pe))) = true →
    (decide (-2 ≤ dh ue pu pe - dh uv pu pv) && decide (dh ue pu pe - dh uv pu pv ≤ 2)) = true := by decide +kernel
theorem finD : ∀ s a b : Bool, (decide (-2 ≤ dh s a b) && decide (dh s a b ≤ 2)) = true := by decide +kernel
/-- a ring of two ties comes apart -/
theorem finG : ∀ uv uw uz vw vz wz pu pv pw pz : Bool, okP uv uw uz vw vz wz pu pv pw pz = true → vw = true → pv = false →
    d2 uz uv uw vz wz vw pu pz pv pw = d2 uv uw uz vw vz wz pu pv pw pz + 2 := by decide +kernel
theorem finGa : ∀ uv uw uz vw vz wz pu pv pw pz : Bool, okP uv uw uz vw vz wz pu pv pw pz = true → (uw = true ∧ pu = false) ∨ (vz = true ∧ pv = false) →
    d2 uw uv uz vw wz vz pu pw pv pz = d2 uv uw uz vw vz wz pu pv pw pz + 2 := by decide +kernel
theorem finGb : ∀ uv uw uz vw vz wz pu pv pw pz : Bool, okP uv uw uz vw vz wz pu pv pw pz = true → (uz = true ∧ pu = false) ∨ (vw = true ∧ pv = false) →
    d2 uz uv uw vz wz vw pu pz pv pw = d2 uv uw uz vw vz wz pu pv pw pz + 2 := by decide +kernel
/-- two rings of an odd number of ties become one -/
theorem finO : ∀ uv uw uz vw vz wz pu pv pw pz : Bool, okP uv uw uz vw vz wz pu pv pw pz = true → uv = true → wz = true → pu = true → pw = true →
    d2 uw uv uz vw wz vz pu pw pv pz = d2 uv uw uz vw vz wz pu pv pw pz + 2 := by decide +kernel
end
end TI
-- HV2
set_option Elab.async false
set_option linter.all false
set_option maxRecDepth 100000
set_option maxHeartbeats 4000000
/-! HV2: how many odd pieces there are at most, and when there are so many. -/
namespace TI
open PySem L2 DC
/-- each joint is one of two that are twins -/
def TwOk (n : Nat) (js : List J2) : Prop := ∀ p ∈ js, tnN n p.1 ≠ p.2 ∧ mt js (tnN n p.1) = some (tnN n p.2)
section
variable {n : Nat} {js : List J2}
theorem hq_len {ls : List J2} {hs : List (List Nat)} (A : Hq n js ls hs) : (hs.map List.length).sum = 2 * n := by
  have h := sum_lab A (fun _ => 1) (fun _ => 1) (fun _ _ _ _ => rfl) (List.range (2 * n)) fun x hx => List.mem_range.mp hx
  rw [List.map_const', List.sum_replicate_nat, List.length_range, Nat.mul_one] at h
  rw [h]
  congr 1
  refine List.map_congr_left fun k hk => ?_
  obtain ⟨a, ha, c⟩ := A.cl k hk
  rw [Nat.mul_one, cnt_swap c.nd List.nodup_range]
  refine (List.countP_eq_length.mpr fun x hx => ?_).symm
  exact decide_eq_true (List.mem_range.mpr (c.lt x hx))
theorem hp_pos {ls : List J2} {h : List Nat} (H : Hp1 n js ls h) : 1 ≤ h.length := by
  obtain ⟨a, _, c⟩ := H
  exact List.length_pos_of_mem c.beg
theorem w2_le (g : Good n js) {h : List Nat} (H : Hp1 n js (tau n) h) : 2 * w2 js h ≤ h.length := by
  have h1 := hp_even g H
  have h2 := hp_pos H
  have h3 := hp2 g H
  have h4 := hp_size g (tg g) H
  unfold w2
  by_cases c : od h = true
  · rw [if_pos c, if_pos c]
    split <;> omega
  · rw [if_neg c, if_neg c]
    have : ¬ h.length / 2 % 2 = 1 := fun z => c (decide_eq_true z)
    split <;> omega
theorem sums_le {α : Type} (F G : α → Nat) : ∀ l : List α, (∀ x ∈ l, F x ≤ G x) → (l.map F).sum ≤ (l.map G).sum ∧ ((l.map F).sum = (l.map G).sum → ∀ x ∈ l, F x = G x)
  | [], _ => ⟨Nat.le_refl _, fun _ x hx => absurd hx List.not_mem_nil⟩
  | a :: l, h => by
    have ih := sums_le F G l fun x hx => h x (List.mem_cons_of_mem _ hx)
    have ha := h a List.mem_cons_self
    simp only [List.map_cons, List.sum_cons]
    refine ⟨by omega, fun e x hx => ?_⟩
    rcases List.mem_cons.mp hx with rfl | hx
    · omega
    · exact ih.2 (by omega) x hx
theorem dbl_sum (l : List (List Nat)) : (l.map fun h => 2 * w2 js h).sum = 2 * fS js l := by
  unfold fS
  exact sum_map_mul 2 (w2 js) l
theorem f_le (g : Good n js) : fJ n js ≤ n := by
  obtain ⟨hs, A⟩ := hq_ex g (tg g)
  have := (sums_le (fun h => 2 * w2 js h) List.length hs fun h hh => w2_le g (A.cl h hh)).1
  rw [dbl_sum, hq_len A] at this
  rw [fJ_eq g A]
  omega
/-- a heap by its members -/
theorem hp_set (g : Good n js) {h S : List Nat} (H : Hp1 n js (tau n) h) {a : Nat} (ha : a ∈ h) (nd : S.Nodup) (aS : a ∈ S) (re : ∀ x ∈ S, Sm js (tau n) a x) (cl : ∀ x ∈ S, ∀ y, Nb (mt js) (mt (tau n)) x y → y ∈ S) : h.Perm S := by
  have m := hp_mem g (tg g) H ha
  obtain ⟨b, _, c⟩ := H
  refine (List.perm_ext_iff_of_nodup c.nd nd).mpr fun x => ?_
  rw [m x]
  exact ⟨fun s => cl_closed (S := fun x => x ∈ S) aS (fun x y hx nb => cl x hx y nb) s, re x⟩
theorem nb_tau {x y : Nat} (hx : x < 2 * n) : Nb (mt js) (mt (tau n)) x y ↔ mt js x = some y ∨ y = tnN n x := by
  unfold Nb
  rw [mt_tau hx, Option.some.injEq]
  exact ⟨fun h => h.imp id Eq.symm, fun h => h.imp id Eq.symm⟩
theorem sm_tau {x : Nat} (hx : x < 2 * n) : Sm js (tau n) x (tnN n x) := .step .base ((nb_tau hx).mpr (.inr rfl))
theorem sm_mt {x y : Nat} (h : mt js x = some y) : Sm js (tau n) x y := .step .base (.inl h)
theorem f_tw2 (g : Good n js) (T : TwOk n js) : fJ n js = n := by
  have M := g.mt
  obtain ⟨hs, A⟩ := hq_ex g (tg g)
  have tw : ∀ {u v : Nat}, mt js u = some v → tnN n u ≠ v ∧ mt js (tnN n u) = some (tnN n v) := fun {u v} e => by
    obtain ⟨p, hp, ⟨rfl, rfl⟩ | ⟨rfl, rfl⟩⟩ := mt_some e
    · exact T p hp
    · have r := g.rng p hp
      obtain ⟨h1, h2⟩ := T p hp
      refine ⟨fun z => h1 (by rw [← z, tn_tn (by omega)]), M.inv h2⟩
  have key : ∀ h ∈ hs, 2 * w2 js h = h.length := fun h hh => by
    have H := A.cl h hh
    obtain ⟨a, ha, c⟩ := id H
    have am := c.beg
    cases e : mt js a with
    | none =>
      have ft : mt js (tnN n a) = none := by
        cases e2 : mt js (tnN n a) with
        | none => rfl
        | some b =>
          have := (tw e2).2
          rw [tn_tn ha, e] at this
          exact nomatch this
      have pm := hp_set g H am (S := [a, tnN n a]) (by simp [Ne.symm (tn_ne ha)]) List.mem_cons_self (fun x hx => by
        simp only [List.mem_cons, List.not_mem_nil, or_false] at hx
        rcases hx with rfl | rfl
        · exact .base
        · exact sm_tau ha) fun x hx y nb => by
          simp only [List.mem_cons, List.not_mem_nil, or_false] at hx ⊢
          rcases hx with rfl | rfl
          · rcases (nb_tau ha).mp nb with z | z
            · rw [e] at z; exact nomatch z
            · exact .inr z
          · rcases (nb_tau (tn_lt ha)).mp nb with z | z
            · rw [ft] at z; exact nomatch z
            · exact .inl (by rw [z, tn_tn ha])
      have cp := cn_pos am e
      have c2 := hp2 g H
      rw [w2_path (by omega), od_perm pm, pm.length_eq, show od [a, tnN n a] = true by simp [od]]
      rfl
    | some b =>
      obtain ⟨t1, t2⟩ := tw e
      have hb := (M.lt e).2
      have ab : a ≠ b := fun z => M.irr (z ▸ e)
      have e' := M.inv e
      obtain ⟨t3, t4⟩ := tw e'
      have tab : tnN n a ≠ tnN n b := fun z => ab (by rw [← tn_tn ha, z, tn_tn hb])
      have pm := hp_set g H am (S := [a, tnN n a, b, tnN n b]) (by
          simp only [List.nodup_cons, List.mem_cons, List.not_mem_nil, or_false, not_or, not_false_eq_true, List.nodup_nil, and_true]
          exact ⟨⟨Ne.symm (tn_ne ha), ab, fun z => t3 z.symm⟩, ⟨t1, tab⟩, Ne.symm (tn_ne hb)⟩) List.mem_cons_self (fun x hx => by
        simp only [List.mem_cons, List.not_mem_nil, or_false] at hx
        rcases hx with rfl | rfl | rfl | rfl
        · exact .base
        · exact sm_tau ha
        · exact sm_mt e
        · exact cl_trans (sm_mt e) (sm_tau hb)) fun x hx y nb => by
          simp only [List.mem_cons, List.not_mem_nil, or_false] at hx ⊢
          rcases hx with rfl | rfl | rfl | rfl
          · rcases (nb_tau ha).mp nb with z | z
            · rw [e] at z; exact .inr (.inr (.inl (Option.some.inj z).symm))
            · exact .inr (.inl z)
          · rcases (nb_tau (tn_lt ha)).mp nb with z | z
            · rw [t2] at z; exact .inr (.inr (.inr (Option.some.inj z).symm))
            · exact .inl (by rw [z, tn_tn ha])
          · rcases (nb_tau hb).mp nb with z | z
            · rw [e'] at z; exact .inl (Option.some.inj z).symm
            · exact .inr (.inr (.inr z))
          · rcases (nb_tau (tn_lt hb)).mp nb with z | z
            · rw [t4] at z; exact .inr (.inl (Option.some.inj z).symm)
            · exact .inr (.inr (.inl (by rw [z, tn_tn hb])))
      have c0 : cn js h = 0 := by
        rw [cn_perm pm]
        unfold cn
        rw [List.countP_eq_zero]
        intro x hx
        simp only [List.mem_cons, List.not_mem_nil, or_false] at hx
        rcases hx with rfl | rfl | rfl | rfl <;> simp [e, e', t2, t4]
      rw [w2_ring c0, od_perm pm, pm.length_eq, show od [a, tnN n a, b, tnN n b] = false by simp [od]]
      rfl
  have s : (hs.map fun h => 2 * w2 js h).sum = (hs.map List.length).sum := by
    congr 1
    exact List.map_congr_left key
  rw [dbl_sum, hq_len A] at s
  rw [fJ_eq g A]
  omega
theorem f_tw1 (g : Good n js) (e : fJ n js = n) : TwOk n js := by
  have M := g.mt
  obtain ⟨hs, A⟩ := hq_ex g (tg g)
  rw [fJ_eq g A] at e
  have key := (sums_le (fun h => 2 * w2 js h) List.length hs fun h hh => w2_le g (A.cl h hh)).2 (by rw [dbl_sum, hq_len A, e])
  intro p hp
  have r := g.rng p hp
  have h1 : p.1 < 2 * n := by omega
  obtain ⟨m1, m2⟩ := mt_of g.dis (fun q hq => Nat.ne_of_lt (g.rng q hq).1) hp
  obtain ⟨h, hh, hm⟩ := A.cov p.1 h1
  have H := A.cl h hh
  have k := key h hh
  have ev := hp_even g H
  have ps := hp_pos H
  have m := hp_mem g (tg g) H hm
  have am2 : p.2 ∈ h := (m _).mpr (sm_mt m1)
  have t1 : tnN n p.1 ∈ h := (m _).mpr (sm_tau h1)
  have t2 : tnN n p.2 ∈ h := (m _).mpr (cl_trans (sm_mt m1) (sm_tau r.2))
  have sz := hp_size g (tg g) H
  obtain ⟨b, hb, c⟩ := id H
  have ne : p.1 ≠ p.2 := by omega
  -- a ring of two ties
  have c0 : cn js h = 0 := by
    rcases hp2 g H with z | z
    · exact z
    · exfalso
      rw [w2_path z] at k
      have two : h.length ≤ 2 := by split at k <;> omega
      have fc : cnt h (fsts js) = 0 := by omega
      have : 0 < cnt h (fsts js) := by
        unfold cnt
        rw [List.countP_pos_iff]
        exact ⟨p.1, List.mem_map.mpr ⟨p, hp, rfl⟩, decide_eq_true hm⟩
      omega
  rw [w2_ring c0] at k
  have four : h.length = 4 := by
    split at k
    · omega
    · exact k.symm
  have n1 : tnN n p.1 ≠ p.2 := fun z => by
    have pm := hp_set g H hm (S := [p.1, p.2]) (by simp [ne]) List.mem_cons_self (fun x hx => by
        simp only [List.mem_cons, List.not_mem_nil, or_false] at hx
        rcases hx with rfl | rfl
        · exact .base
        · exact sm_mt m1) fun x hx y nb => by
          simp only [List.mem_cons, List.not_mem_nil, or_false] at hx ⊢
          rcases hx with rfl | rfl
          · rcases (nb_tau h1).mp nb with w | w
            · rw [m1] at w; exact .inr (Option.some.inj w).symm
            · exact .inr (w.trans z)
          · rcases (nb_tau r.2).mp nb with w | w
            · rw [m2] at w; exact .inl (Option.some.inj w).symm
            · exact .inl (by rw [w, ← z, tn_tn h1])
    have := pm.length_eq
    rw [four, show [p.1, p.2].length = 2 from rfl] at this
    omega
  refine ⟨n1, ?_⟩
  have n2 : tnN n p.2 ≠ p.1 := fun z => n1 (by rw [← z, tn_tn r.2])
  have tab : tnN n p.1 ≠ tnN n p.2 := fun z => ne (by rw [← tn_tn h1, z, tn_tn r.2])
  have nd : [p.1, tnN n p.1, p.2, tnN n p.2].Nodup := by
    simp only [List.nodup_cons, List.mem_cons, List.not_mem_nil, or_false, not_or, not_false_eq_true, List.nodup_nil, and_true]
    exact ⟨⟨Ne.symm (tn_ne h1), ne, fun z => n2 z.symm⟩, ⟨n1, tab⟩, Ne.symm (tn_ne r.2)⟩
  have sub : ∀ y ∈ h, y ∈ [p.1, tnN n p.1, p.2, tnN n p.2] := fun y hy => by
    refine Classical.byContradiction fun z => ?_
    have q := nodup_le (l := y :: [p.1, tnN n p.1, p.2, tnN n p.2]) (m := h) (List.nodup_cons.mpr ⟨z, nd⟩) fun x hx => by
      rcases List.mem_cons.mp hx with rfl | hx
      · exact hy
      · simp only [List.mem_cons, List.not_mem_nil, or_false] at hx
        rcases hx with rfl | rfl | rfl | rfl <;> assumption
    rw [four, show (y :: [p.1, tnN n p.1, p.2, tnN n p.2]).length = 5 from rfl] at q
    omega
  cases e2 : mt js (tnN n p.1) with
  | none =>
    have := cn_pos t1 e2
    omega
  | some y =>
    have ym : y ∈ h := (m y).mpr (cl_trans (sm_tau h1) (sm_mt e2))
    have := sub y ym
    simp only [List.mem_cons, List.not_mem_nil, or_false] at this
    rcases this with z | z | z | z
    · have w := M.inv e2
      rw [z, m1] at w
      exact absurd (Option.some.inj w).symm n1
    · exact absurd (z ▸ e2) M.irr
    · have w := M.inv e2
      rw [z, m2] at w
      exact absurd (Option.some.inj w).symm (tn_ne h1)
    · rw [z]
theorem f_tw (g : Good n js) : fJ n js = n ↔ TwOk n js := ⟨f_tw1 g, f_tw2 g⟩
end
end TI
-- K37tw
set_option Elab.async false
set_option linter.all false
set_option maxRecDepth 100000
set_option maxHeartbeats 4000000
/-! K37tw: the twin web by the program's own way is the web with the lay of all twins -/
namespace K37
open PySem L2 DC LamX
open TI (fJ tau tnN tg Sm Hp1 Hq)
def setL (s : List Bool) (l : List Nat) : List Bool := l.foldl (fun s x => s.set x true) s
theorem setL_len : ∀ (l : List Nat) (s : List Bool), (setL s l).length = s.length
  | [], s => rfl
  | x :: l, s => by
    show (setL (s.set x true) l).length = _
    rw [setL_len l, List.length_set]
theorem setL_get : ∀ (l : List Nat) (s : List Bool) (x : Nat), (setL s l)[x]? = if x ∈ l ∧ x < s.length then some true else s[x]?
  | [], s, x => by
    rw [if_neg fun z => absurd z.1 List.not_mem_nil]
    rfl
  | y :: l, s, x => by
    show (setL (s.set y true) l)[x]? = _
    rw [setL_get l, List.length_set, List.getElem?_set]
    by_cases c : x ∈ l ∧ x < s.length
    · rw [if_pos c, if_pos ⟨List.mem_cons_of_mem _ c.1, c.2⟩]
    · rw [if_neg c]
      by_cases e : y = x
      · subst e
        rw [if_pos rfl]
        by_cases lt : y < s.length
        · rw [if_pos lt, if_pos ⟨List.mem_cons_self, lt⟩]
        · rw [if_neg lt, if_neg fun z => lt z.2, List.getElem?_eq_none (by omega)]
      · rw [if_neg e]
        by_cases c2 : x ∈ y :: l ∧ x < s.length
        · refine absurd ⟨?_, c2.2⟩ c
          exact (List.mem_cons.mp c2.1).resolve_left fun z => e z.symm
        · rw [if_neg c2]
theorem setL_app (s : List Bool) (l m : List Nat) : setL s (l ++ m) = setL (setL s l) m := List.foldl_append
/-- a heap as the program tells it -/
def pk (js : List J2) (h : List Nat) : Str × Nat := (if cn js h = 0 then "ring" else "path", h.length / 2)
section
variable {n : Nat} {js : List J2}
theorem twN_eq (N e : Nat) : twN N e = tnN N e := rfl
theorem ties_walk (g : Good n js) {e t : Nat} (he : e < 2 * n) (R : Rj (mt (tau n)) (mt js) e (2 * t)) {s : List Bool} (ls : s.length = 2 * n) (un : ∀ x ∈ rj (mt (tau n)) (mt js) e (2 * t), s[x]? = some false) (c : Nat) :
    ∀ d i : Nat, i + d = t → tiesF (mt js) n (c + d) (jt (mt (tau n)) (mt js) e (2 * i)) (setL s (rj (mt (tau n)) (mt js) e (2 * i))) = (d, setL s (rj (mt (tau n)) (mt js) e (2 * t)))
  | 0, i, hi => by
    have ei : i = t := by omega
    subst ei
    have P := R.toPj
    rcases R.fin with z | z
    · rw [z, ties_none]
    · rw [z, ties_seen]
      rw [setL_get, if_pos ⟨(mem_rj P).mpr ⟨0, P.pos, rfl⟩, by omega⟩]
  | d + 1, i, hi => by
    have P := R.toPj
    have F := (tg g).mt
    have G := g.mt
    obtain ⟨x, hx⟩ := P.all (2 * i) (by omega)
    have xm : x ∈ rj (mt (tau n)) (mt js) e (2 * t) := (mem_rj P).mpr ⟨2 * i, by omega, hx⟩
    have xl := P.lt F G he x xm
    have hx1 : jt (mt (tau n)) (mt js) e (2 * i + 1) = some (tnN n x) := by
      rw [jt_next hx]
      unfold hh
      rw [if_pos (by omega), TI.mt_tau xl]
    have hx2 : jt (mt (tau n)) (mt js) e (2 * (i + 1)) = mt js (tnN n x) := by
      rw [show 2 * (i + 1) = (2 * i + 1) + 1 by omega, jt_next hx1]
      unfold hh
      rw [if_neg (by omega)]
    have nin : x ∉ rj (mt (tau n)) (mt js) e (2 * i) := fun z => by
      unfold rj at z
      obtain ⟨j, hj, ej⟩ := List.mem_map.mp z
      have hj := List.mem_range.mp hj
      obtain ⟨y, hy⟩ := P.all j (by omega)
      rw [hy] at ej
      have ej : y = x := ej
      subst ej
      have := P.inj F G (show j < 2 * t by omega) (show 2 * i < 2 * t by omega) hy hx
      omega
    have e0 : (setL s (rj (mt (tau n)) (mt js) e (2 * i)))[x]? = some false := by
      rw [setL_get, if_neg fun z => nin z.1]
      exact un x xm
    have er : rj (mt (tau n)) (mt js) e (2 * (i + 1)) = rj (mt (tau n)) (mt js) e (2 * i) ++ [x] ++ [tnN n x] := by
      rw [show 2 * (i + 1) = (2 * i + 1) + 1 by omega, rj_succ _ hx1, rj_succ _ hx]
    have ih := ties_walk g he R ls un c d (i + 1) (by omega)
    rw [hx, show c + (d + 1) = (c + d) + 1 by omega, ties_next e0]
    rw [hx2, er, setL_app, setL_app] at ih
    have e3 : ((setL s (rj (mt (tau n)) (mt js) e (2 * i))).set x true).set (twN n x) true = setL (setL (setL s (rj (mt (tau n)) (mt js) e (2 * i))) [x]) [tnN n x] := rfl
    rw [e3, twN_eq, ih]
/-- what is found, and the ends seen -/
structure TwI (n : Nat) (js : List J2) (hs : List (List Nat)) (a : List (Str × Nat) × List Bool) : Prop where
  fst : a.1 = hs.map (pk js)
  cl : ∀ h ∈ hs, Hp1 n js (tau n) h
  dis : hs.Pairwise fun h h' => ∀ e, e ∈ h → e ∉ h'
  len : a.2.length = 2 * n
  sn : ∀ e, e < 2 * n → a.2[e]? = some (decide (∃ h ∈ hs, e ∈ h))
theorem TwI.zero : TwI n js [] ([], List.replicate (2 * n) false) :=
  ⟨rfl, fun h hh => absurd hh List.not_mem_nil, .nil, List.length_replicate, fun e he => by
    rw [List.getElem?_replicate, if_pos he, decide_eq_false fun ⟨_, h, _⟩ => absurd h List.not_mem_nil]⟩
theorem TwI.seen (I : TwI n js hs a) {e : Nat} (he : e < 2 * n) (word : Str) (c : ∃ h ∈ hs, e ∈ h) : twS (mt js) n word a e = a := by
  unfold twS
  rw [List.getD_eq_getElem?_getD, I.sn e he, decide_eq_true c]
  exact if_pos rfl
theorem TwI.next (I : TwI n js hs a) (g : Good n js) {e : Nat} (he : e < 2 * n) {word : Str} (c : ¬ ∃ h ∈ hs, e ∈ h) (wd : (word = "path" ∧ mt js e = none) ∨ (word = "ring" ∧ ∀ y, y < 2 * n → mt js y = none → ∃ h ∈ hs, y ∈ h)) :
    ∃ h, e ∈ h ∧ TwI n js (hs ++ [h]) (twS (mt js) n word a e) := by
  have F := (tg g).mt
  have G := g.mt
  obtain ⟨k, R⟩ := rj_ex F G he
  have P := R.toPj
  -- what hangs together with it is not seen
  have apart : ∀ x, Sm js (tau n) e x → ¬ ∃ h ∈ hs, x ∈ h := fun x s ⟨h, hh, hx⟩ => by
    refine c ⟨h, hh, ?_⟩
    have m := TI.hp_mem g (tg g) (I.cl h hh) hx e
    exact m.mpr (TI.sm_symm g (tg g) s)
  have nofree : word = "ring" → ∀ x, Sm js (tau n) e x → x < 2 * n → mt js x ≠ none := fun w x s hx z => by
    rcases wd with ⟨w2, _⟩ | ⟨_, f⟩
    · rw [w] at w2; exact absurd w2 (by decide +kernel)
    · exact apart x s (f x hx z)
  have h0 : mt js e = none ∨ jt (mt (tau n)) (mt js) e k = some e := by
    rcases wd with ⟨_, z⟩ | ⟨w, _⟩
    · exact .inl z
    · refine .inr (R.fin.resolve_left fun z => ?_)
      obtain ⟨k', rfl⟩ : ∃ k', k = k' + 1 := ⟨k - 1, by have := P.pos; omega⟩
      obtain ⟨x, hx⟩ := P.all k' (by omega)
      have xm : x ∈ rj (mt (tau n)) (mt js) e (k' + 1) := (mem_rj P).mpr ⟨k', by omega, hx⟩
      have xs : Sm js (tau n) e x := cl_swap (rj_cl P x xm)
      have xl := P.lt F G he x xm
      rw [jt_next hx] at z
      unfold hh at z
      split at z
      · rw [TI.mt_tau xl] at z; exact nomatch z
      · exact nofree w x xs xl z
  have ev : k % 2 = 0 := by
    refine Classical.byContradiction fun z => ?_
    rcases h0 with f | f
    · have fin := path_fin F G R f
      obtain ⟨k', rfl⟩ : ∃ k', k = k' + 1 := ⟨k - 1, by have := P.pos; omega⟩
      obtain ⟨x, hx⟩ := P.all k' (by omega)
      have xl := P.lt F G he x ((mem_rj P).mpr ⟨k', by omega, hx⟩)
      rw [jt_next hx] at fin
      unfold hh at fin
      rw [if_pos (by omega), TI.mt_tau xl] at fin
      exact nomatch fin
    · exact jt_odd F G (k / 2) 0 e rfl (by rw [show 0 + (2 * (k / 2) + 1) = k by omega]; exact f)
  obtain ⟨t, rfl⟩ : ∃ t, k = 2 * t := ⟨k / 2, by omega⟩
  have C := (cls_rj F G he R h0).swap
  have H : Hp1 n js (tau n) (rj (mt (tau n)) (mt js) e (2 * t)) := ⟨e, he, C⟩
  have un : ∀ x ∈ rj (mt (tau n)) (mt js) e (2 * t), a.2[x]? = some false := fun x hx => by
    rw [I.sn x (C.lt x hx), decide_eq_false (apart x ((C.mem x).mp hx))]
  have tl : t ≤ n := by
    have := P.le F G he
    omega
  have w := ties_walk g he R I.len un (2 * n - t) t 0 (by omega)
  rw [show 2 * n - t + t = 2 * n by omega] at w
  have w : tiesF (mt js) n (2 * n) (some e) a.2 = (t, setL a.2 (rj (mt (tau n)) (mt js) e (2 * t))) := w
  refine ⟨_, C.beg, ?_⟩
  have ew : twS (mt js) n word a e = (a.1 ++ [(word, t)], setL a.2 (rj (mt (tau n)) (mt js) e (2 * t))) := by
    unfold twS
    rw [List.getD_eq_getElem?_getD, I.sn e he, decide_eq_false c, w]
    exact if_neg (by decide)
  rw [ew]
  refine ⟨?_, fun h hh => ?_, ?_, ?_, fun x hx => ?_⟩
  · dsimp only
    rw [List.map_append, I.fst]
    congr 1
    show [(word, t)] = [pk js _]
    unfold pk
    rw [rj_len, show 2 * t / 2 = t by omega]
    rcases wd with ⟨rfl, f⟩ | ⟨rfl, _⟩
    · have := TI.cn_pos C.beg f
      rw [if_neg (by omega)]
    · rw [if_pos]
      unfold cn
      rw [List.countP_eq_zero]
      intro x hx
      have := nofree rfl x ((C.mem x).mp hx) (C.lt x hx)
      cases e2 : mt js x with
      | none => exact absurd e2 this
      | some y => exact Bool.false_ne_true
  · rcases List.mem_append.mp hh with m | m
    · exact I.cl h m
    · rw [List.mem_singleton.mp m]; exact H
  · rw [List.pairwise_append]
    refine ⟨I.dis, List.pairwise_singleton _ _, fun h hh k hk x xh xk => ?_⟩
    rw [List.mem_singleton.mp hk] at xk
    exact apart x ((C.mem x).mp xk) ⟨h, hh, xh⟩
  · rw [setL_len]
    exact I.len
  · dsimp only
    rw [setL_get, I.len]
    by_cases m : x ∈ rj (mt (tau n)) (mt js) e (2 * t)
    · rw [if_pos ⟨m, hx⟩, decide_eq_true ⟨_, List.mem_append_right _ List.mem_cons_self, m⟩]
    · rw [if_neg fun z => m z.1, I.sn x hx]
      congr 1
      refine decide_eq_decide.mpr ⟨fun ⟨h, hh, xh⟩ => ⟨h, List.mem_append_left _ hh, xh⟩, fun ⟨h, hh, xh⟩ => ?_⟩
      rcases List.mem_append.mp hh with z | z
      · exact ⟨h, z, xh⟩
      · rw [List.mem_singleton.mp z] at xh
        exact absurd xh m
theorem TwI.fold (g : Good n js) (word : Str) : ∀ (es : List Nat) {hs : List (List Nat)} {a : List (Str × Nat) × List Bool}, TwI n js hs a → (∀ e ∈ es, e < 2 * n) →
    (word = "path" ∧ (∀ e ∈ es, mt js e = none)) ∨ (word = "ring" ∧ ∀ y, y < 2 * n → mt js y = none → ∃ h ∈ hs, y ∈ h) →
    ∃ hs', TwI n js hs' (es.foldl (twS (mt js) n word) a) ∧ (∀ h ∈ hs, h ∈ hs') ∧ ∀ e ∈ es, ∃ h ∈ hs', e ∈ h
  | [], hs, a, I, _, _ => ⟨hs, I, fun h hh => hh, fun e he => absurd he List.not_mem_nil⟩
  | e :: es, hs, a, I, lt, wd => by
    have he := lt e List.mem_cons_self
    rw [List.foldl_cons]
    by_cases c : ∃ h ∈ hs, e ∈ h
    · rw [I.seen he word c]
      obtain ⟨hs', I', sub, cov⟩ := TwI.fold g word es I (fun x hx => lt x (List.mem_cons_of_mem _ hx)) (wd.imp (fun w => ⟨w.1, fun x hx => w.2 x (List.mem_cons_of_mem _ hx)⟩) id)
      refine ⟨hs', I', sub, fun x hx => ?_⟩
      rcases List.mem_cons.mp hx with rfl | hx
      · obtain ⟨h, hh, m⟩ := c
        exact ⟨h, sub h hh, m⟩
      · exact cov x hx
    · obtain ⟨h, eh, I1⟩ := I.next g he (word := word) c (wd.imp (fun w => ⟨w.1, w.2 e List.mem_cons_self⟩) id)
      obtain ⟨hs', I', sub, cov⟩ := TwI.fold g word es I1 (fun x hx => lt x (List.mem_cons_of_mem _ hx)) (wd.imp (fun w => ⟨w.1, fun x hx => w.2 x (List.mem_cons_of_mem _ hx)⟩) fun w => ⟨w.1, fun y hy z => by
        obtain ⟨k, hk, m⟩ := w.2 y hy z
        exact ⟨k, List.mem_append_left _ hk, m⟩⟩)
      refine ⟨hs', I', fun k hk => sub k (List.mem_append_left _ hk), fun x hx => ?_⟩
      rcases List.mem_cons.mp hx with rfl | hx
      · exact ⟨h, sub h (List.mem_append_right _ List.mem_cons_self), eh⟩
      · exact cov x hx
theorem tw_web (g : Good n js) : ∃ hs, Hq n js (tau n) hs ∧ (tw n js).1 = hs.map (pk js) := by
  obtain ⟨hs, I, _, cov⟩ := TwI.fold g "path" (frees n js) TwI.zero (fun e he => (free_lt he).1) (.inl ⟨rfl, fun e he => (free_lt he).2⟩)
  obtain ⟨hs', I', _, cov'⟩ := TwI.fold g "ring" (List.range (2 * n)) I (fun e he => List.mem_range.mp he) (.inr ⟨rfl, fun y hy z => cov y (free_of_none hy z)⟩)
  exact ⟨hs', ⟨I'.cl, I'.dis, fun e he => cov' e (List.mem_range.mpr he)⟩, I'.fst⟩
theorem pk_perm {h k : List Nat} (p : h.Perm k) : pk js h = pk js k := by
  unfold pk
  rw [cn_perm p, p.length_eq]
/-- what is told of any list of the heaps -/
theorem tw_hq (g : Good n js) {hs : List (List Nat)} (A : Hq n js (tau n) hs) : (tw n js).1.Perm (hs.map (pk js)) := by
  obtain ⟨ks, B, e⟩ := tw_web g
  rw [e]
  exact TI.hq_map g (tg g) B A (pk js) fun _ _ p => pk_perm p
theorem hc_web (g : Good n js) {hs : List (List Nat)} (A : Hq n js (tau n) hs) : hcP (hs.map (pk js)) = ((n / 2 : Nat) : Int) - ((fJ n js / 2 : Nat) : Int) := by
  have s1 := TI.hq_len A
  have ev : ∀ h ∈ hs, h.length = 2 * (h.length / 2) := fun h hh => by
    have := TI.hp_even g (A.cl h hh)
    omega
  have s2 : (hs.map fun h => 2 * (h.length / 2)).sum = 2 * n := by
    rw [← s1]
    congr 1
    exact List.map_congr_left fun h hh => (ev h hh).symm
  rw [TI.sum_map_mul] at s2
  have e1 : ((hs.map (pk js)).map fun p => ((p.2 : Nat) : Int)).sum = ((n : Nat) : Int) := by
    have : ∀ l : List (List Nat), ((l.map (pk js)).map fun p => ((p.2 : Nat) : Int)).sum = (((l.map fun h => h.length / 2).sum : Nat) : Int) := by
      intro l
      induction l with
      | nil => rfl
      | cons h l ih =>
        rw [List.map_cons, List.map_cons, List.map_cons, List.sum_cons, List.sum_cons, ih]
        unfold pk
        dsimp only
        omega
    rw [this]
    omega
  have e2 : fJ n js = 2 * ((hs.map (pk js)).countP fun p => decide (p.1 = ("ring" : Str)) && decide (p.2 % 2 = 0)) + (hs.map (pk js)).countP fun p => decide (p.1 = ("path" : Str)) && decide (p.2 % 2 = 1) := by
    rw [TI.fJ_eq g A]
    have rp : ("ring" : Str) ≠ "path" := by decide +kernel
    have : ∀ l : List (List Nat), TI.fS js l = 2 * ((l.map (pk js)).countP fun p => decide (p.1 = ("ring" : Str)) && decide (p.2 % 2 = 0)) + (l.map (pk js)).countP fun p => decide (p.1 = ("path" : Str)) && decide (p.2 % 2 = 1) := by
      intro l
      induction l with
      | nil => rfl
      | cons h l ih =>
        rw [TI.fS_cons, ih, List.map_cons, List.countP_cons, List.countP_cons]
        unfold TI.w2 TI.od pk
        dsimp only
        by_cases c : cn js h = 0 <;> by_cases o : h.length / 2 % 2 = 1
        · simp only [c, o, if_true, decide_true, decide_false, Bool.true_and, Bool.false_and, rp, show ¬ (1 = 0) by decide, Bool.and_false, Bool.false_eq_true, if_false]
          omega
        · have o2 : h.length / 2 % 2 = 0 := by omega
          simp only [c, o2, if_true, decide_true, decide_false, Bool.true_and, Bool.false_and, rp, show ¬ (0 = 1) by decide, Bool.and_true, Bool.false_eq_true, if_false]
          omega
        · simp only [c, o, if_true, if_false, decide_true, decide_false, Bool.true_and, Bool.false_and, rp.symm, show ¬ (1 = 0) by decide, Bool.and_true, Bool.false_eq_true]
          omega
        · have o2 : h.length / 2 % 2 = 0 := by omega
          simp only [c, o2, if_true, if_false, decide_true, decide_false, Bool.true_and, Bool.false_and, rp.symm, show ¬ (0 = 1) by decide, Bool.and_false, Bool.false_eq_true]
          omega
    exact this hs
  unfold hcP
  rw [e1]
  omega
theorem hc_f (g : Good n js) : hcJ n js = ((n / 2 : Nat) : Int) - ((fJ n js / 2 : Nat) : Int) := by
  obtain ⟨hs, B, e⟩ := tw_web g
  unfold hcJ
  rw [e]
  exact hc_web g B
end
end K37
-- K37q6
set_option Elab.async false
set_option linter.all false
set_option maxRecDepth 100000
set_option maxHeartbeats 4000000
/-! K37q6: mathematics of a flood -/
namespace K37
open PySem L2 DC LamX
def nbs (f g : Nat → Option Nat) (x : Nat) : List Nat := (f x).toList ++ (g x).toList
structure Fl (f g : Nat → Option Nat) (a : Nat) (pc wt : List Nat) : Prop where
  nd : pc.Nodup
  cl : ∀ x ∈ pc, Cl f g a x
  cw : ∀ x ∈ wt, Cl f g a x
  mem : a ∈ pc ∨ a ∈ wt
  clo : ∀ x ∈ pc, ∀ y, Nb f g x y → y ∈ pc ∨ y ∈ wt
  len : wt.length ≤ 1 + pc.length
section
variable {f g : Nat → Option Nat} {N a : Nat} {pc wt : List Nat}
theorem nbs_len (x : Nat) : (nbs f g x).length ≤ 2 := by
  unfold nbs
  rw [List.length_append]
  cases f x <;> cases g x <;> simp
theorem nbs_mem {x y : Nat} : y ∈ nbs f g x ↔ Nb f g x y := by
  unfold nbs Nb
  rw [List.mem_append, Option.mem_toList, Option.mem_toList]
theorem Fl.zero : Fl f g a [] [a] := ⟨.nil, fun x hx => absurd hx List.not_mem_nil, fun x hx => by rw [List.mem_singleton.mp hx]; exact .base, .inr List.mem_cons_self, fun x hx => absurd hx List.not_mem_nil, Nat.le_refl 1⟩
theorem Fl.drop {x : Nat} (h : Fl f g a pc (wt ++ [x])) (c : x ∈ pc) : Fl f g a pc wt := by
  refine ⟨h.nd, h.cl, fun y hy => h.cw y (List.mem_append_left _ hy), ?_, fun z hz y ny => ?_, ?_⟩
  · rcases h.mem with m | m
    · exact .inl m
    · rcases List.mem_append.mp m with m | m
      · exact .inr m
      · rw [List.mem_singleton.mp m]; exact .inl c
  · rcases h.clo z hz y ny with m | m
    · exact .inl m
    · rcases List.mem_append.mp m with m | m
      · exact .inr m
      · rw [List.mem_singleton.mp m]; exact .inl c
  · have := h.len
    rw [List.length_append, List.length_singleton] at this
    omega
theorem Fl.grow {x : Nat} (h : Fl f g a pc (wt ++ [x])) (c : x ∉ pc) : Fl f g a (pc ++ [x]) (wt ++ nbs f g x) := by
  have cx := h.cw x (List.mem_append_right _ List.mem_cons_self)
  refine ⟨?_, fun y hy => ?_, fun y hy => ?_, ?_, fun z hz y ny => ?_, ?_⟩
  · rw [List.nodup_append]
    exact ⟨h.nd, List.nodup_cons.mpr ⟨List.not_mem_nil, .nil⟩, fun b hb d hd e => by
      obtain rfl := List.mem_singleton.mp hd
      subst e
      exact c hb⟩
  · rcases List.mem_append.mp hy with m | m
    · exact h.cl y m
    · rw [List.mem_singleton.mp m]; exact cx
  · rcases List.mem_append.mp hy with m | m
    · exact h.cw y (List.mem_append_left _ m)
    · exact cx.step (nbs_mem.mp m)
  · rcases h.mem with m | m
    · exact .inl (List.mem_append_left _ m)
    · rcases List.mem_append.mp m with m | m
      · exact .inr (List.mem_append_left _ m)
      · exact .inl (List.mem_append_right _ m)
  · rcases List.mem_append.mp hz with m | m
    · rcases h.clo z m y ny with k | k
      · exact .inl (List.mem_append_left _ k)
      · rcases List.mem_append.mp k with k | k
        · exact .inr (List.mem_append_left _ k)
        · exact .inl (List.mem_append_right _ k)
    · rw [List.mem_singleton.mp m] at ny
      exact .inr (List.mem_append_right _ (nbs_mem.mpr ny))
  · have := h.len
    have := nbs_len (f := f) (g := g) x
    simp only [List.length_append, List.length_singleton] at *
    omega
theorem Fl.lt (h : Fl f g a pc wt) (F : Mt N f) (G : Mt N g) (ha : a < N) : (∀ x ∈ pc, x < N) ∧ ∀ x ∈ wt, x < N := ⟨fun x hx => cl_lt F G ha (h.cl x hx), fun x hx => cl_lt F G ha (h.cw x hx)⟩
theorem Fl.plen (h : Fl f g a pc wt) (F : Mt N f) (G : Mt N g) (ha : a < N) : pc.length ≤ N := by
  have q := nodup_le (m := List.range N) h.nd fun x hx => List.mem_range.mpr ((h.lt F G ha).1 x hx)
  rw [List.length_range] at q
  exact q
theorem Fl.fin (h : Fl f g a pc []) (F : Mt N f) (G : Mt N g) (ha : a < N) : Cls N f g a pc := by
  refine ⟨fun x => ⟨h.cl x, fun c => ?_⟩, h.nd, (h.lt F G ha).1⟩
  exact cl_closed (S := fun x => x ∈ pc) (h.mem.resolve_right List.not_mem_nil) (fun x y hx n => (h.clo x hx y n).resolve_right List.not_mem_nil) c
end
theorem eqv_nl (wt : List Nat) : PyData.eqv (.list ((nI wt).map PyData.int)) (.list []) = decide (wt = []) := by
  cases wt with
  | nil => simp [nI, PyData.eqv, PyData.eqvAll]
  | cons x wt => simp [nI, PyData.eqv, PyData.eqvAll]
end K37
-- K37h1
set_option Elab.async false
set_option linter.all false
set_option maxRecDepth 100000
set_option maxHeartbeats 4000000
/-! K74h1: need_doubled, twin_of, count_ties, twin_web, cost_of_pieces, cost_to_half, halving_cost -/
namespace K37
open PySem L2 DC LamX ITG
/-- all but one object stand -/
def SB (l : Addr) (H H' : Hp) : Prop := ∀ b u, b ≠ l → H b = some u → H' b = some u
theorem SB.trans {l : Addr} {H H1 H2 : Hp} (a : SB l H H1) (b : SB l H1 H2) : SB l H H2 := fun c u n e => b c u n (a c u n e)
theorem SB.of {l : Addr} {H H' : Hp} (s : Same H H') : SB l H H' := fun b u _ e => s b u e
theorem SB.put {l : Addr} {H : Hp} {o : HO} : SB l H (upd H l o) := fun b u n e => by rw [upd_ne n]; exact e
section
variable {P : Program} {w : World} {K : PySem.W.Frag} {mg : Str → Option Value} {base : Heap}
def spNe (K : PySem.W.Frag) : Sp := fun vs H Q _ => ∃ (v : V) (n : Nat) (js : List J2), vs = [v] ∧ Ly K H v n js ∧ Good n js ∧ n % 2 = 0 ∧ ∀ H', Same H H' → Q v H'
abbrev NNe : List Str := ["lay"]
theorem scNe : FnScope NNe ["lay"] (defScope (top 24)) := ⟨rfl, rfl, rfl, by decide +kernel, rfl, by decide +kernel, by decide +kernel⟩
theorem okNe {f fNl : Addr} {fd fdNl : FuncData} (F : Fun K "need_doubled" "need_doubled" (top 24) f fd)
    (DNl : Df K mg "need_lay" fNl fdNl ["lay"]) (GNl : OkF P w K mg base 5 fNl fdNl ["lay"] (spLay K)) : OkF P w K mg base 6 f fd ["lay"] (spNe K) := by
  refine ok0 F scNe (fun vs H Q E h => ?_) (fun cdv A outer s H vs Q E hgd hr h => ?_)
  · obtain ⟨v, n, js, rfl, _⟩ := h; rfl
  · obtain ⟨v, n, js, rfl, ly, g, h2, q⟩ := h
    have nd := scNe.nd
    have hr5 : Room 5 _ := hr
    refine ⟨_, (pss_cons (ps_expr (cl DNl GNl hgd hr5 (pa_cons (pv 0) pa_nil))) (pss_cons (ps_if (pt_cmpR op_eq (pe_op op_mod (pe_ix (r := rIxT K) ix_tup (pv 0) pe_int (fun _ _ => rfl)) pe_int) pe_int (nomark _)) (pss_one ps_never) pss_nil) (pss_one (ps_ret (pv 0))))), ?_⟩
    refine ⟨_, rfl, v, n, js, rfl, ly, g, fun H1 s1 => ?_⟩
    obtain ⟨ta, tb, rfl, hS, hJ⟩ := ly.up s1
    refine ⟨_, rfl, ta, _, 0, .int (n : Nat), rfl, rfl, hS, at_of (j := 0) rfl rfl, ((n : Nat) : Int), 2, rfl, rfl, (by show (0 : Int) < 2; decide), rfl, false, ?_, iteF ⟨_, rfl, q H1 s1⟩⟩
    show V.bl (decide (V.int (((n : Nat) : Int) % 2) = V.int 1)) = _
    rw [decide_eq_false (fun z => by have := V.int.inj z; omega)]
def spTn : Sp := fun vs H Q _ => ∃ (e N : Nat), vs = [.int (e : Nat), .int (N : Nat)] ∧ Q (.int (twN N e : Nat)) H
abbrev NTn : List Str := ["end", "links"]
theorem scTn : FnScope NTn ["end", "links"] (defScope (top 25)) := ⟨rfl, rfl, rfl, by decide +kernel, rfl, by decide +kernel, by decide +kernel⟩
theorem okTn {f : Addr} {fd : FuncData} (F : Fun K "twin_of" "twin_of" (top 25) f fd) : OkF P w K mg base 1 f fd ["end", "links"] spTn := by
  refine ok0 F scTn (fun vs H Q E h => ?_) (fun cdv A outer s H vs Q E hgd hr h => ?_)
  · obtain ⟨e, N, rfl, _⟩ := h; rfl
  · obtain ⟨e, N, rfl, q⟩ := h
    have nd := scTn.nd
    refine ⟨_, (pss_one (ps_ret (pe_ifExp (pt_cmpR op_lt (pv 0) (pv 1) (nomark _)) (pe_op op_add (pv 0) (pv 1)) (pe_op op_sub (pv 0) (pv 1))))), ?_⟩
    unfold twN at q
    refine ⟨_, rfl, _, rfl, (e : Nat), (N : Nat), rfl, rfl, _, rfl, ?_⟩
    by_cases c : e < N
    · rw [decide_eq_true (show ((e : Nat) : Int) < (N : Nat) by omega)]
      rw [if_pos c] at q
      refine iteT ⟨_, rfl, _, rfl, (e : Nat), (N : Nat), rfl, rfl, ?_⟩
      exact q
    · rw [decide_eq_false (show ¬ ((e : Nat) : Int) < (N : Nat) by omega)]
      rw [if_neg c] at q
      refine iteF ⟨_, rfl, _, rfl, (e : Nat), (N : Nat), rfl, rfl, ?_⟩
      show Q (.int (((e : Nat) : Int) - (N : Nat))) _
      rw [show ((e : Nat) : Int) - (N : Nat) = ((e - N : Nat) : Int) by omega]
      exact q
def spCt : Sp := fun vs H Q _ => ∃ (m sn : Addr) (n a : Nat) (js : List J2) (bs : List Bool), vs = [.ref m, .int (a : Nat), .ref sn] ∧ H m = some (.lst (mV n js)) ∧ H sn = some (.lst (bs.map V.bl)) ∧ m ≠ sn ∧ bs.length = 2 * n ∧ Good n js ∧ a < 2 * n ∧
  ∀ (H' : Hp), SB sn H H' → H' sn = some (.lst ((tiesF (mt js) n (2 * n) (some a) bs).2.map V.bl)) → Q (.int ((tiesF (mt js) n (2 * n) (some a) bs).1 : Nat)) H'
abbrev NCt : List Str := ["mate", "begun", "seen", "ties", "here", "twin"]
theorem scCt : FnScope NCt ["mate", "begun", "seen"] (defScope (top 27)) := ⟨rfl, rfl, rfl, by decide +kernel, rfl, by decide +kernel, by decide +kernel⟩
theorem okCt {f fTn : Addr} {fd fdTn : FuncData} (F : Fun K "count_ties" "count_ties" (top 27) f fd) (B : Bn mg)
    (DTn : Df K mg "twin_of" fTn fdTn ["end", "links"]) (GTn : OkF P w K mg base 1 fTn fdTn ["end", "links"] spTn) : OkF P w K mg base 2 f fd ["mate", "begun", "seen"] spCt := by
  refine ok0 F scCt (fun vs H Q E h => ?_) (fun cdv A outer s H vs Q E hgd hr h => ?_)
  · obtain ⟨m, sn, n, a, js, bs, rfl, _⟩ := h; rfl
  · obtain ⟨m, sn, n, a, js, bs, rfl, hm, hs, ne, hl, g, ha, q⟩ := h
    have nd := scCt.nd
    have hr1 : Room 1 _ := hr
    have M := g.mt
    have tp := g.top
    refine ⟨_, (pss_cons (ps_set (i := 3) nd rfl (.inl rfl) pe_int) (pss_cons (ps_set (i := 4) nd rfl (.inl rfl) (pv 1)) (pss_cons (ps_while PassesOwn.never (PW.pt (pw_and (pt_cmp (pc_notN (pv 4))) (pw_and1 (pt_not (pt_val (pe_ix (r := rIxL K) ix_list (pv 2) (pv 4) (fun _ _ => rfl))))))) (pss_cons (ps_set (i := 5) nd rfl (.inl rfl) (cl DTn GTn hgd hr1 (pa_cons (pv 4) (pa_cons (pe_op op_fdiv (pe_callB (r := rLen K) call_len_seq (by rfl) B.len PySem.boot_len (pa_cons (pv 2) pa_nil)) pe_int) pa_nil)))) (pss_cons (ps_asg2 pe_bl (pg_sub (pv 2) (pv 4) set_list) (pg_sub (pv 2) (pv 5) set_list)) (pss_cons (ps_aug (i := 3) nd rfl (.inl rfl) pe_int ip_add) (pss_one (ps_set (i := 4) nd rfl (.inl rfl) (pe_ix (r := rIxL K) ix_list (pv 0) (pv 5) (fun _ _ => rfl)))))))) (pss_one (ps_ret (pv 3)))))), ?_⟩
    refine gn ?_
    refine ⟨_, rfl, gn ?_⟩
    refine ⟨fun k σ H' => ∃ (t : Nat) (h : Option Nat) (s : List Bool) (y5 : Option V), σ = [some (.ref m), some (.int (a : Nat)), some (.ref sn), some (.int (t : Nat)), some (oV h), y5] ∧ s.length = 2 * n ∧ (∀ x, h = some x → x < 2 * n) ∧ unS s ≤ k ∧
      t + (tiesF (mt js) n k h s).1 = (tiesF (mt js) n (2 * n) (some a) bs).1 ∧ (tiesF (mt js) n k h s).2 = (tiesF (mt js) n (2 * n) (some a) bs).2 ∧ SB sn H H' ∧ H' sn = some (.lst (s.map V.bl)),
      ⟨2 * n, 0, some a, bs, none, rfl, hl, fun x e => by rw [← Option.some.inj e]; exact ha, by rw [← hl]; exact unS_le _, by omega, rfl, fun b u _ e => e, hs⟩, ?_⟩
    rintro k σ Hb ⟨t, h, s', y5, rfl, sl, hx, hk, e1, e2, sb, hsn⟩
    have stop : (tiesF (mt js) n k h s') = (0, s') → Q (.int (t : Nat)) Hb := fun z => by
      rw [z] at e1 e2
      rw [← e2, ← e1] at q
      exact q Hb sb hsn
    cases h with
    | none => exact ⟨_, rfl, false, rfl, iteF (iteF ⟨_, rfl, stop ties_none⟩)⟩
    | some x =>
      have hx2 := hx x rfl
      refine ⟨_, rfl, true, rfl, iteT ?_⟩
      obtain ⟨b, eb⟩ : ∃ b, s'[x]? = some b := ⟨_, List.getElem?_eq_getElem (by omega)⟩
      have eb' : (s'.map V.bl)[x]? = some (.bl b) := by rw [List.getElem?_map, eb]; rfl
      refine ⟨_, rfl, _, rfl, sn, _, _, _, rfl, rfl, SqL.of hsn, atI_nat eb', b, rfl, ?_⟩
      cases b with
      | true => exact iteF ⟨_, rfl, stop (ties_seen eb)⟩
      | false =>
        have u1 := unS_new s' x eb
        have u2 := unS_set (s'.set x true) (twN n x)
        obtain ⟨k, rfl⟩ : ∃ k', k = k' + 1 := ⟨k - 1, by omega⟩
        have tl := twN_lt hx2
        rw [ties_next eb] at e1 e2
        refine iteT ⟨_, fun σ' H' hw => hw, ?_⟩
        refine ⟨_, rfl, _, rfl, sn, _, rfl, .inl (SqL.of hsn), _, 2, rfl, rfl, ⟨by decide, by decide⟩, x, n, ?_, gn ?_⟩
        · dsimp only
          rw [List.length_map, sl, show (((2 * n : Nat) : Int) / 2) = ((n : Nat) : Int) by omega]
          rfl
        refine ⟨_, rfl, _, rfl, sn, _, (x : Nat), x, rfl, rfl, hsn, Evl.ixN_nat (by rw [List.length_map]; omega), ?_⟩
        refine ⟨_, rfl, _, rfl, sn, _, (twN n x : Nat), twN n x, rfl, rfl, upd_same, Evl.ixN_nat (by rw [List.length_set, List.length_map]; omega), ?_⟩
        have hmm : upd (upd Hb sn (.lst ((s'.map V.bl).set x (.bl true)))) sn (.lst (((s'.map V.bl).set x (.bl true)).set (twN n x) (.bl true))) m = some (.lst (mV n js)) := by
          rw [upd_ne ne, upd_ne ne]
          exact sb _ _ ne hm
        have hss : upd (upd Hb sn (.lst ((s'.map V.bl).set x (.bl true)))) sn (.lst (((s'.map V.bl).set x (.bl true)).set (twN n x) (.bl true))) sn = some (.lst (((s'.set x true).set (twN n x) true).map V.bl)) := by
          rw [upd_same, List.map_set, List.map_set]
        have sb2 := sb.trans (SB.put.trans (SB.put (o := .lst (((s'.map V.bl).set x (.bl true)).set (twN n x) (.bl true)))) : SB sn Hb (upd (upd Hb sn (.lst ((s'.map V.bl).set x (.bl true)))) sn (.lst (((s'.map V.bl).set x (.bl true)).set (twN n x) (.bl true)))))
        generalize upd (upd Hb sn (.lst ((s'.map V.bl).set x (.bl true)))) sn (.lst (((s'.map V.bl).set x (.bl true)).set (twN n x) (.bl true))) = Hc at hmm hss sb2 ⊢
        refine ⟨_, rfl, _, _, rfl, rfl, ?_⟩
        refine ⟨_, rfl, _, rfl, m, _, _, _, rfl, rfl, SqL.of hmm, atI_nat (mV_at tl), gn ?_⟩
        refine ⟨k, by omega, t + 1, mt js (twN n x), (s'.set x true).set (twN n x) true, some (.int (twN n x : Nat)), rfl, by rw [List.length_set, List.length_set]; exact sl, fun y e => (M.lt e).2, by omega, by rw [← e1]; dsimp only; omega, e2, sb2, hss⟩
end
end K37
-- K37h2
set_option Elab.async false
set_option linter.all false
set_option maxRecDepth 100000
set_option maxHeartbeats 4000000
/-! K74h2: twin_web, cost_of_pieces, cost_to_half, halving_cost -/
namespace K37
open PySem L2 DC LamX ITG
theorem sqT_sb {K : PySem.W.Frag} {H H' : Hp} {a l : Addr} {xs ys : List V} (s : SB l H H') (hl : H l = some (.lst ys)) (h : SqT K H a xs) : SqT K H' a xs := by
  have ne : ∀ u, H a = some u → (∀ zs, u ≠ .lst zs) → a ≠ l := by
    rintro u e hu rfl
    rw [hl] at e
    exact hu ys (Option.some.inj e).symm
  rcases h with (h | ⟨ob, h⟩) | h
  · exact .inl (.inl (s _ _ (ne _ h (fun _ z => nomatch z)) h))
  · exact .inl (.inr ⟨ob, s _ _ (ne _ h (fun _ z => nomatch z)) h⟩)
  · exact .inr h
def PcV (K : PySem.W.Frag) (H : Hp) (v : V) (p : Str × Nat) : Prop := ∃ t, v = .ref t ∧ SqT K H t [.str p.1, .int (p.2 : Nat)]
theorem pcv_up {K : PySem.W.Frag} {H H' : Hp} (e : ∀ {t : Addr} {xs : List V}, SqT K H t xs → SqT K H' t xs) : ∀ {vs : List V} {ps : List (Str × Nat)}, Paired (PcV K H) vs ps → Paired (PcV K H') vs ps
  | _, _, .nil => .nil
  | _, _, .cons ⟨t, q, h⟩ b => .cons ⟨t, q, e h⟩ (pcv_up e b)
theorem pcv_dp {K : PySem.W.Frag} {H : Hp} : ∀ {vs : List V} {ps : List (Str × Nat)}, Paired (PcV K H) vs ps → DpAll K H vs (ps.map pcD)
  | _, _, .nil => .nil
  | _, _, .cons ⟨t, q, h⟩ b => by
    subst q
    exact .cons (Dp.tup h (.cons (.str _) (.cons (.int _) .nil))) (pcv_dp b)
theorem dp_pc {K : PySem.W.Frag} {H : Hp} {v : V} {p : Str × Nat} (h : Dp K H v (pcD p)) : ∃ t, v = .ref t ∧ SqT K H t [.str p.1, .int (p.2 : Nat)] := by
  unfold pcD at h
  cases h with
  | tup hs ha => cases ha with
    | cons z0 r0 => cases r0 with
      | cons z1 r1 =>
        cases r1
        cases z0
        cases z1
        exact ⟨_, rfl, hs⟩
/-- while a twin web is told -/
structure TWi (K : PySem.W.Frag) (H : Hp) (m sn fo : Addr) (n : Nat) (js : List J2) (a : List (Str × Nat) × List Bool) (H' : Hp) : Prop where
  s : Same H H'
  m : H' m = some (.lst (mV n js))
  sn : H' sn = some (.lst (a.2.map V.bl))
  fo : ∃ vs, H' fo = some (.lst vs) ∧ Paired (PcV K H') vs a.1
  l2 : a.2.length = 2 * n
section
variable {P : Program} {w : World} {K : PySem.W.Frag} {mg : Str → Option Value} {base : Heap}
def spTb (K : PySem.W.Frag) : Sp := fun vs H Q _ => ∃ (v : V) (n : Nat) (js : List J2), vs = [v] ∧ Ly K H v n js ∧ Good n js ∧ ∀ (r : Addr) (us : List V) (H' : Hp), Same H H' → H r = none → H' r = some (.tup us) → DpAll K H' us ((twL n js).map pcD) → Q (.ref r) H'
abbrev NTb : List Str := ["lay", "mate", "seen", "found", "end"]
theorem scTb : FnScope NTb ["lay"] (defScope (top 28)) := ⟨rfl, rfl, rfl, by decide +kernel, rfl, by decide +kernel, by decide +kernel⟩
theorem okTb {f fMa fFo fCt : Addr} {fd fdMa fdFo fdCt : FuncData} (F : Fun K "twin_web" "twin_web" (top 28) f fd) (B : Bn mg)
    (DMa : Df K mg "mates" fMa fdMa ["lay"]) (GMa : OkF P w K mg base 1 fMa fdMa ["lay"] (spMates K))
    (DFo : Df K mg "free_of" fFo fdFo ["lay"]) (GFo : OkF P w K mg base 2 fFo fdFo ["lay"] (spFree K))
    (DCt : Df K mg "count_ties" fCt fdCt ["mate", "begun", "seen"]) (GCt : OkF P w K mg base 2 fCt fdCt ["mate", "begun", "seen"] spCt) : OkF P w K mg base 3 f fd ["lay"] (spTb K) := by
  refine ok0 F scTb (fun vs H Q E h => ?_) (fun cdv A outer s H vs Q E hgd hr h => ?_)
  · obtain ⟨v, n, js, rfl, _⟩ := h; rfl
  · obtain ⟨v, n, js, rfl, ly, g, q⟩ := h
    have nd := scTb.nd
    have hr1 : Room 1 _ := hr.mono (by decide)
    have hr2 : Room 2 _ := hr
    have M := g.mt
    have tp := g.top
    refine ⟨_, (pss_cons (ps_set (i := 1) nd rfl (.inl rfl) (cl DMa GMa hgd hr1 (pa_cons (pv 0) pa_nil))) (pss_cons (ps_set (i := 2) nd rfl (.inl rfl) (pe_op op_rep (pe_lst (pa_cons pe_bl pa_nil)) (pe_callB (r := rLen K) call_len_seq (by rfl) B.len PySem.boot_len (pa_cons (pv 1) pa_nil)))) (pss_cons (ps_set (i := 3) nd rfl (.inl rfl) (pe_lst pa_nil)) (pss_cons (ps_for PassesOwn.never rfl (pi_list (cl DFo GFo hgd hr2 (pa_cons (pv 0) pa_nil))) (pg_name (i := 4) nd rfl (.inl rfl)) (pss_one (ps_if (pt_not (pt_val (pe_ix (r := rIxL K) ix_list (pv 2) (pv 4) (fun _ _ => rfl)))) (pss_one (ps_expr (pe_bm PySem.F.plainAttrs_list PySem.F.slot_list_append PySem.F.type_list_append mt_append (pv 3) (pa_cons (pe_tup (pa_cons pe_str (pa_cons (cl DCt GCt hgd hr2 (pa_cons (pv 1) (pa_cons (pv 4) (pa_cons (pv 2) pa_nil)))) pa_nil))) pa_nil)))) pss_nil))) (pss_cons (ps_for PassesOwn.never rfl (pi_range1 (by rfl) B.range (pa_cons (pe_callB (r := rLen K) call_len_seq (by rfl) B.len PySem.boot_len (pa_cons (pv 1) pa_nil)) pa_nil)) (pg_name (i := 4) nd rfl (.inl rfl)) (pss_one (ps_if (pt_not (pt_val (pe_ix (r := rIxL K) ix_list (pv 2) (pv 4) (fun _ _ => rfl)))) (pss_one (ps_expr (pe_bm PySem.F.plainAttrs_list PySem.F.slot_list_append PySem.F.type_list_append mt_append (pv 3) (pa_cons (pe_tup (pa_cons pe_str (pa_cons (cl DCt GCt hgd hr2 (pa_cons (pv 1) (pa_cons (pv 4) (pa_cons (pv 2) pa_nil)))) pa_nil))) pa_nil)))) pss_nil))) (pss_one (ps_ret (pe_callTy call_tuple_of (by rfl) B.tuple (by decide +kernel) (pa_cons (pe_callB (cr_sortD hr.units) (by rfl) B.sorted (by decide +kernel) (pa_cons (pv 3) pa_nil)) pa_nil))))))))), ?_⟩
    refine ⟨_, rfl, v, n, js, rfl, ly, g, fun m H1 s1 f1 h1 => gn ?_⟩
    refine ⟨by show 1 ≤ sizeLine; decide, fun l0 nl0 => ?_⟩
    have s2 := Same.new (o := .lst [.bl false]) nl0
    refine ⟨_, rfl, m, _, rfl, .inl (SqL.of (s2 _ _ h1)), ?_⟩
    rw [mV_len]
    have rep : ∀ k : Nat, (List.replicate k [V.bl false]).flatten = (List.replicate k false).map V.bl := by
      intro k
      induction k with
      | zero => rfl
      | succ k ih => rw [List.replicate_succ, List.flatten_cons, ih]; rfl
    refine ⟨l0, ((2 * n : Nat) : Int), [.bl false], rfl, rfl, upd_same, by omega, by omega, ?_, fun sn nsn => ?_⟩
    · show 1 * ((2 * n : Nat) : Int).toNat ≤ sizeLine
      exact Nat.le_trans (show 1 * ((2 * n : Nat) : Int).toNat ≤ 24 by omega) (by decide)
    rw [rep, Int.toNat_natCast]
    refine gn ?_
    have s3 := Same.new (o := .lst ((List.replicate (2 * n) false).map V.bl)) nsn
    have hsn := upd_same (H := upd H1 l0 (.lst [.bl false])) (a := sn) (o := .lst ((List.replicate (2 * n) false).map V.bl))
    have nsn1 : H1 sn = none := s2.free nsn
    have nsnH : H sn = none := s1.free nsn1
    have nem : m ≠ sn := fun z => by rw [← z, h1] at nsn1; cases nsn1
    have hm3 := s3 _ _ (s2 _ _ h1)
    have sm3 := s1.trans (s2.trans s3)
    generalize upd (upd H1 l0 (.lst [.bl false])) sn (.lst ((List.replicate (2 * n) false).map V.bl)) = H3 at hsn hm3 sm3 ⊢
    refine ⟨by show 0 ≤ sizeLine; decide, fun fo nfo => gn ?_⟩
    have s4 := Same.new (o := .lst []) nfo
    have hfo := upd_same (H := H3) (a := fo) (o := .lst [])
    have hsn4 := s4 _ _ hsn
    have hm4 := s4 _ _ hm3
    have sm4 := sm3.trans s4
    have nefs : fo ≠ sn := fun z => by rw [z, hsn] at nfo; cases nfo
    have nef : fo ≠ m := fun z => by rw [z, hm3] at nfo; cases nfo
    have nfoH : H fo = none := sm3.free nfo
    generalize upd H3 fo (.lst []) = H4 at hfo hsn4 hm4 sm4 ⊢
    have hfo4 := hfo
    refine ⟨_, rfl, v, n, js, rfl, ly.up sm4, g, fun fr H5 s5 nfr hfr => ⟨fr, rfl, ⟨_, SqL.of hfr⟩, ?_⟩⟩
    refine for_it (walk_list (xs := Vn (frees n js))) (fun i σ H' => ∃ (y4 : Option V), σ = [some v, some (.ref m), some (.ref sn), some (.ref fo), y4] ∧ TWi K H m sn fo n js (((frees n js).take i).foldl (twS (mt js) n "path") ([], List.replicate (2 * n) false)) H' ∧ H' fr = some (.lst (Vn (frees n js)))) ⟨none, rfl, ⟨sm4.trans s5, s5 _ _ hm4, s5 _ _ hsn4, ⟨[], s5 _ _ hfo, .nil⟩, List.length_replicate⟩, hfr⟩ ?_ ?_ ?_
    · rintro i σ H' hi ⟨_, rfl, _, h⟩
      exact SqL.of h
    · rintro i z σ Ha Hb hi ⟨y4, rfl, T, hfr'⟩ ⟨rfl, ez⟩
      obtain ⟨e, ee, rfl⟩ : ∃ e, (frees n js)[i]? = some e ∧ z = .int (e : Nat) := by
        unfold Vn at ez
        rw [List.getElem?_map] at ez
        obtain ⟨e, e1, e2⟩ := Option.map_eq_some_iff.mp ez
        exact ⟨e, e1, e2.symm⟩
      have el : e < 2 * n := (free_lt (List.mem_of_getElem? ee)).1
      have en : (((frees n js).take (i + 1)).foldl (twS (mt js) n "path") ([], List.replicate (2 * n) false)) = twS (mt js) n "path" (((frees n js).take i).foldl (twS (mt js) n "path") ([], List.replicate (2 * n) false)) e := by rw [take_next ee, List.foldl_append]; rfl
      have la := (twF_len (f := mt js) (N := n) (word := "path") ((frees n js).take i) (([], List.replicate (2 * n) false))).2
      change _ ≤ 0 + _ at la
      have lt' := List.length_take_le i (frees n js)
      have lf := (twF_len (f := mt js) (N := n) (word := "path") (frees n js) ([], List.replicate (2 * n) false)).2
      have lfr := frees_len n js
      have hi2 := (List.getElem?_eq_some_iff.mp ee).1
      skip
      change ((List.foldl (twS (mt js) n "path") ([], List.replicate (2 * n) false) (frees n js))).1.length ≤ 0 + _ at lf
      rw [en]
      generalize ((frees n js).take i).foldl (twS (mt js) n "path") ([], List.replicate (2 * n) false) = A at T la ⊢
      refine gn ?_
      obtain ⟨b, eb⟩ : ∃ b, A.2[e]? = some b := ⟨_, List.getElem?_eq_getElem (by rw [T.l2]; exact el)⟩
      have eb' : (A.2.map V.bl)[e]? = some (.bl b) := by rw [List.getElem?_map, eb]; rfl
      refine ⟨_, rfl, _, rfl, sn, _, _, _, rfl, rfl, SqL.of T.sn, atI_nat eb', b, rfl, ?_⟩
      cases b with
      | true =>
        have e0 : twS (mt js) n "path" A e = A := by
          unfold twS
          rw [if_pos (by rw [List.getD_eq_getElem?_getD, eb]; rfl)]
        rw [e0]
        exact iteF ⟨_, rfl, T, hfr'⟩
      | false =>
        have e0 : twS (mt js) n "path" A e = (A.1 ++ [(("path" : Str), (tiesF (mt js) n (2 * n) (some e) A.2).1)], (tiesF (mt js) n (2 * n) (some e) A.2).2) := by
          unfold twS
          rw [if_neg (by rw [List.getD_eq_getElem?_getD, eb]; decide)]
        rw [e0]
        obtain ⟨vs, hfo, hvs⟩ := T.fo
        have lvs := Paired.length hvs
        refine iteT ⟨_, rfl, .inl ⟨rfl, _, SqL.of hfo⟩, _, rfl, _, rfl, _, rfl, m, sn, n, e, js, A.2, rfl, T.m, T.sn, nem, T.l2, g, el, fun Hc sb hsc => ⟨by show 2 ≤ sizeLine; decide, fun T2 nT2 => ?_⟩⟩
        have sT := Same.new (o := .tup [.str "path", .int ((tiesF (mt js) n (2 * n) (some e) A.2).1 : Nat)]) nT2
        have hfc := sT _ _ (sb _ _ nefs hfo)
        refine ⟨fo, vs, .ref T2, rfl, rfl, hfc, Nat.lt_of_le_of_lt (show vs.length ≤ 1000 by omega) (by decide), ?_⟩
        refine ⟨_, rfl, ⟨?_, ?_, ?_, ⟨_, upd_same, ?_⟩, ?_⟩, ?_⟩
        · refine same_put (Same.trans (fun b u q => sb b u (fun z => by rw [z, nsnH] at q; cases q) (T.s b u q)) sT) nfoH
        · rw [upd_ne nef.symm]
          exact sT _ _ (sb _ _ nem T.m)
        · rw [upd_ne nefs.symm]
          exact sT _ _ hsc
        · refine pair_snoc (pcv_up (fun h => sqT_put h hfc) (pcv_up (fun h => Same.t sT (sqT_sb sb T.sn h)) hvs)) ⟨T2, rfl, sqT_put (SqT.of upd_same) hfc⟩
        · rw [ties_len]
          exact T.l2
        · rw [upd_ne (fun z => by rw [z, hfo4] at nfr; cases nfr)]
          exact sT _ _ (sb _ _ (fun z => by rw [z, hsn4] at nfr; cases nfr) hfr')
    rintro σ H6 ⟨y4, rfl, T, _⟩
    rw [Vn_len, List.take_length] at T
    refine ⟨_, rfl, m, _, rfl, .inl (SqL.of T.m), ?_⟩
    rw [mV_len]
    refine ⟨((2 * n : Nat) : Int), rfl, by omega, by omega, ?_⟩
    refine for_it (walk_range (lo := 0) (n := 2 * n)) (fun i σ H' => ∃ (y4 : Option V), σ = [some v, some (.ref m), some (.ref sn), some (.ref fo), y4] ∧ TWi K H m sn fo n js (((List.range (2 * n)).take i).foldl (twS (mt js) n "ring") (twQ n js)) H') ⟨y4, rfl, T⟩ (fun _ _ _ _ _ => trivial) ?_ ?_
    · rintro i z σ Ha Hb hi ⟨y4, rfl, T⟩ ⟨rfl, ez⟩
      obtain ⟨e, ee, rfl⟩ : ∃ e, (List.range (2 * n))[i]? = some e ∧ z = .int (e : Nat) := by
        refine ⟨i, by rw [List.getElem?_range hi], ?_⟩
        rw [ez]
        show V.int (0 + (i : Int)) = _
        rw [Int.zero_add]
      have el : e < 2 * n := List.mem_range.mp (List.mem_of_getElem? ee)
      have en : (((List.range (2 * n)).take (i + 1)).foldl (twS (mt js) n "ring") (twQ n js)) = twS (mt js) n "ring" (((List.range (2 * n)).take i).foldl (twS (mt js) n "ring") (twQ n js)) e := by rw [take_next ee, List.foldl_append]; rfl
      have la := (twF_len (f := mt js) (N := n) (word := "ring") ((List.range (2 * n)).take i) (twQ n js)).2
      have lt' := List.length_take_le i (List.range (2 * n))
      have lf := (twF_len (f := mt js) (N := n) (word := "path") (frees n js) ([], List.replicate (2 * n) false)).2
      have lfr := frees_len n js
      have hi2 := (List.getElem?_eq_some_iff.mp ee).1
      rw [List.length_range] at hi2
      change ((twQ n js)).1.length ≤ 0 + _ at lf
      rw [en]
      generalize ((List.range (2 * n)).take i).foldl (twS (mt js) n "ring") (twQ n js) = A at T la ⊢
      refine gn ?_
      obtain ⟨b, eb⟩ : ∃ b, A.2[e]? = some b := ⟨_, List.getElem?_eq_getElem (by rw [T.l2]; exact el)⟩
      have eb' : (A.2.map V.bl)[e]? = some (.bl b) := by rw [List.getElem?_map, eb]; rfl
      refine ⟨_, rfl, _, rfl, sn, _, _, _, rfl, rfl, SqL.of T.sn, atI_nat eb', b, rfl, ?_⟩
      cases b with
      | true =>
        have e0 : twS (mt js) n "ring" A e = A := by
          unfold twS
          rw [if_pos (by rw [List.getD_eq_getElem?_getD, eb]; rfl)]
        rw [e0]
        exact iteF ⟨_, rfl, T⟩
      | false =>
        have e0 : twS (mt js) n "ring" A e = (A.1 ++ [(("ring" : Str), (tiesF (mt js) n (2 * n) (some e) A.2).1)], (tiesF (mt js) n (2 * n) (some e) A.2).2) := by
          unfold twS
          rw [if_neg (by rw [List.getD_eq_getElem?_getD, eb]; decide)]
        rw [e0]
        obtain ⟨vs, hfo, hvs⟩ := T.fo
        have lvs := Paired.length hvs
        refine iteT ⟨_, rfl, .inl ⟨rfl, _, SqL.of hfo⟩, _, rfl, _, rfl, _, rfl, m, sn, n, e, js, A.2, rfl, T.m, T.sn, nem, T.l2, g, el, fun Hc sb hsc => ⟨by show 2 ≤ sizeLine; decide, fun T2 nT2 => ?_⟩⟩
        have sT := Same.new (o := .tup [.str "ring", .int ((tiesF (mt js) n (2 * n) (some e) A.2).1 : Nat)]) nT2
        have hfc := sT _ _ (sb _ _ nefs hfo)
        refine ⟨fo, vs, .ref T2, rfl, rfl, hfc, Nat.lt_of_le_of_lt (show vs.length ≤ 1000 by omega) (by decide), ?_⟩
        refine ⟨_, rfl, ⟨?_, ?_, ?_, ⟨_, upd_same, ?_⟩, ?_⟩⟩
        · refine same_put (Same.trans (fun b u q => sb b u (fun z => by rw [z, nsnH] at q; cases q) (T.s b u q)) sT) nfoH
        · rw [upd_ne nef.symm]
          exact sT _ _ (sb _ _ nem T.m)
        · rw [upd_ne nefs.symm]
          exact sT _ _ hsc
        · refine pair_snoc (pcv_up (fun h => sqT_put h hfc) (pcv_up (fun h => Same.t sT (sqT_sb sb T.sn h)) hvs)) ⟨T2, rfl, sqT_put (SqT.of upd_same) hfc⟩
        · rw [ties_len]
          exact T.l2
    rintro σ H7 ⟨y4, rfl, T⟩
    rw [List.take_of_length_le (by rw [List.length_range]; exact Nat.le_refl _)] at T
    obtain ⟨vs, hfo, hvs⟩ := T.fo
    refine ⟨_, rfl, fo, vs, _, rfl, SqL.of hfo, pcv_dp hvs, pc_alike _, pc_sortable _, pc_depth _, fun ys pl pm hy hp => ⟨pl, ys, rfl, .inl ⟨SqL.of upd_same, fun t nt => ?_⟩⟩⟩
    have hy : DpAll K H7 ys ((twL n js).map pcD) := by
      rw [← twL_data]
      exact hy
    have x := (Same.new (o := .lst ys) hp).trans (Same.new (o := .tup ys) nt)
    exact q t ys _ (T.s.trans x) (T.s.free ((Same.new (o := .lst ys) hp).free nt)) upd_same (DC.DpAll.up x hy)
def spCp (K : PySem.W.Frag) : Sp := fun vs H Q _ => ∃ (T : Addr) (us : List V) (P : List (Str × Nat)), vs = [.ref T] ∧ SqT K H T us ∧ DpAll K H us (P.map pcD) ∧ P.length ≤ 1000 ∧ ∀ (H' : Hp), Same H H' → Q (.int (hcP P)) H'
abbrev NCp : List Str := ["parts", "links", "even_rings", "odd_paths", "_", "ties", "word"]
theorem scCp : FnScope NCp ["parts"] (defScope (top 29)) := ⟨rfl, rfl, rfl, by decide +kernel, rfl, by decide +kernel, by decide +kernel⟩
theorem okCp {f : Addr} {fd : FuncData} (F : Fun K "cost_of_pieces" "cost_of_pieces" (top 29) f fd) (B : Bn mg) : OkF P w K mg base 1 f fd ["parts"] (spCp K) := by
  refine ok0 F scCp (fun vs H Q E h => ?_) (fun cdv A outer s H vs Q E hgd hr h => ?_)
  · obtain ⟨T, us, P, rfl, _⟩ := h; rfl
  · obtain ⟨T, us, P, rfl, hT, hd, hl, q⟩ := h
    have nd := scCp.nd
    refine ⟨_, (pss_cons (ps_set (i := 1) nd rfl (.inl rfl) (pe_op op_fdiv (pe_callB (cr_sum rfl) (by rfl) B.sum (by decide +kernel) (pa_cons (pe_lc (own := [("_", 4), ("ties", 5)]) (g := (gTup K 2 (gCons (gName 4) (gCons (gName 5) gNil)))) (tt := tYes) rfl nd (pi_tup (pv 0)) (blkOk_by (N := NCp) (sc := defScope (top 29)) (by decide +kernel)) (fun _ _ _ _ _ => (pg_tup (by rfl) (pgs_cons (pg_name (i := 4) nd rfl (Or.inl rfl)) (pgs_cons (pg_name (i := 5) nd rfl (Or.inl rfl)) pgs_nil)))) (fun _ _ _ _ _ => pts_nil) (fun _ _ _ _ _ => (pv 5))) pa_nil)) pe_int)) (pss_cons (ps_set (i := 2) nd rfl (.inl rfl) (pe_callB (r := rLen K) call_len_seq (by rfl) B.len PySem.boot_len (pa_cons (pe_lc (own := [("word", 6), ("ties", 5)]) (g := (gTup K 2 (gCons (gName 6) (gCons (gName 5) gNil)))) rfl nd (pi_tup (pv 0)) (blkOk_by (N := NCp) (sc := defScope (top 29)) (by decide +kernel)) (fun _ _ _ _ _ => (pg_tup (by rfl) (pgs_cons (pg_name (i := 6) nd rfl (Or.inl rfl)) (pgs_cons (pg_name (i := 5) nd rfl (Or.inl rfl)) pgs_nil)))) (fun _ _ _ _ _ => pts_one (PW.pt (pw_and (pt_cmpR op_eq (pv 6) pe_str (nomark _)) (pw_and1 (pt_cmpR op_eq (pe_op op_mod (pv 5) pe_int) pe_int (nomark _)))))) (fun _ _ _ _ _ => (pv 6))) pa_nil))) (pss_cons (ps_set (i := 3) nd rfl (.inl rfl) (pe_callB (r := rLen K) call_len_seq (by rfl) B.len PySem.boot_len (pa_cons (pe_lc (own := [("word", 6), ("ties", 5)]) (g := (gTup K 2 (gCons (gName 6) (gCons (gName 5) gNil)))) rfl nd (pi_tup (pv 0)) (blkOk_by (N := NCp) (sc := defScope (top 29)) (by decide +kernel)) (fun _ _ _ _ _ => (pg_tup (by rfl) (pgs_cons (pg_name (i := 6) nd rfl (Or.inl rfl)) (pgs_cons (pg_name (i := 5) nd rfl (Or.inl rfl)) pgs_nil)))) (fun _ _ _ _ _ => pts_one (PW.pt (pw_and (pt_cmpR op_eq (pv 6) pe_str (nomark _)) (pw_and1 (pt_cmpR op_eq (pe_op op_mod (pv 5) pe_int) pe_int (nomark _)))))) (fun _ _ _ _ _ => (pv 6))) pa_nil))) (pss_one (ps_ret (pe_op op_sub (pe_op op_sub (pv 1) (pv 2)) (pe_op op_fdiv (pv 3) pe_int))))))), ?_⟩
    have lu : us.length = P.length := by rw [dpAll_len hd, List.length_map]
    refine ⟨_, rfl, T, rfl, ⟨_, hT⟩, fun D nD => ?_⟩
    refine lc_it (walk_tup (xs := us)) (fun i H' => Same H H' ∧ H' D = some (.lst (((P.take i).map fun p => ((p.2 : Nat) : Int)).map V.int))) ⟨Same.new nD, upd_same⟩ (fun i H' _ hq => Same.t hq.1 hT) ?_ ?_
    · rintro i z Ha Hb hi ⟨s', hD⟩ ⟨rfl, ez⟩
      obtain ⟨d, ed, dd⟩ := dpAll_at hd ez
      rw [List.getElem?_map] at ed
      obtain ⟨p, ep, rfl⟩ := Option.map_eq_some_iff.mp ed
      obtain ⟨t, rfl, hS⟩ := dp_pc dd
      refine ⟨t, _, rfl, Same.t s' hS, rfl, _, _, rfl, _, _, rfl, rfl, rfl, ?_⟩
      refine yesT ?_
      refine ⟨_, rfl, _, hD, ?_, same_put s' nD, ?_⟩
      · rw [List.length_map, List.length_map]
        exact Nat.lt_of_le_of_lt (Nat.le_trans (List.length_take_le' _ _) hl) (by decide)
      · rw [upd_same, take_next ep, List.map_append, List.map_append]
        rfl
    rintro H1 ⟨s1, hD⟩
    rw [lu, List.take_length] at hD
    refine ⟨D, _, rfl, SqL.of hD, _, 2, rfl, rfl, ⟨by decide, by decide⟩, gn ?_⟩
    refine ⟨_, rfl, T, rfl, ⟨_, Same.t s1 hT⟩, fun D2 nD2 => ?_⟩
    refine lc_it (walk_tup (xs := us)) (fun i H' => ∃ acc : List V, Same H1 H' ∧ H' D2 = some (.lst acc) ∧ acc.length = (P.take i).countP fun p => decide (p.1 = ("ring" : Str)) && decide (p.2 % 2 = 0)) ⟨[], Same.new nD2, upd_same, rfl⟩ (fun i H' _ hq => by
      obtain ⟨_, s', _⟩ := hq
      exact Same.t (s1.trans s') hT) ?_ ?_
    · rintro i z Ha Hb hi ⟨acc, s', hD, la⟩ ⟨rfl, ez⟩
      obtain ⟨d, ed, dd⟩ := dpAll_at hd ez
      rw [List.getElem?_map] at ed
      obtain ⟨p, ep, rfl⟩ := Option.map_eq_some_iff.mp ed
      obtain ⟨t, rfl, hS⟩ := dp_pc dd
      refine ⟨t, _, rfl, Same.t (s1.trans s') hS, rfl, _, _, rfl, _, _, rfl, rfl, rfl, ?_⟩
      rw [take_next ep, List.countP_append, List.countP_cons, List.countP_nil]
      have lb := List.countP_le_length (l := P.take i) (p := fun p => decide (p.1 = ("ring" : Str)) && decide (p.2 % 2 = 0))
      have lb2 := List.length_take_le' i P
      refine ⟨_, rfl, rfl, _, rfl, ?_⟩
      by_cases c1 : p.1 = ("ring" : Str)
      · rw [decide_eq_true (show V.str p.1 = V.str ("ring" : Str) by rw [c1])]
        refine iteT ⟨_, rfl, (p.2 : Nat), 2, rfl, rfl, (by show (0 : Int) < 2; decide), rfl, _, rfl, ?_⟩
        by_cases c2 : p.2 % 2 = 0
        · rw [decide_eq_true (show V.int (((p.2 : Nat) : Int) % 2) = V.int 0 by rw [show ((p.2 : Nat) : Int) % 2 = 0 by omega])]
          refine iteT ⟨_, rfl, acc, hD, Nat.lt_of_le_of_lt (show acc.length ≤ 1000 by omega) (by decide), acc ++ [_], same_put s' nD2, upd_same, ?_⟩
          rw [List.length_append, la, decide_eq_true c1, decide_eq_true c2]
          rfl
        · rw [decide_eq_false (show ¬ V.int (((p.2 : Nat) : Int) % 2) = V.int 0 from fun z => c2 (by have := V.int.inj z; omega))]
          refine iteF ⟨acc, s', hD, ?_⟩
          rw [la, decide_eq_false c2, Bool.and_false]
          rfl
      · rw [decide_eq_false (show ¬ V.str p.1 = V.str ("ring" : Str) from fun z => c1 (V.str.inj z))]
        refine iteF (iteF ⟨acc, s', hD, ?_⟩)
        rw [la, decide_eq_false c1, Bool.false_and]
        rfl
    rintro H2 ⟨acc2, s2, hD2, la2⟩
    rw [lu, List.take_length] at la2
    have sm2 := s1.trans s2
    refine ⟨D2, acc2, rfl, .inl (SqL.of hD2), gn ?_⟩
    refine ⟨_, rfl, T, rfl, ⟨_, Same.t sm2 hT⟩, fun D3 nD3 => ?_⟩
    refine lc_it (walk_tup (xs := us)) (fun i H' => ∃ acc : List V, Same H2 H' ∧ H' D3 = some (.lst acc) ∧ acc.length = (P.take i).countP fun p => decide (p.1 = ("path" : Str)) && decide (p.2 % 2 = 1)) ⟨[], Same.new nD3, upd_same, rfl⟩ (fun i H' _ hq => by
      obtain ⟨_, s', _⟩ := hq
      exact Same.t (sm2.trans s') hT) ?_ ?_
    · rintro i z Ha Hb hi ⟨acc, s', hD, la⟩ ⟨rfl, ez⟩
      obtain ⟨d, ed, dd⟩ := dpAll_at hd ez
      rw [List.getElem?_map] at ed
      obtain ⟨p, ep, rfl⟩ := Option.map_eq_some_iff.mp ed
      obtain ⟨t, rfl, hS⟩ := dp_pc dd
      refine ⟨t, _, rfl, Same.t (sm2.trans s') hS, rfl, _, _, rfl, _, _, rfl, rfl, rfl, ?_⟩
      rw [take_next ep, List.countP_append, List.countP_cons, List.countP_nil]
      have lb := List.countP_le_length (l := P.take i) (p := fun p => decide (p.1 = ("path" : Str)) && decide (p.2 % 2 = 1))
      have lb2 := List.length_take_le' i P
      refine ⟨_, rfl, rfl, _, rfl, ?_⟩
      by_cases c1 : p.1 = ("path" : Str)
      · rw [decide_eq_true (show V.str p.1 = V.str ("path" : Str) by rw [c1])]
        refine iteT ⟨_, rfl, (p.2 : Nat), 2, rfl, rfl, (by show (0 : Int) < 2; decide), rfl, _, rfl, ?_⟩
        by_cases c2 : p.2 % 2 = 1
        · rw [decide_eq_true (show V.int (((p.2 : Nat) : Int) % 2) = V.int 1 by rw [show ((p.2 : Nat) : Int) % 2 = 1 by omega])]
          refine iteT ⟨_, rfl, acc, hD, Nat.lt_of_le_of_lt (show acc.length ≤ 1000 by omega) (by decide), acc ++ [_], same_put s' nD3, upd_same, ?_⟩
          rw [List.length_append, la, decide_eq_true c1, decide_eq_true c2]
          rfl
        · rw [decide_eq_false (show ¬ V.int (((p.2 : Nat) : Int) % 2) = V.int 1 from fun z => c2 (by have := V.int.inj z; omega))]
          refine iteF ⟨acc, s', hD, ?_⟩
          rw [la, decide_eq_false c2, Bool.and_false]
          rfl
      · rw [decide_eq_false (show ¬ V.str p.1 = V.str ("path" : Str) from fun z => c1 (V.str.inj z))]
        refine iteF (iteF ⟨acc, s', hD, ?_⟩)
        rw [la, decide_eq_false c1, Bool.false_and]
        rfl
    rintro H3 ⟨acc3, s3, hD3, la3⟩
    rw [lu, List.take_length] at la3
    have sm3 := sm2.trans s3
    refine ⟨D3, acc3, rfl, .inl (SqL.of hD3), gn ?_⟩
    refine ⟨_, rfl, _, rfl, _, _, rfl, rfl, _, rfl, _, 2, rfl, rfl, ⟨by decide, by decide⟩, _, _, rfl, rfl, ?_⟩
    show Q (.int ((P.map fun p => ((p.2 : Nat) : Int)).sum / 2 - (acc2.length : Nat) - ((acc3.length : Nat) : Int) / 2)) _
    rw [la2, la3]
    exact q _ sm3
def spCh (K : PySem.W.Frag) : Sp := fun vs H Q _ => ∃ (v : V) (n : Nat) (js : List J2), vs = [v] ∧ Ly K H v n js ∧ Good n js ∧ ∀ (H' : Hp), Same H H' → Q (.int (hcJ n js)) H'
abbrev NCh : List Str := ["lay"]
theorem scCh : FnScope NCh ["lay"] (defScope (top 30)) := ⟨rfl, rfl, rfl, by decide +kernel, rfl, by decide +kernel, by decide +kernel⟩
theorem okCh {f fTb fCp : Addr} {fd fdTb fdCp : FuncData} (F : Fun K "cost_to_half" "cost_to_half" (top 30) f fd)
    (DTb : Df K mg "twin_web" fTb fdTb ["lay"]) (GTb : OkF P w K mg base 3 fTb fdTb ["lay"] (spTb K))
    (DCp : Df K mg "cost_of_pieces" fCp fdCp ["parts"]) (GCp : OkF P w K mg base 1 fCp fdCp ["parts"] (spCp K)) : OkF P w K mg base 4 f fd ["lay"] (spCh K) := by
  refine ok0 F scCh (fun vs H Q E h => ?_) (fun cdv A outer s H vs Q E hgd hr h => ?_)
  · obtain ⟨v, n, js, rfl, _⟩ := h; rfl
  · obtain ⟨v, n, js, rfl, ly, g, q⟩ := h
    have hr1 : Room 1 _ := hr.mono (by decide)
    have hr3 : Room 3 _ := hr
    refine ⟨_, (pss_one (ps_ret (cl DCp GCp hgd hr1 (pa_cons (cl DTb GTb hgd hr3 (pa_cons (pv 0) pa_nil)) pa_nil)))), ?_⟩
    refine ⟨_, rfl, v, n, js, rfl, ly, g, fun r us H1 s1 nr hr' dp => ⟨r, us, twL n js, rfl, SqT.of hr', dp, ?_, fun H2 s2 => ?_⟩⟩
    · rw [(twL_perm n js).length_eq]
      have h1 := (twF_len (f := mt js) (N := n) (word := "ring") (List.range (2 * n)) (twQ n js)).2
      have h2 := (twF_len (f := mt js) (N := n) (word := "path") (frees n js) ([], List.replicate (2 * n) false)).2
      change (twQ n js).1.length ≤ 0 + _ at h2
      have h3 := frees_len n js
      have tp := g.top
      rw [List.length_range] at h1
      change (tw n js).1.length ≤ _ at h1
      omega
    · rw [hcP_perm (twL_perm n js)]
      exact q H2 (s1.trans s2)
def spHc (K : PySem.W.Frag) : Sp := fun vs H Q _ => ∃ (v : V) (n : Nat) (js : List J2), vs = [v] ∧ Ly K H v n js ∧ Good n js ∧ n % 2 = 0 ∧ ∀ (H' : Hp), Same H H' → Q (.int (hcJ n js)) H'
abbrev NHc : List Str := ["lay"]
theorem scHc : FnScope NHc ["lay"] (defScope (top 32)) := ⟨rfl, rfl, rfl, by decide +kernel, rfl, by decide +kernel, by decide +kernel⟩
theorem okHc {f fNe fCh : Addr} {fd fdNe fdCh : FuncData} (F : Fun K "halving_cost" "halving_cost" (top 32) f fd)
    (DNe : Df K mg "need_doubled" fNe fdNe ["lay"]) (GNe : OkF P w K mg base 6 fNe fdNe ["lay"] (spNe K))
    (DCh : Df K mg "cost_to_half" fCh fdCh ["lay"]) (GCh : OkF P w K mg base 4 fCh fdCh ["lay"] (spCh K)) : OkF P w K mg base 7 f fd ["lay"] (spHc K) := by
  refine ok0 F scHc (fun vs H Q E h => ?_) (fun cdv A outer s H vs Q E hgd hr h => ?_)
  · obtain ⟨v, n, js, rfl, _⟩ := h; rfl
  · obtain ⟨v, n, js, rfl, ly, g, h2, q⟩ := h
    have hr4 : Room 4 _ := hr.mono (by decide)
    have hr6 : Room 6 _ := hr
    refine ⟨_, (pss_one (ps_ret (cl DCh GCh hgd hr4 (pa_cons (cl DNe GNe hgd hr6 (pa_cons (pv 0) pa_nil)) pa_nil)))), ?_⟩
    exact ⟨_, rfl, v, n, js, rfl, ly, g, h2, fun H1 s1 => ⟨v, n, js, rfl, ly.up s1, g, fun H2 s2 => q H2 (s1.trans s2)⟩⟩
end
end K37
-- K37b3
set_option Elab.async false
set_option linter.all false
set_option maxRecDepth 100000
set_option maxHeartbeats 8000000
namespace K37
open PySem L2 DC LamX
section
variable {K : PySem.W.Frag} {m lc lg : Addr} {nb : Nat} {H H' : Hp}
theorem TM.sx (s : SameM m lg H H') (hm : MB H m lc lg nb) : TM K H H' := ⟨fun h => sqT_m s hm h⟩
theorem mbX (e : ExtN H H') : MB H m lc lg nb → MB H' m lc lg nb
  | ⟨cs, gs, n, h1, h2, h3, r⟩ => ⟨cs, gs, n, dkX e h1, lstX e h2, lstX e h3, r⟩
theorem tabsM {T : List (Addr × Str)} (s : SameM m lg H H') (hm : MB H m lc lg nb) (t : Tabs T H) : Tabs T H' := by
  have ne : ∀ {a : Addr} {u : HO}, H a = some u → (∀ kvs, u ≠ .dK kvs) → (∀ ys, u ≠ .lst ys) → H' a = some u := fun {a u} e hu hv => s a u (hm.ne e hu) (hm.ng e hv) e
  intro p hp
  obtain ⟨ps, h1, h2, h3⟩ := t p hp
  refine ⟨ps, ne h1 (fun _ z => nomatch z) (fun _ z => nomatch z), h2, fun pos cv hc => ?_⟩
  obtain ⟨c, e1, e2⟩ := h3 pos cv hc
  exact ⟨c, e1, ne e2 (fun _ z => nomatch z) (fun _ z => nomatch z)⟩
theorem lst_m (s : SameM m lg H H') (hm : MB H m lc lg nb) {a : Addr} {xs : List V} (ng : a ≠ lg) (h : H a = some (.lst xs)) : H' a = some (.lst xs) := s _ _ (hm.ne h fun _ z => nomatch z) ng h
theorem MB.nf (hm : MB H m lc lg nb) {a : Addr} (h : H a = none) : a ≠ m ∧ a ≠ lg := by
  obtain ⟨z1, _, z3⟩ := hm.ms
  exact ⟨fun e => z1 (by rw [← e]; exact h), fun e => z3 (by rw [← e]; exact h)⟩
end
section
variable {K : PySem.W.Frag} {m lc lg : Addr} {n : Nat} {H H1 H2 : Hp} {l J : Addr} {nb nb' : Nat} {es : List Nat} {os : List Int}
end
section
variable {P : Program} {w : World} {K : PySem.W.Frag} {mg : Str → Option Value} {base : Heap}
end
end K37
-- K37er
set_option Elab.async false
set_option linter.all false
set_option maxRecDepth 100000
set_option maxHeartbeats 8000000
namespace K37
open PySem L2 DC LamX
section
variable {K : PySem.W.Frag} {m lc lg : Addr} {nb : Nat} {H H' : Hp}
end
theorem vn_erase (ys : List Nat) (i : Nat) : (Vn ys).eraseIdx i = Vn (ys.eraseIdx i) := by
  unfold Vn
  induction ys generalizing i with
  | nil => rfl
  | cons y ys ih =>
    cases i with
    | zero => rfl
    | succ i =>
      show V.int (y : Nat) :: (ys.map fun y => V.int (y : Nat)).eraseIdx i = V.int (y : Nat) :: (ys.eraseIdx i).map fun y => V.int (y : Nat)
      rw [ih i]
theorem seq_nat {n k : Nat} (h : k < n) : seqIndex? ((k : Nat) : Int) n = some k := (ixN_seq (Evl.ixN_nat h)).1
theorem perm_erase {es : List Nat} {k : Nat} (hk : k < es.length) : es.Perm (es[k] :: es.eraseIdx k) := by
  induction es generalizing k with
  | nil => exact absurd hk (Nat.not_lt_zero _)
  | cons e es ih =>
    cases k with
    | zero => exact List.Perm.refl _
    | succ k =>
      have hk : k < es.length := Nat.lt_of_succ_lt_succ hk
      exact ((ih hk).cons e).trans (List.Perm.swap _ _ _)
section
variable {K : PySem.W.Frag} {m lc lg : Addr} {n : Nat} {H H1 H2 : Hp} {l J : Addr} {nb nb' : Nat} {es : List Nat} {os : List Int}
end
section
variable {P : Program} {w : World} {K : PySem.W.Frag} {mg : Str → Option Value} {base : Heap}
end
end K37
-- K37l2
set_option Elab.async false
set_option linter.all false
set_option maxRecDepth 100000
set_option maxHeartbeats 2000000
/-! K97l2: _law_pair, _law_mates, _law_free, _law_lay, _law_shuffled -/
namespace K37
open PySem L2 DC LamX
theorem iminV (a b : Nat) : (if ((b : Nat) : Int) < ((a : Nat) : Int) then ((b : Nat) : Int) else ((a : Nat) : Int)) = ((min a b : Nat) : Int) := by
  split <;> omega
theorem imaxV (a b : Nat) : (if ((b : Nat) : Int) > ((a : Nat) : Int) then ((b : Nat) : Int) else ((a : Nat) : Int)) = ((max a b : Nat) : Int) := by
  split <;> omega
section
variable {P : Program} {w : World} {K : PySem.W.Frag} {mg : Str → Option Value} {base : Heap}
def spPa : Sp := fun vs H Q _ => ∃ a b : Nat, vs = [.int (a : Nat), .int (b : Nat)] ∧ ∀ (t : Addr) (H' : Hp), Same H H' → H t = none → H' t = some (.tup [.int (min a b : Nat), .int (max a b : Nat)]) → Q (.ref t) H'
abbrev NPa : List Str := ["one", "other"]
theorem scPa : FnScope NPa ["one", "other"] (defScope (top 43)) := ⟨rfl, rfl, rfl, by decide +kernel, rfl, by decide +kernel, by decide +kernel⟩
theorem okPa {f : Addr} {fd : FuncData} (F : Fun K "_law_pair" "_law_pair" (top 43) f fd) (B : Bn mg) : OkF P w K mg base 1 f fd ["one", "other"] spPa := by
  refine ok0 F scPa (fun vs H Q E h => ?_) (fun cdv A outer s H vs Q E hgd hr h => ?_)
  · obtain ⟨a, b, rfl, _⟩ := h; rfl
  · obtain ⟨a, b, rfl, q⟩ := h
    have nd := scPa.nd
    refine ⟨_, (pss_one (ps_ret (pe_tup (pa_cons (pe_callB (call_min2 rfl) (by rfl) B.min (by decide +kernel) (pa_cons (pv 0) (pa_cons (pv 1) pa_nil))) (pa_cons (pe_callB (call_max2 rfl) (by rfl) B.max (by decide +kernel) (pa_cons (pv 0) (pa_cons (pv 1) pa_nil))) pa_nil))))), ?_⟩
    refine ⟨_, rfl, _, rfl, ((a : Nat) : Int), ((b : Nat) : Int), rfl, _, rfl, _, rfl, ((a : Nat) : Int), ((b : Nat) : Int), rfl, ?_⟩
    rw [iminV, imaxV]
    exact ⟨by show 2 ≤ sizeLine; decide, fun T hT => q T _ (Same.new hT) hT upd_same⟩
abbrev NMt : List Str := ["lay_so", "found", "one", "other"]
theorem scMt : FnScope NMt ["lay_so"] (defScope (top 44)) := ⟨rfl, rfl, rfl, by decide +kernel, rfl, by decide +kernel, by decide +kernel⟩
theorem okMt {f : Addr} {fd : FuncData} (F : Fun K "_law_mates" "_law_mates" (top 44) f fd) (B : Bn mg) : OkF P w K mg base 1 f fd ["lay_so"] (spMates K) := by
  refine ok0 F scMt (fun vs H Q E h => ?_) (fun cdv A outer s H vs Q E hgd hr h => ?_)
  · obtain ⟨v, n, js, rfl, _⟩ := h; rfl
  · obtain ⟨v, n, js, rfl, ⟨t, u, rfl, hS, tj, ws, rfl, hSj, hPj⟩, g, q⟩ := h
    have nd := scMt.nd
    have tp := g.top
    have a0 : atI [V.int (n : Nat), V.ref tj] 0 = some (.int (n : Nat)) := at_of (j := 0) rfl rfl
    have a1 : atI [V.int (n : Nat), V.ref tj] 1 = some (.ref tj) := at_of (j := 1) rfl rfl
    refine ⟨_, (pss_cons (ps_set (i := 1) nd rfl (.inl rfl) (pe_op op_rep (pe_lst (pa_cons pe_non pa_nil)) (pe_op op_mul pe_int (pe_ix (r := rIxT K) ix_tup (pv 0) pe_int (fun _ _ => rfl))))) (pss_cons (ps_for PassesOwn.never rfl (pi_tup (pe_ix (r := rIxT K) ix_tup (pv 0) pe_int (fun _ _ => rfl))) (pg_tup (by rfl) (pgs_cons (pg_name (i := 2) nd rfl (.inl rfl)) (pgs_cons (pg_name (i := 3) nd rfl (.inl rfl)) pgs_nil))) (pss_one (ps_asg (pe_tup (pa_cons (pv 3) (pa_cons (pv 2) pa_nil))) (pg_tup (by rfl) (pgs_cons (pg_sub (pv 1) (pv 2) set_list) (pgs_cons (pg_sub (pv 1) (pv 3) set_list) pgs_nil)))))) (pss_one (ps_ret (pv 1))))), ?_⟩
    refine ⟨by show 1 ≤ sizeLine; decide, fun l0 hl0 => ?_⟩
    have s0 := Same.new (o := .lst [V.non]) hl0
    refine ⟨_, rfl, t, _, 0, _, rfl, rfl, Same.t s0 hS, a0, 2, (n : Int), rfl, rfl, .inl ⟨by decide, by decide⟩, l0, 2 * (n : Int), [.non], rfl, rfl, upd_same, by omega, by omega, ?_, fun l hl => ?_⟩
    · show 1 * (2 * (n : Int)).toNat ≤ sizeLine
      exact Nat.le_trans (show 1 * (2 * (n : Int)).toNat ≤ 24 by omega) (by decide)
    refine gn ?_
    have Hl : H l = none := Same.free (same_new0 hl0) hl
    have s2 : Same H (upd (upd H l0 (.lst [.non])) l (.lst (List.replicate (2 * (n : Int)).toNat [V.non]).flatten)) := same_put (same_new0 hl0) Hl
    refine ⟨_, rfl, t, _, 1, _, rfl, rfl, Same.t s2 hS, a1, tj, rfl, ⟨ws, Same.t s2 hSj⟩, for_it (walk_tup (xs := ws)) (fun i σ H' => ∃ y4 y5, σ = [some (.ref t), some (.ref l), y4, y5] ∧ Same H H' ∧ H' l = some (.lst (mV n (js.take i)))) ⟨none, none, rfl, s2, ?_⟩ ?_ ?_ ?_⟩
    · rw [upd_same, non_rep]
      rfl
    · rintro i σ H' hi ⟨y4, y5, rfl, sm, _⟩
      exact Same.t sm hSj
    · rintro i x σ H1 H2 hi ⟨y4, y5, rfl, sm, hL⟩ ⟨rfl, ex⟩
      obtain ⟨p, hp, j, rfl, hj⟩ := pair_at hPj ex
      obtain ⟨r1, r2, r3, r4, r5⟩ := good_at g hp
      refine ⟨j, _, rfl, Same.t sm hj, rfl, _, _, rfl, _, _, rfl, rfl, ?_⟩
      refine ⟨_, rfl, _, rfl, by show 2 ≤ sizeLine; decide, fun T hT => ?_⟩
      have sT := Same.new (o := .tup [.int (p.2 : Nat), .int (p.1 : Nat)]) hT
      have hL2 := sT _ _ hL
      refine ⟨T, _, rfl, SqT.of upd_same, rfl, _, _, rfl, ?_⟩
      refine ⟨_, rfl, _, rfl, l, mV n (js.take i), _, p.1, rfl, rfl, hL2, Evl.ixN_nat (by rw [mV_len]; omega), ?_⟩
      refine ⟨_, _, rfl, _, rfl, _, rfl, l, _, _, p.2, rfl, rfl, upd_same, Evl.ixN_nat (by rw [List.length_set, mV_len]; exact r2), rfl, ?_⟩
      refine ⟨_, _, rfl, same_put (same_put (sm.trans sT) Hl) Hl, ?_⟩
      rw [upd_same, take_next hp, mV_step r3 r4]
    · rintro σ H' ⟨y4, y5, rfl, sm, hL⟩
      rw [List.take_of_length_le (by rw [Paired.length hPj]; exact Nat.le_refl _)] at hL
      exact ⟨_, rfl, q l H' sm Hl hL⟩
abbrev NLf : List Str := ["lay", "end", "mate"]
end
theorem Vn_get {ys : List Nat} {i y : Nat} (h : ys[i]? = some y) : (Vn ys)[i]? = some (.int (y : Nat)) := by
  unfold Vn
  rw [List.getElem?_map, h]
  rfl
structure LJ (K : PySem.W.Frag) (m lc lg : Addr) (n : Nat) (H H' : Hp) (l J : Addr) (es : List Nat) (vs : List V) (js : List J2) (nb : Nat) : Prop where
  m0 : ∃ b, MB H m lc lg b
  sx : SameM m lg H H'
  mt : MB H' m lc lg nb
  left : H' l = some (.lst (Vn es))
  jl : H' J = some (.lst vs)
  pr : Paired (Pr K H') vs js
  asc : es.Pairwise (· < ·)
  lt : ∀ e ∈ es, e < 2 * n
  ok : ∀ p ∈ js, p.1 < p.2 ∧ p.2 < 2 * n
  ap : js.Pairwise DC.Apart
  jasc : js.Pairwise (fun p q => p.1 < q.1)
  off : ∀ p ∈ js, ∀ e ∈ es, e ≠ p.1 ∧ e ≠ p.2 ∧ p.1 < e
  fl : H l = none
  fJ : H J = none
  ne : l ≠ J
  cnt : js.length + es.length ≤ 2 * n
section
variable {K : PySem.W.Frag} {m lc lg : Addr} {n : Nat} {H H1 H2 : Hp} {l J : Addr} {es : List Nat} {vs : List V} {js : List J2} {nb : Nat}
theorem LJ.nm (L : LJ K m lc lg n H H1 l J es vs js nb) {a : Addr} (h : H a = none) : a ≠ m ∧ a ≠ lg := by
  obtain ⟨b, h0⟩ := L.m0
  obtain ⟨z1, _, z3⟩ := h0.ms
  exact ⟨fun e => z1 (by rw [← e]; exact h), fun e => z3 (by rw [← e]; exact h)⟩
theorem LJ.draw (L : LJ K m lc lg n H H1 l J es vs js nb) {nb' : Nat} (s : SameM m lg H1 H2) (hM : MB H2 m lc lg nb') : LJ K m lc lg n H H2 l J es vs js nb' :=
  { L with
    sx := L.sx.trans s
    mt := hM
    left := s _ _ (L.nm L.fl).1 (L.nm L.fl).2 L.left
    jl := s _ _ (L.nm L.fJ).1 (L.nm L.fJ).2 L.jl
    pr := L2.Paired.mapP L.pr fun _ _ ⟨t, q, h⟩ => ⟨t, q, sqT_m s L.mt h⟩ }
theorem LJ.same (L : LJ K m lc lg n H H1 l J es vs js nb) (s : Same H1 H2) : LJ K m lc lg n H H2 l J es vs js nb := L.draw (Same.m s) (L.mt.up s)
theorem LJ.drop (L : LJ K m lc lg n H H1 l J es vs js nb) (k : Nat) : LJ K m lc lg n H (upd H1 l (.lst (Vn (es.eraseIdx k)))) l J (es.eraseIdx k) vs js nb := by
  obtain ⟨b, h0⟩ := L.m0
  have sub : (es.eraseIdx k).Sublist es := List.eraseIdx_sublist ..
  exact { L with
    sx := L.sx.put L.fl
    mt := h0.putf L.mt L.fl
    left := upd_same
    jl := by rw [upd_ne (Ne.symm L.ne)]; exact L.jl
    pr := L2.Paired.mapP L.pr fun _ _ ⟨t, q, h⟩ => ⟨t, q, sqT_put h L.left⟩
    asc := L.asc.sublist sub
    lt := fun e he => L.lt e (sub.subset he)
    off := fun p hp e he => L.off p hp e (sub.subset he)
    cnt := Nat.le_trans (Nat.add_le_add_left sub.length_le _) L.cnt }
theorem LJ.more (L : LJ K m lc lg n H H1 l J es vs js nb) {T : Addr} {a b : Nat} (hT : H1 T = some (.tup [.int (a : Nat), .int (b : Nat)])) (hab : a < b) (hb : b < 2 * n)
    (h1 : ∀ p ∈ js, a ≠ p.1 ∧ a ≠ p.2 ∧ p.1 < a) (h2 : ∀ p ∈ js, b ≠ p.1 ∧ b ≠ p.2) (h3 : ∀ e ∈ es, e ≠ a ∧ e ≠ b ∧ a < e) (h4 : js.length + 1 + es.length ≤ 2 * n) :
    LJ K m lc lg n H (upd H1 J (.lst (vs ++ [.ref T]))) l J es (vs ++ [.ref T]) (js ++ [(a, b)]) nb := by
  obtain ⟨b0, h0⟩ := L.m0
  exact { L with
    sx := L.sx.put L.fJ
    mt := h0.putf L.mt L.fJ
    left := by rw [upd_ne L.ne]; exact L.left
    jl := upd_same
    pr := pair_snoc (L2.Paired.mapP L.pr fun _ _ ⟨t, q, h⟩ => ⟨t, q, sqT_put h L.jl⟩) ⟨T, rfl, sqT_put (SqT.of hT) L.jl⟩
    ok := fun p hp => by
      rcases List.mem_append.mp hp with h | h
      · exact L.ok p h
      · obtain rfl := List.mem_singleton.mp h
        exact ⟨hab, hb⟩
    ap := by
      refine List.pairwise_append.mpr ⟨L.ap, List.pairwise_singleton _ _, fun p hp q hq => ?_⟩
      obtain rfl := List.mem_singleton.mp hq
      have x1 := h1 p hp
      have x2 := h2 p hp
      exact ⟨Ne.symm x1.1, Ne.symm x2.1, Ne.symm x1.2.1, Ne.symm x2.2⟩
    jasc := by
      refine List.pairwise_append.mpr ⟨L.jasc, List.pairwise_singleton _ _, fun p hp q hq => ?_⟩
      obtain rfl := List.mem_singleton.mp hq
      exact (h1 p hp).2.2
    off := fun p hp e he => by
      rcases List.mem_append.mp hp with h | h
      · exact L.off p h e he
      · obtain rfl := List.mem_singleton.mp h
        exact h3 e he
    cnt := by
      rw [List.length_append]
      exact h4 }
end
section
variable {P : Program} {w : World} {K : PySem.W.Frag} {mg : Str → Option Value} {base : Heap}
abbrev NLa2 : List Str := ["m", "many", "left", "found", "one"]
end
end K37
-- K37lt
set_option Elab.async false
set_option linter.all false
set_option maxRecDepth 100000
set_option maxHeartbeats 4000000
/-! K37lt: _law_twin, _law_twin_pieces -/
namespace K37
open PySem L2 DC LamX ITG
open TI (fJ tau tnN tg Sm Hp1 Hq)
/-- the heaps found so far -/
structure Fw (n : Nat) (js : List J2) (i : Nat) (seen : List Nat) (hs : List (List Nat)) : Prop where
  cl : ∀ h ∈ hs, Hp1 n js (tau n) h
  dis : hs.Pairwise fun h h' => ∀ e, e ∈ h → e ∉ h'
  mem : ∀ x, x ∈ seen ↔ ∃ h ∈ hs, x ∈ h
  tk : ∀ x, x < i → x ∈ seen
  len : seen.length ≤ 24 * i
  cnt : hs.length ≤ i
theorem Fw.zero {n : Nat} {js : List J2} : Fw n js 0 [] [] := ⟨fun h hh => absurd hh List.not_mem_nil, .nil, fun x => ⟨fun h => absurd h List.not_mem_nil, fun ⟨_, h, _⟩ => absurd h List.not_mem_nil⟩, fun x hx => absurd hx (Nat.not_lt_zero x), Nat.le_refl _, Nat.le_refl _⟩
section
variable {n : Nat} {js : List J2} {i : Nat} {seen : List Nat} {hs : List (List Nat)}
theorem Fw.stay (F : Fw n js i seen hs) (c : i ∈ seen) : Fw n js (i + 1) seen hs :=
  ⟨F.cl, F.dis, F.mem, fun x hx => by
    rcases Nat.lt_succ_iff_lt_or_eq.mp hx with h | rfl
    · exact F.tk x h
    · exact c, by have := F.len; omega, by have := F.cnt; omega⟩
theorem Fw.next (F : Fw n js i seen hs) (g : Good n js) (c : i ∉ seen) (hi : i < 2 * n) {h : List Nat} (k : Cls (2 * n) (mt js) (mt (tau n)) i h) (le : h.length ≤ 24) : Fw n js (i + 1) (seen ++ h) (hs ++ [h]) := by
  have H : Hp1 n js (tau n) h := ⟨i, hi, k⟩
  refine ⟨fun q hq => ?_, ?_, fun x => ?_, fun x hx => ?_, by rw [List.length_append]; have := F.len; omega, by rw [List.length_append]; exact Nat.succ_le_succ F.cnt⟩
  · rcases List.mem_append.mp hq with m | m
    · exact F.cl q m
    · rw [List.mem_singleton.mp m]; exact H
  · rw [List.pairwise_append]
    refine ⟨F.dis, List.pairwise_singleton _ _, fun q hq r hr x xq xr => ?_⟩
    rw [List.mem_singleton.mp hr] at xr
    have s := (TI.hp_mem g (tg g) H k.beg x).mp xr
    exact c ((F.mem i).mpr ⟨q, hq, (TI.hp_mem g (tg g) (F.cl q hq) xq i).mpr (TI.sm_symm g (tg g) s)⟩)
  · rw [List.mem_append, F.mem x]
    constructor
    · rintro (⟨q, hq, m⟩ | m)
      · exact ⟨q, List.mem_append_left _ hq, m⟩
      · exact ⟨h, List.mem_append_right _ List.mem_cons_self, m⟩
    · rintro ⟨q, hq, m⟩
      rcases List.mem_append.mp hq with z | z
      · exact .inl ⟨q, z, m⟩
      · rw [List.mem_singleton.mp z] at m
        exact .inr m
  · rcases Nat.lt_succ_iff_lt_or_eq.mp hx with z | rfl
    · exact List.mem_append_left _ (F.tk x z)
    · exact List.mem_append_right _ k.beg
theorem Fw.fin (F : Fw n js (2 * n) seen hs) : Hq n js (tau n) hs := ⟨F.cl, F.dis, fun e he => (F.mem e).mp (F.tk e he)⟩
theorem pcD_inj {p q : Str × Nat} (h : pcD p = pcD q) : p = q := by
  unfold pcD at h
  injection h with h
  injection h with h1 h2
  injection h2 with h2 h3
  injection h1 with h1
  injection h2 with h2
  exact Prod.ext h1 (by omega)
theorem pc_keys {p q : Str × Nat} (h : PySem.W.keyToks (pcD p) = PySem.W.keyToks (pcD q)) : pcD p = pcD q := by
  unfold pcD at h ⊢
  simp only [PySem.W.keyToks, PySem.W.keyToksAll, List.singleton_append, List.cons.injEq, Sum.inr.injEq, Sum.inl.injEq, true_and, and_true, List.append_nil, List.cons_append, List.nil_append] at h
  rw [PySem.W.str_of_cps h.1, h.2]
theorem pcs_sort (g : Good n js) (H : Hq n js (tau n) hs) : ((hs.map (pk js)).map pcD).mergeSort (PySem.W.dataLe false id) = (twL n js).map pcD := by
  rw [← twL_data]
  refine sort_same ((tw_hq g H).symm.map pcD) fun a ha b hb e => ?_
  obtain ⟨p, _, rfl⟩ := List.mem_map.mp ha
  obtain ⟨q, _, rfl⟩ := List.mem_map.mp hb
  exact pc_keys e
theorem free_ring {pc : List Nat} : decide (pc.filter (fun x => (mt js x).isNone) = []) = decide (cn js pc = 0) := by
  refine decide_eq_decide.mpr ?_
  unfold cn
  rw [List.countP_eq_length_filter, List.length_eq_zero_iff]
end
section
variable {P : Program} {w : World} {K : PySem.W.Frag} {mg : Str → Option Value} {base : Heap}
def spLt : Sp := fun vs H Q _ => ∃ N e : Nat, vs = [.int (N : Nat), .int (e : Nat)] ∧ e < 2 * N ∧ Q (.int (twN N e : Nat)) H
abbrev NLtn : List Str := ["many", "end"]
theorem scLtn : FnScope NLtn ["many", "end"] (defScope (top 48)) := ⟨rfl, rfl, rfl, by decide +kernel, rfl, by decide +kernel, by decide +kernel⟩
theorem okLt {f : Addr} {fd : FuncData} (F : Fun K "_law_twin" "_law_twin" (top 48) f fd) (B : Bn mg) : OkF P w K mg base 1 f fd ["many", "end"] spLt := by
  refine ok0 F scLtn (fun vs H Q E h => ?_) (fun cdv A outer s H vs Q E hgd hr h => ?_)
  · obtain ⟨N, e, rfl, _⟩ := h; rfl
  · obtain ⟨N, e, rfl, he, q⟩ := h
    have nd := scLtn.nd
    refine ⟨_, (pss_one (ps_ret (pe_op op_mod (pe_callTy call_int1 (by rfl) B.int (by decide +kernel) (pa_cons (pe_op op_add (pv 1) (pv 0)) pa_nil)) (pe_op op_mul pe_int (pv 0))))), ?_⟩
    refine ⟨_, rfl, _, rfl, (e : Nat), (N : Nat), rfl, rfl, .inl ⟨_, rfl, _, rfl, 2, (N : Nat), rfl, rfl, .inl ⟨by decide, by decide⟩, ((e : Nat) : Int) + (N : Nat), 2 * ((N : Nat) : Int), rfl, rfl, by show (0 : Int) < 2 * ((N : Nat) : Int); omega, ?_⟩⟩
    have : (((e : Nat) : Int) + (N : Nat)) % (2 * ((N : Nat) : Int)) = ((twN N e : Nat) : Int) := by
      unfold twN
      split
      · rw [Int.emod_eq_of_lt (by omega) (by omega)]; omega
      · rw [show ((e : Nat) : Int) + (N : Nat) = ((e - N : Nat) : Int) + 2 * ((N : Nat) : Int) by omega, Int.add_emod_right, Int.emod_eq_of_lt (by omega) (by omega)]
    dsimp only
    rw [this]
    exact q
theorem wordt {H : Hp} {σ : L2.St} {Q : VK} {b : Bool} (e8 : σ[8]? = some (some (.bl b))) (q : Q (if b = true then V.str "ring" else V.str "path") H) : tIf (tB (tVar 8)) (tC (.str "ring")) (tC (.str "path")) σ H Q := by
  refine ⟨_, e8, b, rfl, ?_⟩
  cases b
  · exact iteF q
  · exact iteT q
/-- the first to be looked at: the end itself, unless it was seen -/
theorem wtest {K : PySem.W.Frag} {H : Hp} {σ : L2.St} {Q : VK} {S : Addr} {seen : List Nat} {e : Nat} (e4 : σ[4]? = some (some (.int (e : Nat)))) (e2 : σ[2]? = some (some (.ref S))) (hS : H S = some (.lst (Vn seen)))
    (q : ∀ p, H p = none → Q (.ref p) (upd H p (.lst (Vn (if e ∈ seen then [] else [e]))))) : tIf (tTest (tOp (rIn K false) (tVar 4) (tVar 2))) (tLst tNil) (tLst (tCons (tVar 4) tNil)) σ H Q := by
  refine ⟨_, e4, _, e2, S, _, rfl, .inl (SqL.of hS), rfl, flat_Vn _, ?_⟩
  rw [in_row]
  by_cases c : e ∈ seen
  · rw [decide_eq_true c]
    rw [if_pos c] at q
    exact ⟨_, rfl, iteT ⟨by show 0 ≤ sizeLine; decide, q⟩⟩
  · rw [decide_eq_false c]
    rw [if_neg c] at q
    exact ⟨_, rfl, iteF ⟨_, e4, by show 1 ≤ sizeLine; decide, q⟩⟩
def spLtp (K : PySem.W.Frag) : Sp := fun vs H Q _ => ∃ (v : V) (n : Nat) (js : List J2), vs = [v] ∧ Ly K H v n js ∧ Good n js ∧ ∀ (r : Addr) (us : List V) (H' : Hp), Same H H' → H r = none → H' r = some (.lst us) → DpAll K H' us ((twL n js).map pcD) → Q (.ref r) H'
abbrev NLtp : List Str := ["lay_so", "mates_v", "seen", "found", "end", "piece", "waiting", "here", "is_ring"]
theorem scLtp : FnScope NLtp ["lay_so"] (defScope (top 49)) := ⟨rfl, rfl, rfl, by decide +kernel, rfl, by decide +kernel, by decide +kernel⟩
theorem okLtp {f fMt fLt : Addr} {fd fdMt fdLt : FuncData} (F : Fun K "_law_twin_pieces" "_law_twin_pieces" (top 49) f fd) (B : Bn mg)
    (DMt : Df K mg "_law_mates" fMt fdMt ["lay_so"]) (GMt : OkF P w K mg base 1 fMt fdMt ["lay_so"] (spMates K))
    (DLt : Df K mg "_law_twin" fLt fdLt ["many", "end"]) (GLt : OkF P w K mg base 1 fLt fdLt ["many", "end"] spLt) : OkF P w K mg base 2 f fd ["lay_so"] (spLtp K) := by
  refine ok0 F scLtp (fun vs H Q E h => ?_) (fun cdv A outer s H vs Q E hgd hr h => ?_)
  · obtain ⟨v, n, js, rfl, _⟩ := h; rfl
  · obtain ⟨v, n, js, rfl, ly, g, q⟩ := h
    have nd := scLtp.nd
    have hr1 : Room 1 _ := hr
    have tp := g.top
    have FT := (tg g).mt
    have GM := g.mt
    refine ⟨_, (pss_cons (ps_asg (pe_tup (pa_cons (cl DMt GMt hgd hr1 (pa_cons (pv 0) pa_nil)) (pa_cons (pe_lst pa_nil) (pa_cons (pe_lst pa_nil) pa_nil)))) (pg_tup (by rfl) (pgs_cons (pg_name (i := 1) nd rfl (.inr rfl)) (pgs_cons (pg_name (i := 2) nd rfl (.inl rfl)) (pgs_cons (pg_name (i := 3) nd rfl (.inl rfl)) pgs_nil))))) (pss_cons (ps_for PassesOwn.never rfl (pi_range1 (by rfl) B.range (pa_cons (pe_op op_mul pe_int (pe_ix (r := rIxT K) ix_tup (pv 0) pe_int (fun _ _ => rfl))) pa_nil)) (pg_name (i := 4) nd rfl (.inl rfl)) (pss_cons (ps_par (i := 5) (j := 6) (by rfl) nd rfl rfl (by decide) rfl rfl (pa_cons (pe_lst pa_nil) (pa_cons (pe_ifExp (pt_cmpR (r := rIn K false) op_in_seq (pv 4) (pv 2) (by rfl)) (pe_lst pa_nil) (pe_lst (pa_cons (pv 4) pa_nil))) pa_nil)) (by rfl)) (pss_cons (ps_while PassesOwn.never (pt_cmpR (op_neD hr.units) (pv 6) (pe_lst pa_nil) (nomark _)) (pss_cons (ps_set (i := 7) nd rfl (.inl rfl) (pe_bm0 PySem.F.plainAttrs_list PySem.F.slot_list_pop PySem.F.type_list_pop mt_pop (pv 6))) (pss_one (ps_if (pt_cmpR (r := rIn K true) op_notIn_seq (pv 7) (pv 5) (by rfl)) (pss_cons (ps_expr (pe_bm PySem.F.plainAttrs_list PySem.F.slot_list_append PySem.F.type_list_append mt_append (pv 5) (pa_cons (pv 7) pa_nil))) (pss_cons (ps_expr (pe_bm PySem.F.plainAttrs_list PySem.F.slot_list_append PySem.F.type_list_append mt_append (pv 6) (pa_cons (cl DLt GLt hgd hr1 (pa_cons (pe_ix (r := rIxT K) ix_tup (pv 0) pe_int (fun _ _ => rfl)) (pa_cons (pv 7) pa_nil))) pa_nil))) (pss_one (ps_set (i := 6) nd rfl (.inl rfl) (pe_op op_cat (pv 6) (pe_op op_rep (pe_lst (pa_cons (pe_ix (r := rIxL K) ix_list (pv 1) (pv 7) (fun _ _ => rfl)) pa_nil)) (pe_callTy call_int1 (by rfl) B.int (by decide +kernel) (pa_cons (pe_cmp (pc_notN (pe_ix (r := rIxL K) ix_list (pv 1) (pv 7) (fun _ _ => rfl)))) pa_nil)))))))) pss_nil)))) (pss_one (ps_if (pt_cmpR (op_neD hr.units) (pv 5) (pe_lst pa_nil) (nomark _)) (pss_cons (ps_set (i := 2) nd rfl (.inl rfl) (pe_op op_cat (pv 2) (pv 5))) (pss_cons (ps_set (i := 8) nd rfl (.inl rfl) (pe_cmpR (op_eqD hr.units) (pe_lc (own := [("here", 7)]) (g := (gName 7)) rfl nd (pi_list (pv 5)) (blkOk_by (N := NLtp) (sc := defScope (top 49)) (by decide +kernel)) (fun _ _ _ _ _ => (pg_name (i := 7) nd rfl (Or.inl rfl))) (fun _ _ _ _ _ => pts_one (pt_cmp (pc_isN (pe_ix (r := rIxL K) ix_list (pv 1) (pv 7) (fun _ _ => rfl))) rfl)) (fun _ _ _ _ _ => (pv 7))) (pe_lst pa_nil) (nomark _))) (pss_one (ps_expr (pe_bm PySem.F.plainAttrs_list PySem.F.slot_list_append PySem.F.type_list_append mt_append (pv 3) (pa_cons (pe_tup (pa_cons (pe_ifExp (pt_val (pv 8)) pe_str pe_str) (pa_cons (pe_op op_fdiv (pe_callB (r := rLen K) call_len_seq (by rfl) B.len PySem.boot_len (pa_cons (pv 5) pa_nil)) pe_int) pa_nil))) pa_nil)))))) pss_nil))))) (pss_one (ps_ret (pe_callB (cr_sortD hr.units) (by rfl) B.sorted (by decide +kernel) (pa_cons (pv 3) pa_nil)))))), ?_⟩
    obtain ⟨ta, tb, rfl, hS, tj, ws, rfl, hj, hp⟩ := id ly
    refine ⟨_, rfl, _, n, js, rfl, ly, g, fun m H1 s1 f1 h1 => ?_⟩
    refine ⟨by show 0 ≤ sizeLine; decide, fun S0 nS0 => ⟨by show 0 ≤ sizeLine; decide, fun fo nfo => ⟨by show 3 ≤ sizeLine; decide, fun T3 nT3 => ?_⟩⟩⟩
    have u1 := Same.new (o := .lst []) nS0
    have u2 := Same.new (o := .lst []) nfo
    have u3 := Same.new (o := .tup [.ref m, .ref S0, .ref fo]) nT3
    have uu := u1.trans (u2.trans u3)
    have hm := uu _ _ h1
    have hS0 := (u2.trans u3) _ _ (upd_same (H := H1) (a := S0) (o := .lst []))
    have hfo := u3 _ _ (upd_same (H := upd H1 S0 (.lst [])) (a := fo) (o := .lst []))
    have nfoH : H fo = none := s1.free (u1.free nfo)
    have nem : m ≠ fo := fun z => by have := u1.free nfo; rw [← z, h1] at this; cases this
    have neS : S0 ≠ fo := fun z => by rw [← z, upd_same] at nfo; cases nfo
    have sA := s1.trans uu
    refine ⟨T3, _, rfl, SqT.of upd_same, rfl, _, _, rfl, _, _, rfl, _, _, rfl, rfl, gn ?_⟩
    generalize upd (upd (upd H1 S0 (.lst [])) fo (.lst [])) T3 (.tup [.ref m, .ref S0, .ref fo]) = H4 at hm hS0 hfo sA ⊢
    refine ⟨_, rfl, ta, _, 0, .int (n : Nat), rfl, rfl, Same.t sA hS, rfl, ?_⟩
    refine ⟨2, (n : Nat), rfl, rfl, .inl ⟨by decide, by decide⟩, _, rfl, by omega, by omega, ?_⟩
    rw [show (2 * ((n : Nat) : Int)).toNat = 2 * n by omega]
    refine for_it (walk_range (lo := 0) (n := 2 * n)) (fun i σ H' => ∃ (S : Addr) (seen : List Nat) (hs : List (List Nat)) (vs : List V) (x4 x5 x6 x7 x8 : Option V), σ = [some (.ref ta), some (.ref m), some (.ref S), some (.ref fo), x4, x5, x6, x7, x8] ∧ Same H H' ∧ S ≠ fo ∧ H' m = some (.lst (mV n js)) ∧ H' S = some (.lst (Vn seen)) ∧ H' fo = some (.lst vs) ∧ Paired (PcV K H') vs (hs.map (pk js)) ∧ Fw n js i seen hs)
      ⟨S0, [], [], [], none, none, none, none, none, rfl, sA, neS, hm, hS0, hfo, .nil, .zero⟩ (fun _ _ _ _ _ => trivial) ?_ ?_
    · rintro i z σ Ha Hb hi ⟨S, seen, hs, vs, x4, x5, x6, x7, x8, rfl, sm, nSf, hm, hSe, hF, hP, fw⟩ ⟨rfl, ez⟩
      obtain rfl : z = .int (i : Nat) := by
        rw [ez]
        show V.int (0 + (i : Int)) = _
        rw [Int.zero_add]
      have lseen := fw.len
      have lhs := fw.cnt
      refine gn ?_
      refine ⟨by show 0 ≤ sizeLine; decide, fun Pp nP => ?_⟩
      have sP := Same.new (o := .lst []) nP
      refine wtest (S := S) (seen := seen) (e := i) rfl rfl (sP _ _ hSe) fun W0 nW => ⟨_, _, rfl, ?_⟩
      have nW' := sP.free nW
      have neP : Pp ≠ W0 := fun z => by rw [← z, upd_same] at nW; cases nW
      refine ⟨fun k σ H' => ∃ (W : Addr) (pc wt : List Nat) (x7 : Option V), k = 3 * (2 * n - pc.length) + wt.length ∧ σ = [some (.ref ta), some (.ref m), some (.ref S), some (.ref fo), some (.int (i : Nat)), some (.ref Pp), some (.ref W), x7, x8] ∧
        Same Hb H' ∧ Hb W = none ∧ Pp ≠ W ∧ H' Pp = some (.lst (Vn pc)) ∧ H' W = some (.lst (Vn wt)) ∧ (i ∈ seen → pc = [] ∧ wt = []) ∧ (i ∉ seen → Fl (mt (tau n)) (mt js) i pc wt), ⟨_, W0, [], _, _, rfl, rfl, sP.trans (Same.new nW), nW', neP, by rw [upd_ne neP]; exact upd_same, upd_same, fun c => ⟨rfl, if_pos c⟩, fun c => by rw [if_neg c]; exact .zero⟩, ?_⟩
      rintro k σ Hc ⟨W, pc, wt, x7, rfl, rfl, sc, nW, neW, hPc, hWc, fl0, fl1⟩
      refine ⟨_, rfl, by show 0 ≤ sizeLine; decide, fun e0 ne0 => ?_⟩
      have sE := Same.new (o := .lst []) ne0
      refine ⟨.list ((nI wt).map PyData.int), .list [], .lst (SqL.of (sE _ _ hWc)) (by rw [vn_nI]; exact dp_intsN _), .lst (SqL.of upd_same) .nil, shaped_ints _, shaped_ints [], ?_⟩
      rw [eqv_nl]
      have hPe := sE _ _ hPc
      have hWe := sE _ _ hWc
      have scE := sc.trans sE
      generalize upd Hc e0 (.lst []) = He at sE hPe hWe scE ⊢
      rcases List.eq_nil_or_concat wt with rfl | ⟨w', x, ewt⟩
      · refine ⟨_, rfl, iteF ?_⟩
        refine ⟨_, rfl, by show 0 ≤ sizeLine; decide, fun e1 ne1 => ?_⟩
        have sL := Same.new (o := .lst []) ne1
        refine ⟨.list ((nI pc).map PyData.int), .list [], .lst (SqL.of (sL _ _ hPe)) (by rw [vn_nI]; exact dp_intsN _), .lst (SqL.of upd_same) .nil, shaped_ints _, shaped_ints [], ?_⟩
        rw [eqv_nl]
        have hP1 := sL _ _ hPe
        have sc1 := scE.trans sL
        generalize upd He e1 (.lst []) = Hf at sL hP1 sc1 ⊢
        by_cases c : i ∈ seen
        · obtain ⟨rfl, _⟩ := fl0 c
          refine ⟨_, rfl, iteF ?_⟩
          exact ⟨S, seen, hs, vs, _, _, _, _, _, rfl, sm.trans sc1, nSf, sc1 _ _ hm, sc1 _ _ hSe, sc1 _ _ hF, pcv_up (fun h => Same.t sc1 h) hP, fw.stay c⟩
        · have fl := fl1 c
          have k := (fl.fin FT GM hi).swap
          have plen := fl.plen FT GM hi
          have pne : pc ≠ [] := fun z => by
            have := k.beg
            rw [z] at this
            exact absurd this List.not_mem_nil
          rw [decide_eq_false pne]
          refine ⟨_, rfl, iteT ?_⟩
          have fw' := fw.next g c hi k (by omega)
          refine ⟨_, rfl, _, rfl, S, Pp, _, _, rfl, rfl, sc1 _ _ hSe, hP1, ?_, fun S1 nS1 => gn ?_⟩
          · rw [Vn_len, Vn_len]
            exact Nat.le_trans (show _ ≤ 2000 by omega) (by decide)
          have sS := Same.new (o := .lst (Vn seen ++ Vn pc)) nS1
          have hS1 : upd Hf S1 (.lst (Vn seen ++ Vn pc)) S1 = some (.lst (Vn (seen ++ pc))) := by rw [upd_same, vn_app]
          have hP2 := sS _ _ hP1
          have sc2 := sc1.trans sS
          have nS1f : S1 ≠ fo := fun z => by
            have := sc1.free nS1
            rw [z, hF] at this
            cases this
          have nS1H : Hb S1 = none := sc1.free nS1
          generalize upd Hf S1 (.lst (Vn seen ++ Vn pc)) = Hg at sS hS1 hP2 sc2 ⊢
          refine ⟨_, rfl, Pp, rfl, ⟨_, SqL.of hP2⟩, fun D nD => ?_⟩
          refine lc_it (walk_list (xs := Vn pc)) (fun i H' => Same Hg H' ∧ H' D = some (.lst (Vn ((pc.take i).filter fun x => (mt js x).isNone)))) ⟨Same.new nD, upd_same⟩ (fun i H' _ hq => SqL.of (hq.1 _ _ hP2)) ?_ ?_
          · rintro j y Hi Hj hj ⟨s', hD⟩ ⟨rfl, ey⟩
            obtain ⟨x, ex, rfl⟩ : ∃ x, pc[j]? = some x ∧ y = .int (x : Nat) := by
              unfold Vn at ey
              rw [List.getElem?_map] at ey
              obtain ⟨x, e1, e2⟩ := Option.map_eq_some_iff.mp ey
              exact ⟨x, e1, e2.symm⟩
            have hx := k.lt x (List.mem_of_getElem? ex)
            have hm' := s' _ _ (sc2 _ _ hm)
            refine ⟨rfl, ?_⟩
            refine ⟨_, rfl, _, rfl, m, _, _, _, rfl, rfl, SqL.of hm', atI_nat (mV_at hx), _, rfl, ?_⟩
            rw [oV_none]
            cases ej : mt js x with
            | none =>
              refine iteT ⟨_, rfl, _, hD, ?_, same_put s' nD, ?_⟩
              · rw [Vn_len]
                refine Nat.lt_of_le_of_lt (Nat.le_trans (List.length_filter_le _ _) (Nat.le_trans (List.length_take_le' _ _) (show pc.length ≤ 1000 by omega))) (by decide)
              · rw [upd_same, take_next ex, List.filter_append, List.filter_cons_of_pos (by rw [ej]; rfl), vn_app]
                rfl
            | some xj =>
              refine iteF ⟨s', ?_⟩
              rw [take_next ex, List.filter_append, List.filter_cons_of_neg (by rw [ej]; exact Bool.false_ne_true), hD]
              simp
          · rintro Hi ⟨s', hD⟩
            rw [Vn_len, List.take_length] at hD
            refine ⟨by show 0 ≤ sizeLine; decide, fun e2 ne2 => ?_⟩
            have sM := Same.new (o := .lst []) ne2
            refine ⟨.list ((nI (pc.filter fun x => (mt js x).isNone)).map PyData.int), .list [], .lst (SqL.of (sM _ _ hD)) (by rw [vn_nI]; exact dp_intsN _), .lst (SqL.of upd_same) .nil, shaped_ints _, shaped_ints [], ?_⟩
            rw [eqv_nl, free_ring]
            refine gn ?_
            have sc3 := sc2.trans (s'.trans sM)
            have hP3 := (s'.trans sM) _ _ hP2
            have hS3 := (s'.trans sM) _ _ hS1
            generalize upd Hi e2 (.lst []) = Hk at sM sc3 hP3 hS3 ⊢
            have wd : (if decide (cn js pc = 0) = true then V.str "ring" else V.str "path") = V.str (pk js pc).1 := by
              unfold pk
              by_cases z : cn js pc = 0
              · rw [if_pos (decide_eq_true z)]
                dsimp only
                rw [if_pos z]
              · rw [if_neg (by rw [decide_eq_false z]; decide)]
                dsimp only
                rw [if_neg z]
            refine ⟨_, rfl, .inl ⟨rfl, _, SqL.of (sc3 _ _ hF)⟩, ?_⟩
            refine wordt (b := decide (cn js pc = 0)) rfl ?_
            rw [wd]
            refine ⟨_, rfl, Pp, _, rfl, .inl (SqL.of hP3), _, 2, rfl, rfl, ⟨by decide, by decide⟩, by show 2 ≤ sizeLine; decide, fun T2 nT2 => ?_⟩
            have sT := Same.new (o := .tup [V.str (pk js pc).1, V.int (((Vn pc).length : Nat) / 2 : Int)]) nT2
            have sc4 := sc3.trans sT
            have hF4 := sc4 _ _ hF
            have lvs : vs.length = hs.length := by rw [Paired.length hP, List.length_map]
            refine ⟨fo, vs, .ref T2, rfl, rfl, hF4, Nat.lt_of_le_of_lt (show vs.length ≤ 1000 by omega) (by decide), ?_⟩
            refine ⟨S1, seen ++ pc, hs ++ [pc], vs ++ [.ref T2], _, _, _, _, _, rfl, same_put (sm.trans sc4) nfoH, nS1f, ?_, ?_, upd_same, ?_, fw'⟩
            · rw [upd_ne nem]
              exact sc4 _ _ hm
            · rw [upd_ne nS1f]
              exact sT _ _ hS3
            · rw [List.map_append]
              refine pair_snoc (pcv_up (fun h => sqT_put h hF4) (pcv_up (fun h => Same.t sc4 h) hP)) ⟨T2, rfl, ?_⟩
              have e : V.int ((((Vn pc).length : Nat) : Int) / 2) = V.int ((pk js pc).2 : Nat) := by
                rw [Vn_len]
                unfold pk
                dsimp only
                rw [show ((pc.length : Nat) : Int) / 2 = ((pc.length / 2 : Nat) : Int) by omega]
              rw [← e]
              exact sqT_put (SqT.of upd_same) hF4
      · rw [List.concat_eq_append] at ewt
        subst ewt
        have c : i ∉ seen := fun c => by
          have := (fl0 c).2
          exact absurd this (by simp)
        have fl := fl1 c
        have flt := fl.lt FT GM hi
        have plen := fl.plen FT GM hi
        have wlen := fl.len
        have hx := flt.2 x (List.mem_append_right _ List.mem_cons_self)
        rw [List.length_append, List.length_singleton] at wlen
        refine ⟨_, rfl, ?_⟩
        rw [show (!decide (w' ++ [x] = [])) = true by simp]
        refine iteT ⟨fun σ' H' => ∃ k', k' < 3 * (2 * n - pc.length) + (w' ++ [x]).length ∧ ∃ (W : Addr) (pc wt : List Nat) (x7 : Option V), k' = 3 * (2 * n - pc.length) + wt.length ∧ σ' = [some (.ref ta), some (.ref m), some (.ref S), some (.ref fo), some (.int (i : Nat)), some (.ref Pp), some (.ref W), x7, x8] ∧
          Same Hb H' ∧ Hb W = none ∧ Pp ≠ W ∧ H' Pp = some (.lst (Vn pc)) ∧ H' W = some (.lst (Vn wt)) ∧ (i ∈ seen → pc = [] ∧ wt = []) ∧ (i ∉ seen → Fl (mt (tau n)) (mt js) i pc wt), fun σ' H' hw => hw, ?_⟩
        rw [vn_app] at hWe
        have ew : (Vn w' ++ Vn [x])[(Vn w' ++ Vn [x]).length - 1]? = some (.int (x : Nat)) := by
          rw [List.length_append, List.getElem?_append_right (by show _ ≤ _; simp [Vn])]
          simp [Vn]
        refine ⟨_, rfl, .inl ⟨rfl, _, SqL.of hWe⟩, W, _, _, rfl, rfl, hWe, ew, ?_⟩
        rw [show (Vn w' ++ Vn [x]).dropLast = Vn w' from List.dropLast_concat]
        have sW := same_put (o := .lst (Vn w')) scE nW
        have hP2 : upd He W (.lst (Vn w')) Pp = some (.lst (Vn pc)) := by rw [upd_ne neW]; exact hPe
        have hW2 : upd He W (.lst (Vn w')) W = some (.lst (Vn w')) := upd_same
        generalize upd He W (.lst (Vn w')) = Hf at sW hP2 hW2 ⊢
        refine gn ?_
        refine ⟨_, rfl, _, rfl, Pp, _, rfl, .inl (SqL.of hP2), rfl, flat_Vn _, ?_⟩
        rw [in_row]
        by_cases cx : x ∈ pc
        · rw [decide_eq_true cx]
          refine ⟨_, rfl, iteF ?_⟩
          exact ⟨_, by rw [List.length_append, List.length_singleton]; omega, W, pc, w', _, rfl, rfl, sW, nW, neW, hP2, hW2, fun z => absurd z c, fun _ => fl.drop cx⟩
        · rw [decide_eq_false cx]
          refine ⟨_, rfl, iteT ?_⟩
          have fl' := fl.grow cx
          have plen' := fl'.plen FT GM hi
          have wlen' := fl'.len
          rw [List.length_append, List.length_singleton] at plen'
          refine ⟨_, rfl, .inl ⟨rfl, _, SqL.of hP2⟩, _, rfl, Pp, _, _, rfl, rfl, hP2, ?_, ?_⟩
          · rw [Vn_len]
            exact Nat.lt_of_le_of_lt (show pc.length ≤ 1000 by omega) (by decide)
          have nP := nP
          have sG := same_put (o := .lst (Vn pc ++ [V.int (x : Nat)])) sW nP
          have hP3 : upd Hf Pp (.lst (Vn pc ++ [V.int (x : Nat)])) Pp = some (.lst (Vn (pc ++ [x]))) := by rw [upd_same, vn_app]; rfl
          have hW3 : upd Hf Pp (.lst (Vn pc ++ [V.int (x : Nat)])) W = some (.lst (Vn w')) := by rw [upd_ne (Ne.symm neW)]; exact hW2
          generalize upd Hf Pp (.lst (Vn pc ++ [V.int (x : Nat)])) = Hg at sG hP3 hW3 ⊢
          -- its twin
          refine ⟨_, rfl, .inl ⟨rfl, _, SqL.of hW3⟩, ?_⟩
          refine ⟨_, rfl, ta, _, 0, .int (n : Nat), rfl, rfl, Same.t (sm.trans sG) hS, rfl, _, rfl, n, x, rfl, hx, ?_⟩
          refine ⟨W, _, _, rfl, rfl, hW3, ?_, ?_⟩
          · rw [Vn_len]
            exact Nat.lt_of_le_of_lt (show w'.length ≤ 1000 by omega) (by decide)
          have sH := same_put (o := .lst (Vn w' ++ [V.int (twN n x : Nat)])) sG nW
          have hP4 : upd Hg W (.lst (Vn w' ++ [V.int (twN n x : Nat)])) Pp = some (.lst (Vn (pc ++ [x]))) := by rw [upd_ne neW]; exact hP3
          have hW4 : upd Hg W (.lst (Vn w' ++ [V.int (twN n x : Nat)])) W = some (.lst (Vn (w' ++ [twN n x]))) := by rw [upd_same, vn_app]; rfl
          generalize upd Hg W (.lst (Vn w' ++ [V.int (twN n x : Nat)])) = Hh at sH hP4 hW4 ⊢
          have hm5 := sH _ _ hm
          -- its partner
          refine ⟨_, rfl, _, rfl, _, rfl, m, _, _, _, rfl, rfl, SqL.of hm5, atI_nat (mV_at hx), by show 1 ≤ sizeLine; decide, fun L nL => ?_⟩
          have sL := Same.new (o := .lst [oV (mt js x)]) nL
          refine ⟨_, rfl, _, rfl, m, _, _, _, rfl, rfl, SqL.of (sL _ _ hm5), atI_nat (mV_at hx), ?_⟩
          refine .inr ⟨_, rfl, ?_⟩
          rw [oV_none]
          have en : nbs (mt (tau n)) (mt js) x = [twN n x] ++ (mt js x).toList := by
            unfold nbs
            rw [TI.mt_tau hx]
            rfl
          refine ⟨L, _, _, rfl, rfl, upd_same, ?_, ?_, ?_, fun D nD => ?_⟩
          · split <;> decide
          · split <;> decide
          · split
            · show 1 * 1 ≤ sizeLine; decide
            · show 1 * 0 ≤ sizeLine; decide
          have er : (List.replicate (if (!(mt js x).isNone) = true then (1 : Int) else 0).toNat [oV (mt js x)]).flatten = Vn (mt js x).toList := by
            cases mt js x <;> rfl
          rw [er]
          have sD := Same.new (o := .lst (Vn (mt js x).toList)) nD
          have sLD := sL.trans sD
          have l2 := nbs_len (f := mt (tau n)) (g := mt js) x
          have l3 : (mt js x).toList.length ≤ 1 := by cases mt js x <;> simp
          refine ⟨W, D, _, _, rfl, rfl, sLD _ _ hW4, upd_same, ?_, fun W1 nW1 => gn ?_⟩
          · rw [Vn_len, Vn_len, List.length_append, List.length_singleton]
            exact Nat.le_trans (show _ ≤ 1000 by omega) (by decide)
          have hP5 := sLD _ _ hP4
          have sZ := Same.new (o := .lst (Vn (w' ++ [twN n x]) ++ Vn (mt js x).toList)) nW1
          refine ⟨_, ?_, W1, pc ++ [x], w' ++ nbs (mt (tau n)) (mt js) x, _, rfl, rfl, sH.trans (sLD.trans sZ), (sH.trans sLD).free nW1, (fun z => by rw [← z, hP5] at nW1; cases nW1), sZ _ _ hP5, by rw [upd_same, en, vn_app, vn_app, vn_app, List.append_assoc], fun z => absurd z c, fun _ => fl'⟩
          simp only [List.length_append, List.length_singleton]
          omega
    · rintro σ Hz ⟨S, seen, hs, vs, x4, x5, x6, x7, x8, rfl, sm, nSf, hm, hSe, hF, hP, fw⟩
      have HQ := fw.fin
      refine ⟨_, rfl, fo, vs, _, rfl, SqL.of hF, pcv_dp hP, pc_alike _, pc_sortable _, pc_depth _, fun ys pl pm hy hp => ?_⟩
      rw [pcs_sort g HQ] at hy
      have x := Same.new (o := .lst ys) hp
      exact q pl ys _ (sm.trans x) (sm.free hp) upd_same (DC.DpAll.up x hy)
end
end K37
-- DIL
set_option Elab.async false
set_option linter.all false
set_option maxRecDepth 100000
set_option maxHeartbeats 4000000
/-! DIL: `in`, `not in` a list of nested data -/
namespace DIL
open PySem PySem.Spec PyProof.Rows PySem.W L2 Evl DC
def rInDL (K : PySem.W.Frag) (neg : Bool) : V → V → Hp → VK → Prop := fun x y H Q => ∃ d ds, Dp K H x d ∧ Dp K H y (.list ds) ∧ SeqAt.shaped d = true ∧ SeqAt.shaped (.list ds) = true ∧ Q (.bl (if neg then !ds.any (fun z => PyData.eqv z d) else ds.any fun z => PyData.eqv z d)) H
theorem op_notInDL {X : Cx} (hu : X.A.units + 65 < cLine) : OpR X (compareOp CmpOp.NotIn) (rInDL X.K true) := by
  intro pins s σ H x y v u Q I rx ry h
  obtain ⟨d, ds, hd, he, sd, se, q⟩ := h
  obtain ⟨as, r1⟩ := Dp.reads I d x v hd rx
  obtain ⟨bs, r2⟩ := Dp.reads I (.list ds) y u he ry
  exact SeqAt.notIn_list_reads r2 r1 (SeqAt.canLay_of_shaped se) (SeqAt.canLay_of_shaped sd) (PyProof.Rows.room_in_shaped sd hu) ⟨V.bl _, H, I, rfl, q⟩
theorem op_inDL {X : Cx} (hu : X.A.units + 65 < cLine) : OpR X (compareOp CmpOp.In) (rInDL X.K false) := by
  intro pins s σ H x y v u Q I rx ry h
  obtain ⟨d, ds, hd, he, sd, se, q⟩ := h
  obtain ⟨as, r1⟩ := Dp.reads I d x v hd rx
  obtain ⟨bs, r2⟩ := Dp.reads I (.list ds) y u he ry
  exact SeqAt.in_list_reads r2 r1 (SeqAt.canLay_of_shaped se) (SeqAt.canLay_of_shaped sd) (PyProof.Rows.room_in_shaped sd hu) ⟨V.bl _, H, I, rfl, q⟩
end DIL
-- K37lp
set_option Elab.async false
set_option linter.all false
set_option maxRecDepth 100000
set_option maxHeartbeats 4000000
/-! K37lp: _law_is_perfect -/
namespace K37
open PySem L2 DC LamX
open TI (fJ tau tnN tg TwOk)
/-- is each joint one of two that are twins? -/
def isTw (n : Nat) (js : List J2) : Bool := js.all fun p => !decide (twN n p.1 = p.2) && decide (mt js (twN n p.1) = some (twN n p.2))
theorem tw_one {n : Nat} {js : List J2} (g : Good n js) {p : J2} (hp : p ∈ js) : (!decide (twN n p.1 = p.2) && decide (mt js (twN n p.1) = some (twN n p.2))) = true ↔ mk2 (twN n p.1) (twN n p.2) ≠ p ∧ mk2 (twN n p.1) (twN n p.2) ∈ js := by
  have r := g.rng p hp
  rw [Bool.and_eq_true, Bool.not_eq_true', decide_eq_false_iff_not, decide_eq_true_eq, mt_iff g]
  refine and_congr_left fun _ => not_congr ?_
  obtain ⟨a, b⟩ := p
  dsimp only at r ⊢
  unfold mk2 twN
  rw [Prod.mk.injEq]
  split <;> split <;> omega
section
variable {P : Program} {w : World} {K : PySem.W.Frag} {mg : Str → Option Value} {base : Heap}
def spIt (K : PySem.W.Frag) : Sp := fun vs H Q _ => ∃ (v : V) (n : Nat) (js : List J2), vs = [v] ∧ Ly K H v n js ∧ Good n js ∧ ∀ (H' : Hp), Same H H' → Q (.bl (isTw n js)) H'
abbrev NLp : List Str := ["lay_so", "one", "other", "far"]
theorem scLp : FnScope NLp ["lay_so"] (defScope (top 51)) := ⟨rfl, rfl, rfl, by decide +kernel, rfl, by decide +kernel, by decide +kernel⟩
theorem okLp {f fLt fPa : Addr} {fd fdLt fdPa : FuncData} (F : Fun K "_law_is_perfect" "_law_is_perfect" (top 51) f fd) (B : Bn mg)
    (DLt : Df K mg "_law_twin" fLt fdLt ["many", "end"]) (GLt : OkF P w K mg base 1 fLt fdLt ["many", "end"] spLt)
    (DPa : Df K mg "_law_pair" fPa fdPa ["one", "other"]) (GPa : OkF P w K mg base 1 fPa fdPa ["one", "other"] spPa) : OkF P w K mg base 2 f fd ["lay_so"] (spIt K) := by
  refine ok0 F scLp (fun vs H Q E h => ?_) (fun cdv A outer s H vs Q E hgd hr h => ?_)
  · obtain ⟨v, n, js, rfl, _⟩ := h; rfl
  · obtain ⟨v, n, js, rfl, ly, g, q⟩ := h
    have nd := scLp.nd
    have hr1 : Room 1 _ := hr
    refine ⟨_, (pss_cons (ps_for PassesOwn.never rfl (pi_tup (pe_ix (r := rIxT K) ix_tup (pv 0) pe_int (fun _ _ => rfl))) (pg_tup (by rfl) (pgs_cons (pg_name (i := 1) nd rfl (.inl rfl)) (pgs_cons (pg_name (i := 2) nd rfl (.inl rfl)) pgs_nil))) (pss_cons (ps_set (i := 3) nd rfl (.inl rfl) (cl DPa GPa hgd hr1 (pa_cons (cl DLt GLt hgd hr1 (pa_cons (pe_ix (r := rIxT K) ix_tup (pv 0) pe_int (fun _ _ => rfl)) (pa_cons (pv 1) pa_nil))) (pa_cons (cl DLt GLt hgd hr1 (pa_cons (pe_ix (r := rIxT K) ix_tup (pv 0) pe_int (fun _ _ => rfl)) (pa_cons (pv 2) pa_nil))) pa_nil)))) (pss_one (ps_if (PW.pt (pw_or (pt_cmpR (op_eqD hr.units) (pv 3) (pe_tup (pa_cons (pv 1) (pa_cons (pv 2) pa_nil))) (nomark _)) (pw_or1 (pt_cmpR (DC.op_notInDT (u65 hr)) (pv 3) (pe_ix (r := rIxT K) ix_tup (pv 0) pe_int (fun _ _ => rfl)) (by rfl))))) (pss_one (ps_ret pe_bl)) pss_nil)))) (pss_one (ps_ret pe_bl))), ?_⟩
    obtain ⟨ta, tb, rfl, hS, tj, ws, rfl, hj, hp⟩ := id ly
    have lw : ws.length = js.length := Paired.length hp
    refine ⟨_, rfl, ta, _, 1, .ref tj, rfl, rfl, hS, rfl, tj, rfl, ⟨_, hj⟩, for_it (walk_tup (xs := ws)) (fun i σ H' => ∃ (y1 y2 y3 : Option V), σ = [some (.ref ta), y1, y2, y3] ∧ Same H H' ∧ (js.take i).all (fun p => !decide (twN n p.1 = p.2) && decide (mt js (twN n p.1) = some (twN n p.2))) = true) ⟨none, none, none, rfl, Same.refl H, rfl⟩ ?_ ?_ ?_⟩
    · rintro i σ H' hi ⟨_, _, _, rfl, sm, _⟩
      exact Same.t sm hj
    · rintro i z σ Ha Hb hi ⟨y1, y2, y3, rfl, sm, al⟩ ⟨rfl, ez⟩
      obtain ⟨p, ep, hz⟩ := paired_at hp ez
      have hpj := List.mem_of_getElem? ep
      obtain ⟨t, rfl, ht⟩ := hz.up sm
      have r := g.rng p hpj
      refine ⟨t, _, rfl, ht, rfl, _, _, rfl, _, _, rfl, rfl, ?_⟩
      have hS' := Same.t sm hS
      refine ⟨_, rfl, ta, _, 0, .int (n : Nat), rfl, rfl, hS', rfl, _, rfl, n, p.1, rfl, by omega, ?_⟩
      refine ⟨_, rfl, ta, _, 0, .int (n : Nat), rfl, rfl, hS', rfl, _, rfl, n, p.2, rfl, by omega, ?_⟩
      refine ⟨twN n p.1, twN n p.2, rfl, fun t3 H1 s1 nt3 ht3 => gn ?_⟩
      have hp1 := Same.t s1 ht
      refine ⟨_, rfl, _, rfl, _, rfl, by show 2 ≤ sizeLine; decide, fun t4 nt4 => ?_⟩
      have s4 := Same.new (o := .tup [.int (p.1 : Nat), .int (p.2 : Nat)]) nt4
      have s14 := sm.trans (s1.trans s4)
      have far : Dp K (upd H1 t4 (.tup [.int (p.1 : Nat), .int (p.2 : Nat)])) (.ref t3) (pairD (mk2 (twN n p.1) (twN n p.2))) := .tup (SqT.of (s4 _ _ ht3)) (.cons (.int _) (.cons (.int _) .nil))
      refine ⟨pairD (mk2 (twN n p.1) (twN n p.2)), pairD p, far, .tup (SqT.of upd_same) (.cons (.int _) (.cons (.int _) .nil)), shaped_pair _, shaped_pair _, ?_⟩
      rw [eqv_pair]
      have key := tw_one g hpj
      have no : (!decide (twN n p.1 = p.2) && decide (mt js (twN n p.1) = some (twN n p.2))) = false → Q (.bl false) (upd H1 t4 (.tup [.int (p.1 : Nat), .int (p.2 : Nat)])) := fun e => by
        have : isTw n js = false := by
          unfold isTw
          rw [List.all_eq_false]
          exact ⟨p, hpj, by rw [e]; decide⟩
        rw [this] at q
        exact q _ s14
      by_cases c1 : mk2 (twN n p.1) (twN n p.2) = p
      · refine ⟨true, by rw [decide_eq_true c1], iteT (iteT (no (Bool.eq_false_iff.mpr fun z => (key.mp z).1 c1)))⟩
      · refine ⟨false, by rw [decide_eq_false c1], iteF ?_⟩
        have hS4 := Same.t s14 hS
        refine ⟨_, rfl, _, rfl, ta, _, 1, .ref tj, rfl, rfl, hS4, rfl, ?_⟩
        refine ⟨pairD (mk2 (twN n p.1) (twN n p.2)), js.map pairD, far, .tup (Same.t s14 hj) (js_dpp ((TM.of s14).prs hp)), shaped_pair _, shaped_pairs _, ?_⟩
        rw [any_pair]
        by_cases c2 : mk2 (twN n p.1) (twN n p.2) ∈ js
        · refine ⟨false, by rw [decide_eq_true c2]; rfl, iteF ?_⟩
          refine ⟨_, _, _, rfl, s14, ?_⟩
          rw [take_next ep, List.all_append, al, List.all_cons, key.mpr ⟨c1, c2⟩]
          rfl
        · exact ⟨true, by rw [decide_eq_false c2]; rfl, iteT (no (Bool.eq_false_iff.mpr fun z => c2 (key.mp z).2))⟩
    · rintro σ Ha ⟨_, _, _, rfl, sm, al⟩
      rw [lw, List.take_length] at al
      have : isTw n js = true := al
      rw [this] at q
      exact q _ sm
end
theorem isTw_iff {n : Nat} {js : List J2} : isTw n js = true ↔ TwOk n js := by
  unfold isTw TwOk
  rw [List.all_eq_true]
  refine forall_congr' fun p => imp_congr_right fun _ => ?_
  rw [Bool.and_eq_true, Bool.not_eq_true', decide_eq_false_iff_not, decide_eq_true_eq]
  exact Iff.rfl
theorem hc_zero {n : Nat} {js : List J2} (g : Good n js) (h2 : n % 2 = 0) : hcJ n js = 0 ↔ isTw n js = true := by
  rw [isTw_iff, ← TI.f_tw g, hc_f g]
  have := TI.f_le g
  omega
theorem hc_nn {n : Nat} {js : List J2} (g : Good n js) : 0 ≤ hcJ n js := by
  rw [hc_f g]
  have := TI.f_le g
  omega
end K37
-- K37h5
set_option Elab.async false
set_option linter.all false
set_option maxRecDepth 100000
set_option maxHeartbeats 4000000
/-! K74h5: _law_steps -/
namespace K37
open PySem L2 DC LamX
/-- the steps found so far, in the list at F -/
structure FG (K : PySem.W.Frag) (H0 : Hp) (F : Addr) (L : List Stp2) (B : Nat) (H' : Hp) : Prop where
  sm : Same H0 H'
  nF : H0 F = none
  ex : ∃ us, H' F = some (.lst us) ∧ Paired (Stp K H') us L ∧ us.length ≤ B
section
variable {K : PySem.W.Frag} {H0 H H' : Hp} {F : Addr} {L : List Stp2} {B : Nat}
theorem FG.up (f : FG K H0 F L B H) (s : Same H H') : FG K H0 F L B H' := by
  obtain ⟨us, h, p, b⟩ := f.ex
  exact ⟨f.sm.trans s, f.nF, us, s _ _ h, (TM.of s).stps p, b⟩
theorem FG.mono {B' : Nat} (f : FG K H0 F L B H) (h : B ≤ B') : FG K H0 F L B' H := by
  obtain ⟨us, e, p, b⟩ := f.ex
  exact ⟨f.sm, f.nF, us, e, p, Nat.le_trans b h⟩
theorem FG.eq {L' : List Stp2} (f : FG K H0 F L B H) (h : L = L') : FG K H0 F L' B H := h ▸ f
theorem FG.put {us : List V} {v : V} {st : Stp2} (f : FG K H0 F L B H) (hF : H F = some (.lst us)) (hs : Stp K H v st) : FG K H0 F (L ++ [st]) (B + 1) (upd H F (.lst (us ++ [v]))) := by
  obtain ⟨us2, h, p, b⟩ := f.ex
  rw [hF] at h
  obtain rfl : us = us2 := by
    injection h with h
    injection h
  exact ⟨same_put f.sm f.nF, f.nF, _, upd_same, pair_snoc ((TM.put hF).stps p) ((TM.put hF).stp hs), by rw [List.length_append]; exact Nat.succ_le_succ b⟩
theorem stps_app {us ws : List V} {l m : List Stp2} : Paired (Stp K H) us l → Paired (Stp K H) ws m → Paired (Stp K H) (us ++ ws) (l ++ m)
  | .nil, h => h
  | .cons a b, h => .cons a (stps_app b h)
theorem FG.cat {us ws : List V} {m : List Stp2} {pc : Addr} {k : Nat} (f : FG K H0 F L B H) (hF : H F = some (.lst us)) (hw : Paired (Stp K H) ws m) (npc : H pc = none) (hk : ws.length ≤ k) : FG K H0 pc (L ++ m) (B + k) (upd H pc (.lst (us ++ ws))) := by
  obtain ⟨us2, h, p, b⟩ := f.ex
  rw [hF] at h
  obtain rfl : us = us2 := by
    injection h with h
    injection h
  have s := Same.new (o := .lst (us ++ ws)) npc
  exact ⟨f.sm.trans s, f.sm.free npc, _, upd_same, (TM.of s).stps (stps_app p hw), by rw [List.length_append]; omega⟩
end
/-- the steps of one joint, its ends joined to free ones -/
def shF (p : J2) (fr : List Nat) : List Stp2 := fr.flatMap fun e => [([p], [mk2 p.1 e]), ([p], [mk2 p.2 e])]
def twF (p : J2) (os : List J2) : List Stp2 := os.flatMap fun o => [sB p o (o.1, o.2), sB p o (o.2, o.1)]
theorem shF_snoc (p : J2) (fr : List Nat) (e : Nat) : shF p (fr ++ [e]) = shF p fr ++ [([p], [mk2 p.1 e]), ([p], [mk2 p.2 e])] := by
  unfold shF
  rw [List.flatMap_append]
  rfl
theorem twF_snoc (p : J2) (os : List J2) (o : J2) : twF p (os ++ [o]) = twF p os ++ [sB p o (o.1, o.2), sB p o (o.2, o.1)] := by
  unfold twF
  rw [List.flatMap_append]
  rfl
theorem stAt_tw (n : Nat) (js : List J2) (k : Nat) (p : J2) : stAt n js k p = [([p], [])] ++ shF p (frees n js) ++ twF p (js.drop (k + 1)) := rfl
section
variable {P : Program} {w : World} {K : PySem.W.Frag} {mg : Str → Option Value} {base : Heap}
def spSts (K : PySem.W.Frag) : Sp := fun vs H Q _ => ∃ (v : V) (n : Nat) (js : List J2), vs = [v] ∧ Ly K H v n js ∧ Good n js ∧
  ∀ (r : Addr) (us : List V) (H' : Hp), Same H H' → H r = none → H' r = some (.lst us) → Paired (Stp K H') us (stS n js) → us.length ≤ 1600 → Q (.ref r) H'
abbrev NSts : List Str := ["lay_so", "end", "free", "found", "joints", "spot", "joint", "one", "other", "far", "near", "last", "made"]
theorem scSts : FnScope NSts ["lay_so"] (defScope (top 46)) := ⟨rfl, rfl, rfl, by decide +kernel, rfl, by decide +kernel, by decide +kernel⟩
theorem okSts {f fMt fPa : Addr} {fd fdMt fdPa : FuncData} (F : Fun K "_law_steps" "_law_steps" (top 46) f fd) (B : Bn mg)
    (DMt : Df K mg "_law_mates" fMt fdMt ["lay_so"]) (GMt : OkF P w K mg base 1 fMt fdMt ["lay_so"] (spMates K))
    (DPa : Df K mg "_law_pair" fPa fdPa ["one", "other"]) (GPa : OkF P w K mg base 1 fPa fdPa ["one", "other"] spPa) : OkF P w K mg base 2 f fd ["lay_so"] (spSts K) := by
  refine ok0 F scSts (fun vs H Q E h => ?_) (fun cdv A outer s H vs Q E hgd hr h => ?_)
  · obtain ⟨v, n, js, rfl, _⟩ := h; rfl
  · obtain ⟨v, n, js, rfl, ly, g, q⟩ := h
    have tp := g.top
    have nd := scSts.nd
    have hr1 : Room 1 _ := hr
    have jle := g.le
    refine ⟨_, (pss_cons (ps_setLc (i := 2) (own := [("end", 1)]) (g := (gName 1)) rfl nd rfl rfl (sw_true rfl rfl rfl (by decide +kernel)) (pi_range1 (by rfl) B.range (pa_cons (pe_op op_mul pe_int (pe_ix (r := rIxT K) ix_tup (pv 0) pe_int (fun _ _ => rfl))) pa_nil)) (blkOk_by (N := NSts) (sc := defScope (top 46)) (by decide +kernel)) (fun _ _ _ _ _ => (pg_name (i := 1) nd rfl (Or.inl rfl))) (fun _ _ _ _ _ => pts_one (pt_cmp (pc_isN (pe_ix (r := rIxL K) ix_list (cl DMt GMt hgd hr1 (pa_cons (pv 0) pa_nil)) (pv 1) (fun _ _ => rfl))) rfl)) (fun _ _ _ _ _ => (pv 1))) (pss_cons (ps_par (i := 3) (j := 4) (by rfl) nd rfl rfl (by decide) rfl rfl (pa_cons (pe_lst pa_nil) (pa_cons (pe_callTy call_list_of (by rfl) B.list (by decide +kernel) (pa_cons (pe_ix (r := rIxT K) ix_tup (pv 0) pe_int (fun _ _ => rfl)) pa_nil)) pa_nil)) (by rfl)) (pss_cons (ps_for PassesOwn.never rfl (pi_enum (by rfl) B.enum (pa_cons (pv 4) pa_nil)) (pg_tup (by rfl) (pgs_cons (pg_name (i := 5) nd rfl (.inl rfl)) (pgs_cons (pg_name (i := 6) nd rfl (.inl rfl)) pgs_nil))) (pss_cons (ps_asg (pv 6) (pg_tup (by rfl) (pgs_cons (pg_name (i := 7) nd rfl (.inl rfl)) (pgs_cons (pg_name (i := 8) nd rfl (.inl rfl)) pgs_nil)))) (pss_cons (ps_expr (pe_bm PySem.F.plainAttrs_list PySem.F.slot_list_append PySem.F.type_list_append mt_append (pv 3) (pa_cons (pe_tup (pa_cons (pe_tup (pa_cons (pv 6) pa_nil)) (pa_cons (pe_tup pa_nil) pa_nil))) pa_nil))) (pss_cons (ps_for PassesOwn.never rfl (pi_list (pv 2)) (pg_name (i := 1) nd rfl (.inr rfl)) (pss_one (ps_set (i := 3) nd rfl (.inl rfl) (pe_op op_cat (pv 3) (pe_lst (pa_cons (pe_tup (pa_cons (pe_tup (pa_cons (pv 6) pa_nil)) (pa_cons (pe_tup (pa_cons (cl DPa GPa hgd hr1 (pa_cons (pv 7) (pa_cons (pv 1) pa_nil))) pa_nil)) pa_nil))) (pa_cons (pe_tup (pa_cons (pe_tup (pa_cons (pv 6) pa_nil)) (pa_cons (pe_tup (pa_cons (cl DPa GPa hgd hr1 (pa_cons (pv 8) (pa_cons (pv 1) pa_nil))) pa_nil)) pa_nil))) pa_nil))))))) (pss_one (ps_for PassesOwn.never rfl (pi_list (pe_slice sl_list (pv 4) (po_some (pe_op op_add (pv 5) pe_int)) po_none)) (pg_name (i := 9) nd rfl (.inl rfl)) (pss_one (ps_for PassesOwn.never rfl (pi_tup (pe_tup (pa_cons (pe_tup (pa_cons (pe_ix (r := rIxT K) ix_tup (pv 9) pe_int (fun _ _ => rfl)) (pa_cons (pe_ix (r := rIxT K) ix_tup (pv 9) pe_int (fun _ _ => rfl)) pa_nil))) (pa_cons (pe_tup (pa_cons (pe_ix (r := rIxT K) ix_tup (pv 9) pe_int (fun _ _ => rfl)) (pa_cons (pe_ix (r := rIxT K) ix_tup (pv 9) pe_int (fun _ _ => rfl)) pa_nil))) pa_nil)))) (pg_tup (by rfl) (pgs_cons (pg_name (i := 10) nd rfl (.inl rfl)) (pgs_cons (pg_name (i := 11) nd rfl (.inl rfl)) pgs_nil))) (pss_cons (ps_set (i := 12) nd rfl (.inl rfl) (pe_callB (cr_sortD hr.units) (by rfl) B.sorted (by decide +kernel) (pa_cons (pe_lst (pa_cons (cl DPa GPa hgd hr1 (pa_cons (pv 7) (pa_cons (pv 10) pa_nil))) (pa_cons (cl DPa GPa hgd hr1 (pa_cons (pv 8) (pa_cons (pv 11) pa_nil))) pa_nil))) pa_nil))) (pss_one (ps_expr (pe_bm PySem.F.plainAttrs_list PySem.F.slot_list_append PySem.F.type_list_append mt_append (pv 3) (pa_cons (pe_tup (pa_cons (pe_tup (pa_cons (pv 6) (pa_cons (pv 9) pa_nil))) (pa_cons (pe_callTy call_tuple_of (by rfl) B.tuple (by decide +kernel) (pa_cons (pv 12) pa_nil)) pa_nil))) pa_nil))))))))))))) (pss_cons (ps_for PassesOwn.never rfl (pi_enum (by rfl) B.enum (pa_cons (pv 2) pa_nil)) (pg_tup (by rfl) (pgs_cons (pg_name (i := 5) nd rfl (.inl rfl)) (pgs_cons (pg_name (i := 1) nd rfl (.inr rfl)) pgs_nil))) (pss_one (ps_set (i := 3) nd rfl (.inl rfl) (pe_op op_cat (pv 3) (pe_lc (own := [("far", 9)]) (g := (gName 9)) (tt := tYes) rfl nd (pi_list (pe_slice sl_list (pv 2) (po_some (pe_op op_add (pv 5) pe_int)) po_none)) (blkOk_by (N := NSts) (sc := defScope (top 46)) (by decide +kernel)) (fun _ _ _ _ _ => (pg_name (i := 9) nd rfl (Or.inl rfl))) (fun _ _ _ _ _ => pts_nil) (fun _ _ _ _ _ => (pe_tup (pa_cons (pe_tup pa_nil) (pa_cons (pe_tup (pa_cons (pe_tup (pa_cons (pv 1) (pa_cons (pv 9) pa_nil))) pa_nil)) pa_nil))))))))) (pss_one (ps_ret (pe_callB (cr_sortD hr.units) (by rfl) B.sorted (by decide +kernel) (pa_cons (pv 3) pa_nil)))))))), ?_⟩
    obtain ⟨ta, tb, rfl, hS, tj, ws, rfl, hj, hp⟩ := id ly
    have lw : ws.length = js.length := Paired.length hp
    have a0 : atI [V.int (n : Nat), V.ref tj] 0 = some (.int (n : Nat)) := at_of (j := 0) rfl rfl
    have a1 : atI [V.int (n : Nat), V.ref tj] 1 = some (.ref tj) := at_of (j := 1) rfl rfl
    refine ⟨_, rfl, ta, _, 0, .int (n : Nat), rfl, rfl, hS, a0, ?_⟩
    refine ⟨2, (n : Int), rfl, rfl, .inl ⟨by decide, by decide⟩, _, rfl, by omega, by omega, fun D nD => ?_⟩
    rw [show (2 * (n : Int)).toNat = 2 * n by omega]
    refine lc_it (walk_range (lo := 0) (n := 2 * n)) (fun i H' => Same H H' ∧ H' D = some (.lst (Vn ((List.range i).filter fun e => (mt js e).isNone)))) ⟨Same.new nD, upd_same⟩ (fun _ _ _ _ => trivial) ?_ ?_
    · rintro i x Ha Hb hi ⟨sm, hA⟩ ⟨rfl, ex⟩
      obtain rfl : x = V.int ((i : Nat) : Int) := by
        rw [ex]
        show V.int (0 + ((i : Nat) : Int)) = _
        rw [Int.zero_add]
      refine ⟨rfl, _, rfl, _, n, js, rfl, ly.up sm, g, fun m Hc sc fm hm => ?_⟩
      refine ⟨_, rfl, m, _, _, _, rfl, rfl, SqL.of hm, atI_nat (mV_at hi), _, rfl, ?_⟩
      rw [oV_none, List.range_succ, List.filter_append]
      cases c : (mt js i).isNone with
      | true =>
        refine iteT ⟨_, rfl, _, sc _ _ hA, ?_, same_put (sm.trans sc) nD, ?_⟩
        · rw [Vn_len]
          refine Nat.lt_of_le_of_lt (List.length_filter_le _ _) ?_
          rw [List.length_range]
          exact Nat.lt_of_le_of_lt (show i ≤ 1000 by omega) (by decide)
        · rw [upd_same]
          simp only [List.filter_cons, c, if_true, List.filter_nil]
          rw [vn_app]
          rfl
      | false =>
        refine iteF ⟨sm.trans sc, ?_⟩
        simp only [List.filter_cons, c, Bool.false_eq_true, if_false, List.filter_nil, List.append_nil]
        exact sc _ _ hA
    rintro H1 ⟨s1, hD⟩
    have hD : H1 D = some (.lst (Vn (frees n js))) := hD
    have frl : (frees n js).length ≤ 24 := by
      have := frees_len n js
      omega
    refine ⟨by show 0 ≤ sizeLine; decide, fun F0 nF0 => ?_⟩
    have s2 := Same.new (o := .lst []) nF0
    refine ⟨_, rfl, ta, _, 1, .ref tj, rfl, rfl, Same.t (s1.trans s2) hS, a1, tj, ws, rfl, .inr (Same.t (s1.trans s2) hj), fun jl njl => ⟨_, _, rfl, ?_⟩⟩
    have s3 := Same.new (o := .lst ws) njl
    have sH := s1.trans (s2.trans s3)
    have hD3 := s3 _ _ (s2 _ _ hD)
    have hF3 := s3 _ _ (upd_same (H := H1) (a := F0) (o := .lst []))
    have hjl := upd_same (H := upd H1 F0 (.lst [])) (a := jl) (o := .lst ws)
    have nFH : H F0 = none := s1.free nF0
    have neF : ∀ x, H F0 = some x → False := fun x z => by rw [nFH] at z; cases z
    -- all that stands, without the list of steps
    have Z : ∃ HZ : Hp, HZ F0 = none ∧ Same HZ (upd (upd H1 F0 (.lst [])) jl (.lst ws)) ∧ Same H HZ ∧ HZ D = some (.lst (Vn (frees n js))) ∧ HZ jl = some (.lst ws) := by
      refine ⟨upd H1 jl (.lst ws), ?_, ?_, s1.trans (Same.new (s2.free njl)), ?_, upd_same⟩
      · rw [upd_ne (fun z => by rw [← z, upd_same] at njl; cases njl)]
        exact nF0
      · intro b u e
        by_cases c : b = jl
        · subst c
          rw [upd_same] at e ⊢
          exact e
        · rw [upd_ne c] at e ⊢
          exact s2 _ _ e
      · rw [upd_ne (fun z => by have := s2.free njl; rw [← z, hD] at this; cases this)]
        exact hD
    obtain ⟨HZ, zF, zS, zH, zD, zj⟩ := Z
    have f0 : FG K HZ F0 [] 0 (upd (upd H1 F0 (.lst [])) jl (.lst ws)) := ⟨zS, zF, [], hF3, .nil, Nat.le_refl _⟩
    generalize upd (upd H1 F0 (.lst [])) jl (.lst ws) = H3 at f0 sH ⊢
    clear hD3 hF3 hjl zS s3 njl s2
    have zjs := (TM.of (K := K) zH).prs hp
    refine ⟨_, rfl, jl, ws, rfl, SqL.of (f0.sm _ _ zj), for_it (walk_enum (xs := ws)) (fun i σ H' => ∃ (F : Addr) (y1 y5 y6 y7 y8 y9 y10 y11 y12 : Option V), σ = [some (.ref ta), y1, some (.ref D), some (.ref F), some (.ref jl), y5, y6, y7, y8, y9, y10, y11, y12] ∧ FG K HZ F (pre1 n js i) (80 * i) H') ⟨F0, none, none, none, none, none, none, none, none, none, rfl, f0⟩ ?_ ?_ ?_⟩
    · rintro i σ H' hi ⟨_, _, _, _, _, _, _, _, _, _, rfl, f⟩
      exact SqL.of (f.sm _ _ zj)
    · rintro i x σ Hz H4 hi ⟨F, y1, y5, y6, y7, y8, y9, y10, y11, y12, rfl, f⟩ ⟨T, x1, y, rfl, nT, rfl, e1, e2⟩
      cases e1
      rw [lw] at hi
      obtain ⟨p, ep, jt, rfl, hjt⟩ := paired_at zjs e2
      have pm := List.mem_of_getElem? ep
      have pr := g.rng p pm
      have sT := Same.new (o := .tup [.int (i : Nat), .ref jt]) nT
      have f1 := f.up sT
      refine ⟨T, _, rfl, SqT.of upd_same, rfl, _, _, rfl, _, _, rfl, rfl, ?_⟩
      generalize upd Hz T (.tup [.int (i : Nat), .ref jt]) = H4 at f1 ⊢
      refine ⟨_, rfl, jt, _, rfl, Same.t f1.sm hjt, rfl, _, _, rfl, _, _, rfl, rfl, ?_⟩
      obtain ⟨us, hF, hP, hb⟩ := id f1.ex
      -- a cut
      refine ⟨_, rfl, .inl ⟨rfl, _, SqL.of hF⟩, _, rfl, by show 1 ≤ sizeLine; decide, fun T1 hT1 => ⟨by show 0 ≤ sizeLine; decide, fun T2 hT2 => ⟨by show 2 ≤ sizeLine; decide, fun T3 hT3 => ?_⟩⟩⟩
      have u1 := Same.new (o := .tup [.ref jt]) hT1
      have u2 := Same.new (o := .tup []) hT2
      have u3 := Same.new (o := .tup [.ref T1, .ref T2]) hT3
      have u := u1.trans (u2.trans u3)
      have f2 := (f1.up u).put (v := .ref T3) (st := ([p], [])) (u _ _ hF) ⟨T3, .ref T1, .ref T2, rfl, SqT.of upd_same, ⟨T1, [.ref jt], rfl, SqT.of ((u2.trans u3) _ _ upd_same), .cons ⟨jt, rfl, Same.t (f1.up u).sm hjt⟩ .nil⟩, ⟨T2, [], rfl, SqT.of (u3 _ _ upd_same), .nil⟩⟩
      refine ⟨F, us, _, rfl, rfl, u _ _ hF, Nat.lt_of_le_of_lt hb (Nat.lt_of_le_of_lt (show 80 * i ≤ 2000 by omega) (by decide)), ?_⟩
      clear u1 u2 u3 u hF hP hb
      generalize upd (upd (upd (upd H4 T1 (.tup [.ref jt])) T2 (.tup [])) T3 (.tup [.ref T1, .ref T2])) F (.lst (us ++ [.ref T3])) = H5 at f2 ⊢
      -- a free end for one of its own
      refine ⟨_, rfl, D, rfl, ⟨_, SqL.of (f2.sm _ _ zD)⟩, ?_⟩
      refine for_it (walk_list (xs := Vn (frees n js))) (fun m σ H' => ∃ (F : Addr) (y1 : Option V), σ = [some (.ref ta), y1, some (.ref D), some (.ref F), some (.ref jl), some (.int (i : Nat)), some (.ref jt), some (.int (p.1 : Nat)), some (.int (p.2 : Nat)), y9, y10, y11, y12] ∧ FG K HZ F (pre1 n js i ++ [([p], [])] ++ shF p ((frees n js).take m)) (80 * i + 1 + 2 * m) H') ⟨F, y1, rfl, f2.eq (List.append_nil _).symm⟩ ?_ ?_ ?_
      · rintro m σ H' hm ⟨_, _, rfl, f⟩
        exact SqL.of (f.sm _ _ zD)
      · rintro m x σ Hy H6 hm ⟨F, y1, rfl, f⟩ ⟨rfl, ex⟩
        obtain ⟨e, ee, rfl⟩ : ∃ e, (frees n js)[m]? = some e ∧ x = .int (e : Nat) := by
          unfold Vn at ex
          rw [List.getElem?_map] at ex
          obtain ⟨e, e1, e2⟩ := Option.map_eq_some_iff.mp ex
          exact ⟨e, e1, e2.symm⟩
        have em := List.mem_of_getElem? ee
        rw [Vn_len] at hm
        refine gn ?_
        obtain ⟨us, hF, hP, hb⟩ := id f.ex
        refine ⟨_, rfl, _, rfl, by show 1 ≤ sizeLine; decide, fun A1 nA1 => ?_⟩
        have u1 := Same.new (o := .tup [.ref jt]) nA1
        refine ⟨_, rfl, _, rfl, p.1, e, rfl, fun B1 Ha v1 _ hB1 => ⟨by show 1 ≤ sizeLine; decide, fun A2 nA2 => ⟨by show 2 ≤ sizeLine; decide, fun A3 nA3 => ?_⟩⟩⟩
        have u2 := Same.new (o := .tup [.ref B1]) nA2
        have u3 := Same.new (o := .tup [.ref A1, .ref A2]) nA3
        refine ⟨_, rfl, by show 1 ≤ sizeLine; decide, fun C1 nC1 => ?_⟩
        have w1 := Same.new (o := .tup [.ref jt]) nC1
        refine ⟨_, rfl, _, rfl, p.2, e, rfl, fun B2 Hb v2 _ hB2 => ⟨by show 1 ≤ sizeLine; decide, fun C2 nC2 => ⟨by show 2 ≤ sizeLine; decide, fun C3 nC3 => ⟨by show 2 ≤ sizeLine; decide, fun l2 nl2 => ?_⟩⟩⟩⟩
        have w2 := Same.new (o := .tup [.ref B2]) nC2
        have w3 := Same.new (o := .tup [.ref C1, .ref C2]) nC3
        have w4 := Same.new (o := .lst [.ref A3, .ref C3]) nl2
        have W1 := v2.trans (w2.trans (w3.trans w4))
        have W0 := w1.trans W1
        have A := v1.trans (u2.trans (u3.trans W0))
        have u := u1.trans A
        have st1 : Stp K _ (.ref A3) ([p], [mk2 p.1 e]) := ⟨A3, .ref A1, .ref A2, rfl, SqT.of (W0 _ _ upd_same), ⟨A1, [.ref jt], rfl, SqT.of (A _ _ upd_same), .cons ⟨jt, rfl, Same.t (f.sm.trans u) hjt⟩ .nil⟩, ⟨A2, [.ref B1], rfl, SqT.of ((u3.trans W0) _ _ upd_same), .cons ⟨B1, rfl, SqT.of ((u2.trans (u3.trans W0)) _ _ hB1)⟩ .nil⟩⟩
        have st2 : Stp K _ (.ref C3) ([p], [mk2 p.2 e]) := ⟨C3, .ref C1, .ref C2, rfl, SqT.of (w4 _ _ upd_same), ⟨C1, [.ref jt], rfl, SqT.of (W1 _ _ upd_same), .cons ⟨jt, rfl, Same.t (f.sm.trans u) hjt⟩ .nil⟩, ⟨C2, [.ref B2], rfl, SqT.of ((w3.trans w4) _ _ upd_same), .cons ⟨B2, rfl, SqT.of ((w2.trans (w3.trans w4)) _ _ hB2)⟩ .nil⟩⟩
        refine ⟨F, l2, us, _, rfl, rfl, u _ _ hF, upd_same, Nat.le_trans (show us.length + 2 ≤ 1000 by omega) (by decide), fun pc npc => gn ?_⟩
        have f' := (f.up u).cat (k := 2) (u _ _ hF) (.cons st1 (.cons st2 .nil)) npc (Nat.le_refl _)
        exact ⟨pc, _, rfl, (f'.mono (by omega)).eq (by rw [take_next ee, shF_snoc, List.append_assoc (pre1 n js i ++ [([p], [])])])⟩
      rintro σ H6 ⟨F, y1, rfl, f⟩
      rw [Vn_len] at f
      rw [List.take_length] at f
      replace f := f.mono (show 80 * i + 1 + 2 * (frees n js).length ≤ 80 * i + 50 by omega)
      -- two of its own
      have ecut : cutV ws (some (((i : Nat) : Int) + 1)) none = ws.drop (i + 1) := cut_a (xs := ws) (a := i + 1) (by omega)
      refine ⟨_, rfl, _, rfl, ((i : Nat) : Int), 1, rfl, rfl, _, rfl, jl, ws, rfl, SqL.of (f.sm _ _ zj), fun S nS => ?_⟩
      rw [ecut]
      have uS := Same.new (o := .lst (ws.drop (i + 1))) nS
      have fS := f.up uS
      have hSS := upd_same (H := H6) (a := S) (o := .lst (ws.drop (i + 1)))
      have nSF : S ≠ F := by
        obtain ⟨us, h, _⟩ := f.ex
        exact Ne.symm (ne_of_none h nS)
      generalize upd H6 S (.lst (ws.drop (i + 1))) = H7 at fS hSS ⊢
      refine ⟨S, rfl, ⟨_, SqL.of hSS⟩, ?_⟩
      refine for_it (walk_list (xs := ws.drop (i + 1))) (fun m σ H' => ∃ (y9 y10 y11 y12 : Option V), σ = [some (.ref ta), y1, some (.ref D), some (.ref F), some (.ref jl), some (.int (i : Nat)), some (.ref jt), some (.int (p.1 : Nat)), some (.int (p.2 : Nat)), y9, y10, y11, y12] ∧ H' S = some (.lst (ws.drop (i + 1))) ∧ FG K HZ F (pre1 n js i ++ [([p], [])] ++ shF p (frees n js) ++ twF p ((js.drop (i + 1)).take m)) (80 * i + 50 + 2 * m) H') ⟨y9, y10, y11, y12, rfl, hSS, fS.eq (List.append_nil _).symm⟩ ?_ ?_ ?_
      · rintro m σ H' hm ⟨_, _, _, _, rfl, h, _⟩
        exact SqL.of h
      · rintro m x σ Hy H8 hm ⟨y9, y10, y11, y12, rfl, hSm, f⟩ ⟨rfl, ex⟩
        rw [List.length_drop, lw] at hm
        rw [List.getElem?_drop] at ex
        obtain ⟨o, eo, ot, rfl, hot⟩ := paired_at zjs ex
        have om := List.mem_of_getElem? eo
        have orr := g.rng o om
        have po : p.1 < o.1 ∧ DC.Apart p o := by
          obtain ⟨l1, q1⟩ := List.getElem?_eq_some_iff.mp ep
          obtain ⟨l2, q2⟩ := List.getElem?_eq_some_iff.mp eo
          have h1 := List.pairwise_iff_getElem.mp g.dis i (i + 1 + m) l1 l2 (by omega)
          have h2 := List.pairwise_iff_getElem.mp g.asc i (i + 1 + m) l1 l2 (by omega)
          rw [q1, q2] at h1 h2
          exact ⟨h2, h1⟩
        refine gn ?_
        have hotk := Same.t f.sm hot
        refine ⟨_, rfl, ot, _, 0, .int (o.1 : Nat), rfl, rfl, hotk, at_of (j := 0) rfl rfl, _, rfl, ot, _, 1, .int (o.2 : Nat), rfl, rfl, hotk, at_of (j := 1) rfl rfl, by show 2 ≤ sizeLine; decide, fun R1 nR1 => ?_⟩
        have r1 := Same.new (o := .tup [.int (o.1 : Nat), .int (o.2 : Nat)]) nR1
        refine ⟨_, rfl, ot, _, 1, .int (o.2 : Nat), rfl, rfl, Same.t r1 hotk, at_of (j := 1) rfl rfl, _, rfl, ot, _, 0, .int (o.1 : Nat), rfl, rfl, Same.t r1 hotk, at_of (j := 0) rfl rfl, by show 2 ≤ sizeLine; decide, fun R2 nR2 => ?_⟩
        have r2 := Same.new (o := .tup [.int (o.2 : Nat), .int (o.1 : Nat)]) nR2
        refine ⟨by show 2 ≤ sizeLine; decide, fun W nW => ?_⟩
        have r3 := Same.new (o := .tup [.ref R1, .ref R2]) nW
        have r := r1.trans (r2.trans r3)
        have fW := f.up r
        have hSW := r _ _ hSm
        have hWW := SqT.of (K := K) (upd_same (H := upd (upd H8 R1 (.tup [.int (o.1 : Nat), .int (o.2 : Nat)])) R2 (.tup [.int (o.2 : Nat), .int (o.1 : Nat)])) (a := W) (o := .tup [.ref R1, .ref R2]))
        have hR1 := SqT.of (K := K) ((r2.trans r3) _ _ (upd_same (H := H8) (a := R1) (o := .tup [.int (o.1 : Nat), .int (o.2 : Nat)])))
        have hR2 := SqT.of (K := K) (r3 _ _ (upd_same (H := upd H8 R1 (.tup [.int (o.1 : Nat), .int (o.2 : Nat)])) (a := R2) (o := .tup [.int (o.2 : Nat), .int (o.1 : Nat)])))
        generalize upd (upd (upd H8 R1 (.tup [.int (o.1 : Nat), .int (o.2 : Nat)])) R2 (.tup [.int (o.2 : Nat), .int (o.1 : Nat)])) W (.tup [.ref R1, .ref R2]) = H8' at fW hSW hWW hR1 hR2 ⊢
        refine ⟨W, rfl, ⟨_, hWW⟩, ?_⟩
        refine for_it (walk_tup (xs := [.ref R1, .ref R2])) (fun k σ H' => ∃ (y10 y11 y12 : Option V), σ = [some (.ref ta), y1, some (.ref D), some (.ref F), some (.ref jl), some (.int (i : Nat)), some (.ref jt), some (.int (p.1 : Nat)), some (.int (p.2 : Nat)), some (.ref ot), y10, y11, y12] ∧ H' S = some (.lst (ws.drop (i + 1))) ∧ SqT K H' W [.ref R1, .ref R2] ∧ SqT K H' R1 [.int (o.1 : Nat), .int (o.2 : Nat)] ∧ SqT K H' R2 [.int (o.2 : Nat), .int (o.1 : Nat)] ∧ FG K HZ F (pre1 n js i ++ [([p], [])] ++ shF p (frees n js) ++ twF p ((js.drop (i + 1)).take m) ++ ([(o.1, o.2), (o.2, o.1)].take k).map (sB p o)) (80 * i + 50 + 2 * m + k) H') ⟨y10, y11, y12, rfl, hSW, hWW, hR1, hR2, fW.eq (List.append_nil _).symm⟩ ?_ ?_ ?_
        · rintro k σ H' hk ⟨_, _, _, rfl, _, h, _⟩
          exact h
        · rintro k x σ Hx H9 hk ⟨y10, y11, y12, rfl, hSk, hWk, hR1k, hR2k, f⟩ ⟨rfl, ex⟩
          have hk : k < 2 := hk
          have PP : Paired (Pr K H9) [.ref R1, .ref R2] [(o.1, o.2), (o.2, o.1)] := .cons ⟨R1, rfl, hR1k⟩ (.cons ⟨R2, rfl, hR2k⟩ .nil)
          obtain ⟨sw, hsw, st, rfl, hst⟩ := paired_at PP ex
          have swm : sw = (o.1, o.2) ∨ sw = (o.2, o.1) := by
            have := List.mem_of_getElem? hsw
            simpa using this
          refine ⟨st, _, rfl, hst, rfl, _, _, rfl, _, _, rfl, rfl, ?_⟩
          obtain ⟨us, hF, hP, hb⟩ := id f.ex
          refine ⟨_, rfl, _, rfl, p.1, sw.1, rfl, fun t1 Ha w1 _ ht1 => ?_⟩
          refine ⟨_, rfl, _, rfl, p.2, sw.2, rfl, fun t2 Hb w2 _ ht2 => ⟨by show 2 ≤ sizeLine; decide, fun M nM => ?_⟩⟩
          have w3 := Same.new (o := .lst [.ref t1, .ref t2]) nM
          have PM : Paired (Pr K (upd Hb M (.lst [.ref t1, .ref t2]))) [.ref t1, .ref t2] [mk2 p.1 sw.1, mk2 p.2 sw.2] := .cons ⟨t1, rfl, SqT.of (w3 _ _ (w2 _ _ ht1))⟩ (.cons ⟨t2, rfl, SqT.of (w3 _ _ ht2)⟩ .nil)
          refine ⟨M, [.ref t1, .ref t2], [mk2 p.1 sw.1, mk2 p.2 sw.2].map pairD, rfl, SqL.of upd_same, js_dpp PM, pairs_alike _ [], pairs_sortable _, pairs_depth _, fun ys p3 pm3 hy hp3 => gn ?_⟩
          have bb : (mk2 p.1 sw.1).1 ≠ (mk2 p.2 sw.2).1 := by
            have ap := po.2
            unfold DC.Apart at ap
            unfold mk2
            rcases swm with rfl | rfl <;> dsimp only <;> omega
          rw [two_sort bb] at hy
          have w4 := Same.new (o := .lst ys) hp3
          have w := w1.trans (w2.trans (w3.trans w4))
          refine ⟨_, rfl, .inl ⟨rfl, _, SqL.of (w _ _ hF)⟩, _, rfl, _, rfl, by show 2 ≤ sizeLine; decide, fun A1 nA1 => ?_⟩
          have x1 := Same.new (o := .tup [.ref jt, .ref ot]) nA1
          refine ⟨_, rfl, p3, ys, rfl, .inl ⟨SqL.of (x1 _ _ upd_same), fun T1 nT1 => ⟨by show 2 ≤ sizeLine; decide, fun T2 nT2 => ?_⟩⟩⟩
          have x2 := Same.new (o := .tup ys) nT1
          have x3 := Same.new (o := .tup [.ref A1, .ref T1]) nT2
          have x := x1.trans (x2.trans x3)
          have wx := w.trans x
          have stp : Stp K _ (.ref T2) (sB p o sw) := ⟨T2, .ref A1, .ref T1, rfl, SqT.of upd_same, ⟨A1, [.ref jt, .ref ot], rfl, SqT.of ((x2.trans x3) _ _ upd_same), .cons ⟨jt, rfl, Same.t (f.sm.trans wx) hjt⟩ (.cons ⟨ot, rfl, Same.t (f.sm.trans wx) hot⟩ .nil)⟩, ⟨T1, ys, rfl, SqT.of (x3 _ _ upd_same), (TM.of (w4.trans x)).prs (dp_prs hy)⟩⟩
          have f' := ((f.up wx).put (wx _ _ hF) stp).eq (L' := pre1 n js i ++ [([p], [])] ++ shF p (frees n js) ++ twF p ((js.drop (i + 1)).take m) ++ ([(o.1, o.2), (o.2, o.1)].take (k + 1)).map (sB p o)) (by rw [take_next hsw, List.map_append, ← List.append_assoc]; rfl)
          have tm := (TM.of (K := K) wx).trans (TM.put (o := .lst (us ++ [.ref T2])) (wx _ _ hF))
          refine ⟨F, us, _, rfl, rfl, (w.trans x) _ _ hF, Nat.lt_of_le_of_lt hb (Nat.lt_of_le_of_lt (show 80 * i + 50 + 2 * m + k ≤ 2000 by omega) (by decide)), _, _, _, rfl, ?_, tm.t hWk, tm.t hR1k, tm.t hR2k, f'⟩
          rw [upd_ne nSF]
          exact wx _ _ hSk
        · rintro σ H' ⟨y10, y11, y12, rfl, hSk, _, _, _, f⟩
          exact ⟨_, y10, y11, y12, rfl, hSk, f.eq (by rw [take_next (l := js.drop (i + 1)) (i := m) (x := o) (by rw [List.getElem?_drop]; exact eo), twF_snoc, ← List.append_assoc]; rfl)⟩
      · rintro σ H' ⟨y9, y10, y11, y12, rfl, _, f⟩
        rw [List.length_drop, lw] at f
        refine ⟨F, y1, _, _, _, _, y9, y10, y11, y12, rfl, (f.mono (by omega)).eq ?_⟩
        rw [List.take_of_length_le (by rw [List.length_drop]; omega), pre1_succ, List.getD_eq_getElem?_getD, ep]
        show _ = pre1 n js i ++ stAt n js i p
        rw [stAt_tw]
        simp only [List.append_assoc]
    rintro σ H4 ⟨F, y1, y5, y6, y7, y8, y9, y10, y11, y12, rfl, f⟩
    rw [lw] at f
    replace f := (f.mono (show 80 * js.length ≤ 960 by omega)).eq (List.append_nil _).symm
    -- two free ends
    refine ⟨_, rfl, D, Vn (frees n js), rfl, SqL.of (f.sm _ _ zD), for_it (walk_enum (xs := Vn (frees n js))) (fun i σ H' => ∃ (F : Addr) (y1 y5 : Option V), σ = [some (.ref ta), y1, some (.ref D), some (.ref F), some (.ref jl), y5, y6, y7, y8, y9, y10, y11, y12] ∧ FG K HZ F (pre1 n js js.length ++ pre2 (frees n js) i) (960 + 24 * i) H') ⟨F, y1, y5, rfl, f⟩ ?_ ?_ ?_⟩
    · rintro i σ H' hi ⟨_, _, _, rfl, f⟩
      exact SqL.of (f.sm _ _ zD)
    · rintro i x σ Hz H5 hi ⟨F, y1, y5, rfl, f⟩ ⟨T, e1, e2, rfl, nT, rfl, ee1, ee2⟩
      cases ee1
      rw [Vn_len] at hi
      obtain ⟨a, ea, rfl⟩ : ∃ a, (frees n js)[i]? = some a ∧ e2 = .int (a : Nat) := by
        have ee2 : (Vn (frees n js))[i]? = some e2 := ee2
        unfold Vn at ee2
        rw [List.getElem?_map] at ee2
        obtain ⟨a, e1, e2⟩ := Option.map_eq_some_iff.mp ee2
        exact ⟨a, e1, e2.symm⟩
      have am := List.mem_of_getElem? ea
      have sT := Same.new (o := .tup [.int (i : Nat), .int (a : Nat)]) nT
      have f1 := f.up sT
      refine ⟨T, _, rfl, SqT.of upd_same, rfl, _, _, rfl, _, _, rfl, rfl, ?_⟩
      generalize upd Hz T (.tup [.int (i : Nat), .int (a : Nat)]) = H5 at f1 ⊢
      have ecut : cutV (Vn (frees n js)) (some (((i : Nat) : Int) + 1)) none = Vn ((frees n js).drop (i + 1)) := by
        have := cut_a (xs := Vn (frees n js)) (a := i + 1) (by rw [Vn_len]; omega)
        rw [vn_drop] at this
        exact this
      obtain ⟨us, hF, hP, hb⟩ := id f1.ex
      refine ⟨_, rfl, _, rfl, _, rfl, ((i : Nat) : Int), 1, rfl, rfl, _, rfl, D, _, rfl, SqL.of (f1.sm _ _ zD), fun S nS => ?_⟩
      rw [ecut]
      have uS := Same.new (o := .lst (Vn ((frees n js).drop (i + 1)))) nS
      have hSS := upd_same (H := H5) (a := S) (o := .lst (Vn ((frees n js).drop (i + 1))))
      generalize upd H5 S (.lst (Vn ((frees n js).drop (i + 1)))) = H6 at uS hSS ⊢
      refine ⟨S, rfl, ⟨_, SqL.of hSS⟩, fun C nC => ?_⟩
      refine lc_it (walk_list (xs := Vn ((frees n js).drop (i + 1)))) (fun m H' => ∃ (acc : List V), Same H6 H' ∧ H' C = some (.lst acc) ∧ Paired (Stp K H') acc ((((frees n js).drop (i + 1)).take m).map fun b => (([], [(a, b)]) : Stp2)) ∧ acc.length ≤ m) ⟨[], Same.new nC, upd_same, .nil, Nat.le_refl _⟩ (fun m H' _ hq => by
        obtain ⟨_, s', _⟩ := hq
        exact SqL.of (s' _ _ hSS)) ?_ ?_
      · rintro m x Ha Hb hm ⟨acc, s', hC, hacc, la⟩ ⟨rfl, ex⟩
        obtain ⟨b, eb, rfl⟩ : ∃ b, ((frees n js).drop (i + 1))[m]? = some b ∧ x = .int (b : Nat) := by
          unfold Vn at ex
          rw [List.getElem?_map] at ex
          obtain ⟨b, e1, e2⟩ := Option.map_eq_some_iff.mp ex
          exact ⟨b, e1, e2.symm⟩
        rw [Vn_len, List.length_drop] at hm
        have eb0 := eb
        rw [List.getElem?_drop] at eb
        have bm := List.mem_of_getElem? eb
        have lt : a < b := by
          obtain ⟨l1, q1⟩ := List.getElem?_eq_some_iff.mp ea
          obtain ⟨l2, q2⟩ := List.getElem?_eq_some_iff.mp eb
          have h := List.pairwise_iff_getElem.mp (frees_asc n js) i (i + 1 + m) l1 l2 (by omega)
          rw [q1, q2] at h
          exact h
        refine ⟨rfl, ?_⟩
        refine yesT ?_
        refine ⟨by show 0 ≤ sizeLine; decide, fun t0 nt0 => ?_⟩
        have u1 := Same.new (o := .tup []) nt0
        refine ⟨_, rfl, _, rfl, by show 2 ≤ sizeLine; decide, fun t1 nt1 => ⟨by show 1 ≤ sizeLine; decide, fun t2 nt2 => ⟨by show 2 ≤ sizeLine; decide, fun t3 nt3 => ?_⟩⟩⟩
        have u2 := Same.new (o := .tup [.int (a : Nat), .int (b : Nat)]) nt1
        have u3 := Same.new (o := .tup [.ref t1]) nt2
        have u4 := Same.new (o := .tup [.ref t0, .ref t2]) nt3
        have u := u1.trans (u2.trans (u3.trans u4))
        have hCu := u _ _ hC
        have stp : Stp K _ (.ref t3) ([], [(a, b)]) := ⟨t3, .ref t0, .ref t2, rfl, SqT.of upd_same, ⟨t0, [], rfl, SqT.of ((u2.trans (u3.trans u4)) _ _ upd_same), .nil⟩, ⟨t2, [.ref t1], rfl, SqT.of (u4 _ _ upd_same), .cons ⟨t1, rfl, SqT.of ((u3.trans u4) _ _ upd_same)⟩ .nil⟩⟩
        refine ⟨acc, hCu, Nat.lt_of_le_of_lt (show acc.length ≤ 1000 by omega) (by decide), acc ++ [.ref t3], same_put (s'.trans u) nC, upd_same, (by rw [take_next eb0, List.map_append]; exact pair_snoc ((TM.put hCu).stps ((TM.of u).stps hacc)) ((TM.put hCu).stp stp)), by rw [List.length_append]; exact Nat.succ_le_succ la⟩
      rintro H7 ⟨acc, s', hC, hacc, la⟩
      rw [Vn_len, List.length_drop] at la
      have f2 := f1.up (uS.trans s')
      have hF2 := (uS.trans s') _ _ hF
      refine ⟨F, C, us, acc, rfl, rfl, hF2, hC, Nat.le_trans (show us.length + acc.length ≤ 3000 by omega) (by decide), fun pc npc => gn ?_⟩
      rw [List.take_of_length_le (by rw [Vn_len]; exact Nat.le_refl _)] at hacc
      refine ⟨pc, _, _, rfl, ((f2.cat (k := 24) hF2 hacc npc (by omega)).mono (by omega)).eq ?_⟩
      rw [pre2_succ, List.getD_eq_getElem?_getD, ea, List.append_assoc]
      rfl
    rintro σ H5 ⟨F, y1, y5, rfl, f⟩
    rw [Vn_len] at f
    obtain ⟨us, hF, hP, hb⟩ := f.ex
    have eJ : pre1 n js js.length ++ pre2 (frees n js) (frees n js).length = stJ n js := rfl
    rw [eJ] at hP
    refine ⟨_, rfl, F, us, _, rfl, SqL.of hF, stps_dp hP, st_alike _, st_sortable _, st_depth _, fun ys p3 pm3 hy hp3 => ?_⟩
    rw [st_sorted] at hy
    have x2 := Same.new (o := .lst ys) hp3
    have lys : ys.length = us.length := by
      rw [dpAll_len hy, List.length_map, List.length_mergeSort, Paired.length hP]
    exact q p3 ys _ ((zH.trans f.sm).trans x2) ((zH.trans f.sm).free hp3) upd_same ((TM.of x2).stps (dp_stps hy)) (by omega)
end
end K37
-- K37pd
set_option Elab.async false
set_option linter.all false
set_option maxRecDepth 100000
set_option maxHeartbeats 8000000
/-! K14p3: steps_of, stepped, _law_after, change_by, good_of .. sorts -/
namespace K37
open PySem L2 DC LamX
section
variable {P : Program} {w : World} {K : PySem.W.Frag} {mg : Str → Option Value} {base : Heap}
theorem scSo : FnScope ["lay", "joints", "free"] ["lay"] (defScope (top 21)) := ⟨rfl, rfl, rfl, by decide +kernel, rfl, by decide +kernel, by decide +kernel⟩
theorem okSo {f fF fD fS fC fJ : Addr} {fd fdF fdD fdS fdC fdJ : FuncData} (F : Fun K "steps_of" "steps_of" (top 21) f fd) (B : Bn mg)
    (DF : Df K mg "free_of" fF fdF ["lay"]) (GF : OkF P w K mg base 2 fF fdF ["lay"] (spFree K))
    (DD : Df K mg "doubles" fD fdD ["joints"]) (GD : OkF P w K mg base 3 fD fdD ["joints"] (spDb K))
    (DS : Df K mg "shifts" fS fdS ["joints", "free"]) (GS : OkF P w K mg base 2 fS fdS ["joints", "free"] (spSh K))
    (DC : Df K mg "cuts" fC fdC ["joints"]) (GC : OkF P w K mg base 1 fC fdC ["joints"] (spCuts K))
    (DJ : Df K mg "joins" fJ fdJ ["free"]) (GJ : OkF P w K mg base 1 fJ fdJ ["free"] (spJoins K)) : OkF P w K mg base 4 f fd ["lay"] (spSo K) := by
  refine ok0 F scSo (fun vs H Q E h => ?_) (fun cdv A outer s H vs Q E hgd hr h => ?_)
  · obtain ⟨v, n, js, rfl, _⟩ := h; rfl
  · obtain ⟨v, n, js, rfl, hLy, g, q⟩ := h
    have nd := scSo.nd
    have hr1 : Room 1 _ := hr.mono (by decide)
    have hr2 : Room 2 _ := hr.mono (by decide)
    have tp := g.top
    have jle := g.le
    have fle := frees_len n js
    refine ⟨_, (pss_cons (ps_set (i := 1) nd rfl (.inl rfl) (pe_ix (r := rIxT K) ix_tup (pv 0) pe_int (fun _ _ => rfl))) (pss_cons (ps_set (i := 2) nd rfl (.inl rfl) (cl DF GF hgd hr2 (pa_cons (pv 0) pa_nil))) (pss_one (ps_ret (pe_callB (cr_sortD hr.units) (by rfl) B.sorted (by decide +kernel) (pa_cons (pe_op op_cat (pe_op op_cat (pe_op op_cat (cl DD GD hgd hr (pa_cons (pv 1) pa_nil)) (cl DS GS hgd hr2 (pa_cons (pv 1) (pa_cons (pv 2) pa_nil)))) (cl DC GC hgd hr1 (pa_cons (pv 1) pa_nil))) (cl DJ GJ hgd hr1 (pa_cons (pv 2) pa_nil))) pa_nil)))))), ?_⟩
    obtain ⟨t, u, rfl, hS, jsv⟩ := id hLy
    have a1 : atI [V.int (n : Nat), u] 1 = some u := at_of (j := 1) rfl rfl
    refine ⟨_, rfl, t, _, 1, u, rfl, rfl, hS, a1, gn ?_⟩
    refine ⟨_, rfl, .ref t, n, js, rfl, hLy, g, fun fr H1 s1 f0 hfr => gn ?_⟩
    refine ⟨_, rfl, u, js, rfl, (TM.of s1).js jsv, by omega, fun ra ua H2 s2 a0 ha pa la => ?_⟩
    refine ⟨_, rfl, _, rfl, u, fr, js, frees n js, rfl, (TM.of (s1.trans s2)).js jsv, s2 _ _ hfr, by omega, by omega, fun rb ub H3 s3 b0 hb pb lb => ?_⟩
    refine ⟨ra, rb, ua, ub, rfl, rfl, s3 _ _ ha, hb, Nat.le_trans (show ua.length + ub.length ≤ 2000 by omega) (by decide), fun D1 hD1 => ?_⟩
    have u4 := Same.new (o := .lst (ua ++ ub)) hD1
    have p1 : Paired (Stp K (upd H3 D1 (.lst (ua ++ ub)))) (ua ++ ub) (dbJ js js.length ++ shJ js (frees n js)) := pair_app ((TM.of (s3.trans u4)).stps pa) ((TM.of u4).stps pb)
    have s14 := s1.trans (s2.trans (s3.trans u4))
    refine ⟨_, rfl, u, js, rfl, (TM.of s14).js jsv, by omega, fun rc uc H5 s5 c0 hc pc => ?_⟩
    have lc : uc.length = js.length := by rw [Paired.length pc, List.length_map]
    refine ⟨D1, rc, ua ++ ub, uc, rfl, rfl, s5 _ _ upd_same, hc, Nat.le_trans (show (ua ++ ub).length + uc.length ≤ 2000 by rw [List.length_append]; omega) (by decide), fun D2 hD2 => ?_⟩
    have u6 := Same.new (o := .lst ((ua ++ ub) ++ uc)) hD2
    have p2 : Paired (Stp K (upd H5 D2 (.lst ((ua ++ ub) ++ uc)))) ((ua ++ ub) ++ uc) ((dbJ js js.length ++ shJ js (frees n js)) ++ js.map cutS) := pair_app ((TM.of (s5.trans u6)).stps p1) ((TM.of u6).stps pc)
    have s46 := s2.trans (s3.trans (u4.trans (s5.trans u6)))
    refine ⟨_, rfl, fr, frees n js, rfl, s46 _ _ hfr, by omega, fun rd ud H7 s7 d0 hd pd ld => ?_⟩
    refine ⟨D2, rd, (ua ++ ub) ++ uc, ud, rfl, rfl, s7 _ _ upd_same, hd, Nat.le_trans (show ((ua ++ ub) ++ uc).length + ud.length ≤ 2000 by rw [List.length_append, List.length_append]; omega) (by decide), fun D3 hD3 => ?_⟩
    have u8 := Same.new (o := .lst (((ua ++ ub) ++ uc) ++ ud)) hD3
    have p3 : Paired (Stp K (upd H7 D3 (.lst (((ua ++ ub) ++ uc) ++ ud)))) (((ua ++ ub) ++ uc) ++ ud) (((dbJ js js.length ++ shJ js (frees n js)) ++ js.map cutS) ++ pre2 (frees n js) (frees n js).length) := pair_app ((TM.of (s7.trans u8)).stps p2) ((TM.of u8).stps pd)
    have SS := s1.trans (s46.trans (s7.trans u8))
    refine ⟨D3, ((ua ++ ub) ++ uc) ++ ud, _, rfl, SqL.of upd_same, stps_dp p3, st_alike _, st_sortable _, st_depth _, fun ys p9 pm hy hp9 => ?_⟩
    rw [st_sort (steps_perm g)] at hy
    have u9 := Same.new (o := .lst ys) hp9
    exact q p9 ys _ (SS.trans u9) (SS.free hp9) upd_same ((TM.of u9).stps (dp_stps hy)) (by rw [pm.length_eq, List.length_append, List.length_append, List.length_append]; omega)
end
end K37
-- K37af
set_option Elab.async false
set_option linter.all false
set_option maxRecDepth 100000
set_option maxHeartbeats 8000000
namespace K37
open PySem L2 DC LamX
section
variable {P : Program} {w : World} {K : PySem.W.Frag} {mg : Str → Option Value} {base : Heap}
def spAfL (K : PySem.W.Frag) : Sp := fun vs H Q _ => ∃ (v1 v2 : V) (n : Nat) (js : List J2) (st : Stp2), vs = [v1, v2] ∧ Ly K H v1 n js ∧ Stp K H v2 st ∧ Good n js ∧ n ≤ 12 ∧ IsSt n js st ∧
  ∀ (v : V) (H' : Hp), Same H H' → Ly K H' v n (aftJ js st) → Q v H'
abbrev NAf : List Str := ["lay_so", "step_so", "kept_so", "joint"]
theorem scAf : FnScope NAf ["lay_so", "step_so"] (defScope (top 47)) := ⟨rfl, rfl, rfl, by decide +kernel, rfl, by decide +kernel, by decide +kernel⟩
theorem okAf {f : Addr} {fd : FuncData} (F : Fun K "_law_after" "_law_after" (top 47) f fd) (B : Bn mg) : OkF P w K mg base 1 f fd ["lay_so", "step_so"] (spAfL K) := by
  refine ok0 F scAf (fun vs H Q E h => ?_) (fun cdv A outer s H vs Q E hgd hr h => ?_)
  · obtain ⟨v1, v2, n, js, st, rfl, _⟩ := h; rfl
  · obtain ⟨v1, v2, n, js, st, rfl, ⟨t, u, rfl, hS, tj, ws, rfl, hSj, hPj⟩, ⟨t2, ua, ub, rfl, hS2, ⟨ta, xa, rfl, hSa, hPa⟩, ⟨tb, xb, rfl, hSb, hPb⟩⟩, g, h4, hst, q⟩ := h
    have nd := scAf.nd
    have jle := g.le
    have g2le := (isSt_good g hst).2.le
    have tp := g.top
    refine ⟨_, (pss_cons (ps_setLc (i := 2) (own := [("joint", 3)]) (g := gName 3) rfl nd rfl rfl (sw_true rfl rfl rfl (by decide +kernel)) (pi_tup (pe_ix (r := rIxT K) ix_tup (pv 0) pe_int (fun _ _ => rfl))) (blkOk_by (N := NAf) (sc := defScope (top 47)) (by decide +kernel)) (fun _ _ _ _ _ => pg_name (i := 3) nd rfl (Or.inl rfl)) (fun _ _ _ _ _ => pts_one (pt_cmpR (r := rNotInDT K) (op_notInDT (u65 hr)) (pv 3) (pe_ix (r := rIxT K) ix_tup (pv 1) pe_int (fun _ _ => rfl)) (by rfl))) (fun _ _ _ _ _ => (pv 3))) (pss_one (ps_ret (pe_tup (pa_cons (pe_ix (r := rIxT K) ix_tup (pv 0) pe_int (fun _ _ => rfl)) (pa_cons (pe_callTy call_tuple_of (by rfl) B.tuple (by decide +kernel) (pa_cons (pe_callB (cr_sortD hr.units) (by rfl) B.sorted (by decide +kernel) (pa_cons (pe_op op_cat (pv 2) (pe_callTy call_list_of (by rfl) B.list (by decide +kernel) (pa_cons (pe_ix (r := rIxT K) ix_tup (pv 1) pe_int (fun _ _ => rfl)) pa_nil))) pa_nil)) pa_nil)) pa_nil)))))), ?_⟩
    have a0 : atI [V.int (n : Nat), V.ref tj] 0 = some (.int (n : Nat)) := at_of (j := 0) rfl rfl
    have a1 : atI [V.int (n : Nat), V.ref tj] 1 = some (.ref tj) := at_of (j := 1) rfl rfl
    have b0 : atI [V.ref ta, V.ref tb] 0 = some (.ref ta) := at_of (j := 0) rfl rfl
    have b1 : atI [V.ref ta, V.ref tb] 1 = some (.ref tb) := at_of (j := 1) rfl rfl
    have len : ws.length = js.length := Paired.length hPj
    skip
    refine ⟨_, rfl, t, _, 1, .ref tj, rfl, rfl, hS, a1, tj, rfl, ⟨ws, hSj⟩, fun D hD => ?_⟩
    refine lc_it (walk_tup (xs := ws)) (fun i H' => ∃ acc : List V, Same H H' ∧ H' D = some (.lst acc) ∧ Paired (Pr K H') acc ((js.take i).filter fun p => !decide (p ∈ st.1)) ∧ acc.length ≤ i) ⟨[], Same.new hD, upd_same, .nil, Nat.le_refl _⟩ (fun i H' _ hp => by
      obtain ⟨acc, sm, _⟩ := hp
      exact Same.t sm hSj) ?_ ?_
    · rintro i x Ha Hb hi ⟨acc, sm, hL, hd, hal⟩ ⟨rfl, ex⟩
      obtain ⟨p, ep, hx⟩ := paired_at hPj ex
      have hx' := hx.up sm
      refine ⟨rfl, ?_⟩
      obtain ⟨px, rfl, hpx⟩ := hx'
      refine ⟨_, rfl, _, rfl, t2, _, 0, .ref ta, rfl, rfl, Same.t sm hS2, b0, pairD p, st.1.map pairD, .tup hpx (.cons (.int _) (.cons (.int _) .nil)), .tup (Same.t sm hSa) (js_dpp ((TM.of sm).prs hPa)), shaped_pair p, shaped_pairs st.1, _, rfl, ?_⟩
      rw [any_pair, take_next ep, List.filter_append]
      cases c : (!decide (p ∈ st.1)) with
      | true =>
        refine iteT ⟨_, rfl, acc, hL, Nat.lt_of_le_of_lt (show acc.length ≤ 1000 by omega) (by decide), acc ++ [.ref px], same_put sm hD, upd_same, ?_, by rw [List.length_append]; exact Nat.succ_le_succ hal⟩
        have e1 : ([p].filter fun p => !decide (p ∈ st.1)) = [p] := by simp only [List.filter_cons, c, if_true, List.filter_nil]
        rw [e1]
        exact pair_snoc ((TM.put hL).prs hd) ⟨px, rfl, sqT_put hpx hL⟩
      | false =>
        refine iteF ⟨acc, sm, hL, ?_, Nat.le_succ_of_le hal⟩
        have e1 : ([p].filter fun p => !decide (p ∈ st.1)) = [] := by simp only [List.filter_cons, c, Bool.false_eq_true, if_false, List.filter_nil]
        rw [e1, List.append_nil]
        exact hd
    · rintro H1 ⟨acc, s1, hL, hd, hal⟩
      rw [len, List.take_of_length_le (Nat.le_refl _)] at hd
      refine gn ?_
      have la : acc.length = (js.filter fun p => !decide (p ∈ st.1)).length := Paired.length hd
      have lb : xb.length = st.2.length := Paired.length hPb
      refine ⟨_, rfl, t, _, 0, .int (n : Nat), rfl, rfl, Same.t s1 hS, a0, ?_⟩
      refine ⟨_, rfl, _, rfl, t2, _, 1, .ref tb, rfl, rfl, Same.t s1 hS2, b1, tb, xb, rfl, .inr (Same.t s1 hSb), fun l2 hl2 => ?_⟩
      have u1 := Same.new (o := .lst xb) hl2
      refine ⟨D, l2, acc, xb, rfl, rfl, u1 _ _ hL, upd_same, Nat.le_trans (show acc.length + xb.length ≤ 1000 by omega) (by decide), fun D3 hD3 => ?_⟩
      have u2 := Same.new (o := .lst (acc ++ xb)) hD3
      have S2 := s1.trans (u1.trans u2)
      have PP : Paired (Pr K (upd (upd H1 l2 (.lst xb)) D3 (.lst (acc ++ xb)))) (acc ++ xb) (rawJ js st) := pair_app ((TM.of (u1.trans u2)).prs hd) ((TM.of S2).prs hPb)
      refine ⟨D3, acc ++ xb, _, rfl, SqL.of upd_same, js_dpp PP, pairs_alike _ [], pairs_sortable _, pairs_depth _, fun ys p3 pm hy hp3 => ⟨p3, ys, rfl, .inl ⟨SqL.of upd_same, fun T1 hT1 => ⟨by show 2 ≤ sizeLine; decide, fun T2 hT2 => ?_⟩⟩⟩⟩
      rw [raw_sort g hst h4] at hy
      have x2 := Same.new (o := .lst ys) hp3
      have x3 := Same.new (o := .tup ys) hT1
      have x4 := Same.new (o := .tup [.int (n : Nat), .ref T1]) hT2
      have x := x2.trans (x3.trans x4)
      exact q (.ref T2) _ (S2.trans x) ⟨T2, .ref T1, rfl, SqT.of upd_same, T1, ys, rfl, SqT.of (x4 _ _ upd_same), (TM.of x).prs (dp_prs hy)⟩
end
end K37
-- K37mb
set_option Elab.async false
set_option linter.all false
set_option maxRecDepth 100000
set_option maxHeartbeats 4000000
/-! K36mb: _law_mixed, _law_folded, _law_draw with the numbers of part three -/
namespace K37
open PySem L2 DC
section
variable {P : Program} {w : World} {K : PySem.W.Frag} {mg : Str → Option Value} {base : Heap}
theorem sc38 : FnScope ["cell", "n", "blend"] ["cell", "n"] (defScope (top 37)) := ⟨rfl, rfl, rfl, by decide +kernel, rfl, by decide +kernel, by decide +kernel⟩
theorem ok38 {f : Addr} {fd : FuncData} (F : Fun K "_law_mixed" "_law_mixed" (top 37) f fd) (B : Bn mg) : OkF P w K mg base 1 f fd ["cell", "n"] spMixed := by
  refine ok0 F sc38 (fun vs H Q E h => ?_) (fun cdv A outer s H vs Q E hgd hr h => ?_)
  · obtain ⟨c, n, rfl, _⟩ := h; rfl
  · obtain ⟨c, n, rfl, c0, c1, n0, n1, q⟩ := h
    have nd := sc38.nd
    refine ⟨_, pss_cons (ps_set (i := 2) nd rfl (.inl rfl) (pe_op op_add (pe_op op_add (pe_op op_mod (pe_callTy call_int1 (by rfl) B.int (by decide +kernel) (pa_cons (pe_op op_mul (pe_op op_mul (pv 0) (pe_op op_add pe_int (pe_op op_mul pe_int (pv 1)))) pe_int) pa_nil)) pe_int)
        (pe_op op_mul (pe_op op_mul pe_int (pv 1)) (pv 1))) (pe_op op_mul pe_int (pv 1))))
      (pss_one (ps_ret (pe_op op_fdiv (pe_op op_mod (pe_callTy call_int1 (by rfl) B.int (by decide +kernel) (pa_cons (pe_op op_mul (pv 2) pe_int) pa_nil)) pe_int) pe_int))), ?_⟩
    refine ⟨_, rfl, _, rfl, 2, n, rfl, rfl, .inl ⟨by decide, by decide⟩, 1, _, rfl, rfl, c, _, rfl, rfl, .inl ⟨by omega, by omega⟩, _, 48271, rfl, rfl, .inr ⟨by decide, by decide⟩, .inl ⟨_, rfl, ?_⟩⟩
    refine ⟨_, 2147483647, rfl, rfl, (by show (0 : Int) < 2147483647; decide), ?_⟩
    refine ⟨_, rfl, 7919, n, rfl, rfl, .inl ⟨by decide, by decide⟩, _, rfl, _, n, rfl, rfl, .inr ⟨by omega, by omega⟩, _, _, rfl, rfl, ?_⟩
    refine ⟨_, rfl, 104729, n, rfl, rfl, .inl ⟨by decide, by decide⟩, _, _, rfl, rfl, ?_⟩
    refine ⟨_, rfl, _, 69621, rfl, rfl, .inr ⟨by decide, by decide⟩, .inl ⟨_, rfl, ?_⟩⟩
    refine ⟨_, 2147483629, rfl, rfl, (by show (0 : Int) < 2147483629; decide), _, 7, rfl, rfl, ⟨by decide, by decide⟩, ?_⟩
    generalize (c * (1 + 2 * n) * 48271 % 2147483647 + 7919 * n * n + 104729 * n) * 69621 = x
    have a := Int.emod_nonneg x (b := 2147483629) (by decide)
    have b := Int.emod_lt_of_pos x (b := 2147483629) (by decide)
    exact q _ (by omega) (by omega)
theorem sc39 : FnScope N39 ["script"] (defScope (top 38)) := ⟨rfl, rfl, rfl, by decide +kernel, rfl, by decide +kernel, by decide +kernel⟩
theorem ok39 {f : Addr} {fd : FuncData} (F : Fun K "_law_folded" "_law_folded" (top 38) f fd) (B : Bn mg) : OkF P w K mg base 1 f fd ["script"] (spFold K) := by
  refine ok0 F sc39 (fun vs H Q E h => ?_) (fun cdv A outer s H vs Q E hgd hr h => ?_)
  · obtain ⟨a, ns, rfl, _⟩ := h; rfl
  · obtain ⟨a, ns, rfl, hS, hl, q⟩ := h
    have nd := sc39.nd
    refine ⟨_, pss_cons (ps_setLc (i := 1) (own := [("n", 2)]) (g := gName 2) (tt := tYes) rfl nd rfl rfl (sw_true rfl rfl rfl (by decide +kernel)) (pi_range1 (by rfl) B.range (pa_cons pe_int pa_nil)) (blkOk_by (N := N39) (sc := defScope (top 38)) (by decide +kernel)) (fun _ _ _ _ _ => pg_name (i := 2) nd rfl (Or.inl rfl))
          (fun _ _ _ _ _ => pts_nil) (fun _ _ _ _ _ => pe_op op_add pe_int (pv 2)))
      (pss_cons (ps_for PassesOwn.never rfl (pi_enum (by rfl) B.enum (pa_cons (pv 0) pa_nil)) (pg_tup (by rfl) (pgs_cons (pg_name (i := 2) nd rfl (.inl rfl)) (pgs_cons (pg_name (i := 3) nd rfl (.inl rfl)) pgs_nil)))
        (pss_one (ps_asg (pe_op op_mod (pe_callTy call_int1 (by rfl) B.int (by decide +kernel) (pa_cons (pe_op op_add (pe_op op_mul (pe_ix (r := rIxL K) ix_list (pv 1) (pe_op op_mod (pe_callTy call_int1 (by rfl) B.int (by decide +kernel) (pa_cons (pv 2) pa_nil)) pe_int) (fun _ _ => rfl)) pe_int) (pv 3)) pa_nil)) pe_int)
          (pg_sub (pv 1) (pe_op op_mod (pe_callTy call_int1 (by rfl) B.int (by decide +kernel) (pa_cons (pv 2) pa_nil)) pe_int) set_list))))
      (pss_cons (ps_for PassesOwn.never rfl (pi_range2 (by rfl) B.range (pa_cons pe_int (pa_cons pe_int pa_nil))) (pg_name (i := 2) nd rfl (.inl rfl))
        (pss_one (ps_asg (pe_op op_mod (pe_callTy call_int1 (by rfl) B.int (by decide +kernel) (pa_cons (pe_op op_add (pe_ix (r := rIxL K) ix_list (pv 1) (pv 2) (fun _ _ => rfl)) (pe_op op_mul (pe_ix (r := rIxL K) ix_list (pv 1) (pe_op op_sub (pv 2) pe_int) (fun _ _ => rfl)) pe_int)) pa_nil)) pe_int)
          (pg_sub (pv 1) (pv 2) set_list))))
      (pss_one (ps_ret (pv 1))))), ?_⟩
    refine ⟨64, rfl, by decide, by decide, fun L hL => ?_⟩
    refine lc_it (walk_range (lo := 0) (n := 64)) (fun i H' => ∃ cs : List Int, Same H H' ∧ H' L = some (.lst (cs.map V.int)) ∧ cs.length = i ∧ ∀ c ∈ cs, 0 ≤ c ∧ c < 4294967296) ⟨[], Same.new hL, upd_same, rfl, fun c hc => absurd hc (List.not_mem_nil)⟩ (fun _ _ _ _ => trivial) ?_ ?_
    · rintro i x Ha Hb hi ⟨cs, sm, hc, hlen, hb⟩ ⟨rfl, rfl⟩
      refine ⟨rfl, ?_⟩
      refine yesT ?_
      refine ⟨_, rfl, 17, _, rfl, rfl, cs.map V.int, hc, ?_, cs ++ [17 + (0 + (i : Int))], same_put sm hL, ?_, ?_, ?_⟩
      · rw [List.length_map]
        exact Nat.lt_of_le_of_lt (show cs.length ≤ 1000 by omega) (by decide)
      · rw [upd_same, List.map_append]
        rfl
      · rw [List.length_append]
        show cs.length + 1 = i + 1
        omega
      · intro c hcm
        rcases List.mem_append.mp hcm with h | h
        · exact hb c h
        · obtain rfl := List.mem_singleton.mp h
          constructor <;> omega
    · rintro H1 ⟨cs, sm, hc, hlen, hb⟩
      refine gn ?_
      refine ⟨_, rfl, a, _, rfl, sm.seq hS, for_it (walk_enum (xs := ns.map V.int)) (fun i σ H' => ∃ (cs : List Int) (y2 y3 : Option V), σ = [some (.ref a), some (.ref L), y2, y3] ∧ Same H H' ∧ H' L = some (.lst (cs.map V.int)) ∧ Cells cs) ⟨cs, none, none, rfl, sm, hc, hlen, hb⟩ ?_ ?_ ?_⟩
      · rintro i σ H' hi ⟨cs, y2, y3, rfl, sm, _⟩
        exact sm.seq hS
      · rintro i x σ H2 H3 hi ⟨cs, y2, y3, rfl, sm, hc, hC⟩ ⟨T, x1, x2, rfl, nT, rfl, e1, e2⟩
        cases e1
        rw [List.length_map] at hi
        have e2' : (ns.map V.int)[i]? = some x2 := e2
        rw [List.getElem?_map] at e2'
        obtain ⟨c, _, rfl⟩ := Option.map_eq_some_iff.mp e2'
        have sT : Same H2 (upd H2 T (.tup [.int (i : Nat), .int c])) := Same.new nT
        have hc2 := sT _ _ hc
        have im : ((i : Nat) : Int) % 64 = ((i : Nat) : Int) := Int.emod_eq_of_lt (by omega) (by omega)
        obtain ⟨c1, ec1, b0, b1⟩ := hC.at (i := i) (by omega)
        refine ⟨T, _, rfl, SqT.of upd_same, rfl, _, _, rfl, _, _, rfl, rfl, ?_⟩
        refine ⟨_, rfl, _, rfl, .inl ⟨_, rfl, (i : Nat), 64, rfl, rfl, (by show (0 : Int) < 64; decide), L, _, _, .int c1, rfl, rfl, SqL.of hc2, by rw [im]; exact atI_nat ec1, c1, 48271, rfl, rfl, .inl ⟨by omega, by omega⟩, _, rfl, _, c, rfl, rfl, .inl ⟨_, rfl, ?_⟩⟩⟩
        refine ⟨_, 2147483647, rfl, rfl, (by show (0 : Int) < 2147483647; decide), ?_⟩
        have a0 := Int.emod_nonneg (c1 * 48271 + c) (b := 2147483647) (by decide)
        have a1 := Int.emod_lt_of_pos (c1 * 48271 + c) (b := 2147483647) (by decide)
        have hl64 : i < (cs.map V.int).length := by rw [List.length_map, hC.1]; omega
        refine ⟨_, rfl, _, rfl, .inl ⟨_, rfl, (i : Nat), 64, rfl, rfl, (by show (0 : Int) < 64; decide), L, cs.map V.int, _, i, rfl, rfl, hc2, by rw [im]; exact Evl.ixN_nat hl64, ?_⟩⟩
        refine ⟨cs.set i ((c1 * 48271 + c) % 2147483647), _, _, rfl, same_put (sm.trans sT) hL, ?_, hC.set a0 (by omega)⟩
        rw [upd_same, map_set]
      · rintro σ H2 ⟨cs, y2, y3, rfl, sm, hc, hC⟩
        refine ⟨1, 64, rfl, ⟨by decide, by decide, by decide, by decide⟩, ?_⟩
        refine for_it (walk_range (lo := 1) (n := 63)) (fun i σ H' => ∃ (cs : List Int) (y2 y3 : Option V), σ = [some (.ref a), some (.ref L), y2, y3] ∧ Same H H' ∧ H' L = some (.lst (cs.map V.int)) ∧ Cells cs) ⟨cs, _, _, rfl, sm, hc, hC⟩ (fun _ _ _ _ _ => trivial) ?_ ?_
        · rintro i x σ H3 H4 hi ⟨cs, y2, y3, rfl, sm, hc, hC⟩ ⟨rfl, ex⟩
          obtain rfl : x = V.int ((i + 1 : Nat) : Int) := by
            rw [ex]
            show V.int (1 + (i : Int)) = _
            congr 1
            omega
          obtain ⟨c1, ec1, b0, b1⟩ := hC.at (i := i + 1) (by omega)
          obtain ⟨c2, ec2, d0, d1⟩ := hC.at (i := i) (by omega)
          have e2 : ((i + 1 : Nat) : Int) - 1 = ((i : Nat) : Int) := by omega
          have hl64 : i + 1 < (cs.map V.int).length := by rw [List.length_map, hC.1]; omega
          refine gn ?_
          refine ⟨_, rfl, _, rfl, L, _, _, .int c1, rfl, rfl, SqL.of hc, atI_nat ec1, _, rfl, _, rfl, _, 1, rfl, rfl, L, _, _, .int c2, rfl, rfl, SqL.of hc, by rw [e2]; exact atI_nat ec2, c2, 16807, rfl, rfl, .inl ⟨by omega, by omega⟩, c1, _, rfl, rfl, .inl ⟨_, rfl, ?_⟩⟩
          refine ⟨_, 2147483647, rfl, rfl, (by show (0 : Int) < 2147483647; decide), ?_⟩
          have a0 := Int.emod_nonneg (c1 + c2 * 16807) (b := 2147483647) (by decide)
          have a1 := Int.emod_lt_of_pos (c1 + c2 * 16807) (b := 2147483647) (by decide)
          refine ⟨_, rfl, _, rfl, L, cs.map V.int, _, i + 1, rfl, rfl, hc, Evl.ixN_nat hl64, ?_⟩
          refine ⟨cs.set (i + 1) ((c1 + c2 * 16807) % 2147483647), _, _, rfl, same_put sm hL, ?_, hC.set a0 (by omega)⟩
          rw [upd_same, map_set]
        · rintro σ H3 ⟨cs, y2, y3, rfl, sm, hc, hC⟩
          exact ⟨_, rfl, q L H3 cs sm hL hc hC⟩
theorem sc40 : FnScope N40 ["m", "limit"] (defScope (top 39)) := ⟨rfl, rfl, rfl, by decide +kernel, rfl, by decide +kernel, by decide +kernel⟩
theorem ok40 {f f38 : Addr} {fd fd38 : FuncData} (F : Fun K "_law_draw" "_law_draw" (top 39) f fd) (B : Bn mg)
    (D38 : Df K mg "_law_mixed" f38 fd38 ["cell", "n"]) (G38 : OkF P w K mg base 1 f38 fd38 ["cell", "n"] spMixed) : OkF P w K mg base 2 f fd ["m", "limit"] spDraw := by
  refine ok0 F sc40 (fun vs H Q E h => ?_) (fun cdv A outer s H vs Q E hgd hr h => ?_)
  · obtain ⟨m, lc, lg, nb, lim, rfl, _⟩ := h; rfl
  · obtain ⟨m, lc, lg, nb, lim, rfl, ⟨cs, gs, n, hm, hc, hg, hC, hgl, n0, n1, neq⟩, hnb, l0, l1, q⟩ := h
    have nd := sc40.nd
    have hu := hu_of hr
    refine ⟨_, pss_cons (ps_set (i := 2) nd rfl (.inl rfl) (pe_dget hu (pv 0) pe_str (fun _ _ => rfl)))
      (pss_cons (ps_dput hu (pv 0) pe_str (pe_op op_add (pv 2) pe_int) rfl)
      (Evl.pss_cut (ps_if (pt_cmpR (op_neD hr.units) (pe_dget hu (pv 0) pe_str (fun _ _ => rfl)) (pe_lst pa_nil) (nomark _))
        (pss_cons (ps_set (i := 3) nd rfl (.inl rfl) (pe_dget hu (pv 0) pe_str (fun _ _ => rfl)))
        (pss_cons (ps_set (i := 4) nd rfl (.inl rfl) (pe_op op_mod (pe_callTy call_int1 (by rfl) B.int (by decide +kernel) (pa_cons (pv 2) pa_nil)) (pe_callB call_len_seq (by rfl) B.len PySem.boot_len (pa_cons (pv 3) pa_nil))))
        (pss_cons (ps_set (i := 5) nd rfl (.inl rfl) (pe_ix (r := rIxL K) ix_list (pv 3) (pv 4) (fun _ _ => rfl)))
        (pss_one (ps_if (pt_cmpR op_gt (pv 5) pe_int (nomark _))
          (pss_cons (ps_asg (pe_op op_fdivN (pv 5) (pv 1)) (pg_sub (pv 3) (pv 4) set_list))
          (pss_one (ps_ret (pe_op op_mod (pe_callTy call_int1 (by rfl) B.int (by decide +kernel) (pa_cons (pv 5) pa_nil)) (pv 1))))) pss_nil))))) pss_nil)
      (pss_cons (ps_set (i := 3) nd rfl (.inl rfl) (pe_dget hu (pv 0) pe_str (fun _ _ => rfl)))
      (pss_one (ps_ret (pe_op op_mod (pe_callTy call_int1 (by rfl) B.int (by decide +kernel) (pa_cons (cl D38 G38 hgd hr (pa_cons
          (cl D38 G38 hgd hr (pa_cons (pe_op op_add (pe_ix (r := rIxL K) ix_list (pv 3) (pe_op op_mod (pe_callTy call_int1 (by rfl) B.int (by decide +kernel) (pa_cons (pv 2) pa_nil)) pe_int) (fun _ _ => rfl)) (pe_op op_mul pe_int (pe_op op_fdiv (pv 2) pe_int))) (pa_cons (pv 2) pa_nil)))
          (pa_cons (pe_op op_add (pv 2) pe_int) pa_nil))) pa_nil)) (pv 1))))))), ?_⟩
    have nm : ∀ {H' : Hp} {a b : Addr} {n : Int} {xs : List V}, H' m = some (.dK (me a b n)) → ∀ {c : Addr}, H' c = some (.lst xs) → c ≠ m := by
      rintro H' a b n xs h c h' rfl
      rw [h] at h'
      cases h'
    have ncm := nm hm hc
    have ngm := nm hm hg
    refine ⟨_, rfl, m, _, rfl, get_spot hm, gn ?_⟩
    refine ⟨_, rfl, n, 1, rfl, rfl, _, rfl, m, _, rfl, put_spot hm, ?_⟩
    have hm1 : upd H m (.dK (me lc lg (n + 1))) m = some (.dK (me lc lg (n + 1))) := upd_same
    have hc1 : upd H m (.dK (me lc lg (n + 1))) lc = some (.lst (cs.map V.int)) := by rw [upd_ne ncm]; exact hc
    have hg1 : upd H m (.dK (me lc lg (n + 1))) lg = some (.lst (gs.map V.int)) := by rw [upd_ne ngm]; exact hg
    have s1 : SameM m lg H (upd H m (.dK (me lc lg (n + 1)))) := (SameM.refl _ _ _).putm
    generalize upd H m (.dK (me lc lg (n + 1))) = H1 at hm1 hc1 hg1 s1 ⊢
    refine ⟨fun σ' H' => ∃ y3 y4 y5, σ' = [some (.ref m), some (.int lim), some (.int n), y3, y4, y5] ∧ Same H1 H', ?_, ?_⟩
    · refine ⟨_, rfl, m, _, rfl, get_great hm1, Nat.zero_le _, fun p hp => ?_⟩
      have sp : Same H1 (upd H1 p (.lst [])) := Same.new hp
      refine ⟨intD gs, intD [], Dp.lst (SqL.of (sp _ _ hg1)) (dp_ints gs), Dp.lst (SqL.of upd_same) .nil, shaped_ints gs, rfl, _, rfl, ?_⟩
      cases gs with
      | nil => exact iteF ⟨_, _, _, rfl, sp⟩
      | cons g0 gr =>
        refine iteT ?_
        have hm2 := sp _ _ hm1
        have hg2 := sp _ _ hg1
        have hc2 := sp _ _ hc1
        have lp : 0 < (((g0 :: gr).map V.int).length : Int) := by
          rw [List.length_map, List.length_cons]
          omega
        have a0 := Int.emod_nonneg n (b := (((g0 :: gr).map V.int).length : Int)) (by omega)
        have a1 := Int.emod_lt_of_pos n lp
        refine ⟨_, rfl, m, _, rfl, get_great hm2, gn ?_⟩
        refine ⟨_, rfl, .inl ⟨n, rfl, _, rfl, lg, _, rfl, .inl (SqL.of hg2), n, _, rfl, rfl, lp, gn ?_⟩⟩
        obtain ⟨k, ek⟩ := Int.eq_ofNat_of_zero_le a0
        rw [ek] at a1
        have hk : k < (g0 :: gr).length := by
          rw [List.length_map] at a1
          omega
        have hk2 : k < ((g0 :: gr).map V.int).length := by rw [List.length_map]; exact hk
        have eat : ((g0 :: gr).map V.int)[k]? = some (.int (g0 :: gr)[k]) := by
          rw [List.getElem?_map, List.getElem?_eq_getElem hk]
          rfl
        generalize (g0 :: gr)[k] = gk at eat
        refine ⟨_, rfl, _, rfl, lg, _, _, .int gk, rfl, rfl, SqL.of hg2, by rw [ek]; exact atI_nat eat, gn ?_⟩
        refine ⟨_, rfl, gk, 0, rfl, rfl, _, rfl, ite2 (fun d => ?_) (fun d => ?_)⟩
        · refine ⟨_, rfl, _, rfl, gk, lim, rfl, rfl, ⟨by omega, by omega⟩, ?_⟩
          refine ⟨_, rfl, _, rfl, lg, (g0 :: gr).map V.int, _, k, rfl, rfl, hg2, by rw [ek]; exact Evl.ixN_nat hk2, ?_⟩
          refine ⟨_, rfl, .inl ⟨_, rfl, _, rfl, gk, lim, rfl, rfl, l0, ?_⟩⟩
          refine q _ _ (Int.emod_nonneg _ (by omega)) (Int.emod_lt_of_pos _ l0) ((s1.trans (Same.m sp)).putg) ⟨cs, (g0 :: gr).set k (gk.fdiv lim), n + 1, ?_, ?_, ?_, hC, ?_, by omega, by omega, neq⟩
          · rw [upd_ne (Ne.symm ngm)]
            exact hm2
          · rw [upd_ne neq]
            exact hc2
          · rw [upd_same, map_set]
          · rw [List.length_set]
            exact hgl
        · exact ⟨_, _, _, rfl, sp⟩
    · rintro σ' H' ⟨y3, y4, y5, rfl, sm⟩
      have hm3 := sm _ _ hm1
      have hc3 := sm _ _ hc1
      have hg3 := sm _ _ hg1
      refine ⟨_, rfl, m, _, rfl, get_cells hm3, gn ?_⟩
      have a0 := Int.emod_nonneg n (b := 64) (by decide)
      have a1 := Int.emod_lt_of_pos n (b := 64) (by decide)
      obtain ⟨k, ek⟩ := Int.eq_ofNat_of_zero_le a0
      obtain ⟨c, ec, c0, c1⟩ := hC.at (i := k) (by omega)
      refine ⟨_, rfl, _, rfl, .inl ⟨n, rfl, n, 64, rfl, rfl, (by show (0 : Int) < 64; decide), lc, _, _, .int c, rfl, rfl, SqL.of hc3, by rw [ek]; exact atI_nat ec, _, rfl, n, 64, rfl, rfl, ⟨by decide, by decide⟩, 31, _, rfl, rfl, .inl ⟨by decide, by decide⟩, c, _, rfl, rfl, _, rfl, ?_⟩⟩
      refine ⟨_, n, rfl, by omega, by omega, n0, by omega, fun r r0 r1 => ?_⟩
      refine ⟨_, rfl, n, 7, rfl, rfl, r, n + 7, rfl, r0, by omega, by omega, by omega, fun r2 r20 r21 => ?_⟩
      refine .inl ⟨r2, rfl, _, rfl, r2, lim, rfl, rfl, l0, ?_⟩
      exact q _ _ (Int.emod_nonneg _ (by omega)) (Int.emod_lt_of_pos _ l0) (s1.trans (Same.m sm)) ⟨cs, gs, n + 1, hm3, hc3, hg3, hC, hgl, by omega, by omega, neq⟩
end
end K37
-- K37wo
set_option Elab.async false
set_option linter.all false
set_option maxRecDepth 100000
set_option maxHeartbeats 8000000
/-! K59wo: lays renamed, lays without a link; what it costs -/
namespace K37
open PySem L2 DC LamX
/-! renamed -/
structure Ord (n : Nat) (o : List Int) : Prop where
  len : o.length = n
  rng : ∀ t ∈ o, 1 ≤ t.natAbs ∧ t.natAbs ≤ n
  nd : (o.map Int.natAbs).Nodup
def rEnd (o : List Int) (e : Nat) : Nat := if ((e % 2 == 0) == decide (0 < o.getD (e / 2) 0)) = true then 2 * ((o.getD (e / 2) 0).natAbs - 1) else 2 * ((o.getD (e / 2) 0).natAbs - 1) + 1
section
variable {n : Nat} {o : List Int} {js ls : List J2}
theorem ord_at (O : Ord n o) {i : Nat} (h : i < n) : o.getD i 0 ∈ o := by
  have : i < o.length := by rw [O.len]; exact h
  rw [List.getD_eq_getElem?_getD, List.getElem?_eq_getElem this]
  exact List.getElem_mem this
theorem ord_inj (O : Ord n o) {i j : Nat} (hi : i < n) (hj : j < n) (h : (o.getD i 0).natAbs = (o.getD j 0).natAbs) : i = j := by
  have li : i < (o.map Int.natAbs).length := by rw [List.length_map, O.len]; exact hi
  have lj : j < (o.map Int.natAbs).length := by rw [List.length_map, O.len]; exact hj
  have key : ∀ a b (ha : a < (o.map Int.natAbs).length) (hb : b < (o.map Int.natAbs).length), (o.map Int.natAbs)[a] = (o.map Int.natAbs)[b] → ¬ a < b := fun a b ha hb e lt => List.pairwise_iff_getElem.mp O.nd a b ha hb lt e
  have fin : (o.map Int.natAbs)[i] = (o.map Int.natAbs)[j] → i = j := fun e => by
    have := key i j li lj e
    have := key j i lj li e.symm
    omega
  refine fin ?_
  rw [List.getElem_map, List.getElem_map]
  have e1 : o.getD i 0 = o[i]'(by rw [O.len]; exact hi) := by rw [List.getD_eq_getElem?_getD, List.getElem?_eq_getElem (by rw [O.len]; exact hi)]; rfl
  have e2 : o.getD j 0 = o[j]'(by rw [O.len]; exact hj) := by rw [List.getD_eq_getElem?_getD, List.getElem?_eq_getElem (by rw [O.len]; exact hj)]; rfl
  rw [← e1, ← e2]
  exact h
theorem rEnd_div (O : Ord n o) {e : Nat} (he : e < 2 * n) : rEnd o e / 2 = (o.getD (e / 2) 0).natAbs - 1 := by
  unfold rEnd
  split <;> omega
theorem rEnd_lt (O : Ord n o) {e : Nat} (he : e < 2 * n) : rEnd o e < 2 * n := by
  have h := O.rng _ (ord_at O (show e / 2 < n by omega))
  have := rEnd_div O he
  omega
theorem rEnd_inj (O : Ord n o) {e e' : Nat} (he : e < 2 * n) (he' : e' < 2 * n) (h : rEnd o e = rEnd o e') : e = e' := by
  have h1 := O.rng _ (ord_at O (show e / 2 < n by omega))
  have h2 := O.rng _ (ord_at O (show e' / 2 < n by omega))
  have d1 := rEnd_div O he
  have d2 := rEnd_div O he'
  have hd : e / 2 = e' / 2 := ord_inj O (by omega) (by omega) (by omega)
  unfold rEnd at h
  rw [hd] at h
  generalize (o.getD (e' / 2) 0).natAbs - 1 = z at h
  generalize decide (0 < o.getD (e' / 2) 0) = s at h
  rcases Nat.mod_two_eq_zero_or_one e with p | p <;> rcases Nat.mod_two_eq_zero_or_one e' with p' | p' <;> rw [p, p'] at h <;> first | omega | (cases s <;> simp at h)
theorem mem_pigeon : ∀ {n : Nat} {l : List Nat}, l.Nodup → (∀ x ∈ l, 1 ≤ x ∧ x ≤ n) → l.length = n → ∀ y, 1 ≤ y → y ≤ n → y ∈ l := by
  intro n l nd rng len y h1 h2
  by_cases c : y ∈ l
  · exact c
  · exfalso
    have nd2 : (y :: l).Nodup := List.nodup_cons.mpr ⟨c, nd⟩
    have := TI.nodup_len (m := (List.range n).map (· + 1)) nd2 fun x hx => by
      rcases List.mem_cons.mp hx with rfl | hx
      · exact List.mem_map.mpr ⟨x - 1, List.mem_range.mpr (by omega), by omega⟩
      · have := rng x hx
        exact List.mem_map.mpr ⟨x - 1, List.mem_range.mpr (by omega), by omega⟩
    rw [List.length_cons, List.length_map, List.length_range] at this
    omega
theorem rEnd_sur (O : Ord n o) {y : Nat} (hy : y < 2 * n) : ∃ x, x < 2 * n ∧ rEnd o x = y := by
  have hm : y / 2 + 1 ∈ o.map Int.natAbs := mem_pigeon O.nd (fun x hx => by
    obtain ⟨t, ht, rfl⟩ := List.mem_map.mp hx
    exact O.rng t ht) (by rw [List.length_map, O.len]) _ (by omega) (by omega)
  obtain ⟨t, ht, e⟩ := List.mem_map.mp hm
  obtain ⟨i, hi, rfl⟩ := List.getElem_of_mem ht
  have hin : i < n := by rw [← O.len]; exact hi
  have gd : o.getD i 0 = o[i] := by rw [List.getD_eq_getElem?_getD, List.getElem?_eq_getElem hi]; rfl
  have e0 : ∀ b, b < 2 → (2 * i + b) / 2 = i := by omega
  have val : ∀ b, b < 2 → rEnd o (2 * i + b) = if (((2 * i + b) % 2 == 0) == decide (0 < o[i])) = true then y / 2 * 2 else y / 2 * 2 + 1 := by
    intro b hb
    unfold rEnd
    rw [e0 b hb, gd]
    split <;> omega
  by_cases c : ((y % 2 == 0) == decide (0 < o[i])) = true
  · refine ⟨2 * i + 0, by omega, ?_⟩
    rw [val 0 (by decide)]
    have : (2 * i + 0) % 2 = 0 := by omega
    rw [this]
    rcases Nat.mod_two_eq_zero_or_one y with hy2 | hy2 <;> rw [hy2] at c <;> cases h : decide (0 < o[i]) <;> rw [h] at c <;> simp at c ⊢ <;> omega
  · refine ⟨2 * i + 1, by omega, ?_⟩
    rw [val 1 (by decide)]
    have : (2 * i + 1) % 2 = 1 := by omega
    rw [this]
    rcases Nat.mod_two_eq_zero_or_one y with hy2 | hy2 <;> rw [hy2] at c <;> cases h : decide (0 < o[i]) <;> rw [h] at c <;> simp at c ⊢ <;> omega
theorem ren_dom (O : Ord n o) (g : Good n js) : Dom (fun e => e < 2 * n) (rEnd o) n js :=
  ⟨g.dis, fun p hp => Nat.ne_of_lt (g.rng p hp).1, fun p hp => by have := g.rng p hp; exact ⟨by omega, by omega⟩, fun x y hx hy h => rEnd_inj O hx hy h, fun x hx => rEnd_lt O hx⟩
theorem ren_good (O : Ord n o) (g : Good n js) : Good n (pushJ (rEnd o) js) := push_good (ren_dom O g) g.one g.top
theorem ren_em (O : Ord n o) (g1 : Good n js) (g2 : Good n ls) : Em n n js ls (pushJ (rEnd o) js) (pushJ (rEnd o) ls) (rEnd o) :=
  ⟨fun e he => rEnd_lt O he, fun e e' h h' z => rEnd_inj O h h' z, fun e he => push_mt (ren_dom O g1) g1.one g1.top he, fun e he => push_mt (ren_dom O g2) g2.one g2.top he⟩
theorem cst_ren (O : Ord n o) (g1 : Good n js) (g2 : Good n ls) : cst n (pushJ (rEnd o) js) (pushJ (rEnd o) ls) = cst n js ls :=
  cst_all (ren_em O g1 g2) g1 g2 (ren_good O g1) (ren_good O g2) fun e he => rEnd_sur O he
end
/-! without a link -/
def wEnd (k e : Nat) : Nat := if 2 * k < e then e - 2 else e
def vEnd (k e : Nat) : Nat := if e < 2 * k then e else e + 2
def onS (n k x : Nat) : Prop := x < 2 * n ∧ x ≠ 2 * k ∧ x ≠ 2 * k + 1
def offK (k : Nat) (p : J2) : Bool := !decide (2 * k = p.1 ∨ 2 * k = p.2) && !decide (2 * k + 1 = p.1 ∨ 2 * k + 1 = p.2)
def addK (k : Nat) (js : List J2) : List J2 := match mt js (2 * k), mt js (2 * k + 1) with
  | some a, some b => if a = 2 * k + 1 then [] else [(a, b)]
  | _, _ => []
def leftJ (k : Nat) (js : List J2) : List J2 := js.filter (offK k) ++ addK k js
def witJ (k : Nat) (js : List J2) : List J2 := pushJ (wEnd k) (leftJ k js)
section
variable {n k : Nat} {js ls : List J2}
theorem off_iff {p : J2} : offK k p = true ↔ (2 * k ≠ p.1 ∧ 2 * k ≠ p.2) ∧ 2 * k + 1 ≠ p.1 ∧ 2 * k + 1 ≠ p.2 := by
  unfold offK
  simp only [Bool.and_eq_true, Bool.not_eq_true', decide_eq_false_iff_not, not_or]
theorem add_iff {p : J2} : p ∈ addK k js ↔ mt js (2 * k) = some p.1 ∧ mt js (2 * k + 1) = some p.2 ∧ p.1 ≠ 2 * k + 1 := by
  unfold addK
  split
  · rename_i a b ea eb
    rw [ea, eb]
    split
    · rename_i c
      refine ⟨fun h => absurd h List.not_mem_nil, fun ⟨h1, _, h3⟩ => absurd ((Option.some.inj h1).symm.trans c) h3⟩
    · rename_i c
      rw [List.mem_singleton]
      refine ⟨?_, fun ⟨h1, h2, _⟩ => Prod.ext (Option.some.inj h1).symm (Option.some.inj h2).symm⟩
      rintro rfl
      exact ⟨rfl, rfl, c⟩
  · rename_i h
    refine ⟨fun h => absurd h List.not_mem_nil, fun ⟨h1, h2, _⟩ => (h _ _ h1 h2).elim⟩
theorem left_dom (g : Good n js) (hk : k < n) : Dom (onS n k) (wEnd k) (n - 1) (leftJ k js) := by
  have F := g.mt
  have mid : ∀ p ∈ addK k js, onS n k p.1 ∧ onS n k p.2 ∧ p.1 ≠ p.2 := by
    intro p hp
    obtain ⟨h1, h2, h3⟩ := add_iff.mp hp
    have i1 := F.inv h1
    have i2 := F.inv h2
    have l1 := F.lt h1
    have l2 := F.lt h2
    have n1 : 2 * k ≠ p.1 := fun z => by
      have r := (g.rng _ ((mt_iff g).mp h1)).1
      unfold mk2 at r
      dsimp only at r
      omega
    have n2 : 2 * k + 1 ≠ p.2 := fun z => by
      have r := (g.rng _ ((mt_iff g).mp h2)).1
      unfold mk2 at r
      dsimp only at r
      omega
    refine ⟨⟨l1.2, fun z => n1 z.symm, h3⟩, ⟨l2.2, fun z => ?_, fun z => n2 z.symm⟩, fun z => ?_⟩
    · rw [z] at i2
      exact h3 (Option.some.inj (h1.symm.trans i2))
    · rw [z] at i1
      have := Option.some.inj (i1.symm.trans i2)
      omega
  refine ⟨?_, ?_, ?_, ?_, ?_⟩
  · unfold leftJ
    refine List.pairwise_append.mpr ⟨g.dis.filter _, ?_, fun p hp q hq => ?_⟩
    · unfold addK
      split
      · split
        · exact .nil
        · exact List.pairwise_singleton _ _
      · exact .nil
    · obtain ⟨hp, ho⟩ := List.mem_filter.mp hp
      obtain ⟨h1, h2, h3⟩ := add_iff.mp hq
      have o := off_iff.mp ho
      have ne : ∀ r ∈ js, r.1 ≠ r.2 := fun r hr => Nat.ne_of_lt (g.rng r hr).1
      obtain ⟨p1, p2⟩ := mt_of g.dis ne hp
      have i1 := F.inv h1
      have i2 := F.inv h2
      refine ⟨fun z => ?_, fun z => ?_, fun z => ?_, fun z => ?_⟩
      · rw [z, i1] at p1
        exact o.1.2 (Option.some.inj p1)
      · rw [z, i2] at p1
        exact o.2.2 (Option.some.inj p1)
      · rw [z, i1] at p2
        exact o.1.1 (Option.some.inj p2)
      · rw [z, i2] at p2
        exact o.2.1 (Option.some.inj p2)
  · intro p hp
    rcases List.mem_append.mp hp with hp | hp
    · exact Nat.ne_of_lt (g.rng p (List.mem_filter.mp hp).1).1
    · exact (mid p hp).2.2
  · intro p hp
    rcases List.mem_append.mp hp with hp | hp
    · obtain ⟨hp, ho⟩ := List.mem_filter.mp hp
      have o := off_iff.mp ho
      have r := g.rng p hp
      exact ⟨⟨by omega, fun z => o.1.1 z.symm, fun z => o.2.1 z.symm⟩, ⟨by omega, fun z => o.1.2 z.symm, fun z => o.2.2 z.symm⟩⟩
    · exact ⟨(mid p hp).1, (mid p hp).2.1⟩
  · intro x y hx hy h
    unfold onS at hx hy
    unfold wEnd at h
    split at h <;> split at h <;> omega
  · intro x hx
    unfold onS at hx
    unfold wEnd
    split <;> omega
theorem left_mt (g : Good n js) (hk : k < n) {x : Nat} (hx : onS n k x) : mt (leftJ k js) x = if mt js x = some (2 * k) then mt js (2 * k + 1) else if mt js x = some (2 * k + 1) then mt js (2 * k) else mt js x := by
  have F := g.mt
  have D := left_dom g hk
  have ne : ∀ r ∈ js, r.1 ≠ r.2 := fun r hr => Nat.ne_of_lt (g.rng r hr).1
  refine opt_ext fun y => ?_
  rw [raw_iff D.ap D.ne]
  constructor
  · rintro ⟨p, hp, c⟩
    rcases List.mem_append.mp hp with hp | hp
    · obtain ⟨hp, ho⟩ := List.mem_filter.mp hp
      have o := off_iff.mp ho
      have e : mt js x = some y := (raw_iff g.dis ne).mpr ⟨p, hp, c⟩
      rw [if_neg fun z => ?_, if_neg fun z => ?_]
      · exact e
      · have := Option.some.inj (e.symm.trans z)
        rcases c with ⟨rfl, rfl⟩ | ⟨rfl, rfl⟩
        · exact o.2.2 this.symm
        · exact o.2.1 this.symm
      · have := Option.some.inj (e.symm.trans z)
        rcases c with ⟨rfl, rfl⟩ | ⟨rfl, rfl⟩
        · exact o.1.2 this.symm
        · exact o.1.1 this.symm
    · obtain ⟨h1, h2, h3⟩ := add_iff.mp hp
      have i1 := F.inv h1
      have i2 := F.inv h2
      rcases c with ⟨rfl, rfl⟩ | ⟨rfl, rfl⟩
      · rw [i1, if_pos rfl]
        exact h2
      · rw [i2, if_neg fun z => by have := Option.some.inj z; omega, if_pos rfl]
        exact h1
  · intro h
    split at h
    · rename_i c
      have i := F.inv c
      refine ⟨(x, y), List.mem_append_right _ (add_iff.mpr ⟨i, h, ?_⟩), .inl ⟨rfl, rfl⟩⟩
      exact hx.2.2
    · split at h
      · rename_i c1 c
        have i := F.inv c
        refine ⟨(y, x), List.mem_append_right _ (add_iff.mpr ⟨h, i, ?_⟩), .inr ⟨rfl, rfl⟩⟩
        rintro rfl
        exact hx.2.1 (Option.some.inj ((F.inv h).symm.trans i)).symm
      · rename_i c1 c2
        obtain ⟨p, hp, c⟩ := (raw_iff g.dis ne).mp h
        refine ⟨p, List.mem_append_left _ (List.mem_filter.mpr ⟨hp, off_iff.mpr ?_⟩), c⟩
        unfold onS at hx
        rcases c with ⟨rfl, rfl⟩ | ⟨rfl, rfl⟩
        · exact ⟨⟨fun z => hx.2.1 z.symm, fun z => c1 (by rw [h, z])⟩, fun z => hx.2.2 z.symm, fun z => c2 (by rw [h, z])⟩
        · exact ⟨⟨fun z => c1 (by rw [h, z]), fun z => hx.2.1 z.symm⟩, fun z => c2 (by rw [h, z]), fun z => hx.2.2 z.symm⟩
theorem wit_good (g : Good n js) (hk : k < n) (h2 : 2 ≤ n) : Good (n - 1) (witJ k js) := push_good (left_dom g hk) (by omega) (by have := g.top; omega)
theorem join_ex (g : Good n js) (hk : k < n) : ∃ js', Good n js' ∧ mt js' (2 * k) = some (2 * k + 1) ∧ mt js' (2 * k + 1) = some (2 * k) ∧ (∀ x, onS n k x → mt js' x = mt (leftJ k js) x) ∧
    (js' = js ∨ (cst n js js' ≤ 1 ∧ ∀ ls, Good n ls → mt ls (2 * k) = some (2 * k + 1) → cst n js' ls + 1 ≤ cst n js ls)) := by
  by_cases c : mt js (2 * k) = some (2 * k + 1)
  · have i := g.mt.inv c
    refine ⟨js, g, c, i, fun x hx => ?_, .inl rfl⟩
    rw [left_mt g hk hx, if_neg fun z => ?_, if_neg fun z => ?_]
    · exact hx.2.1 (Option.some.inj ((g.mt.inv z).symm.trans i))
    · exact hx.2.2 (Option.some.inj ((g.mt.inv z).symm.trans c))
  · obtain ⟨st, s, hm⟩ := made_ex g (e := 2 * k) (f := 2 * k + 1) (by omega) (by omega) (by omega) c
    have sw := sw_of g s _ hm
    rw [mk2_lt (show 2 * k < 2 * k + 1 by omega)] at sw
    have ga := aft_good g s
    refine ⟨aftJ js st, ga, sw.e1, sw.f1, fun x hx => ?_, .inr ⟨TI.sw_one g ga sw, fun ls gl hl => TI.gs g ga gl sw hl⟩⟩
    rw [sw.ot x hx.2.1 hx.2.2, left_mt g hk hx]
theorem vw {x : Nat} (h : x ≠ 2 * k ∧ x ≠ 2 * k + 1) : vEnd k (wEnd k x) = x := by
  unfold vEnd wEnd
  split <;> split <;> omega
theorem wv (x : Nat) : wEnd k (vEnd k x) = x := by
  unfold vEnd wEnd
  split <;> split <;> omega
theorem v_on (hk : k < n) {x : Nat} (h : x < 2 * (n - 1)) : onS n k (vEnd k x) := by
  unfold onS vEnd
  split <;> omega
theorem wit_mt (g : Good n js) (hk : k < n) (h2 : 2 ≤ n) {js' : List J2} (hj : ∀ x, onS n k x → mt js' x = mt (leftJ k js) x) {e : Nat} (he : e < 2 * (n - 1)) : mt js' (vEnd k e) = (mt (witJ k js) e).map (vEnd k) := by
  have D := left_dom g hk
  have on := v_on hk he
  have tp := g.top
  rw [hj _ on]
  have h := push_mt D (by omega) (by omega) on
  rw [wv] at h
  show _ = (mt (pushJ (wEnd k) (leftJ k js)) e).map (vEnd k)
  rw [h]
  cases hm : mt (leftJ k js) (vEnd k e) with
  | none => rfl
  | some y =>
    obtain ⟨p, hp, c⟩ := (raw_iff D.ap D.ne).mp hm
    have d := D.dom p hp
    have oy : onS n k y := by
      rcases c with ⟨_, rfl⟩ | ⟨_, rfl⟩
      · exact d.2
      · exact d.1
    show some y = some (vEnd k (wEnd k y))
    rw [vw ⟨oy.2.1, oy.2.2⟩]
theorem cst_wit (g1 : Good n js) (g2 : Good n ls) (hk : k < n) (h2 : 2 ≤ n) : cst (n - 1) (witJ k js) (witJ k ls) ≤ cst n js ls := by
  obtain ⟨ja, ga, a1, a2, a3, a4⟩ := join_ex g1 hk
  obtain ⟨la, gb, b1, b2, b3, b4⟩ := join_ex g2 hk
  have le : cst n ja la ≤ cst n js ls := by
    rcases a4 with rfl | ⟨_, a5⟩
    · rcases b4 with rfl | ⟨_, b5⟩
      · exact Nat.le_refl _
      · have := b5 _ ga a1
        rw [TI.cst_symm ga gb, TI.cst_symm ga g2]
        omega
    · rcases b4 with rfl | ⟨b6, _⟩
      · have := a5 _ gb b1
        omega
      · have h3 := a5 _ gb b1
        have h4 := TI.cst_tri g1 g2 gb
        omega
  have g0 : Good 1 [(0, 1)] := ⟨by decide, by decide, by decide, by decide, by simp [DC.Apart]⟩
  have small : ∀ e, e < 2 * 1 → e = 0 ∨ e = 1 := by omega
  have E1 : Em (n - 1) n (witJ k js) (witJ k ls) ja la (vEnd k) := ⟨fun e he => (v_on hk he).1, fun e e' _ _ z => by rw [← wv (k := k) e, ← wv (k := k) e', z], fun e he => wit_mt g1 hk h2 a3 he, fun e he => wit_mt g2 hk h2 b3 he⟩
  have E2 : Em 1 n [(0, 1)] [(0, 1)] ja la (fun e => 2 * k + e) := by
    refine ⟨fun e he => by show 2 * k + e < _; omega, fun e e' _ _ z => by have z : 2 * k + e = 2 * k + e' := z; omega, fun e he => ?_, fun e he => ?_⟩
    · rcases small e he with rfl | rfl
      · exact a1
      · exact a2
    · rcases small e he with rfl | rfl
      · exact b1
      · exact b2
  have h := cst_two E1 E2 (wit_good g1 hk h2) (wit_good g2 hk h2) g0 g0 ga gb (fun e he => ?_) (fun x y hx hy z => ?_)
  · rw [TI.cst_self g0] at h
    omega
  · by_cases c : e = 2 * k ∨ e = 2 * k + 1
    · refine .inr ⟨e - 2 * k, by omega, ?_⟩
      show 2 * k + (e - 2 * k) = e
      omega
    · refine .inl ⟨wEnd k e, ?_, vw ⟨by omega, by omega⟩⟩
      unfold wEnd
      split <;> omega
  · have on := v_on hk hx
    have z : vEnd k x = 2 * k + y := z
    unfold onS at on
    omega
end
end K37
-- K37p1
set_option Elab.async false
set_option linter.all false
set_option maxRecDepth 100000
set_option maxHeartbeats 8000000
/-! K59p1: need_link, made_lay, is_order, renamed_end, renamed -/
namespace K37
open PySem L2 DC LamX
theorem sort8 {N : Nat} {l : List J2} (g : Good N (srtJ l)) (h4 : N ≤ 12) : (l.map pairD).mergeSort (PySem.W.dataLe false id) = (srtJ l).map pairD := by
  have e : (l.map pairD).mergeSort (PySem.W.dataLe false id) = ((srtJ l).map pairD).mergeSort (PySem.W.dataLe false id) := by
    refine sort_same ((srtJ_perm _).symm.map _) fun a ha b hb e => ?_
    obtain ⟨x, _, rfl⟩ := List.mem_map.mp ha
    obtain ⟨y, _, rfl⟩ := List.mem_map.mp hb
    exact pair_inj x y e
  rw [e]
  refine List.mergeSort_of_pairwise (List.pairwise_map.mpr (List.Pairwise.imp_of_mem (fun {p q} hp hq h => ?_) g.asc))
  have r1 := g.rng p hp
  have r2 := g.rng q hq
  exact le6 h
theorem abs_nat (i : Int) : (if i < 0 then -i else i) = ((i.natAbs : Nat) : Int) := by
  split <;> omega
theorem ord_sorted {n : Nat} {o : List Int} (O : Ord n o) {ns : List Int} (p : ns.Perm (o.map fun t => ((t.natAbs : Nat) : Int))) (h : ns.Pairwise (· ≤ ·)) : ns = (List.range n).map fun i => ((i : Nat) : Int) + 1 := by
  have p2 : (o.map fun t => ((t.natAbs : Nat) : Int)).Perm ((List.range n).map fun i => ((i : Nat) : Int) + 1) := by
    have p3 : (o.map Int.natAbs).Perm ((List.range n).map (· + 1)) := by
      refine (List.perm_ext_iff_of_nodup O.nd (List.pairwise_map.mpr (List.nodup_range.imp fun h e => h (by omega)))).mpr fun y => ⟨fun hy => ?_, fun hy => ?_⟩
      · obtain ⟨t, ht, rfl⟩ := List.mem_map.mp hy
        have := O.rng t ht
        exact List.mem_map.mpr ⟨t.natAbs - 1, List.mem_range.mpr (by omega), by omega⟩
      · obtain ⟨i, hi, rfl⟩ := List.mem_map.mp hy
        have := List.mem_range.mp hi
        exact mem_pigeon O.nd (fun x hx => by
          obtain ⟨t, ht, rfl⟩ := List.mem_map.mp hx
          exact O.rng t ht) (by rw [List.length_map, O.len]) _ (by omega) (by omega)
    have p4 := p3.map fun y => ((y : Nat) : Int)
    rw [List.map_map, List.map_map] at p4
    exact p4
  refine List.Perm.eq_of_pairwise (le := (· ≤ ·)) (fun a b _ _ h1 h2 => Int.le_antisymm h1 h2) h ?_ (p.trans p2)
  exact List.pairwise_map.mpr (List.pairwise_lt_range.imp fun h => by omega)
theorem rg_one (n : Nat) : rgV 1 (((n : Nat) : Int) + 1) = ((List.range n).map fun i => ((i : Nat) : Int) + 1).map V.int := by
  unfold rgV
  rw [show (((n : Nat) : Int) + 1 - 1).toNat = n by omega, List.map_map]
  refine List.map_congr_left fun i _ => ?_
  show V.int (1 + (i : Int)) = V.int ((i : Int) + 1)
  rw [Int.add_comm]
theorem can_ints (cs : List Int) : PyData.canLay0 (intD cs) = true := by
  unfold intD
  simp only [PyData.canLay0, lay_ints]
section
variable {P : Program} {w : World} {K : PySem.W.Frag} {mg : Str → Option Value} {base : Heap}
def spNl (K : PySem.W.Frag) : Sp := fun vs H Q _ => ∃ (v : V) (n k : Nat) (js : List J2), vs = [v, .int (k : Nat)] ∧ Ly K H v n js ∧ k < n ∧ Q (.int (k : Nat)) H
def mk2s (ps : List J2) : List J2 := ps.map fun p => mk2 p.1 p.2
def spMd (K : PySem.W.Frag) : Sp := fun vs H Q _ => ∃ (n : Nat) (a : Addr) (us : List V) (ps : List J2), vs = [.int (n : Nat), .ref a] ∧ SqL K H a us ∧ Paired (Pr K H) us ps ∧ n ≤ 12 ∧ ps.length ≤ 100 ∧ Good n (srtJ (mk2s ps)) ∧
  ∀ (v : V) (H' : Hp), Same H H' → Ly K H' v n (srtJ (mk2s ps)) → Q v H'
abbrev NMd : List Str := ["links", "pairs", "one", "other"]
def spIo (K : PySem.W.Frag) : Sp := fun vs H Q _ => ∃ (a : Addr) (n : Nat) (o : List Int), vs = [.ref a, .int (n : Nat)] ∧ SqT K H a (o.map V.int) ∧ Ord n o ∧ n ≤ 12 ∧ ∀ (H' : Hp), Same H H' → Q (.bl true) H'
abbrev NIo : List Str := ["value", "links", "told"]
def spRe (K : PySem.W.Frag) : Sp := fun vs H Q _ => ∃ (e : Nat) (a : Addr) (n : Nat) (o : List Int), vs = [.int (e : Nat), .ref a] ∧ SqT K H a (o.map V.int) ∧ Ord n o ∧ e < 2 * n ∧ Q (.int (rEnd o e : Nat)) H
abbrev NRe : List Str := ["end", "order", "told", "near", "at_near"]
def spRn (K : PySem.W.Frag) : Sp := fun vs H Q _ => ∃ (v : V) (a : Addr) (n : Nat) (js : List J2) (o : List Int), vs = [v, .ref a] ∧ Ly K H v n js ∧ Good n js ∧ n ≤ 12 ∧ SqT K H a (o.map V.int) ∧ Ord n o ∧
  ∀ (v' : V) (H' : Hp), Same H H' → Ly K H' v' n (pushJ (rEnd o) js) → Q v' H'
abbrev NRn : List Str := ["lay", "order", "links", "joints", "low", "high"]
theorem push_mk2s (φ : Nat → Nat) (l : List J2) : srtJ (mk2s (l.map fun p => (φ p.1, φ p.2))) = pushJ φ l := by
  unfold mk2s pushJ
  rw [List.map_map]
  rfl
end
end K37
-- K37y1
set_option Elab.async false
set_option linter.all false
set_option maxRecDepth 100000
set_option maxHeartbeats 4000000
/-! K71y1: _law_shuffled, _law_any_lay -/
namespace K37
open PySem L2 DC LamX
theorem srt_good {n : Nat} {l : List J2} (h1 : 1 ≤ n) (h12 : n ≤ 12) (d : l.Pairwise DC.Apart) (r : ∀ p ∈ l, p.1 < p.2 ∧ p.2 < 2 * n) : Good n (srtJ l) := by
  have pm := srtJ_perm l
  exact ⟨h1, h12, fun p hp => r p (pm.mem_iff.mp hp), srtJ_asc (d.imp fun h => h.1), (pm.pairwise_iff fun h => apart_symm h).mpr d⟩
/-- the j-th pair of neighbours -/
def nbP (ps : List Nat) (j : Nat) : J2 := mk2 (ps.getD (2 * j) 0) (ps.getD (2 * j + 1) 0)
theorem nb_good {n : Nat} {ps sel : List Nat} (h1 : 1 ≤ n) (h12 : n ≤ 12) (pm : ps.Perm (List.range (2 * n))) (up : sel.Pairwise (· < ·)) (lt : ∀ j ∈ sel, j < n) : Good n (srtJ (sel.map (nbP ps))) := by
  have nd : ps.Nodup := pm.nodup_iff.mpr List.nodup_range
  have len : ps.length = 2 * n := by rw [pm.length_eq, List.length_range]
  have ne : ∀ i j, i < 2 * n → j < 2 * n → i ≠ j → ps.getD i 0 ≠ ps.getD j 0 := fun i j hi hj h e => by
    rw [List.getD_eq_getElem?_getD, List.getD_eq_getElem?_getD, List.getElem?_eq_getElem (by omega), List.getElem?_eq_getElem (by omega)] at e
    exact h ((List.getElem_inj nd).mp e)
  have lt2 : ∀ i, i < 2 * n → ps.getD i 0 < 2 * n := fun i hi => by
    rw [List.getD_eq_getElem?_getD, List.getElem?_eq_getElem (by omega)]
    exact List.mem_range.mp (pm.mem_iff.mp (List.getElem_mem _))
  refine srt_good h1 h12 (List.pairwise_map.mpr (List.Pairwise.imp_of_mem (fun {i j} hi hj h => ?_) up)) fun p hp => ?_
  · have li := lt i hi
    have lj := lt j hj
    exact mk2_apart ⟨ne _ _ (by omega) (by omega) (by omega), ne _ _ (by omega) (by omega) (by omega), ne _ _ (by omega) (by omega) (by omega), ne _ _ (by omega) (by omega) (by omega)⟩
  · obtain ⟨j, hj, rfl⟩ := List.mem_map.mp hp
    have lj := lt j hj
    have a := lt2 (2 * j) (by omega)
    have b := lt2 (2 * j + 1) (by omega)
    have c := ne (2 * j) (2 * j + 1) (by omega) (by omega) (by omega)
    show min _ _ < max _ _ ∧ max _ _ < 2 * n
    omega
section
variable {P : Program} {w : World} {K : PySem.W.Frag} {mg : Str → Option Value} {base : Heap}
def spShf (K : PySem.W.Frag) : Sp := fun vs H Q _ => ∃ (m lc lg : Addr) (nb n : Nat), vs = [.ref m, .int n] ∧ MB H m lc lg nb ∧ nb < 2 ^ 39 ∧ n ≤ 24 ∧
  ∀ (r : Addr) (ps : List Nat) (H' : Hp), SameM m lg H H' → MB H' m lc lg (nb + 30) → H r = none → H' r = some (.lst (Vn ps)) → ps.Perm (List.range n) → Q (.ref r) H'
abbrev NShf : List Str := ["m", "many", "left", "found", "turn"]
theorem scShf : FnScope NShf ["m", "many"] (defScope (top 42)) := ⟨rfl, rfl, rfl, by decide +kernel, rfl, by decide +kernel, by decide +kernel⟩
theorem okShf {f fDr : Addr} {fd fdDr : FuncData} (F : Fun K "_law_shuffled" "_law_shuffled" (top 42) f fd) (B : Bn mg)
    (DDr : Df K mg "_law_draw" fDr fdDr ["m", "limit"]) (GDr : OkF P w K mg base 2 fDr fdDr ["m", "limit"] spDraw) : OkF P w K mg base 3 f fd ["m", "many"] (spShf K) := by
  refine ok0 F scShf (fun vs H Q E h => ?_) (fun cdv A outer s H vs Q E hgd hr h => ?_)
  · obtain ⟨m, lc, lg, nb, n, rfl, _⟩ := h; rfl
  · obtain ⟨m, lc, lg, nb, n, rfl, hM, hnb, h24, q⟩ := h
    have nd := scShf.nd
    have hr2 : Room 2 _ := hr
    refine ⟨_, (pss_cons (ps_par (i := 2) (j := 3) (by rfl) nd rfl rfl (by decide) rfl rfl (pa_cons (pe_listRg rfl (by rfl) B.list (prg_1 (by rfl) B.range (pv 1))) (pa_cons (pe_lst pa_nil) pa_nil)) (by rfl)) (pss_cons (ps_for PassesOwn.never rfl (pi_range1 (by rfl) B.range (pa_cons (pv 1) pa_nil)) (pg_name (i := 4) nd rfl (.inl rfl)) (pss_one (ps_expr (pe_bm PySem.F.plainAttrs_list PySem.F.slot_list_append PySem.F.type_list_append mt_append (pv 3) (pa_cons (pe_bm PySem.F.plainAttrs_list PySem.F.slot_list_pop PySem.F.type_list_pop mt_popAt (pv 2) (pa_cons (cl DDr GDr hgd hr2 (pa_cons (pv 0) (pa_cons (pe_callB (r := rLen K) call_len_seq (by rfl) B.len PySem.boot_len (pa_cons (pv 2) pa_nil)) pa_nil))) pa_nil)) pa_nil))))) (pss_one (ps_ret (pv 3))))), ?_⟩
    refine ⟨_, rfl, (n : Int), rfl, RgOk.of_le (by omega) (by omega) (by omega) (by omega), fun l0 hl0 => ?_⟩
    refine ⟨by show 0 ≤ sizeLine; decide, fun J hJ => ⟨_, _, rfl, ?_⟩⟩
    rw [show rgV 0 (n : Int) = Vn (List.range n) from rg_vn n] at hJ ⊢
    have s1 : Same H (upd H l0 (.lst (Vn (List.range n)))) := Same.new hl0
    have s2 := Same.new (o := .lst []) hJ
    have neJ : l0 ≠ J := fun z => by rw [← z, upd_same] at hJ; cases hJ
    have nJ : H J = none := s1.free hJ
    obtain ⟨z1, _, z3⟩ := hM.ms
    have nl : l0 ≠ m ∧ l0 ≠ lg := ⟨fun e => z1 (by rw [← e]; exact hl0), fun e => z3 (by rw [← e]; exact hl0)⟩
    have nj : J ≠ m ∧ J ≠ lg := ⟨fun e => z1 (by rw [← e]; exact nJ), fun e => z3 (by rw [← e]; exact nJ)⟩
    refine ⟨_, rfl, (n : Int), rfl, by omega, by omega, ?_⟩
    rw [show ((n : Int)).toNat = n by omega]
    refine for_it (walk_range (lo := 0) (n := n)) (fun i σ H' => ∃ (b : Nat) (es ps : List Nat) (y4 : Option V), σ = [some (.ref m), some (.int (n : Nat)), some (.ref l0), some (.ref J), y4] ∧ SameM m lg H H' ∧ MB H' m lc lg b ∧ b ≤ nb + i ∧ H' l0 = some (.lst (Vn es)) ∧ H' J = some (.lst (Vn ps)) ∧ (ps ++ es).Perm (List.range n) ∧ ps.length = i)
      ⟨nb, List.range n, [], none, rfl, Same.m (s1.trans s2), hM.up (s1.trans s2), Nat.le_refl _, s2 _ _ upd_same, upd_same, List.Perm.refl _, rfl⟩ (fun _ _ _ _ _ => trivial) ?_ ?_
    · rintro i x σ H1 H2 hi ⟨b, es, ps, y4, rfl, sm, hB, hb, hl, hJl, pm, lps⟩ ⟨rfl, _⟩
      have hi : i < n := hi
      have len : ps.length + es.length = n := by
        have := pm.length_eq
        rw [List.length_append, List.length_range] at this
        exact this
      refine gn ?_
      refine ⟨_, rfl, .inl ⟨rfl, _, SqL.of hJl⟩, _, rfl, .inl ⟨rfl, _, SqL.of hl⟩, _, rfl, _, rfl, l0, _, rfl, .inl (SqL.of hl), m, lc, lg, b, _, rfl, hB, by omega, ?_, ?_, fun r H3 b0 b1 sx hM3 => ?_⟩
      · rw [Vn_len]; omega
      · rw [Vn_len]; omega
      obtain ⟨k, rfl⟩ := Int.eq_ofNat_of_zero_le b0
      rw [Vn_len] at b1
      have hk : k < es.length := by omega
      have hl3 := sx _ _ nl.1 nl.2 hl
      have hJ3 := sx _ _ nj.1 nj.2 hJl
      have eat : es[k]? = some es[k] := List.getElem?_eq_getElem hk
      have pe := perm_erase hk
      generalize es[k] = ek at eat pe
      refine ⟨l0, _, (k : Nat), k, .int (ek : Nat), rfl, rfl, hl3, by omega, by omega, seq_nat (by rw [Vn_len]; exact hk), Vn_get eat, ?_⟩
      rw [vn_erase]
      have hB4 : MB (upd H3 l0 (.lst (Vn (es.eraseIdx k)))) m lc lg (b + 1) := hM.putf hM3 hl0
      have sm4 : SameM m lg H (upd H3 l0 (.lst (Vn (es.eraseIdx k)))) := (sm.trans sx).put hl0
      have hJ4 : upd H3 l0 (.lst (Vn (es.eraseIdx k))) J = some (.lst (Vn ps)) := by rw [upd_ne neJ.symm]; exact hJ3
      have hl4 : upd H3 l0 (.lst (Vn (es.eraseIdx k))) l0 = some (.lst (Vn (es.eraseIdx k))) := upd_same
      generalize upd H3 l0 (.lst (Vn (es.eraseIdx k))) = H4 at hB4 sm4 hl4 hJ4 ⊢
      refine ⟨J, _, _, rfl, rfl, hJ4, Nat.lt_of_le_of_lt (show (Vn ps).length ≤ 100 by rw [Vn_len]; omega) (by decide), ?_⟩
      refine ⟨b + 1, es.eraseIdx k, ps ++ [ek], _, rfl, sm4.put nJ, hM.putf hB4 nJ, by omega, by rw [upd_ne neJ]; exact hl4, ?_, ?_, by rw [List.length_append, lps]; rfl⟩
      · rw [upd_same]
        unfold Vn
        rw [List.map_append]
        rfl
      · rw [List.append_assoc]
        exact (List.Perm.append_left ps pe.symm).trans pm
    · rintro σ H1 ⟨b, es, ps, y4, rfl, sm, hB, hb, hl, hJl, pm, lps⟩
      have : es = [] := by
        have := pm.length_eq
        rw [List.length_append, List.length_range] at this
        exact List.length_eq_zero_iff.mp (by omega)
      subst this
      rw [List.append_nil] at pm
      exact ⟨_, rfl, q J ps H1 sm (hB.more (by omega)) nJ hJl pm⟩
/-- pairs of neighbours in a row of ends, some of them -/
def spAl (K : PySem.W.Frag) : Sp := fun vs H Q _ => ∃ (m lc lg : Addr) (nb n : Nat), vs = [.ref m, .int n] ∧ MB H m lc lg nb ∧ nb < 2 ^ 38 ∧ 1 ≤ n ∧ n ≤ 8 ∧
  ∀ (v : V) (js : List J2) (H' : Hp), SameM m lg H H' → MB H' m lc lg (nb + 50) → Ly K H' v n js → Good n js → Q v H'
abbrev NAl : List Str := ["m", "many", "ends", "found", "keep", "spot"]
theorem scAl : FnScope NAl ["m", "many"] (defScope (top 45)) := ⟨rfl, rfl, rfl, by decide +kernel, rfl, by decide +kernel, by decide +kernel⟩
theorem okAl {f fDr fSh fPa : Addr} {fd fdDr fdSh fdPa : FuncData} (F : Fun K "_law_any_lay" "_law_any_lay" (top 45) f fd) (B : Bn mg)
    (DDr : Df K mg "_law_draw" fDr fdDr ["m", "limit"]) (GDr : OkF P w K mg base 2 fDr fdDr ["m", "limit"] spDraw)
    (DSh : Df K mg "_law_shuffled" fSh fdSh ["m", "many"]) (GSh : OkF P w K mg base 3 fSh fdSh ["m", "many"] (spShf K))
    (DPa : Df K mg "_law_pair" fPa fdPa ["one", "other"]) (GPa : OkF P w K mg base 1 fPa fdPa ["one", "other"] spPa) : OkF P w K mg base 4 f fd ["m", "many"] (spAl K) := by
  refine ok0 F scAl (fun vs H Q E h => ?_) (fun cdv A outer s H vs Q E hgd hr h => ?_)
  · obtain ⟨m, lc, lg, nb, n, rfl, _⟩ := h; rfl
  · obtain ⟨m, lc, lg, nb, n, rfl, hM, hnb, h1, h4, q⟩ := h
    have nd := scAl.nd
    have hr1 : Room 1 _ := hr.mono (by decide)
    have hr2 : Room 2 _ := hr.mono (by decide)
    have hr3 : Room 3 _ := hr
    refine ⟨_, (pss_cons (ps_par (i := 2) (j := 3) (by rfl) nd rfl rfl (by decide) rfl rfl (pa_cons (cl DSh GSh hgd hr3 (pa_cons (pv 0) (pa_cons (pe_op op_mul pe_int (pv 1)) pa_nil))) (pa_cons (pe_lst pa_nil) pa_nil)) (by rfl)) (pss_cons (ps_set (i := 4) nd rfl (.inl rfl) (cl DDr GDr hgd hr2 (pa_cons (pv 0) (pa_cons pe_int pa_nil)))) (pss_cons (ps_for PassesOwn.never rfl (pi_range1 (by rfl) B.range (pa_cons (pv 1) pa_nil)) (pg_name (i := 5) nd rfl (.inl rfl)) (pss_one (ps_if (PW.pt (pw_and (pt_cmpR op_gt (pv 4) pe_int (nomark _)) (pw_and1 (pt_cmpR op_lt (cl DDr GDr hgd hr2 (pa_cons (pv 0) (pa_cons pe_int pa_nil))) (pv 4) (nomark _))))) (pss_one (ps_expr (pe_bm PySem.F.plainAttrs_list PySem.F.slot_list_append PySem.F.type_list_append mt_append (pv 3) (pa_cons (cl DPa GPa hgd hr1 (pa_cons (pe_ix (r := rIxL K) ix_list (pv 2) (pe_op op_mul pe_int (pv 5)) (fun _ _ => rfl)) (pa_cons (pe_ix (r := rIxL K) ix_list (pv 2) (pe_op op_add (pe_op op_mul pe_int (pv 5)) pe_int) (fun _ _ => rfl)) pa_nil))) pa_nil)))) pss_nil))) (pss_one (ps_ret (pe_tup (pa_cons (pv 1) (pa_cons (pe_callTy call_tuple_of (by rfl) B.tuple (by decide +kernel) (pa_cons (pe_callB (cr_sortD hr.units) (by rfl) B.sorted (by decide +kernel) (pa_cons (pv 3) pa_nil)) pa_nil)) pa_nil)))))))), ?_⟩
    refine ⟨_, rfl, _, rfl, 2, (n : Nat), rfl, rfl, .inl ⟨by decide, by decide⟩, ?_⟩
    refine ⟨m, lc, lg, nb, 2 * n, congrArg (fun z => [V.ref m, V.int z]) (show (2 : Int) * ((n : Nat) : Int) = ((2 * n : Nat) : Int) by omega), hM, by omega, by omega, fun E ps H1 s1 hM1 nE hE pm => ?_⟩
    refine ⟨by show 0 ≤ sizeLine; decide, fun F0 hF => ⟨_, _, rfl, ?_⟩⟩
    have sF := Same.new (o := .lst []) hF
    have len : ps.length = 2 * n := by rw [pm.length_eq, List.length_range]
    have nF : H F0 = none := s1.free hM1 hF
    have neE : E ≠ F0 := fun z => by rw [← z, hE] at hF; cases hF
    obtain ⟨z1, _, z3⟩ := hM.ms
    have nEm : E ≠ m ∧ E ≠ lg := ⟨fun e => z1 (by rw [← e]; exact nE), fun e => z3 (by rw [← e]; exact nE)⟩
    have nFm : F0 ≠ m ∧ F0 ≠ lg := ⟨fun e => z1 (by rw [← e]; exact nF), fun e => z3 (by rw [← e]; exact nF)⟩
    refine ⟨_, rfl, m, lc, lg, nb + 30, 4, rfl, hM1.up sF, by omega, by decide, by decide, fun kp H2 k0 k1 s2 hM2 => gn ?_⟩
    have sm2 := (s1.trans (Same.m sF)).trans s2
    have hE2 := s2 _ _ nEm.1 nEm.2 (sF _ _ hE)
    have hF2 := s2 _ _ nFm.1 nFm.2 (upd_same (H := H1) (a := F0) (o := .lst []))
    refine ⟨_, rfl, (n : Int), rfl, by omega, by omega, ?_⟩
    rw [show ((n : Int)).toNat = n by omega]
    refine for_it (walk_range (lo := 0) (n := n)) (fun i σ H' => ∃ (b : Nat) (acc : List V) (sel : List Nat) (y5 : Option V), σ = [some (.ref m), some (.int (n : Nat)), some (.ref E), some (.ref F0), some (.int kp), y5] ∧ SameM m lg H H' ∧ MB H' m lc lg b ∧ b ≤ nb + 31 + i ∧
      H' E = some (.lst (Vn ps)) ∧ H' F0 = some (.lst acc) ∧ Paired (Pr K H') acc (sel.map (nbP ps)) ∧ sel.Pairwise (· < ·) ∧ (∀ j ∈ sel, j < i) ∧ acc.length ≤ i) ⟨nb + 31, [], [], none, rfl, sm2, hM2, Nat.le_refl _, hE2, hF2, .nil, .nil, fun j hj => absurd hj List.not_mem_nil, Nat.le_refl _⟩ (fun _ _ _ _ _ => trivial) ?_ ?_
    · rintro i x σ H3 H4 hi ⟨b, acc, sel, y5, rfl, sm, hB, hb, hE3, hF3, hP, up, lt, la⟩ ⟨rfl, ex⟩
      obtain rfl : x = V.int ((i : Nat) : Int) := by
        rw [ex]
        show V.int (0 + ((i : Nat) : Int)) = _
        rw [Int.zero_add]
      have hi : i < n := hi
      refine gn ?_
      refine ⟨_, rfl, kp, 0, rfl, rfl, _, rfl, ?_⟩
      by_cases c : 0 < kp
      case neg =>
        rw [decide_eq_false c]
        exact iteF (iteF ⟨b, acc, sel, _, rfl, sm, hB, by omega, hE3, hF3, hP, up, fun j hj => Nat.lt_succ_of_lt (lt j hj), by omega⟩)
      rw [decide_eq_true c]
      refine iteT ?_
      refine ⟨_, rfl, m, lc, lg, b, 4, rfl, hB, by omega, by decide, by decide, fun r H5 r0 r1 s5 hM5 => ?_⟩
      have sm5 := sm.trans s5
      have hE5 := s5 _ _ nEm.1 nEm.2 hE3
      have hF5 := s5 _ _ nFm.1 nFm.2 hF3
      have hP5 := (TM.sx (K := K) s5 hB).prs hP
      refine ⟨_, rfl, r, kp, rfl, rfl, _, rfl, ?_⟩
      by_cases c2 : r < kp
      case neg =>
        rw [decide_eq_false c2]
        exact iteF ⟨b + 1, acc, sel, _, rfl, sm5, hM5, by omega, hE5, hF5, hP5, up, fun j hj => Nat.lt_succ_of_lt (lt j hj), by omega⟩
      rw [decide_eq_true c2]
      refine iteT ?_
      obtain ⟨ea, ha⟩ : ∃ a, ps[2 * i]? = some a := ⟨_, List.getElem?_eq_getElem (by omega)⟩
      obtain ⟨eb, hb2⟩ : ∃ a, ps[2 * i + 1]? = some a := ⟨_, List.getElem?_eq_getElem (by omega)⟩
      have i2 : (2 : Int) * ((i : Nat) : Int) = ((2 * i : Nat) : Int) := by omega
      refine ⟨_, rfl, .inl ⟨rfl, _, SqL.of hF5⟩, ?_⟩
      refine ⟨_, rfl, _, rfl, 2, (i : Nat), rfl, rfl, .inl ⟨by decide, by decide⟩, E, _, _, .int (ea : Nat), rfl, rfl, SqL.of hE5, by rw [i2]; exact atI_nat (Vn_get ha), ?_⟩
      refine ⟨_, rfl, _, rfl, 2, (i : Nat), rfl, rfl, .inl ⟨by decide, by decide⟩, _, 1, rfl, rfl, E, _, _, .int (eb : Nat), rfl, rfl, SqL.of hE5, by rw [show (2 : Int) * ((i : Nat) : Int) + 1 = ((2 * i + 1 : Nat) : Int) by omega]; exact atI_nat (Vn_get hb2), ?_⟩
      refine ⟨ea, eb, rfl, fun t H6 s6 nt ht => ?_⟩
      have hF6 := s6 _ _ hF5
      refine ⟨F0, acc, _, rfl, rfl, hF6, Nat.lt_of_le_of_lt (show acc.length ≤ 100 by omega) (by decide), ?_⟩
      have tm := TM.put (K := K) (o := .lst (acc ++ [.ref t])) hF6
      refine ⟨b + 1, acc ++ [.ref t], sel ++ [i], _, rfl, (sm5.trans (Same.m s6)).put nF, hM.putf (hM5.up s6) nF, by omega, by rw [upd_ne neE]; exact s6 _ _ hE5, upd_same, ?_, ?_, ?_, by rw [List.length_append, List.length_singleton]; omega⟩
      · rw [List.map_append]
        refine pair_snoc (tm.prs ((TM.of s6).prs hP5)) ⟨t, rfl, tm.t (SqT.of ?_)⟩
        unfold nbP
        rw [List.getD_eq_getElem?_getD, List.getD_eq_getElem?_getD, ha, hb2]
        exact ht
      · refine List.pairwise_append.mpr ⟨up, List.pairwise_singleton _ _, fun x hx y hy => ?_⟩
        rw [List.mem_singleton.mp hy]
        exact lt x hx
      · intro j hj
        rcases List.mem_append.mp hj with h | h
        · exact Nat.lt_succ_of_lt (lt j h)
        · rw [List.mem_singleton.mp h]
          exact Nat.lt_succ_self _
    · rintro σ H3 ⟨b, acc, sel, y5, rfl, sm, hB, hb, hE3, hF3, hP, up, lt, la⟩
      have gd := nb_good h1 (by omega) pm up lt
      refine ⟨_, rfl, _, rfl, F0, acc, _, rfl, SqL.of hF3, js_dpp hP, pairs_alike _ [], pairs_sortable _, pairs_depth _, fun ys p3 pm3 hy hp3 => ⟨p3, ys, rfl, .inl ⟨SqL.of upd_same, fun T1 hT1 => ⟨by show 2 ≤ sizeLine; decide, fun T2 hT2 => ?_⟩⟩⟩⟩
      rw [sort8 gd (by omega)] at hy
      have x2 := Same.new (o := .lst ys) hp3
      have x3 := Same.new (o := .tup ys) hT1
      have x4 := Same.new (o := .tup [.int (n : Nat), .ref T1]) hT2
      have x := x2.trans (x3.trans x4)
      exact q (.ref T2) _ _ (sm.trans (Same.m x)) ((hB.up x).more (by omega)) ⟨T2, .ref T1, rfl, SqT.of upd_same, T1, ys, rfl, SqT.of (x4 _ _ upd_same), (TM.of x).prs (dp_prs hy)⟩ gd
end
end K37
-- K37hl
set_option Elab.async false
set_option linter.all false
set_option maxRecDepth 100000
set_option maxHeartbeats 4000000
/-! K37hl: _law_halving_cost, twin_pieces, good_from, good_halvings -/
namespace K37
open PySem L2 DC LamX ITG
open TI (fJ tau tnN tg TwOk)
def evP (P : List (Str × Nat)) : Nat := P.countP fun p => decide (p.1 = ("ring" : Str)) && decide (p.2 % 2 = 0)
def odP (P : List (Str × Nat)) : Nat := P.countP fun p => decide (p.1 = ("path" : Str)) && decide (p.2 % 2 = 1)
theorem hc_cnt {n : Nat} {js : List J2} (g : Good n js) : ((n : Nat) : Int) / 2 - (evP (twL n js) : Nat) - ((odP (twL n js) : Nat) : Int) / 2 = hcJ n js := by
  obtain ⟨hs, A, e⟩ := tw_web g
  have s1 := TI.hq_len A
  have s2 : (hs.map fun h => 2 * (h.length / 2)).sum = 2 * n := by
    rw [← s1]
    congr 1
    refine List.map_congr_left fun h hh => ?_
    have := TI.hp_even g (A.cl h hh)
    omega
  rw [TI.sum_map_mul] at s2
  have e1 : ((tw n js).1.map fun p => ((p.2 : Nat) : Int)).sum = ((n : Nat) : Int) := by
    have : ∀ l : List (List Nat), ((l.map (pk js)).map fun p => ((p.2 : Nat) : Int)).sum = (((l.map fun h => h.length / 2).sum : Nat) : Int) := by
      intro l
      induction l with
      | nil => rfl
      | cons h l ih =>
        rw [List.map_cons, List.map_cons, List.map_cons, List.sum_cons, List.sum_cons, ih]
        unfold pk
        dsimp only
        omega
    rw [e, this]
    omega
  unfold hcJ hcP evP odP
  rw [e1, (twL_perm n js).countP_eq, (twL_perm n js).countP_eq]
theorem twL_len {n : Nat} {js : List J2} (g : Good n js) : (twL n js).length ≤ 48 := by
  rw [(twL_perm n js).length_eq]
  have h1 := (twF_len (f := mt js) (N := n) (word := "ring") (List.range (2 * n)) (twQ n js)).2
  have h2 := (twF_len (f := mt js) (N := n) (word := "path") (frees n js) ([], List.replicate (2 * n) false)).2
  change (twQ n js).1.length ≤ 0 + _ at h2
  have h3 := frees_len n js
  have tp := g.top
  rw [List.length_range] at h1
  change (tw n js).1.length ≤ _ at h1
  omega
/-- the good ones -/
def gdB (n : Nat) (js : List J2) (st : Stp2) : Bool := decide (hcJ n (aftJ js st) = hcJ n js - 1)
theorem stp_take {α : Type} {l : List α} {i : Nat} {x : α} {p : α → Bool} (e : l[i]? = some x) : (l.take (i + 1)).filter p = (l.take i).filter p ++ if p x = true then [x] else [] := by
  rw [take_next e, List.filter_append]
  congr 1
  cases h : p x <;> simp [h]
section
variable {P : Program} {w : World} {K : PySem.W.Frag} {mg : Str → Option Value} {base : Heap}
def spLhc (K : PySem.W.Frag) : Sp := fun vs H Q _ => ∃ (v : V) (n : Nat) (js : List J2), vs = [v] ∧ Ly K H v n js ∧ Good n js ∧ ∀ (H' : Hp), Same H H' → Q (.int (hcJ n js)) H'
abbrev NLhc : List Str := ["lay_so", "some", "even", "odd", "word", "ties"]
theorem scLhc : FnScope NLhc ["lay_so"] (defScope (top 50)) := ⟨rfl, rfl, rfl, by decide +kernel, rfl, by decide +kernel, by decide +kernel⟩
theorem okLhc {f fLtp : Addr} {fd fdLtp : FuncData} (F : Fun K "_law_halving_cost" "_law_halving_cost" (top 50) f fd) (B : Bn mg)
    (DLtp : Df K mg "_law_twin_pieces" fLtp fdLtp ["lay_so"]) (GLtp : OkF P w K mg base 2 fLtp fdLtp ["lay_so"] (spLtp K)) : OkF P w K mg base 3 f fd ["lay_so"] (spLhc K) := by
  refine ok0 F scLhc (fun vs H Q E h => ?_) (fun cdv A outer s H vs Q E hgd hr h => ?_)
  · obtain ⟨v, n, js, rfl, _⟩ := h; rfl
  · obtain ⟨v, n, js, rfl, ly, g, q⟩ := h
    have nd := scLhc.nd
    have hr2 : Room 2 _ := hr
    refine ⟨_, (pss_cons (ps_set (i := 1) nd rfl (.inl rfl) (cl DLtp GLtp hgd hr2 (pa_cons (pv 0) pa_nil))) (pss_cons (ps_set (i := 2) nd rfl (.inl rfl) (pe_callB (r := rLen K) call_len_seq (by rfl) B.len PySem.boot_len (pa_cons (pe_lc (own := [("word", 4), ("ties", 5)]) (g := (gTup K 2 (gCons (gName 4) (gCons (gName 5) gNil)))) rfl nd (pi_list (pv 1)) (blkOk_by (N := NLhc) (sc := defScope (top 50)) (by decide +kernel)) (fun _ _ _ _ _ => (pg_tup (by rfl) (pgs_cons (pg_name (i := 4) nd rfl (Or.inl rfl)) (pgs_cons (pg_name (i := 5) nd rfl (Or.inl rfl)) pgs_nil)))) (fun _ _ _ _ _ => pts_one (PW.pt (pw_and (pt_cmpR op_eq (pv 4) pe_str (nomark _)) (pw_and1 (pt_cmpR op_eq (pe_op op_mod (pe_callTy call_int1 (by rfl) B.int (by decide +kernel) (pa_cons (pv 5) pa_nil)) pe_int) pe_int (nomark _)))))) (fun _ _ _ _ _ => pe_int)) pa_nil))) (pss_cons (ps_set (i := 3) nd rfl (.inl rfl) (pe_callB (r := rLen K) call_len_seq (by rfl) B.len PySem.boot_len (pa_cons (pe_lc (own := [("word", 4), ("ties", 5)]) (g := (gTup K 2 (gCons (gName 4) (gCons (gName 5) gNil)))) rfl nd (pi_list (pv 1)) (blkOk_by (N := NLhc) (sc := defScope (top 50)) (by decide +kernel)) (fun _ _ _ _ _ => (pg_tup (by rfl) (pgs_cons (pg_name (i := 4) nd rfl (Or.inl rfl)) (pgs_cons (pg_name (i := 5) nd rfl (Or.inl rfl)) pgs_nil)))) (fun _ _ _ _ _ => pts_one (PW.pt (pw_and (pt_cmpR op_eq (pv 4) pe_str (nomark _)) (pw_and1 (pt_cmpR op_eq (pe_op op_mod (pe_callTy call_int1 (by rfl) B.int (by decide +kernel) (pa_cons (pv 5) pa_nil)) pe_int) pe_int (nomark _)))))) (fun _ _ _ _ _ => pe_int)) pa_nil))) (pss_one (ps_ret (pe_op op_sub (pe_op op_sub (pe_op op_fdiv (pe_ix (r := rIxT K) ix_tup (pv 0) pe_int (fun _ _ => rfl)) pe_int) (pv 2)) (pe_op op_fdiv (pv 3) pe_int))))))), ?_⟩
    refine ⟨_, rfl, v, n, js, rfl, ly, g, fun T us H0 s0 nT hT hd => gn ?_⟩
    have hl := twL_len g
    have lu : us.length = (twL n js).length := by rw [dpAll_len hd, List.length_map]
    rw [← hc_cnt g] at q
    generalize twL n js = P at hd hl lu q
    refine ⟨_, rfl, T, rfl, ⟨_, SqL.of hT⟩, fun D2 nD2 => ?_⟩
    refine lc_it (walk_list (xs := us)) (fun i H' => ∃ acc : List V, Same H0 H' ∧ H' D2 = some (.lst acc) ∧ acc.length = evP (P.take i)) ⟨[], Same.new nD2, upd_same, rfl⟩ (fun i H' _ hq => by
      obtain ⟨_, s', _⟩ := hq
      exact SqL.of (s' _ _ hT)) ?_ ?_
    · rintro i z Ha Hb hi ⟨acc, s', hD, la⟩ ⟨rfl, ez⟩
      obtain ⟨d, ed, dd⟩ := dpAll_at hd ez
      rw [List.getElem?_map] at ed
      obtain ⟨p, ep, rfl⟩ := Option.map_eq_some_iff.mp ed
      obtain ⟨t, rfl, hS⟩ := dp_pc dd
      refine ⟨t, _, rfl, Same.t s' hS, rfl, _, _, rfl, _, _, rfl, rfl, rfl, ?_⟩
      have en : evP (P.take (i + 1)) = evP (P.take i) + if (decide (p.1 = ("ring" : Str)) && decide (p.2 % 2 = 0)) = true then 1 else 0 := by
        unfold evP
        rw [take_next ep, List.countP_append, List.countP_cons, List.countP_nil, Nat.zero_add]
      have lb : evP (P.take i) ≤ (P.take i).length := List.countP_le_length
      have lb2 := List.length_take_le' i P
      rw [en]
      refine ⟨_, rfl, rfl, _, rfl, ?_⟩
      by_cases c1 : p.1 = ("ring" : Str)
      · rw [decide_eq_true (show V.str p.1 = V.str ("ring" : Str) by rw [c1])]
        refine iteT ⟨_, rfl, .inl ⟨_, rfl, (p.2 : Nat), 2, rfl, rfl, (by show (0 : Int) < 2; decide), rfl, _, rfl, ?_⟩⟩
        by_cases c2 : p.2 % 2 = 0
        · rw [decide_eq_true (show V.int (((p.2 : Nat) : Int) % 2) = V.int 0 by rw [show ((p.2 : Nat) : Int) % 2 = 0 by omega])]
          refine iteT ⟨acc, hD, Nat.lt_of_le_of_lt (show acc.length ≤ 1000 by omega) (by decide), acc ++ [_], same_put s' nD2, upd_same, ?_⟩
          rw [List.length_append, la, decide_eq_true c1, decide_eq_true c2]
          rfl
        · rw [decide_eq_false (show ¬ V.int (((p.2 : Nat) : Int) % 2) = V.int 0 from fun z => c2 (by have := V.int.inj z; omega))]
          refine iteF ⟨acc, s', hD, ?_⟩
          rw [la, decide_eq_false c2, Bool.and_false]
          rfl
      · rw [decide_eq_false (show ¬ V.str p.1 = V.str ("ring" : Str) from fun z => c1 (V.str.inj z))]
        refine iteF (iteF ⟨acc, s', hD, ?_⟩)
        rw [la, decide_eq_false c1, Bool.false_and]
        rfl
    rintro H2 ⟨acc2, s2, hD2, la2⟩
    rw [lu, List.take_length] at la2
    refine ⟨D2, acc2, rfl, .inl (SqL.of hD2), gn ?_⟩
    refine ⟨_, rfl, T, rfl, ⟨_, SqL.of (s2 _ _ hT)⟩, fun D3 nD3 => ?_⟩
    refine lc_it (walk_list (xs := us)) (fun i H' => ∃ acc : List V, Same H2 H' ∧ H' D3 = some (.lst acc) ∧ acc.length = odP (P.take i)) ⟨[], Same.new nD3, upd_same, rfl⟩ (fun i H' _ hq => by
      obtain ⟨_, s', _⟩ := hq
      exact SqL.of (s' _ _ (s2 _ _ hT))) ?_ ?_
    · rintro i z Ha Hb hi ⟨acc, s', hD, la⟩ ⟨rfl, ez⟩
      obtain ⟨d, ed, dd⟩ := dpAll_at hd ez
      rw [List.getElem?_map] at ed
      obtain ⟨p, ep, rfl⟩ := Option.map_eq_some_iff.mp ed
      obtain ⟨t, rfl, hS⟩ := dp_pc dd
      refine ⟨t, _, rfl, Same.t (s2.trans s') hS, rfl, _, _, rfl, _, _, rfl, rfl, rfl, ?_⟩
      have en : odP (P.take (i + 1)) = odP (P.take i) + if (decide (p.1 = ("path" : Str)) && decide (p.2 % 2 = 1)) = true then 1 else 0 := by
        unfold odP
        rw [take_next ep, List.countP_append, List.countP_cons, List.countP_nil, Nat.zero_add]
      have lb : odP (P.take i) ≤ (P.take i).length := List.countP_le_length
      have lb2 := List.length_take_le' i P
      rw [en]
      refine ⟨_, rfl, rfl, _, rfl, ?_⟩
      by_cases c1 : p.1 = ("path" : Str)
      · rw [decide_eq_true (show V.str p.1 = V.str ("path" : Str) by rw [c1])]
        refine iteT ⟨_, rfl, .inl ⟨_, rfl, (p.2 : Nat), 2, rfl, rfl, (by show (0 : Int) < 2; decide), rfl, _, rfl, ?_⟩⟩
        by_cases c2 : p.2 % 2 = 1
        · rw [decide_eq_true (show V.int (((p.2 : Nat) : Int) % 2) = V.int 1 by rw [show ((p.2 : Nat) : Int) % 2 = 1 by omega])]
          refine iteT ⟨acc, hD, Nat.lt_of_le_of_lt (show acc.length ≤ 1000 by omega) (by decide), acc ++ [_], same_put s' nD3, upd_same, ?_⟩
          rw [List.length_append, la, decide_eq_true c1, decide_eq_true c2]
          rfl
        · rw [decide_eq_false (show ¬ V.int (((p.2 : Nat) : Int) % 2) = V.int 1 from fun z => c2 (by have := V.int.inj z; omega))]
          refine iteF ⟨acc, s', hD, ?_⟩
          rw [la, decide_eq_false c2, Bool.and_false]
          rfl
      · rw [decide_eq_false (show ¬ V.str p.1 = V.str ("path" : Str) from fun z => c1 (V.str.inj z))]
        refine iteF (iteF ⟨acc, s', hD, ?_⟩)
        rw [la, decide_eq_false c1, Bool.false_and]
        rfl
    rintro H3 ⟨acc3, s3, hD3, la3⟩
    rw [lu, List.take_length] at la3
    have sm3 := s0.trans (s2.trans s3)
    refine ⟨D3, acc3, rfl, .inl (SqL.of hD3), gn ?_⟩
    obtain ⟨ta, tb, rfl, hS, tj, ws, rfl, hj, hp⟩ := id ly
    refine ⟨_, rfl, ta, _, 0, .int (n : Nat), rfl, rfl, Same.t sm3 hS, rfl, _, 2, rfl, rfl, ⟨by decide, by decide⟩, _, rfl, _, _, rfl, rfl, _, rfl, _, 2, rfl, rfl, ⟨by decide, by decide⟩, _, _, rfl, rfl, ?_⟩
    rw [la2, la3]
    exact q _ sm3
def spTp (K : PySem.W.Frag) : Sp := fun vs H Q _ => ∃ (v : V) (n : Nat) (js : List J2), vs = [v] ∧ Ly K H v n js ∧ Good n js ∧ n % 2 = 0 ∧ ∀ (r : Addr) (us : List V) (H' : Hp), Same H H' → H r = none → H' r = some (.tup us) → DpAll K H' us ((twL n js).map pcD) → Q (.ref r) H'
abbrev NTp : List Str := ["lay"]
theorem scTp : FnScope NTp ["lay"] (defScope (top 31)) := ⟨rfl, rfl, rfl, by decide +kernel, rfl, by decide +kernel, by decide +kernel⟩
theorem okTp {f fNe fTb : Addr} {fd fdNe fdTb : FuncData} (F : Fun K "twin_pieces" "twin_pieces" (top 31) f fd)
    (DNe : Df K mg "need_doubled" fNe fdNe ["lay"]) (GNe : OkF P w K mg base 6 fNe fdNe ["lay"] (spNe K))
    (DTb : Df K mg "twin_web" fTb fdTb ["lay"]) (GTb : OkF P w K mg base 3 fTb fdTb ["lay"] (spTb K)) : OkF P w K mg base 7 f fd ["lay"] (spTp K) := by
  refine ok0 F scTp (fun vs H Q E h => ?_) (fun cdv A outer s H vs Q E hgd hr h => ?_)
  · obtain ⟨v, n, js, rfl, _⟩ := h; rfl
  · obtain ⟨v, n, js, rfl, ly, g, h2, q⟩ := h
    have hr3 : Room 3 _ := hr.mono (by decide)
    have hr6 : Room 6 _ := hr
    refine ⟨_, (pss_one (ps_ret (cl DTb GTb hgd hr3 (pa_cons (cl DNe GNe hgd hr6 (pa_cons (pv 0) pa_nil)) pa_nil)))), ?_⟩
    exact ⟨_, rfl, v, n, js, rfl, ly, g, h2, fun H1 s1 => ⟨v, n, js, rfl, ly.up s1, g, fun r us H2 s2 nr hr' dp => q r us H2 (s1.trans s2) (s1.free nr) hr' dp⟩⟩
def spGf (K : PySem.W.Frag) : Sp := fun vs H Q _ => ∃ (v : V) (n : Nat) (js : List J2), vs = [v] ∧ Ly K H v n js ∧ Good n js ∧ ∀ (r : Addr) (us : List V) (H' : Hp), Same H H' → H r = none → H' r = some (.lst us) → Paired (Stp K H') us ((stS n js).filter (gdB n js)) → us.length ≤ 1600 → Q (.ref r) H'
abbrev NGf : List Str := ["lay", "wanted", "step"]
theorem scGf : FnScope NGf ["lay"] (defScope (top 34)) := ⟨rfl, rfl, rfl, by decide +kernel, rfl, by decide +kernel, by decide +kernel⟩
theorem okGf {f fCh fSo fSp : Addr} {fd fdCh fdSo fdSp : FuncData} (F : Fun K "good_from" "good_from" (top 34) f fd)
    (DCh : Df K mg "cost_to_half" fCh fdCh ["lay"]) (GCh : OkF P w K mg base 4 fCh fdCh ["lay"] (spCh K))
    (DSo : Df K mg "steps_of" fSo fdSo ["lay"]) (GSo : OkF P w K mg base 4 fSo fdSo ["lay"] (spSo K))
    (DSp : Df K mg "stepped" fSp fdSp ["lay", "step"]) (GSp : OkF P w K mg base 1 fSp fdSp ["lay", "step"] (spAf K)) : OkF P w K mg base 5 f fd ["lay"] (spGf K) := by
  refine ok0 F scGf (fun vs H Q E h => ?_) (fun cdv A outer s H vs Q E hgd hr h => ?_)
  · obtain ⟨v, n, js, rfl, _⟩ := h; rfl
  · obtain ⟨v, n, js, rfl, ly, g, q⟩ := h
    have nd := scGf.nd
    have hr1 : Room 1 _ := hr.mono (by decide)
    have hr4 : Room 4 _ := hr
    have tp := g.top
    refine ⟨_, (pss_cons (ps_set (i := 1) nd rfl (.inr rfl) (pe_op op_sub (cl DCh GCh hgd hr4 (pa_cons (pv 0) pa_nil)) pe_int)) (pss_one (ps_ret (pe_lc (own := [("step", 2)]) (g := (gName 2)) rfl nd (pi_list (cl DSo GSo hgd hr4 (pa_cons (pv 0) pa_nil))) (blkOk_by (N := NGf) (sc := defScope (top 34)) (by decide +kernel)) (fun _ _ _ _ _ => (pg_name (i := 2) nd rfl (Or.inl rfl))) (fun _ _ _ _ _ => pts_one (pt_cmpR op_eq (cl DCh GCh hgd hr4 (pa_cons (cl DSp GSp hgd hr1 (pa_cons (pv 0) (pa_cons (pv 2) pa_nil))) pa_nil)) (pv 1) (nomark _))) (fun _ _ _ _ _ => (pv 2)))))), ?_⟩
    refine ⟨_, rfl, v, n, js, rfl, ly, g, fun H1 s1 => ⟨_, 1, rfl, rfl, gn ?_⟩⟩
    refine ⟨_, rfl, v, n, js, rfl, ly.up s1, g, fun r us H2 s2 nr hr' hp lu => ⟨r, rfl, ⟨_, SqL.of hr'⟩, fun D nD => ?_⟩⟩
    have sm := s1.trans s2
    refine lc_it (walk_list (xs := us)) (fun i H' => ∃ acc : List V, Same H2 H' ∧ H' D = some (.lst acc) ∧ Paired (Stp K H') acc (((stS n js).take i).filter (gdB n js)) ∧ acc.length ≤ i) ⟨[], Same.new nD, upd_same, .nil, Nat.le_refl _⟩ (fun i H' _ hq => by
      obtain ⟨_, s', _⟩ := hq
      exact SqL.of (s' _ _ hr')) ?_ ?_
    · rintro i z Ha Hb hi ⟨acc, s', hD, hP, la⟩ ⟨rfl, ez⟩
      obtain ⟨st, es, hst⟩ := paired_at hp ez
      have ist : IsSt n js st := isSt_of g ((List.mergeSort_perm (stJ n js) _).mem_iff.mp (List.mem_of_getElem? es))
      have ga := aft_good g ist
      refine ⟨rfl, ?_⟩
      refine ⟨_, rfl, _, rfl, v, z, n, js, st, rfl, ly.up (sm.trans s'), (TM.of s').stp hst, g, tp, ist, fun v2 H3 s3 ly3 => ⟨v2, n, _, rfl, ly3, ga, fun H4 s4 => ?_⟩⟩
      refine ⟨_, rfl, rfl, _, rfl, ?_⟩
      rw [stp_take es]
      have sZ := s3.trans s4
      by_cases c : hcJ n (aftJ js st) = hcJ n js - 1
      · rw [decide_eq_true (show V.int (hcJ n (aftJ js st)) = V.int (hcJ n js - 1) by rw [c])]
        have hDz := sZ _ _ hD
        refine iteT ⟨_, rfl, acc, hDz, Nat.lt_of_le_of_lt (show acc.length ≤ 1600 by omega) (by decide), acc ++ [z], same_put (s'.trans sZ) nD, upd_same, ?_, by rw [List.length_append]; exact Nat.succ_le_succ la⟩
        rw [if_pos (show gdB n js st = true from decide_eq_true c)]
        exact pair_snoc ((TM.put hDz).stps ((TM.of sZ).stps hP)) ((TM.put hDz).stp ((TM.of (s'.trans sZ)).stp hst))
      · rw [decide_eq_false (show ¬ V.int (hcJ n (aftJ js st)) = V.int (hcJ n js - 1) from fun z => c (V.int.inj z))]
        refine iteF ⟨acc, s'.trans sZ, sZ _ _ hD, ?_, by omega⟩
        rw [if_neg (show ¬ gdB n js st = true from by rw [show gdB n js st = false from decide_eq_false c]; decide), List.append_nil]
        exact (TM.of sZ).stps hP
    · rintro H3 ⟨acc, s3, hD, hP, la⟩
      rw [List.take_of_length_le (by rw [Paired.length hp]; exact Nat.le_refl _)] at hP
      exact q D acc H3 (sm.trans s3) (sm.free nD) hD hP (by omega)
def spGh (K : PySem.W.Frag) : Sp := fun vs H Q _ => ∃ (v : V) (n : Nat) (js : List J2), vs = [v] ∧ Ly K H v n js ∧ Good n js ∧ n % 2 = 0 ∧ ∀ (r : Addr) (us : List V) (H' : Hp), Same H H' → H r = none → H' r = some (.tup us) → Paired (Stp K H') us ((stS n js).filter (gdB n js)) → Q (.ref r) H'
abbrev NGh : List Str := ["lay"]
theorem scGh : FnScope NGh ["lay"] (defScope (top 35)) := ⟨rfl, rfl, rfl, by decide +kernel, rfl, by decide +kernel, by decide +kernel⟩
theorem okGh {f fNe fGf : Addr} {fd fdNe fdGf : FuncData} (F : Fun K "good_halvings" "good_halvings" (top 35) f fd) (B : Bn mg)
    (DNe : Df K mg "need_doubled" fNe fdNe ["lay"]) (GNe : OkF P w K mg base 6 fNe fdNe ["lay"] (spNe K))
    (DGf : Df K mg "good_from" fGf fdGf ["lay"]) (GGf : OkF P w K mg base 5 fGf fdGf ["lay"] (spGf K)) : OkF P w K mg base 7 f fd ["lay"] (spGh K) := by
  refine ok0 F scGh (fun vs H Q E h => ?_) (fun cdv A outer s H vs Q E hgd hr h => ?_)
  · obtain ⟨v, n, js, rfl, _⟩ := h; rfl
  · obtain ⟨v, n, js, rfl, ly, g, h2, q⟩ := h
    have hr5 : Room 5 _ := hr.mono (by decide)
    have hr6 : Room 6 _ := hr
    refine ⟨_, (pss_one (ps_ret (pe_callTy call_tuple_of (by rfl) B.tuple (by decide +kernel) (pa_cons (cl DGf GGf hgd hr5 (pa_cons (cl DNe GNe hgd hr6 (pa_cons (pv 0) pa_nil)) pa_nil)) pa_nil)))), ?_⟩
    refine ⟨_, rfl, v, n, js, rfl, ly, g, h2, fun H1 s1 => ⟨v, n, js, rfl, ly.up s1, g, fun r us H2 s2 nr hr' hp lu => ⟨r, us, rfl, .inl ⟨SqL.of hr', fun t nt => ?_⟩⟩⟩⟩
    have x := Same.new (o := .tup us) nt
    exact q t us _ ((s1.trans s2).trans x) ((s1.trans s2).free nt) upd_same ((TM.of x).stps hp)
end
end K37
-- K37dh
set_option Elab.async false
set_option linter.all false
set_option maxRecDepth 100000
set_option maxHeartbeats 8000000
/-! K14dh: the step that makes a joint; a least history by such steps -/
namespace K37
open PySem L2 DC LamX
/-- the step that makes the joint p -/
def mkS (js : List J2) (p : J2) : Stp2 := match mt js p.1, mt js p.2 with
  | none, none => ([], [p])
  | some x, none => ([mk2 p.1 x], [p])
  | none, some y => ([mk2 p.2 y], [p])
  | some x, some y => (sm2 (mk2 p.1 x) (mk2 p.2 y), sm2 p (mk2 x y))
section
variable {n : Nat} {js ls : List J2} {p : J2}
theorem mk2_ge {a b : Nat} (h : b < a) : mk2 a b = (b, a) := by
  rw [mk2_comm, mk2_lt h]
theorem sm2_ge {p q : J2} (h : ¬ p.1 < q.1) : sm2 p q = [q, p] := if_neg h
/-- two joints whose ends e, f come to be joined -/
theorem two_step (g : Good n js) {P Q : J2} (hP : P ∈ js) (hQ : Q ∈ js) (ne : P ≠ Q) {e f x y : Nat} (hx : (e = P.1 ∧ x = P.2) ∨ (e = P.2 ∧ x = P.1)) (hy : (f = Q.1 ∧ y = Q.2) ∨ (f = Q.2 ∧ y = Q.1)) (lt : e < f) : IsSt n js (sm2 P Q, sm2 (e, f) (mk2 x y)) := by
  have apart : ∀ {P Q : J2}, P ∈ js → Q ∈ js → P ≠ Q → DC.Apart P Q := fun {P Q} hP hQ ne => ⟨fun z => ne (same_joint g hP hQ (.inl rfl) (.inl z)), fun z => ne (same_joint g hP hQ (.inl rfl) (.inr z)), fun z => ne (same_joint g hP hQ (.inr rfl) (.inl z)), fun z => ne (same_joint g hP hQ (.inr rfl) (.inr z))⟩
  have ap := apart hP hQ ne
  have rP := (g.rng P hP).1
  have rQ := (g.rng Q hQ).1
  have n1 := ap.1
  by_cases c : P.1 < Q.1
  · rw [sm2_lt c]
    have d1 := IsSt.dbl (n := n) P Q hP hQ c ap
    have d2 := IsSt.dbl2 (n := n) P Q hP hQ c ap
    rcases hx with ⟨rfl, rfl⟩ | ⟨rfl, rfl⟩ <;> rcases hy with ⟨rfl, rfl⟩ | ⟨rfl, rfl⟩
    · rw [sm2_lt (p := (P.1, Q.1)) (q := mk2 P.2 Q.2) (show P.1 < (mk2 P.2 Q.2).1 by unfold mk2; dsimp only; omega)]
      exact d1
    · rw [sm2_lt (p := (P.1, Q.2)) (q := mk2 P.2 Q.1) (show P.1 < (mk2 P.2 Q.1).1 by unfold mk2; dsimp only; omega)]
      exact d2
    · rw [mk2_lt (show P.1 < Q.2 by omega), sm2_ge (p := (P.2, Q.1)) (q := (P.1, Q.2)) (show ¬ P.2 < P.1 by omega)]
      rw [mk2_lt lt] at d2
      exact d2
    · rw [mk2_lt c, sm2_ge (p := (P.2, Q.2)) (q := (P.1, Q.1)) (show ¬ P.2 < P.1 by omega)]
      rw [mk2_lt lt] at d1
      exact d1
  · have c' : Q.1 < P.1 := by omega
    rw [sm2_ge c]
    have ap' := apart hQ hP (Ne.symm ne)
    have d1 := IsSt.dbl (n := n) Q P hQ hP c' ap'
    have d2 := IsSt.dbl2 (n := n) Q P hQ hP c' ap'
    rcases hx with ⟨rfl, rfl⟩ | ⟨rfl, rfl⟩ <;> rcases hy with ⟨rfl, rfl⟩ | ⟨rfl, rfl⟩
    · omega
    · rw [mk2_ge (show Q.1 < P.2 by omega), sm2_ge (p := (P.1, Q.2)) (q := (Q.1, P.2)) (show ¬ P.1 < Q.1 by omega)]
      rw [mk2_ge lt] at d2
      exact d2
    · omega
    · rw [mk2_ge c', sm2_ge (p := (P.2, Q.2)) (q := (Q.1, P.1)) (show ¬ P.2 < Q.1 by omega)]
      rw [mk2_ge lt] at d1
      exact d1
theorem mkS_step (g : Good n js) (lt : p.1 < p.2) (top : p.2 < 2 * n) (no : p ∉ js) : IsSt n js (mkS js p) ∧ p ∈ (mkS js p).2 := by
  have M := g.mt
  have no' : mt js p.1 ≠ some p.2 := fun z => no (by have := (mt_iff g).mp z; rwa [mk2_lt lt] at this)
  unfold mkS
  cases h1 : mt js p.1 with
  | none =>
    have f1 := free_of_none (n := n) (by omega) h1
    cases h2 : mt js p.2 with
    | none => exact ⟨.join p.1 p.2 f1 (free_of_none top h2) lt, List.mem_cons_self⟩
    | some y =>
      have hq := (mt_iff g).mp h2
      have s := IsSt.shift (n := n) (mk2 p.2 y) p.1 p.2 hq f1 (mk2_has p.2 y).1
      rw [mk2_ge lt] at s
      exact ⟨s, List.mem_cons_self⟩
  | some x =>
    have hp := (mt_iff g).mp h1
    cases h2 : mt js p.2 with
    | none =>
      have s := IsSt.shift (n := n) (mk2 p.1 x) p.2 p.1 hp (free_of_none top h2) (mk2_has p.1 x).1
      rw [mk2_lt lt] at s
      exact ⟨s, List.mem_cons_self⟩
    | some y =>
      have hq := (mt_iff g).mp h2
      have ne : mk2 p.1 x ≠ mk2 p.2 y := fun z => by
        have w := (mk2_has p.2 y).1
        rw [← z] at w
        rcases mk2_ends w with w | w
        · omega
        · exact no' (by rw [h1, w])
      have nx : p.1 ≠ x := fun z => M.irr (h1.trans (congrArg some z.symm))
      have ny : p.2 ≠ y := fun z => M.irr (h2.trans (congrArg some z.symm))
      have ex : (p.1 = (mk2 p.1 x).1 ∧ x = (mk2 p.1 x).2) ∨ (p.1 = (mk2 p.1 x).2 ∧ x = (mk2 p.1 x).1) := by
        unfold mk2
        dsimp only
        omega
      have ey : (p.2 = (mk2 p.2 y).1 ∧ y = (mk2 p.2 y).2) ∨ (p.2 = (mk2 p.2 y).2 ∧ y = (mk2 p.2 y).1) := by
        unfold mk2
        dsimp only
        omega
      refine ⟨two_step g hp hq ne ex ey lt, ?_⟩
      show p ∈ sm2 p (mk2 x y)
      unfold sm2
      split
      · exact List.mem_cons_self
      · exact List.mem_cons_of_mem _ List.mem_cons_self
/-- what a step cuts touches what it makes -/
theorem mkS_cut (g : Good n js) (lt : p.1 < p.2) {q : J2} (hq : q ∈ (mkS js p).1) : p.1 = q.1 ∨ p.1 = q.2 ∨ p.2 = q.1 ∨ p.2 = q.2 := by
  unfold mkS at hq
  have t1 := fun x => (mk2_has p.1 x).1
  have t2 := fun x => (mk2_has p.2 x).1
  split at hq
  · exact absurd hq List.not_mem_nil
  · rename_i x _ _
    obtain rfl := List.mem_singleton.mp hq
    rcases t1 x with h | h
    · exact .inl h
    · exact .inr (.inl h)
  · rename_i y _ _
    obtain rfl := List.mem_singleton.mp hq
    rcases t2 y with h | h
    · exact .inr (.inr (.inl h))
    · exact .inr (.inr (.inr h))
  · rename_i x y _ _
    have : q = mk2 p.1 x ∨ q = mk2 p.2 y := by
      unfold sm2 at hq
      split at hq <;> simp only [List.mem_cons, List.not_mem_nil, or_false] at hq
      · exact hq
      · exact hq.symm
    rcases this with rfl | rfl
    · rcases t1 x with h | h
      · exact .inl h
      · exact .inr (.inl h)
    · rcases t2 y with h | h
      · exact .inr (.inr (.inl h))
      · exact .inr (.inr (.inr h))
/-- one joint more of the other lay -/
theorem mkS_good (g : Good n js) (gl : Good n ls) (hp : p ∈ ls) (no : p ∉ js) : Good n (aftJ js (mkS js p)) ∧ p ∈ aftJ js (mkS js p) ∧ (∀ q ∈ ls, q ∈ js → q ∈ aftJ js (mkS js p)) ∧ cst n (aftJ js (mkS js p)) ls + 1 = cst n js ls := by
  have r := gl.rng p hp
  obtain ⟨s, hm⟩ := mkS_step g r.1 r.2 no
  have ga := aft_good g s
  refine ⟨ga, aft_iff.mpr (.inr hm), fun q hq hj => aft_iff.mpr (.inl ⟨hj, fun hc => ?_⟩), ?_⟩
  · have t := mkS_cut g r.1 hc
    have e : q = p := by
      rcases t with h | h | h | h
      · exact (same_joint gl hp hq (.inl rfl) (.inl h)).symm
      · exact (same_joint gl hp hq (.inl rfl) (.inr h)).symm
      · exact (same_joint gl hp hq (.inr rfl) (.inl h)).symm
      · exact (same_joint gl hp hq (.inr rfl) (.inr h)).symm
    exact no (e ▸ hj)
  · have sw := sw_of g s _ hm
    have ml : mt ls p.1 = some p.2 := (mt_iff gl).mpr (by rw [mk2_lt r.1]; exact hp)
    have h1 := TI.gs g ga gl sw ml
    have h2 := (st_gain g gl s).2
    omega
/-- a joint that the other lay has not, when it has no other at its ends -/
theorem cut_good (g : Good n js) (gl : Good n ls) (sub : ∀ q ∈ ls, q ∈ js) (hp : p ∈ js) (no : p ∉ ls) : Good n (aftJ js ([p], [])) ∧ (∀ q ∈ ls, q ∈ aftJ js ([p], [])) ∧ cst n (aftJ js ([p], [])) ls + 1 = cst n js ls := by
  have s := IsSt.cut (n := n) p hp
  have ga := aft_good g s
  have r := (g.rng p hp).1
  have fr : ∀ e, (e = p.1 ∨ e = p.2) → mt ls e = none := fun e he => by
    cases h : mt ls e with
    | none => rfl
    | some y =>
      have hq := (mt_iff gl).mp h
      have := same_joint g hp (sub _ hq) he (mk2_has e y).1
      exact absurd (this ▸ hq) no
  refine ⟨ga, fun q hq => aft_iff.mpr (.inl ⟨sub q hq, fun hc => ?_⟩), ?_⟩
  · obtain rfl := List.mem_singleton.mp hc
    exact no hq
  · have h1 := TI.gc g ga gl (ct_of g hp) (fr _ (.inl rfl)) (fr _ (.inr rfl))
    have h2 := (st_gain g gl s).2
    omega
end
/-- the lays along some steps -/
def runJ (js : List J2) : List Stp2 → List (List J2)
  | [] => [js]
  | s :: l => js :: runJ (aftJ js s) l
/-- each is a step of the lay that it is made in -/
def Hist (n : Nat) (js : List J2) : List Stp2 → Prop
  | [] => True
  | s :: l => IsSt n js s ∧ Hist n (aftJ js s) l
def endJ (js : List J2) (l : List Stp2) : List J2 := l.foldl aftJ js
def dirF (js : List J2) : List J2 → List Stp2
  | [] => []
  | p :: ps => if p ∈ js then dirF js ps else mkS js p :: dirF (aftJ js (mkS js p)) ps
def cutsF (l : List J2) : List Stp2 := l.map fun p => ([p], [])
/-- the direct history -/
def dirJ (js ls : List J2) : List Stp2 := dirF js ls ++ cutsF ((endJ js (dirF js ls)).filter fun p => !decide (p ∈ ls))
section
variable {n : Nat} {js ls : List J2}
theorem hist_app : ∀ {js : List J2} {l m : List Stp2}, Hist n js l → Hist n (endJ js l) m → Hist n js (l ++ m)
  | _, [], _, _, h => h
  | _, _ :: _, _, h, h' => ⟨h.1, hist_app h.2 h'⟩
theorem end_app (js : List J2) (l m : List Stp2) : endJ js (l ++ m) = endJ (endJ js l) m := List.foldl_append
theorem dir_ok (gl : Good n ls) : ∀ {ps js : List J2}, Good n js → (∀ p ∈ ps, p ∈ ls) → Hist n js (dirF js ps) ∧ Good n (endJ js (dirF js ps)) ∧ (∀ p ∈ ps, p ∈ endJ js (dirF js ps)) ∧ (∀ q ∈ ls, q ∈ js → q ∈ endJ js (dirF js ps)) ∧ cst n (endJ js (dirF js ps)) ls + (dirF js ps).length = cst n js ls
  | [], js, g, _ => ⟨trivial, g, fun p h => absurd h List.not_mem_nil, fun q _ h => h, rfl⟩
  | p :: ps, js, g, sub => by
    unfold dirF
    by_cases c : p ∈ js
    · rw [if_pos c]
      obtain ⟨h1, h2, h3, h4, h5⟩ := dir_ok gl g fun q hq => sub q (List.mem_cons_of_mem _ hq)
      refine ⟨h1, h2, fun q hq => ?_, h4, h5⟩
      rcases List.mem_cons.mp hq with rfl | hq
      · exact h4 _ (sub _ List.mem_cons_self) c
      · exact h3 q hq
    · rw [if_neg c]
      have hp := sub p List.mem_cons_self
      have r := gl.rng p hp
      obtain ⟨s, _⟩ := mkS_step g r.1 r.2 c
      obtain ⟨ga, k1, k2, k3⟩ := mkS_good g gl hp c
      obtain ⟨h1, h2, h3, h4, h5⟩ := dir_ok gl ga fun q hq => sub q (List.mem_cons_of_mem _ hq)
      refine ⟨⟨s, h1⟩, h2, fun q hq => ?_, fun q hq hj => h4 q hq (k2 q hq hj), ?_⟩
      · rcases List.mem_cons.mp hq with rfl | hq
        · exact h4 _ hp k1
        · exact h3 q hq
      · show cst n (endJ (aftJ js (mkS js p)) (dirF (aftJ js (mkS js p)) ps)) ls + ((dirF (aftJ js (mkS js p)) ps).length + 1) = cst n js ls
        omega
theorem cuts_ok (gl : Good n ls) : ∀ {ps js : List J2}, Good n js → (∀ q ∈ ls, q ∈ js) → ps.Nodup → (∀ p ∈ ps, p ∈ js ∧ p ∉ ls) → Hist n js (cutsF ps) ∧ Good n (endJ js (cutsF ps)) ∧ (∀ q, q ∈ endJ js (cutsF ps) ↔ q ∈ js ∧ q ∉ ps) ∧ cst n (endJ js (cutsF ps)) ls + ps.length = cst n js ls
  | [], js, g, _, _, _ => ⟨trivial, g, fun q => ⟨fun h => ⟨h, List.not_mem_nil⟩, fun h => h.1⟩, rfl⟩
  | p :: ps, js, g, sub, nd, h => by
    obtain ⟨hp, no⟩ := h p List.mem_cons_self
    have nd' := List.nodup_cons.mp nd
    obtain ⟨ga, k1, k2⟩ := cut_good g gl sub hp no
    have mem : ∀ q, q ∈ aftJ js ([p], []) ↔ q ∈ js ∧ q ≠ p := fun q => by
      rw [aft_iff]
      constructor
      · rintro (⟨h1, h2⟩ | h)
        · exact ⟨h1, fun z => h2 (List.mem_singleton.mpr z)⟩
        · exact absurd h List.not_mem_nil
      · exact fun ⟨h1, h2⟩ => .inl ⟨h1, fun z => h2 (List.mem_singleton.mp z)⟩
    obtain ⟨h1, h2, h3, h4⟩ := cuts_ok gl ga k1 nd'.2 fun q hq => ⟨(mem q).mpr ⟨(h q (List.mem_cons_of_mem _ hq)).1, fun z => nd'.1 (z ▸ hq)⟩, (h q (List.mem_cons_of_mem _ hq)).2⟩
    refine ⟨⟨.cut p hp, h1⟩, h2, fun q => ?_, ?_⟩
    · show q ∈ endJ (aftJ js ([p], [])) (cutsF ps) ↔ _
      rw [h3 q, mem q, List.mem_cons, not_or]
      exact ⟨fun ⟨⟨a, b⟩, c⟩ => ⟨a, b, c⟩, fun ⟨a, b, c⟩ => ⟨⟨a, b⟩, c⟩⟩
    · show cst n (endJ (aftJ js ([p], [])) (cutsF ps)) ls + (ps.length + 1) = cst n js ls
      omega
/-- a direct history is a least one -/
theorem dirJ_ok (g : Good n js) (gl : Good n ls) : Hist n js (dirJ js ls) ∧ endJ js (dirJ js ls) = ls ∧ (dirJ js ls).length = cst n js ls := by
  obtain ⟨h1, h2, h3, _, h5⟩ := dir_ok gl g fun p h => h
  have nd : ((endJ js (dirF js ls)).filter fun p => !decide (p ∈ ls)).Nodup := (h2.asc.imp fun {a b} h e => by subst e; omega).filter _
  obtain ⟨k1, k2, k3, k4⟩ := cuts_ok gl h2 h3 nd fun p hp => by
    obtain ⟨a, b⟩ := List.mem_filter.mp hp
    exact ⟨a, by rw [Bool.not_eq_true', decide_eq_false_iff_not] at b; exact b⟩
  have fin : endJ js (dirJ js ls) = ls := by
    unfold dirJ
    rw [end_app]
    refine List.Perm.eq_of_pairwise (le := fun p q : J2 => p.1 < q.1) (fun a b _ _ x y => by omega) k2.asc gl.asc ?_
    refine (List.perm_ext_iff_of_nodup (k2.asc.imp fun {a b} h e => by subst e; omega) (gl.asc.imp fun {a b} h e => by subst e; omega)).mpr fun q => ?_
    rw [k3 q, List.mem_filter, Bool.not_eq_true', decide_eq_false_iff_not]
    exact ⟨fun ⟨a, b⟩ => Classical.byContradiction fun z => b ⟨a, z⟩, fun h => ⟨h3 q h, fun z => z.2 h⟩⟩
  refine ⟨hist_app h1 k1, fin, ?_⟩
  have e0 : cst n (endJ js (dirJ js ls)) ls = 0 := by
    rw [fin]
    exact TI.cst_self gl
  unfold dirJ at e0 ⊢
  rw [end_app] at e0
  rw [List.length_append]
  have : (cutsF ((endJ js (dirF js ls)).filter fun p => !decide (p ∈ ls))).length = ((endJ js (dirF js ls)).filter fun p => !decide (p ∈ ls)).length := List.length_map _
  omega
end
end K37
-- K37ct
set_option Elab.async false
set_option linter.all false
set_option maxRecDepth 100000
set_option maxHeartbeats 4000000
/-! K37ct: steps as joins -/
namespace K37
open PySem L2 DC LamX
open TI (Jn)
section
variable {n : Nat} {js ls : List J2}
theorem jn_cut (g : Good n js) {p : J2} (hp : p ∈ js) : Jn (aftJ js ([p], [])) js p.1 p.2 := by
  have ne : ∀ q ∈ js, q.1 ≠ q.2 := fun q hq => Nat.ne_of_lt (g.rng q hq).1
  obtain ⟨m1, m2⟩ := mt_of g.dis ne hp
  have s : IsSt n js ([p], []) := .cut p hp
  have no : ∀ {i : Nat}, ∀ q ∈ (([p], []) : Stp2).2, i ≠ q.1 ∧ i ≠ q.2 := fun q hq => absurd hq List.not_mem_nil
  exact ⟨ne p hp, aft_free g s (p := p) List.mem_cons_self (.inl rfl) no, aft_free g s (p := p) List.mem_cons_self (.inr rfl) no, m1, m2, fun i h1 h2 => (aft_same g s (fun q hq => by
    obtain rfl := List.mem_singleton.mp hq
    exact ⟨h1, h2⟩) no).symm⟩
theorem cutg (g : Good n js) {p : J2} (hp : p ∈ js) : Good n (aftJ js ([p], [])) := aft_good g (.cut p hp)
theorem made_mk {st : Stp2} (g : Good n js) (s : IsSt n js st) {a b : Nat} (hm : mk2 a b ∈ st.2) : mt (aftJ js st) a = some b ∧ mt (aftJ js st) b = some a := by
  have h := aft_made g s hm
  by_cases c : a ≤ b
  · have e : mk2 a b = (a, b) := by unfold mk2; rw [Nat.min_eq_left c, Nat.max_eq_right c]
    rw [e] at h
    exact h
  · have e : mk2 a b = (b, a) := by unfold mk2; rw [Nat.min_eq_right (by omega), Nat.max_eq_left (by omega)]
    rw [e] at h
    exact h.symm
theorem jn_join (g : Good n js) {u w : Nat} (hu : u < 2 * n) (hw : w < 2 * n) (fu : mt js u = none) (fw : mt js w = none) (ne : u ≠ w) : ∃ a, Good n a ∧ Jn js a u w ∧ a = aftJ js ([], [mk2 u w]) := by
  have s : IsSt n js ([], [mk2 u w]) := by
    by_cases c : u < w
    · rw [mk2_lt c]
      exact .join u w (free_of_none hu fu) (free_of_none hw fw) c
    · rw [mk2_comm, mk2_lt (show w < u by omega)]
      exact .join w u (free_of_none hw fw) (free_of_none hu fu) (by omega)
  obtain ⟨a, b⟩ := made_mk g s List.mem_cons_self
  exact ⟨_, aft_good g s, ⟨ne, fu, fw, a, b, fun i h1 h2 => aft_same g s (fun q hq => absurd hq List.not_mem_nil) fun q hq => by
    obtain rfl := List.mem_singleton.mp hq
    refine ⟨fun z => ?_, fun z => ?_⟩
    · rcases mk2_ends (.inl z) with z | z
      · exact h1 z
      · exact h2 z
    · rcases mk2_ends (.inr z) with z | z
      · exact h1 z
      · exact h2 z⟩, rfl⟩
theorem jn_shift (g : Good n js) {p : J2} (hp : p ∈ js) {e near : Nat} (he : e ∈ frees n js) (hn : near = p.1 ∨ near = p.2) : Jn (aftJ js ([p], [])) (aftJ js ([p], [mk2 near e])) near e ∧ Good n (aftJ js ([p], [mk2 near e])) := by
  have s : IsSt n js ([p], [mk2 near e]) := .shift p e near hp he hn
  have C := jn_cut g hp
  have fe := (free_lt he).2
  have ne : near ≠ e := fun z => mt_end g hp hn (z ▸ fe)
  have ep : e ≠ p.1 ∧ e ≠ p.2 := ⟨fun z => mt_end g hp (x := e) (.inl z) fe, fun z => mt_end g hp (x := e) (.inr z) fe⟩
  have f0 : mt (aftJ js ([p], [])) e = none := (C.ot e ep.1 ep.2).symm.trans fe
  have fn : mt (aftJ js ([p], [])) near = none := by
    rcases hn with rfl | rfl
    · exact C.f1
    · exact C.f2
  obtain ⟨a, b⟩ := made_mk g s List.mem_cons_self
  refine ⟨⟨ne, fn, f0, a, b, fun i h1 h2 => ?_⟩, aft_good g s⟩
  have out : ∀ q ∈ (([p], [mk2 near e]) : Stp2).2, i ≠ q.1 ∧ i ≠ q.2 := fun q hq => by
    obtain rfl := List.mem_singleton.mp hq
    refine ⟨fun z => ?_, fun z => ?_⟩
    · rcases mk2_ends (.inl z) with z | z
      · exact h1 z
      · exact h2 z
    · rcases mk2_ends (.inr z) with z | z
      · exact h1 z
      · exact h2 z
  by_cases c : i = p.1 ∨ i = p.2
  · rw [aft_free g s (p := p) List.mem_cons_self c out]
    rcases c with rfl | rfl
    · exact C.f1.symm
    · exact C.f2.symm
  · rw [aft_same g s (fun q hq => by
      obtain rfl := List.mem_singleton.mp hq
      exact ⟨fun z => c (.inl z), fun z => c (.inr z)⟩) out]
    exact C.ot i (fun z => c (.inl z)) (fun z => c (.inr z))
structure Dbl (n : Nat) (js j0 j1 a1 b1 ja jb : List J2) (u v w z : Nat) : Prop where
  F : TI.F4 n j0 u v w z
  J1 : Jn j0 j1 u v
  J2' : Jn j1 js w z
  A1 : Jn j0 a1 u w
  A2 : Jn a1 ja v z
  B1 : Jn j0 b1 u z
  B2 : Jn b1 jb v w
  g0 : Good n j0
  g1 : Good n j1
  ga1 : Good n a1
  ga : Good n ja
  gb1 : Good n b1
  gb : Good n jb
theorem jn_two (g : Good n js) {p q : J2} (hp : p ∈ js) (hq : q ∈ js) {st : Stp2} (s : IsSt n js st) (e1 : st.1 = [p, q]) {j0 j1 a1 : List J2} {u v w z : Nat} (J1 : Jn j0 j1 p.1 p.2) (J2' : Jn j1 js q.1 q.2) (A1 : Jn j0 a1 u w)
    (huv : (u = p.1 ∧ v = p.2)) (hwz : (w = q.1 ∧ z = q.2) ∨ (w = q.2 ∧ z = q.1)) (vz : v ≠ z) (vu : v ≠ u) (vw : v ≠ w) (zu : z ≠ u) (zw : z ≠ w) (fv : mt j0 v = none) (fz : mt j0 z = none)
    (m1 : mk2 u w ∈ st.2) (m2 : mk2 v z ∈ st.2) (m3 : ∀ m ∈ st.2, m = mk2 u w ∨ m = mk2 v z) : Jn a1 (aftJ js st) v z := by
  obtain ⟨x1, x2⟩ := made_mk g s m1
  obtain ⟨y1, y2⟩ := made_mk g s m2
  refine ⟨vz, (A1.ot v vu vw).trans fv, (A1.ot z zu zw).trans fz, y1, y2, fun i h1 h2 => ?_⟩
  by_cases c1 : i = u
  · subst c1
    rw [x1, A1.e1]
  · by_cases c2 : i = w
    · subst c2
      rw [x2, A1.e2]
    · rw [A1.ot i c1 c2]
      obtain ⟨rfl, rfl⟩ := huv
      have ipq : i ≠ q.1 ∧ i ≠ q.2 := by
        rcases hwz with ⟨rfl, rfl⟩ | ⟨rfl, rfl⟩
        · exact ⟨c2, h2⟩
        · exact ⟨h2, c2⟩
      rw [← J1.ot i c1 h1, ← J2'.ot i ipq.1 ipq.2]
      refine aft_same g s (fun r hr => ?_) fun r hr => ?_
      · rw [e1] at hr
        simp only [List.mem_cons, List.not_mem_nil, or_false] at hr
        rcases hr with rfl | rfl
        · exact ⟨c1, h1⟩
        · exact ipq
      · rcases m3 r hr with rfl | rfl
        · refine ⟨fun z => ?_, fun z => ?_⟩
          · exact (mk2_ends (.inl z)).elim c1 c2
          · exact (mk2_ends (.inr z)).elim c1 c2
        · refine ⟨fun z => ?_, fun z => ?_⟩
          · exact (mk2_ends (.inl z)).elim h1 h2
          · exact (mk2_ends (.inr z)).elim h1 h2
theorem sm2_mem {a b m : J2} : m ∈ sm2 a b ↔ m = a ∨ m = b := by
  unfold sm2
  split <;> simp only [List.mem_cons, List.not_mem_nil, or_false]
  exact or_comm
theorem dbl_ex (g : Good n js) {p q : J2} (hp : p ∈ js) (hq : q ∈ js) (ap : DC.Apart p q) (s1 : IsSt n js (sB p q (q.1, q.2))) (s2 : IsSt n js (sB p q (q.2, q.1))) :
    ∃ j0 j1 a1 b1, Dbl n js j0 j1 a1 b1 (aftJ js (sB p q (q.1, q.2))) (aftJ js (sB p q (q.2, q.1))) p.1 p.2 q.1 q.2 := by
  have rp := g.rng p hp
  have rq := g.rng q hq
  have Jq := jn_cut g hq
  have gq := cutg g hq
  have pq : p ∈ aftJ js ([q], []) := aft_iff.mpr (.inl ⟨hp, fun z => by
    obtain rfl := List.mem_singleton.mp z
    exact ap.1 rfl⟩)
  have Jp := jn_cut gq pq
  have g0 := cutg gq pq
  obtain ⟨a1', a2', a3', a4'⟩ := ap
  have f3 : mt (aftJ (aftJ js ([q], [])) ([p], [])) q.1 = none := (Jp.ot q.1 (Ne.symm a1') (Ne.symm a3')).symm.trans Jq.f1
  have f4 : mt (aftJ (aftJ js ([q], [])) ([p], [])) q.2 = none := (Jp.ot q.2 (Ne.symm a2') (Ne.symm a4')).symm.trans Jq.f2
  have F : TI.F4 n (aftJ (aftJ js ([q], [])) ([p], [])) p.1 p.2 q.1 q.2 := ⟨by omega, rp.2, by omega, rq.2, by omega, a1', a2', a3', a4', by omega, Jp.f1, Jp.f2, f3, f4⟩
  obtain ⟨a1, ga1, A1, _⟩ := jn_join g0 F.lu F.lw F.fu F.fw F.uw
  obtain ⟨b1, gb1, B1, _⟩ := jn_join g0 F.lu F.lz F.fu F.fz F.uz
  refine ⟨_, _, a1, b1, F, Jp, Jq, A1, ?_, B1, ?_, g0, gq, ga1, aft_good g s1, gb1, aft_good g s2⟩
  · exact jn_two g hp hq s1 rfl Jp Jq A1 ⟨rfl, rfl⟩ (.inl ⟨rfl, rfl⟩) F.vz F.uv.symm F.vw F.uz.symm F.wz.symm F.fv F.fz (sm2_mem.mpr (.inl rfl)) (sm2_mem.mpr (.inr rfl)) fun m hm => sm2_mem.mp hm
  · exact jn_two g hp hq s2 rfl Jp Jq B1 ⟨rfl, rfl⟩ (.inr ⟨rfl, rfl⟩) F.vw F.uv.symm F.vz F.uw.symm F.wz F.fv F.fw (sm2_mem.mpr (.inl rfl)) (sm2_mem.mpr (.inr rfl)) fun m hm => sm2_mem.mp hm
end
end K37
-- K37hs
set_option Elab.async false
set_option linter.all false
set_option maxRecDepth 100000
set_option maxHeartbeats 4000000
/-! K37hs: what a step does to the odd pieces of a web with the twins; there is a good step -/
namespace K37
open PySem L2 DC LamX
open TI (Jn fJ dh d2 bS oP tau tnN TwOk tg Sm)
section
variable {n : Nat} {js ls : List J2}
theorem sB_a {p q : J2} (a : p.1 < q.1) (rp : p.1 < p.2) (rq : q.1 < q.2) : sB p q (q.1, q.2) = ([p, q], [(p.1, q.1), mk2 p.2 q.2]) := by
  unfold sB sm2
  rw [if_pos (by unfold mk2; dsimp only; omega)]
  rw [show mk2 p.1 q.1 = (p.1, q.1) by unfold mk2; exact Prod.ext (by dsimp only; omega) (by dsimp only; omega)]
theorem sB_b {p q : J2} (a : p.1 < q.1) (rp : p.1 < p.2) (rq : q.1 < q.2) : sB p q (q.2, q.1) = ([p, q], [(p.1, q.2), mk2 p.2 q.1]) := by
  unfold sB sm2
  rw [if_pos (by unfold mk2; dsimp only; omega)]
  rw [show mk2 p.1 q.2 = (p.1, q.2) by unfold mk2; exact Prod.ext (by dsimp only; omega) (by dsimp only; omega)]
/-- two joints, with the steps that join them anew -/
theorem dbl_at (g : Good n js) {p q : J2} (hp : p ∈ js) (hq : q ∈ js) (a : p.1 < q.1) (ap : DC.Apart p q) :
    IsSt n js (sB p q (q.1, q.2)) ∧ IsSt n js (sB p q (q.2, q.1)) ∧ ∃ j0 j1 a1 b1, Dbl n js j0 j1 a1 b1 (aftJ js (sB p q (q.1, q.2))) (aftJ js (sB p q (q.2, q.1))) p.1 p.2 q.1 q.2 := by
  have rp := (g.rng p hp).1
  have rq := (g.rng q hq).1
  have s1 : IsSt n js (sB p q (q.1, q.2)) := by rw [sB_a a rp rq]; exact .dbl p q hp hq a ap
  have s2 : IsSt n js (sB p q (q.2, q.1)) := by rw [sB_b a rp rq]; exact .dbl2 p q hp hq a ap
  exact ⟨s1, s2, dbl_ex g hp hq ap s1 s2⟩
structure DblF (n : Nat) (js j0 ja jb : List J2) (u v w z : Nat) : Prop where
  f : ((fJ n js : Nat) : Int) = (fJ n j0 : Nat) + d2 (bS j0 (tau n) u v) (bS j0 (tau n) u w) (bS j0 (tau n) u z) (bS j0 (tau n) v w) (bS j0 (tau n) v z) (bS j0 (tau n) w z) (oP n j0 u) (oP n j0 v) (oP n j0 w) (oP n j0 z)
  fa : ((fJ n ja : Nat) : Int) = (fJ n j0 : Nat) + d2 (bS j0 (tau n) u w) (bS j0 (tau n) u v) (bS j0 (tau n) u z) (bS j0 (tau n) v w) (bS j0 (tau n) w z) (bS j0 (tau n) v z) (oP n j0 u) (oP n j0 w) (oP n j0 v) (oP n j0 z)
  fb : ((fJ n jb : Nat) : Int) = (fJ n j0 : Nat) + d2 (bS j0 (tau n) u z) (bS j0 (tau n) u v) (bS j0 (tau n) u w) (bS j0 (tau n) v z) (bS j0 (tau n) w z) (bS j0 (tau n) v w) (oP n j0 u) (oP n j0 z) (oP n j0 v) (oP n j0 w)
  ok : TI.okP (bS j0 (tau n) u v) (bS j0 (tau n) u w) (bS j0 (tau n) u z) (bS j0 (tau n) v w) (bS j0 (tau n) v z) (bS j0 (tau n) w z) (oP n j0 u) (oP n j0 v) (oP n j0 w) (oP n j0 z) = true
theorem dbl_f (g : Good n js) {j0 j1 a1 b1 ja jb : List J2} {u v w z : Nat} (D : Dbl n js j0 j1 a1 b1 ja jb u v w z) : DblF n js j0 ja jb u v w z := by
  have gl := tg D.g0
  have h0 := TI.d2_f D.F D.J1 D.J2' D.g0 D.g1 g
  have h1 := TI.d2_f D.F.b D.A1 D.A2 D.g0 D.ga1 D.ga
  have h2 := TI.d2_f D.F.c D.B1 D.B2 D.g0 D.gb1 D.gb
  rw [TI.bsS D.g0 gl w v] at h1
  rw [TI.bsS D.g0 gl z v, TI.bsS D.g0 gl z w] at h2
  exact ⟨h0, h1, h2, TI.okP_real D.F D.g0⟩
/-- a step changes it by two at most -/
theorem st_f (g : Good n js) {st : Stp2} (s : IsSt n js st) : -2 ≤ ((fJ n (aftJ js st) : Nat) : Int) - (fJ n js : Nat) ∧ ((fJ n (aftJ js st) : Nat) : Int) - (fJ n js : Nat) ≤ 2 := by
  have one : ∀ {c : List J2} {u v e : Nat} {d : List J2}, Good n c → Good n d → Jn c js u v → Jn c d u e → u < 2 * n → v < 2 * n → e < 2 * n → v ≠ e → -2 ≤ ((fJ n d : Nat) : Int) - (fJ n js : Nat) ∧ ((fJ n d : Nat) : Int) - (fJ n js : Nat) ≤ 2 := by
    intro c u v e d gc gd J A hu hv he ve
    have gl := tg gc
    have h1 := TI.jn_f J gc g hu hv
    have h2 := TI.jn_f A gc gd hu he
    have ok : ((!bS c (tau n) u v || (!bS c (tau n) u e && !bS c (tau n) v e && (oP n c u == oP n c v))) && (!bS c (tau n) u e || (!bS c (tau n) v e && (oP n c u == oP n c e))) && (!bS c (tau n) v e || (oP n c v == oP n c e))) = true := by
      have imp : ∀ {a b : Bool}, (a = true → b = true) → (!a || b) = true := fun {a b} h => by cases a <;> simp_all
      have pe : ∀ {x y : Nat}, x < 2 * n → bS c (tau n) x y = true → (oP n c x == oP n c y) = true := fun {x y} hx s => by
        rw [TI.oP_sm gc hx (TI.bd_p s)]
        exact beq_self_eq_true _
      have sy : ∀ {x y : Nat}, bS c (tau n) x y = true → bS c (tau n) y x = true := fun {x y} s => by rw [TI.bsS gc gl]; exact s
      simp only [Bool.and_eq_true]
      refine ⟨⟨imp fun s => ?_, imp fun s => ?_⟩, imp fun s => pe hv s⟩
      · rw [TI.k3 gc gl hu J.f1 J.f2 A.f2 J.ne A.ne ve s, TI.k3 gc gl hv J.f2 J.f1 A.f2 J.ne.symm ve A.ne (sy s), pe hu s]
        rfl
      · rw [TI.bsS gc gl v e, TI.k3 gc gl he A.f2 A.f1 J.f2 A.ne.symm ve.symm J.ne (sy s), pe hu s]
        rfl
    have f := TI.finS _ _ _ _ _ _ ok
    rw [Bool.and_eq_true] at f
    have f1 := of_decide_eq_true f.1
    have f2 := of_decide_eq_true f.2
    omega
  cases s with
  | cut p hp =>
    have h := TI.jn_f (jn_cut g hp) (cutg g hp) g (by have := g.rng p hp; omega) (g.rng p hp).2
    have f := TI.finD (bS (aftJ js ([p], [])) (tau n) p.1 p.2) (oP n (aftJ js ([p], [])) p.1) (oP n (aftJ js ([p], [])) p.2)
    rw [Bool.and_eq_true] at f
    have f1 := of_decide_eq_true f.1
    have f2 := of_decide_eq_true f.2
    omega
  | shift p e near hp he hn =>
    obtain ⟨A, gd⟩ := jn_shift g hp he hn
    have C := jn_cut g hp
    have r := g.rng p hp
    have fe := free_lt he
    have ep : e ≠ p.1 ∧ e ≠ p.2 := ⟨fun z => mt_end g hp (x := e) (.inl z) fe.2, fun z => mt_end g hp (x := e) (.inr z) fe.2⟩
    rcases hn with rfl | rfl
    · exact one (cutg g hp) gd C A (by omega) r.2 fe.1 ep.2.symm
    · exact one (cutg g hp) gd C.symm A r.2 (by omega) fe.1 ep.1.symm
  | dbl p q hp hq a ap =>
    obtain ⟨_, _, _, _, _, _, D⟩ := dbl_at g hp hq a ap
    have F := dbl_f g D
    have f := TI.finL _ _ _ _ _ _ _ _ _ _ F.ok
    simp only [Bool.and_eq_true, decide_eq_true_eq] at f
    have h := F.f
    have h1 := F.fa
    rw [sB_a a (g.rng p hp).1 (g.rng q hq).1] at h1
    omega
  | dbl2 p q hp hq a ap =>
    obtain ⟨_, _, _, _, _, _, D⟩ := dbl_at g hp hq a ap
    have F := dbl_f g D
    have f := TI.finL _ _ _ _ _ _ _ _ _ _ F.ok
    simp only [Bool.and_eq_true, decide_eq_true_eq] at f
    have h := F.f
    have h1 := F.fb
    rw [sB_b a (g.rng p hp).1 (g.rng q hq).1] at h1
    omega
  | join a b ha hb h =>
    have fa := free_lt ha
    have fb := free_lt hb
    obtain ⟨d, gd, J, e⟩ := jn_join g fa.1 fb.1 fa.2 fb.2 (Nat.ne_of_lt h)
    rw [mk2_lt h] at e
    subst e
    have h := TI.jn_f J g gd fa.1 fb.1
    have f := TI.finD (bS js (tau n) a b) (oP n js a) (oP n js b)
    rw [Bool.and_eq_true] at f
    have f1 := of_decide_eq_true f.1
    have f2 := of_decide_eq_true f.2
    omega
/-- four ends in a row, the joint of the middle ones: a path of two ties -/
theorem path4 {c : List J2} (gc : Good n c) {u v : Nat} (e : mt c u = some v) (h1 : tnN n u ≠ v) (f1 : mt c (tnN n u) = none) (f2 : mt c (tnN n v) = none) :
    bS c (tau n) (tnN n u) (tnN n v) = true ∧ oP n c (tnN n u) = false ∧ oP n c (tnN n v) = false := by
  have M := gc.mt
  have hu := (M.lt e).1
  have hv := (M.lt e).2
  have e' := M.inv e
  have gl := tg gc
  have s1 : Sm c (tau n) (tnN n u) u := by
    have := TI.sm_tau (js := c) (TI.tn_lt hu)
    rwa [TI.tn_tn hu] at this
  have s : Sm c (tau n) (tnN n u) (tnN n v) := cl_trans s1 (cl_trans (TI.sm_mt e) (TI.sm_tau hv))
  have uv : u ≠ v := fun z => M.irr (z ▸ e)
  have h2 : tnN n v ≠ u := fun z => h1 (by rw [← z, TI.tn_tn hv])
  have tab : tnN n u ≠ tnN n v := fun z => uv (by rw [← TI.tn_tn hu, z, TI.tn_tn hv])
  obtain ⟨h, H, hm⟩ := TI.hp_ex gc (TI.tn_lt hu)
  have pm := TI.hp_set gc H hm (S := [tnN n u, u, v, tnN n v]) (by
      simp only [List.nodup_cons, List.mem_cons, List.not_mem_nil, or_false, not_or, not_false_eq_true, List.nodup_nil, and_true]
      exact ⟨⟨TI.tn_ne hu, h1, tab⟩, ⟨uv, fun z => h2 z.symm⟩, Ne.symm (TI.tn_ne hv)⟩) List.mem_cons_self (fun x hx => by
    simp only [List.mem_cons, List.not_mem_nil, or_false] at hx
    rcases hx with rfl | rfl | rfl | rfl
    · exact .base
    · exact s1
    · exact cl_trans s1 (TI.sm_mt e)
    · exact s) fun x hx y nb => by
      simp only [List.mem_cons, List.not_mem_nil, or_false] at hx ⊢
      rcases hx with rfl | rfl | rfl | rfl
      · rcases (TI.nb_tau (TI.tn_lt hu)).mp nb with z | z
        · rw [f1] at z; exact nomatch z
        · exact .inr (.inl (by rw [z, TI.tn_tn hu]))
      · rcases (TI.nb_tau hu).mp nb with z | z
        · rw [e] at z; exact .inr (.inr (.inl (Option.some.inj z).symm))
        · exact .inl z
      · rcases (TI.nb_tau hv).mp nb with z | z
        · rw [e'] at z; exact .inr (.inl (Option.some.inj z).symm)
        · exact .inr (.inr (.inr z))
      · rcases (TI.nb_tau (TI.tn_lt hv)).mp nb with z | z
        · rw [f2] at z; exact nomatch z
        · exact .inr (.inr (.inl (by rw [z, TI.tn_tn hv])))
  have o1 := TI.oP_eq gc H hm
  have o2 := TI.oP_eq gc H ((TI.hp_mem gc gl H hm _).mpr s)
  have od0 : TI.od h = false := by
    rw [TI.od_perm pm]
    simp [TI.od]
  exact ⟨TI.bd_t s, o1.trans od0, o2.trans od0⟩
theorem dh_pass (p : Bool) : dh false false p = 0 := rfl
/-- a joint whose twins are not joined: they can be -/
theorem good_tw (g : Good n js) {u v : Nat} (e : mt js u = some v) (h1 : tnN n u ≠ v) (no : mt js (tnN n u) ≠ some (tnN n v)) :
    ∃ st, IsSt n js st ∧ ((fJ n (aftJ js st) : Nat) : Int) = (fJ n js : Nat) + 2 := by
  have M := g.mt
  -- one of the twins is free
  have half : ∀ {u v : Nat}, mt js u = some v → tnN n u ≠ v → mt js (tnN n u) = none → ∃ st, IsSt n js st ∧ ((fJ n (aftJ js st) : Nat) : Int) = (fJ n js : Nat) + 2 := by
    intro u v e h1 f1
    have hu := (M.lt e).1
    have hv := (M.lt e).2
    have uv : u ≠ v := fun z => M.irr (z ▸ e)
    have tab : tnN n u ≠ tnN n v := fun z => uv (by rw [← TI.tn_tn hu, z, TI.tn_tn hv])
    have h2 : tnN n v ≠ u := fun z => h1 (by rw [← z, TI.tn_tn hv])
    cases f2 : mt js (tnN n v) with
    | none =>
      obtain ⟨b, o, _⟩ := path4 g e h1 f1 f2
      obtain ⟨d, gd, J, ed⟩ := jn_join g (TI.tn_lt hu) (TI.tn_lt hv) f1 f2 tab
      have h := TI.jn_f J g gd (TI.tn_lt hu) (TI.tn_lt hv)
      rw [b, o] at h
      subst ed
      refine ⟨_, ?_, h⟩
      by_cases c : tnN n u < tnN n v
      · rw [mk2_lt c]
        exact .join _ _ (free_of_none (TI.tn_lt hu) f1) (free_of_none (TI.tn_lt hv) f2) c
      · rw [mk2_comm, mk2_lt (show tnN n v < tnN n u by omega)]
        exact .join _ _ (free_of_none (TI.tn_lt hv) f2) (free_of_none (TI.tn_lt hu) f1) (by omega)
    | some y =>
      have hq := (mt_iff g).mp f2
      have hn := (mk2_has (tnN n v) y).1
      have he := free_of_none (TI.tn_lt hu) f1
      obtain ⟨A, gd⟩ := jn_shift g hq he hn
      have C0 := jn_cut g hq
      have gc := cutg g hq
      have ty : tnN n v ≠ y := fun z => M.irr (z ▸ f2)
      have hy := (M.lt f2).2
      have C : Jn (aftJ js ([mk2 (tnN n v) y], [])) js (tnN n v) y := by
        by_cases c : tnN n v < y
        · rw [mk2_lt c] at C0 ⊢
          exact C0
        · have e2 : mk2 (tnN n v) y = (y, tnN n v) := by rw [mk2_comm, mk2_lt (by omega)]
          rw [e2] at C0 ⊢
          exact C0.symm
      have uy : u ≠ y := fun z => by
        have w := M.inv f2
        rw [← z, e] at w
        exact TI.tn_ne hv (Option.some.inj w).symm
      have ec : mt (aftJ js ([mk2 (tnN n v) y], [])) u = some v := (C.ot u (fun z => h2 z.symm) uy).symm.trans e
      have tuy : tnN n u ≠ y := fun z => by
        have w := M.inv f2
        rw [← z, f1] at w
        exact nomatch w
      have f1c : mt (aftJ js ([mk2 (tnN n v) y], [])) (tnN n u) = none := (C.ot _ tab tuy).symm.trans f1
      obtain ⟨b, o1, o2⟩ := path4 gc ec h1 f1c C.f1
      have b2 : bS (aftJ js ([mk2 (tnN n v) y], [])) (tau n) (tnN n v) (tnN n u) = true := by rw [TI.bsS gc (tg gc)]; exact b
      have hf := TI.jn_f C gc g (TI.tn_lt hv) hy
      have ha := TI.jn_f A gc gd (TI.tn_lt hv) (TI.tn_lt hu)
      rw [TI.k3 gc (tg gc) (TI.tn_lt hv) C.f1 f1c C.f2 tab.symm ty tuy b2, o2] at hf
      rw [b2, o2] at ha
      refine ⟨_, IsSt.shift (mk2 (tnN n v) y) (tnN n u) (tnN n v) hq he hn, ?_⟩
      have z1 : dh false false (oP n (aftJ js ([mk2 (tnN n v) y], [])) y) = 0 := rfl
      have z2 : dh true false (oP n (aftJ js ([mk2 (tnN n v) y], [])) (tnN n u)) = 2 := rfl
      omega
  have hu := (M.lt e).1
  have hv := (M.lt e).2
  have h2 : tnN n v ≠ u := fun z => h1 (by rw [← z, TI.tn_tn hv])
  cases f1 : mt js (tnN n u) with
  | none => exact half e h1 f1
  | some x =>
    cases f2 : mt js (tnN n v) with
    | none => exact half (M.inv e) h2 f2
    | some y =>
      have main : ∀ {p q : J2} {a x b y : Nat}, p ∈ js → q ∈ js → p.1 < q.1 → DC.Apart p q → mt js u = some v → (a = tnN n u ∧ b = tnN n v) ∨ (a = tnN n v ∧ b = tnN n u) → (a = p.1 ∧ x = p.2) ∨ (a = p.2 ∧ x = p.1) → (b = q.1 ∧ y = q.2) ∨ (b = q.2 ∧ y = q.1) →
          ∃ st, IsSt n js st ∧ ((fJ n (aftJ js st) : Nat) : Int) = (fJ n js : Nat) + 2 := by
        intro p q a x b y hp hq lt ap e hab ha hb
        obtain ⟨s1, s2, j0, j1, a1, b1, D⟩ := dbl_at g hp hq lt ap
        have F := dbl_f g D
        obtain ⟨p1, p2⟩ := mt_of g.dis (fun q hq => Nat.ne_of_lt (g.rng q hq).1) hp
        obtain ⟨q1, q2⟩ := mt_of g.dis (fun q hq => Nat.ne_of_lt (g.rng q hq).1) hq
        -- the joint of the middle stays
        have off : ∀ i, i ≠ p.1 → i ≠ p.2 → i ≠ q.1 → i ≠ q.2 → mt j0 i = mt js i := fun i i1 i2 i3 i4 => by
          rw [D.J2'.ot i i3 i4, D.J1.ot i i1 i2]
        have inq : ∀ {i j : Nat}, mt js i = some j → (i = p.1 → j = p.2) ∧ (i = p.2 → j = p.1) ∧ (i = q.1 → j = q.2) ∧ (i = q.2 → j = q.1) := fun {i j} h => ⟨fun z => by rw [z, p1] at h; exact (Option.some.inj h).symm, fun z => by rw [z, p2] at h; exact (Option.some.inj h).symm, fun z => by rw [z, q1] at h; exact (Option.some.inj h).symm, fun z => by rw [z, q2] at h; exact (Option.some.inj h).symm⟩
        have twab : tnN n u ≠ tnN n v := fun z => M.irr (by rw [← TI.tn_tn hu, z, TI.tn_tn hv] at e; exact e)
        have e' := M.inv e
        have tu1 := TI.tn_ne hu
        have tv1 := TI.tn_ne hv
        have iu := inq e
        have iv := inq e'
        have u1 : u ≠ p.1 ∧ u ≠ p.2 ∧ u ≠ q.1 ∧ u ≠ q.2 := by
          refine ⟨fun z => ?_, fun z => ?_, fun z => ?_, fun z => ?_⟩
          · have := iu.1 z
            omega
          · have := iu.2.1 z
            omega
          · have := iu.2.2.1 z
            omega
          · have := iu.2.2.2 z
            omega
        have ec : mt j0 u = some v := (off u u1.1 u1.2.1 u1.2.2.1 u1.2.2.2).trans e
        have fr : ∀ i, i = p.1 ∨ i = p.2 ∨ i = q.1 ∨ i = q.2 → mt j0 i = none := fun i h => by
          rcases h with rfl | rfl | rfl | rfl
          · exact D.F.fu
          · exact D.F.fv
          · exact D.F.fw
          · exact D.F.fz
        have fu : mt j0 (tnN n u) = none := fr _ (by omega)
        have fv : mt j0 (tnN n v) = none := fr _ (by omega)
        obtain ⟨b0, o1, o2⟩ := path4 D.g0 ec h1 fu fv
        have bab : bS j0 (tau n) a b = true ∧ oP n j0 a = false ∧ oP n j0 b = false := by
          rcases hab with ⟨rfl, rfl⟩ | ⟨rfl, rfl⟩
          · exact ⟨b0, o1, o2⟩
          · rw [TI.bsS D.g0 (tg D.g0)]
            exact ⟨b0, o2, o1⟩
        have h0 := F.f
        have ha' := F.fa
        have hb' := F.fb
        have ok := F.ok
        rcases ha with ⟨rfl, rfl⟩ | ⟨rfl, rfl⟩ <;> rcases hb with ⟨rfl, rfl⟩ | ⟨rfl, rfl⟩
        · have := TI.finGa _ _ _ _ _ _ _ _ _ _ ok (.inl ⟨bab.1, bab.2.1⟩)
          exact ⟨_, s1, by omega⟩
        · have := TI.finGb _ _ _ _ _ _ _ _ _ _ ok (.inl ⟨bab.1, bab.2.1⟩)
          exact ⟨_, s2, by omega⟩
        · have := TI.finGb _ _ _ _ _ _ _ _ _ _ ok (.inr ⟨bab.1, bab.2.1⟩)
          exact ⟨_, s2, by omega⟩
        · have := TI.finGa _ _ _ _ _ _ _ _ _ _ ok (.inr ⟨bab.1, bab.2.1⟩)
          exact ⟨_, s1, by omega⟩
      have hP := (mt_iff g).mp f1
      have hQ := (mt_iff g).mp f2
      have nP : mk2 (tnN n u) x ≠ mk2 (tnN n v) y := fun z => by
        have w := (mk2_has (tnN n v) y).1
        rw [← z] at w
        rcases mk2_ends w with w | w
        · exact M.irr (by have := TI.tn_tn hu; rw [← w, TI.tn_tn hv] at this; rw [← this] at e; exact e)
        · exact no (by rw [f1, w])
      have ap : ∀ {P Q : J2}, P ∈ js → Q ∈ js → P ≠ Q → DC.Apart P Q := fun {P Q} hP hQ ne => ⟨fun z => ne (same_joint g hP hQ (.inl rfl) (.inl z)), fun z => ne (same_joint g hP hQ (.inl rfl) (.inr z)), fun z => ne (same_joint g hP hQ (.inr rfl) (.inl z)), fun z => ne (same_joint g hP hQ (.inr rfl) (.inr z))⟩
      have en : ∀ (a b : Nat), (a = (mk2 a b).1 ∧ b = (mk2 a b).2) ∨ (a = (mk2 a b).2 ∧ b = (mk2 a b).1) := fun a b => by
        unfold mk2
        dsimp only
        omega
      have aP := ap hP hQ nP
      by_cases c : (mk2 (tnN n u) x).1 < (mk2 (tnN n v) y).1
      · exact main hP hQ c aP e (.inl ⟨rfl, rfl⟩) (en _ _) (en _ _)
      · have := aP.1
        exact main hQ hP (by omega) (ap hQ hP nP.symm) e (.inr ⟨rfl, rfl⟩) (en _ _) (en _ _)
/-- there is a step that makes it greater, wherever it is not the greatest -/
theorem goodT_ex (g : Good n js) (h2 : n % 2 = 0) (lt : fJ n js < n) : ∃ st, IsSt n js st ∧ fJ n js / 2 < fJ n (aftJ js st) / 2 := by
  have noT : ¬ TwOk n js := fun T => by rw [TI.f_tw2 g T] at lt; omega
  have M := g.mt
  by_cases A : ∃ p ∈ js, tnN n p.1 ≠ p.2 ∧ mt js (tnN n p.1) ≠ some (tnN n p.2)
  · obtain ⟨p, hp, h1, no⟩ := A
    obtain ⟨m1, _⟩ := mt_of g.dis (fun q hq => Nat.ne_of_lt (g.rng q hq).1) hp
    obtain ⟨st, s, e⟩ := good_tw g m1 h1 no
    exact ⟨st, s, by omega⟩
  · have all : ∀ p ∈ js, tnN n p.1 ≠ p.2 → mt js (tnN n p.1) = some (tnN n p.2) := fun p hp h => Classical.byContradiction fun z => A ⟨p, hp, h, z⟩
    have ex : ∃ p ∈ js, tnN n p.1 = p.2 := Classical.byContradiction fun z => noT fun p hp => by
      have h : tnN n p.1 ≠ p.2 := fun w => z ⟨p, hp, w⟩
      exact ⟨h, all p hp h⟩
    obtain ⟨p, hp, ep⟩ := ex
    have rp := g.rng p hp
    -- a joint of twins alone is a ring of one tie, and a path where it is cut
    have self : ∀ {c : List J2} (gc : Good n c) {u : Nat}, u < 2 * n → mt c u = none → mt c (tnN n u) = none → bS c (tau n) u (tnN n u) = true ∧ oP n c u = true ∧ oP n c (tnN n u) = true := by
      intro c gc u hu f1 f2
      obtain ⟨h, H, hm⟩ := TI.hp_ex gc hu
      have pm := TI.hp_set gc H hm (S := [u, tnN n u]) (by simp [Ne.symm (TI.tn_ne hu)]) List.mem_cons_self (fun x hx => by
        simp only [List.mem_cons, List.not_mem_nil, or_false] at hx
        rcases hx with rfl | rfl
        · exact .base
        · exact TI.sm_tau hu) fun x hx y nb => by
          simp only [List.mem_cons, List.not_mem_nil, or_false] at hx ⊢
          rcases hx with rfl | rfl
          · rcases (TI.nb_tau hu).mp nb with z | z
            · rw [f1] at z; exact nomatch z
            · exact .inr z
          · rcases (TI.nb_tau (TI.tn_lt hu)).mp nb with z | z
            · rw [f2] at z; exact nomatch z
            · exact .inl (by rw [z, TI.tn_tn hu])
      have od1 : TI.od h = true := by
        rw [TI.od_perm pm]
        simp [TI.od]
      have s := TI.sm_tau (js := c) hu
      exact ⟨TI.bd_t s, (TI.oP_eq gc H hm).trans od1, (TI.oP_eq gc H ((TI.hp_mem gc (tg gc) H hm _).mpr s)).trans od1⟩
    by_cases B : ∃ q ∈ js, q ≠ p ∧ tnN n q.1 = q.2
    · obtain ⟨q, hq, nq, eq⟩ := B
      have two : ∀ {p q : J2}, p ∈ js → q ∈ js → q ≠ p → tnN n p.1 = p.2 → tnN n q.1 = q.2 → p.1 < q.1 → ∃ st, IsSt n js st ∧ fJ n js / 2 < fJ n (aftJ js st) / 2 := by
        intro p q hp hq ne ep eq lt
        have rp := g.rng p hp
        have rq := g.rng q hq
        have ap : DC.Apart p q := ⟨fun z => ne (same_joint g hq hp (.inl rfl) (.inl z.symm)), fun z => ne (same_joint g hq hp (.inr rfl) (.inl z.symm)), fun z => ne (same_joint g hq hp (.inl rfl) (.inr z.symm)), fun z => ne (same_joint g hq hp (.inr rfl) (.inr z.symm))⟩
        obtain ⟨s1, s2, j0, j1, a1, b1, D⟩ := dbl_at g hp hq lt ap
        have F := dbl_f g D
        obtain ⟨x1, x2, x3⟩ := self D.g0 (u := p.1) (by omega) D.F.fu (ep ▸ D.F.fv)
        obtain ⟨y1, y2, y3⟩ := self D.g0 (u := q.1) (by omega) D.F.fw (eq ▸ D.F.fz)
        rw [ep] at x1 x3
        rw [eq] at y1 y3
        have := TI.finO _ _ _ _ _ _ _ _ _ _ F.ok x1 y1 x2 y2
        have h0 := F.f
        have ha := F.fa
        exact ⟨_, s1, by omega⟩
      have : p.1 ≠ q.1 := fun z => nq (same_joint g hq hp (.inl rfl) (.inl z.symm))
      by_cases c : p.1 < q.1
      · exact two hp hq nq ep eq c
      · exact two hq hp nq.symm eq ep (by omega)
    · have C := jn_cut g hp
      have gc := cutg g hp
      refine ⟨([p], []), .cut p hp, ?_⟩
      obtain ⟨x1, x2, x3⟩ := self gc (u := p.1) (by omega) C.f1 (ep ▸ C.f2)
      rw [ep] at x1 x3
      have h := TI.jn_f C gc g (by omega) rp.2
      rw [x1, x2, x3] at h
      have z : dh true true true = -1 := rfl
      have full : fJ n (aftJ js ([p], [])) = n := TI.f_tw2 gc fun q hq => by
        rcases aft_iff.mp hq with ⟨hq', nq⟩ | hq'
        · have ne : q ≠ p := fun z => nq (List.mem_singleton.mpr z)
          have h1 : tnN n q.1 ≠ q.2 := fun z => B ⟨q, hq', ne, z⟩
          have rq := g.rng q hq'
          refine ⟨h1, ?_⟩
          have m := all q hq' h1
          rw [← C.ot _ (fun z => ?_) (fun z => ?_)]
          · exact m
          · have w : q.1 = p.2 := by rw [← TI.tn_tn (show q.1 < 2 * n by omega), z, ep]
            exact ne (same_joint g hq' hp (.inl rfl) (.inr w))
          · have w : q.1 = p.1 := by rw [← TI.tn_tn (show q.1 < 2 * n by omega), z, ← ep, TI.tn_tn (by omega)]
            exact ne (same_joint g hq' hp (.inl rfl) (.inl w))
        · exact absurd hq' List.not_mem_nil
      omega
end
end K37
-- K37ri
set_option Elab.async false
set_option linter.all false
set_option maxRecDepth 100000
set_option maxHeartbeats 4000000
/-! K37ri: _law_right -/
namespace K37
open PySem L2 DC LamX ITG
open TI (fJ tau tnN tg TwOk)
theorem tw_pcs {n : Nat} {js : List J2} (g : Good n js) : ∀ p ∈ twL n js, (p.1 = "ring" ∨ p.1 = "path") ∧ p.2 ≤ 12 := by
  intro p hp
  obtain ⟨hs, A, e⟩ := tw_web g
  have hp2 := (twL_perm n js).mem_iff.mp hp
  rw [e] at hp2
  obtain ⟨h, hh, rfl⟩ := List.mem_map.mp hp2
  obtain ⟨a, ha, c⟩ := A.cl h hh
  have q := nodup_le (m := List.range (2 * n)) c.nd fun x hx => List.mem_range.mpr (c.lt x hx)
  rw [List.length_range] at q
  have tp := g.top
  refine ⟨?_, ?_⟩
  · unfold pk
    dsimp only
    split
    · exact .inl rfl
    · exact .inr rfl
  · show h.length / 2 ≤ 12
    omega
theorem short_pc {p : Str × Nat} (h : (p.1 = "ring" ∨ p.1 = "path") ∧ p.2 ≤ 12) : Short (pcD p) 2012 1 := by
  unfold pcD
  refine short_tuple (B := 1002) (D := 0) (L := 2) (fun d hd => ?_) (Nat.le_refl _)
  simp only [List.mem_cons, List.not_mem_nil, or_false] at hd
  rcases hd with rfl | rfl
  · refine ⟨?_, by simp only [wt, Nat.le_refl], by simp only [PyData.depth, Nat.le_refl]⟩
    rcases h.1 with e | e <;> rw [e] <;> decide +kernel
  · exact (short_int (by omega)).mono (by decide) (by decide)
theorem short_pcs {n : Nat} {js : List J2} (g : Good n js) : Short (.tuple ((twL n js).map pcD)) 97000 2 := by
  refine (short_tuple (B := 2012) (D := 1) (L := 48) (fun d hd => ?_) (by rw [List.length_map]; exact twL_len g)).mono (by decide) (by decide)
  obtain ⟨p, hp, rfl⟩ := List.mem_map.mp hd
  exact short_pc (tw_pcs g p hp)
theorem hc_lt {n : Nat} {js : List J2} (g : Good n js) : hcJ n js ≤ 6 := by
  rw [hc_f g]
  have := g.top
  omega
theorem short_hc {n : Nat} {js : List J2} (g : Good n js) : Short (.int (hcJ n js)) 21 0 := by
  have h1 := hc_nn g
  have h2 := hc_lt g
  obtain ⟨k, e⟩ := Int.eq_ofNat_of_zero_le h1
  rw [e]
  exact short_int (by omega)
theorem isSt_len {n : Nat} {js : List J2} {st : Stp2} (h : IsSt n js st) : st.1.length ≤ 2 ∧ st.2.length ≤ 2 := by
  cases h <;> constructor <;> simp
theorem isSt_lt {n : Nat} {js : List J2} (g : Good n js) {st : Stp2} (h : IsSt n js st) : (∀ p ∈ st.1, p.1 < 1000 ∧ p.2 < 1000) ∧ ∀ p ∈ st.2, p.1 < 1000 ∧ p.2 < 1000 := by
  have ga := aft_good g h
  have tp := g.top
  refine ⟨fun p hp => ?_, fun p hp => ?_⟩
  · have hj : p ∈ js := by
      cases h with
      | cut q hq => rw [List.mem_singleton.mp hp]; exact hq
      | shift q e near hq _ _ => rw [List.mem_singleton.mp hp]; exact hq
      | dbl q r hq hr _ _ =>
        simp only [List.mem_cons, List.not_mem_nil, or_false] at hp
        rcases hp with rfl | rfl <;> assumption
      | dbl2 q r hq hr _ _ =>
        simp only [List.mem_cons, List.not_mem_nil, or_false] at hp
        rcases hp with rfl | rfl <;> assumption
      | join a b _ _ _ => exact absurd hp List.not_mem_nil
    have := g.rng p hj
    omega
  · have := ga.rng p (aft_iff.mpr (.inr hp))
    omega
theorem short_st {n : Nat} {js : List J2} (g : Good n js) {st : Stp2} (h : IsSt n js st) : Short (stD st) 300 3 := by
  obtain ⟨r1, r2⟩ := isSt_lt g h
  obtain ⟨l1, l2⟩ := isSt_len h
  have side : ∀ l : List J2, (∀ p ∈ l, p.1 < 1000 ∧ p.2 < 1000) → l.length ≤ 2 → Short (.tuple (l.map pairD)) 108 2 := fun l r hl => by
    refine (short_tuple (B := 50) (D := 1) (L := 2) (fun d hd => ?_) (by rw [List.length_map]; exact hl)).mono (by decide) (by decide)
    obtain ⟨p, hp, rfl⟩ := List.mem_map.mp hd
    have rp := r p hp
    unfold pairD
    refine (short_tuple (B := 21) (D := 0) (L := 2) (fun d hd => ?_) (Nat.le_refl _)).mono (by decide) (by decide)
    simp only [List.mem_cons, List.not_mem_nil, or_false] at hd
    rcases hd with rfl | rfl
    · exact short_int (by omega)
    · exact short_int (by omega)
  unfold stD
  refine (short_tuple (B := 108) (D := 2) (L := 2) (fun d hd => ?_) (Nat.le_refl _)).mono (by decide) (by decide)
  simp only [List.mem_cons, List.not_mem_nil, or_false] at hd
  rcases hd with rfl | rfl
  · exact side _ r1 l1
  · exact side _ r2 l2
theorem stS_ist {n : Nat} {js : List J2} (g : Good n js) : ∀ st ∈ stS n js, IsSt n js st := fun st h => isSt_of g ((List.mergeSort_perm (stJ n js) _).mem_iff.mp h)
theorem short_gd {n : Nat} {js : List J2} (g : Good n js) (hl : (stS n js).length ≤ 1600) : Short (.tuple (((stS n js).filter (gdB n js)).map stD)) 490000 4 := by
  refine (short_tuple (B := 300) (D := 3) (L := 1600) (fun d hd => ?_) (by rw [List.length_map]; exact Nat.le_trans (List.length_filter_le _ _) hl)).mono (by decide) (by decide)
  obtain ⟨st, hs, rfl⟩ := List.mem_map.mp hd
  exact short_st g (stS_ist g st (List.mem_filter.mp hs).1)
theorem hc_step {n : Nat} {js : List J2} (g : Good n js) {st : Stp2} (h : IsSt n js st) : hcJ n (aftJ js st) - hcJ n js = -1 ∨ hcJ n (aftJ js st) - hcJ n js = 0 ∨ hcJ n (aftJ js st) - hcJ n js = 1 := by
  have := st_f g h
  rw [hc_f g, hc_f (aft_good g h)]
  omega
theorem gd_lt {n : Nat} {js : List J2} (g : Good n js) {st : Stp2} (h : IsSt n js st) : gdB n js st = decide (hcJ n (aftJ js st) < hcJ n js) := by
  have := hc_step g h
  unfold gdB
  refine decide_eq_decide.mpr ?_
  omega
theorem gd_nil {n : Nat} {js : List J2} (g : Good n js) (h2 : n % 2 = 0) : (stS n js).filter (gdB n js) = [] ↔ hcJ n js = 0 := by
  rw [List.filter_eq_nil_iff]
  constructor
  · intro h
    refine Classical.byContradiction fun z => ?_
    have fl := TI.f_le g
    have lt : fJ n js < n := by
      rw [hc_f g] at z
      refine Nat.lt_of_le_of_ne fl fun e => z ?_
      omega
    obtain ⟨st, s, hf⟩ := goodT_ex g h2 lt
    refine h st ((List.mergeSort_perm (stJ n js) _).mem_iff.mpr (isSt_in g s)) ?_
    rw [gd_lt g s]
    refine decide_eq_true ?_
    rw [hc_f g, hc_f (aft_good g s)]
    omega
  · intro h st hs z
    have s := stS_ist g st hs
    rw [gd_lt g s] at z
    have := of_decide_eq_true z
    have := hc_nn (aft_good g s)
    omega
theorem filt_nil (l : List Stp2) : PyData.eqv (.list (l.map stD)) (.list []) = decide (l = []) := by
  cases l with
  | nil => simp [PyData.eqv, PyData.eqvAll]
  | cons x l => simp [PyData.eqv, PyData.eqvAll]
section
variable {P : Program} {w : World} {K : PySem.W.Frag} {mg : Str → Option Value} {base : Heap}
def spRi (K : PySem.W.Frag) : Sp := fun vs H Q _ => ∃ (v : V) (n : Nat) (js : List J2), vs = [v] ∧ Ly K H v n js ∧ Good n js ∧ n % 2 = 0 ∧ ∀ (H' : Hp), Same H H' → Q (.bl true) H'
abbrev NRi : List Str := ["lay_so", "pieces", "due", "got", "good", "step_so", "cost"]
theorem scRi : FnScope NRi ["lay_so"] (defScope (top 52)) := ⟨rfl, rfl, rfl, by decide +kernel, rfl, by decide +kernel, by decide +kernel⟩
theorem okRi {f fLtp fLhc fTp fHc fLk fLp fSts fAf fGh : Addr} {fd fdLtp fdLhc fdTp fdHc fdLk fdLp fdSts fdAf fdGh : FuncData} (F : Fun K "_law_right" "_law_right" (top 52) f fd) (B : Bn mg)
    (DLtp : Df K mg "_law_twin_pieces" fLtp fdLtp ["lay_so"]) (GLtp : OkF P w K mg base 2 fLtp fdLtp ["lay_so"] (spLtp K))
    (DLhc : Df K mg "_law_halving_cost" fLhc fdLhc ["lay_so"]) (GLhc : OkF P w K mg base 3 fLhc fdLhc ["lay_so"] (spLhc K))
    (DTp : Df K mg "twin_pieces" fTp fdTp ["lay"]) (GTp : OkF P w K mg base 7 fTp fdTp ["lay"] (spTp K))
    (DHc : Df K mg "halving_cost" fHc fdHc ["lay"]) (GHc : OkF P w K mg base 7 fHc fdHc ["lay"] (spHc K))
    (DLk : Df K mg "_law_like" fLk fdLk ["got", "due"]) (GLk : OkF P w K mg base 1 fLk fdLk ["got", "due"] (spLike K))
    (DLp : Df K mg "_law_is_perfect" fLp fdLp ["lay_so"]) (GLp : OkF P w K mg base 2 fLp fdLp ["lay_so"] (spIt K))
    (DSts : Df K mg "_law_steps" fSts fdSts ["lay_so"]) (GSts : OkF P w K mg base 2 fSts fdSts ["lay_so"] (spSts K))
    (DAf : Df K mg "_law_after" fAf fdAf ["lay_so", "step_so"]) (GAf : OkF P w K mg base 1 fAf fdAf ["lay_so", "step_so"] (spAfL K))
    (DGh : Df K mg "good_halvings" fGh fdGh ["lay"]) (GGh : OkF P w K mg base 7 fGh fdGh ["lay"] (spGh K)) : OkF P w K mg base 8 f fd ["lay_so"] (spRi K) := by
  refine ok0 F scRi (fun vs H Q E h => ?_) (fun cdv A outer s H vs Q E hgd hr h => ?_)
  · obtain ⟨v, n, js, rfl, _⟩ := h; rfl
  · obtain ⟨v, n, js, rfl, ly, g, h2, q⟩ := h
    have nd := scRi.nd
    have hr1 : Room 1 _ := hr.mono (by decide)
    have hr2 : Room 2 _ := hr.mono (by decide)
    have hr3 : Room 3 _ := hr.mono (by decide)
    have hr7 : Room 7 _ := hr
    have tp := g.top
    refine ⟨_, (pss_cons (ps_par (i := 1) (j := 2) (by rfl) nd rfl rfl (by decide) rfl rfl (pa_cons (pe_callTy call_tuple_of (by rfl) B.tuple (by decide +kernel) (pa_cons (cl DLtp GLtp hgd hr2 (pa_cons (pv 0) pa_nil)) pa_nil)) (pa_cons (cl DLhc GLhc hgd hr3 (pa_cons (pv 0) pa_nil)) pa_nil)) (by rfl)) (pss_cons (ps_set (i := 3) nd rfl (.inl rfl) (pe_lst (pa_cons (cl DTp GTp hgd hr7 (pa_cons (pv 0) pa_nil)) (pa_cons (cl DTp GTp hgd hr7 (pa_cons (pv 0) pa_nil)) (pa_cons (cl DHc GHc hgd hr7 (pa_cons (pv 0) pa_nil)) (pa_cons (cl DHc GHc hgd hr7 (pa_cons (pv 0) pa_nil)) pa_nil)))))) (pss_cons (ps_if (PW.pt (pw_or (pt_not (pt_val (cl DLk GLk hgd hr1 (pa_cons (pv 3) (pa_cons (pe_lst (pa_cons (pv 1) (pa_cons (pv 1) (pa_cons (pv 2) (pa_cons (pv 2) pa_nil))))) pa_nil))))) (pw_or1 (pt_cmpR op_ne (pe_cmpR op_eq (pv 2) pe_int (nomark _)) (cl DLp GLp hgd hr2 (pa_cons (pv 0) pa_nil)) (nomark _))))) (pss_one (ps_ret pe_bl)) pss_nil) (pss_cons (ps_set (i := 4) nd rfl (.inl rfl) (pe_lst pa_nil)) (pss_cons (ps_for PassesOwn.never rfl (pi_list (cl DSts GSts hgd hr2 (pa_cons (pv 0) pa_nil))) (pg_name (i := 5) nd rfl (.inl rfl)) (pss_cons (ps_set (i := 6) nd rfl (.inl rfl) (cl DLhc GLhc hgd hr3 (pa_cons (cl DAf GAf hgd hr1 (pa_cons (pv 0) (pa_cons (pv 5) pa_nil))) pa_nil))) (pss_cons (ps_if (pt_cmpR (r := rIn K true) op_notIn_seq (pe_op op_sub (pv 6) (pv 2)) (pe_tup (pa_cons (pe_un un_neg pe_int) (pa_cons pe_int (pa_cons pe_int pa_nil)))) (by rfl)) (pss_one (ps_ret pe_bl)) pss_nil) (pss_one (ps_set (i := 4) nd rfl (.inl rfl) (pe_op op_cat (pv 4) (pe_op op_rep (pe_lst (pa_cons (pv 5) pa_nil)) (pe_callTy call_int1 (by rfl) B.int (by decide +kernel) (pa_cons (pe_cmpR op_lt (pv 6) (pv 2) (nomark _)) pa_nil))))))))) (pss_cons (ps_if (pt_cmpR op_ne (pe_cmpR (op_eqD hr.units) (pv 4) (pe_lst pa_nil) (nomark _)) (pe_cmpR op_eq (pv 2) pe_int (nomark _)) (nomark _)) (pss_one (ps_ret pe_bl)) pss_nil) (pss_one (ps_ret (cl DLk GLk hgd hr1 (pa_cons (pe_lst (pa_cons (cl DGh GGh hgd hr7 (pa_cons (pv 0) pa_nil)) (pa_cons (cl DGh GGh hgd hr7 (pa_cons (pv 0) pa_nil)) pa_nil))) (pa_cons (pe_lst (pa_cons (pe_callTy call_tuple_of (by rfl) B.tuple (by decide +kernel) (pa_cons (pv 4) pa_nil)) (pa_cons (pe_callTy call_tuple_of (by rfl) B.tuple (by decide +kernel) (pa_cons (pv 4) pa_nil)) pa_nil))) pa_nil))))))))))), ?_⟩
    refine ⟨_, rfl, v, n, js, rfl, ly, g, fun r1 us1 H1 s1 n1 h1 d1 => ⟨r1, us1, rfl, .inl ⟨SqL.of h1, fun t1 nt1 => ?_⟩⟩⟩
    have x1 := Same.new (o := .tup us1) nt1
    have ht1 := upd_same (H := H1) (a := t1) (o := .tup us1)
    have d1' := DC.DpAll.up x1 d1
    have sA := s1.trans x1
    generalize upd H1 t1 (.tup us1) = HA at ht1 d1' sA ⊢
    refine ⟨_, rfl, v, n, js, rfl, ly.up sA, g, fun H2 s2 => ⟨_, _, rfl, ?_⟩⟩
    have sB := sA.trans s2
    refine ⟨_, rfl, v, n, js, rfl, ly.up sB, g, h2, fun r3 us3 H3 s3 n3 h3 d3 => ?_⟩
    have sC := sB.trans s3
    refine ⟨_, rfl, v, n, js, rfl, ly.up sC, g, h2, fun r4 us4 H4 s4 n4 h4 d4 => ?_⟩
    have sD := sC.trans s4
    refine ⟨_, rfl, v, n, js, rfl, ly.up sD, g, h2, fun H5 s5 => ⟨_, rfl, v, n, js, rfl, ly.up (sD.trans s5), g, h2, fun H6 s6 => ⟨by show 4 ≤ sizeLine; decide, fun G nG => gn ?_⟩⟩⟩
    have xG := Same.new (o := .lst [.ref r3, .ref r4, .int (hcJ n js), .int (hcJ n js)]) nG
    refine ⟨_, rfl, _, rfl, _, rfl, _, rfl, _, rfl, by show 4 ≤ sizeLine; decide, fun G2 nG2 => ?_⟩
    have xG2 := Same.new (o := .lst [.ref t1, .ref t1, .int (hcJ n js), .int (hcJ n js)]) nG2
    have sE := s5.trans (s6.trans (xG.trans xG2))
    have dP : Dp K _ (.ref t1) (.tuple ((twL n js).map pcD)) := Dp.tup (SqT.of ((s2.trans (s3.trans (s4.trans sE))) _ _ ht1)) (DC.DpAll.up (s2.trans (s3.trans (s4.trans sE))) d1')
    have shp := short_pcs g
    have shc := short_hc g
    have shL := short_list (L := 4) (ds := [.tuple ((twL n js).map pcD), .tuple ((twL n js).map pcD), .int (hcJ n js), .int (hcJ n js)]) (B := 97000) (D := 2) (fun d hd => by
      simp only [List.mem_cons, List.not_mem_nil, or_false] at hd
      rcases hd with rfl | rfl | rfl | rfl
      · exact shp
      · exact shp
      · exact shc.mono (by decide) (by decide)
      · exact shc.mono (by decide) (by decide)) (Nat.le_refl _)
    refine ⟨.ref G, .ref G2, .list [.tuple ((twL n js).map pcD), .tuple ((twL n js).map pcD), .int (hcJ n js), .int (hcJ n js)], rfl, Dp.lst (SqL.of (xG2 _ _ upd_same)) (.cons (Dp.tup (SqT.of ((s4.trans sE) _ _ h3)) (DC.DpAll.up (s4.trans sE) d3)) (.cons (Dp.tup (SqT.of (sE _ _ h4)) (DC.DpAll.up sE d4)) (.cons (.int _) (.cons (.int _) .nil)))), Dp.lst (SqL.of upd_same) (.cons dP (.cons dP (.cons (.int _) (.cons (.int _) .nil)))), shL.s, Nat.le_trans shL.p (by decide), Nat.le_trans shL.w (by decide), ?_⟩
    have sF := sD.trans sE
    generalize upd _ G2 _ = HF at sF ⊢
    refine ⟨true, rfl, iteF ?_⟩
    refine ⟨_, rfl, rfl, ?_⟩
    refine ⟨_, rfl, v, n, js, rfl, ly.up sF, g, fun H7 s7 => ⟨rfl, _, rfl, ?_⟩⟩
    have sG := sF.trans s7
    rw [show (!decide (V.bl (decide (V.int (hcJ n js) = V.int 0)) = V.bl (isTw n js))) = false by
      rw [show decide (V.int (hcJ n js) = V.int 0) = isTw n js from ?_]
      · simp
      · rw [show decide (V.int (hcJ n js) = V.int 0) = decide (hcJ n js = 0) from decide_eq_decide.mpr ⟨fun z => V.int.inj z, fun z => by rw [z]⟩]
        have := hc_zero g h2
        cases e : isTw n js with
        | true => exact decide_eq_true (this.mpr e)
        | false => exact decide_eq_false fun z => by rw [this.mp z] at e; cases e]
    refine iteF ?_
    refine ⟨by show 0 ≤ sizeLine; decide, fun F0 nF0 => gn ?_⟩
    have xF := Same.new (o := .lst []) nF0
    refine ⟨_, rfl, v, n, js, rfl, ly.up (sG.trans xF), g, fun r us H8 s8 nr hr' hp lu => ⟨r, rfl, ⟨_, SqL.of hr'⟩, ?_⟩⟩
    have lS : (stS n js).length ≤ 1600 := by rw [← Paired.length hp]; exact lu
    have sH := (sG.trans xF).trans s8
    have hF8 := s8 _ _ (upd_same (H := H7) (a := F0) (o := .lst []))
    refine for_it (walk_list (xs := us)) (fun i σ H' => ∃ (F : Addr) (acc : List V) (x5 x6 : Option V), σ = [some v, some (.ref t1), some (.int (hcJ n js)), some (.ref G), some (.ref F), x5, x6] ∧ Same H8 H' ∧ H' F = some (.lst acc) ∧ Paired (Stp K H') acc (((stS n js).take i).filter (gdB n js)) ∧ acc.length ≤ i) ⟨F0, [], none, none, rfl, fun _ _ h => h, hF8, .nil, Nat.le_refl _⟩ ?_ ?_ ?_
    · rintro i σ H' hi ⟨_, _, _, _, rfl, sm, _⟩
      exact SqL.of (sm _ _ hr')
    · rintro i z σ Ha Hb hi ⟨F, acc, x5, x6, rfl, sm, hF, hP, la⟩ ⟨rfl, ez⟩
      obtain ⟨st, es, hst⟩ := paired_at hp ez
      have ist := stS_ist g st (List.mem_of_getElem? es)
      have ga := aft_good g ist
      have i16 : i < 1600 := by
        have := (List.getElem?_eq_some_iff.mp ez).1
        omega
      refine gn ?_
      refine ⟨_, rfl, _, rfl, v, z, n, js, st, rfl, ly.up (sH.trans sm), (TM.of sm).stp hst, g, tp, ist, fun v2 H3 s3 ly3 => ⟨v2, n, _, rfl, ly3, ga, fun H4 s4 => gn ?_⟩⟩
      refine ⟨_, rfl, _, rfl, _, _, rfl, rfl, ?_⟩
      refine ⟨1, rfl, by show 3 ≤ sizeLine; decide, fun T nT => ?_⟩
      have xT := Same.new (o := .tup [.int (-1), .int 0, .int 1]) nT
      refine ⟨T, [.int (-1), .int 0, .int 1], rfl, .inr (SqT.of upd_same), rfl, rfl, ?_⟩
      have inn : inV (.int (hcJ n (aftJ js st) - hcJ n js)) [.int (-1), .int 0, .int 1] = true := by
        rcases hc_step g ist with e | e | e <;> rw [e] <;> decide +kernel
      rw [if_pos rfl, inn]
      refine ⟨_, rfl, iteF ?_⟩
      have sZ := s3.trans (s4.trans xT)
      have hFz := sZ _ _ hF
      have hPz := (TM.of (K := K) sZ).stps hP
      have hsz := (TM.of (K := K) (sm.trans sZ)).stp hst
      have smz := sm.trans sZ
      generalize upd H4 T _ = Hz at hFz hPz hsz smz ⊢
      refine ⟨_, rfl, _, rfl, by show 1 ≤ sizeLine; decide, fun L nL => ⟨_, rfl, _, rfl, _, _, rfl, rfl, ?_⟩⟩
      have xL := Same.new (o := .lst [z]) nL
      refine .inr ⟨_, rfl, ?_⟩
      rw [stp_take es, gd_lt g ist]
      have key : ∀ (b : Bool), ∃ l k xs, V.ref L = V.ref l ∧ V.int (if b = true then 1 else 0) = V.int k ∧ upd Hz L (.lst [z]) l = some (.lst xs) ∧ -(2 ^ 63) ≤ k ∧ k < 2 ^ 63 ∧ xs.length * k.toNat ≤ sizeLine ∧ ∀ p, upd Hz L (.lst [z]) p = none → (List.replicate k.toNat xs).flatten = if b = true then [z] else [] := fun b => by
        cases b
        · exact ⟨L, 0, [z], rfl, rfl, upd_same, by decide, by decide, by show 1 * 0 ≤ sizeLine; decide, fun _ _ => rfl⟩
        · exact ⟨L, 1, [z], rfl, rfl, upd_same, by decide, by decide, by show 1 * 1 ≤ sizeLine; decide, fun _ _ => rfl⟩
      obtain ⟨l, k, xs, e1, e2, e3, e4, e5, e6, e7⟩ := key (decide (hcJ n (aftJ js st) < hcJ n js))
      refine ⟨l, k, xs, e1, e2, e3, e4, e5, e6, fun D nD => ?_⟩
      rw [e7 D nD]
      generalize decide (hcJ n (aftJ js st) < hcJ n js) = b
      have xD := Same.new (o := .lst (if b = true then [z] else [])) nD
      have xLD := xL.trans xD
      refine ⟨F, D, acc, _, rfl, rfl, xLD _ _ hFz, upd_same, ?_, fun W nW => gn ?_⟩
      · cases b
        · exact Nat.le_trans (show acc.length + 0 ≤ 2000 by omega) (by decide)
        · exact Nat.le_trans (show acc.length + 1 ≤ 2000 by omega) (by decide)
      have xW := Same.new (o := .lst (acc ++ if b = true then [z] else [])) nW
      have xx := xLD.trans xW
      refine ⟨W, _, _, _, rfl, smz.trans xx, upd_same, ?_, ?_⟩
      · cases b
        · have h := (TM.of (K := K) xx).stps hPz
          have e : ∀ (l : List V), l ++ [] = l := fun l => List.append_nil l
          have e2 : ∀ (l : List Stp2), l ++ [] = l := fun l => List.append_nil l
          show Paired _ (acc ++ []) (_ ++ [])
          rw [e, e2]
          exact h
        · exact pair_snoc ((TM.of xx).stps hPz) ((TM.of xx).stp hsz)
      · cases b
        · rw [if_neg (by decide), List.append_nil]
          omega
        · rw [if_pos rfl, List.length_append]
          exact Nat.succ_le_succ la
    · rintro σ Hz ⟨F, acc, x5, x6, rfl, sm, hF, hP, la⟩
      rw [List.take_of_length_le (by rw [Paired.length hp]; exact Nat.le_refl _)] at hP
      refine ⟨_, rfl, by show 0 ≤ sizeLine; decide, fun e0 ne0 => ?_⟩
      have xe := Same.new (o := .lst []) ne0
      refine ⟨.list (((stS n js).filter (gdB n js)).map stD), .list [], .lst (SqL.of (xe _ _ hF)) (stps_dp ((TM.of xe).stps hP)), .lst (SqL.of upd_same) .nil, shaped_sts _, shaped_sts [], ?_⟩
      rw [filt_nil]
      refine ⟨_, rfl, rfl, rfl, _, rfl, ?_⟩
      rw [show (!decide (V.bl (decide ((stS n js).filter (gdB n js) = [])) = V.bl (decide (V.int (hcJ n js) = V.int 0)))) = false by
        rw [show decide ((stS n js).filter (gdB n js) = []) = decide (V.int (hcJ n js) = V.int 0) from decide_eq_decide.mpr ((gd_nil g h2).trans ⟨fun z => by rw [z], fun z => V.int.inj z⟩)]
        simp]
      refine iteF ?_
      have sI := (sH.trans sm).trans xe
      have hF1 := xe _ _ hF
      have hP1 := (TM.of (K := K) xe).stps hP
      generalize upd Hz e0 (.lst []) = Hy at sI hF1 hP1 ⊢
      refine ⟨_, rfl, v, n, js, rfl, ly.up sI, g, h2, fun ra ua Ha sa na ha pa => ?_⟩
      refine ⟨_, rfl, v, n, js, rfl, ly.up (sI.trans sa), g, h2, fun rb ub Hb sb nb hb pb => ⟨by show 2 ≤ sizeLine; decide, fun L1 nL1 => ?_⟩⟩
      have y1 := Same.new (o := .lst [.ref ra, .ref rb]) nL1
      have sab := sa.trans (sb.trans y1)
      refine ⟨_, rfl, F, acc, rfl, .inl ⟨SqL.of (sab _ _ hF1), fun tA ntA => ?_⟩⟩
      have yA := Same.new (o := .tup acc) ntA
      refine ⟨_, rfl, F, acc, rfl, .inl ⟨SqL.of ((sab.trans yA) _ _ hF1), fun tB ntB => ⟨by show 2 ≤ sizeLine; decide, fun L2 nL2 => ?_⟩⟩⟩
      have yB := Same.new (o := .tup acc) ntB
      have yL := Same.new (o := .lst [.ref tA, .ref tB]) nL2
      have shg := short_gd g lS
      have sh2 := short_list (L := 2) (ds := [.tuple (((stS n js).filter (gdB n js)).map stD), .tuple (((stS n js).filter (gdB n js)).map stD)]) (B := 490000) (D := 4) (fun d hd => by
        simp only [List.mem_cons, List.not_mem_nil, or_false] at hd
        rcases hd with rfl | rfl <;> exact shg) (Nat.le_refl _)
      have z1 := yA.trans (yB.trans yL)
      refine ⟨.ref L1, .ref L2, .list [.tuple (((stS n js).filter (gdB n js)).map stD), .tuple (((stS n js).filter (gdB n js)).map stD)], rfl,
        Dp.lst (SqL.of (z1 _ _ upd_same)) (.cons (Dp.tup (SqT.of ((sb.trans (y1.trans z1)) _ _ ha)) (stps_dp ((TM.of (sb.trans (y1.trans z1))).stps pa))) (.cons (Dp.tup (SqT.of ((y1.trans z1) _ _ hb)) (stps_dp ((TM.of (y1.trans z1)).stps pb))) .nil)),
        Dp.lst (SqL.of upd_same) (.cons (Dp.tup (SqT.of ((yB.trans yL) _ _ upd_same)) (stps_dp ((TM.of (sab.trans z1)).stps hP1))) (.cons (Dp.tup (SqT.of (yL _ _ upd_same)) (stps_dp ((TM.of (sab.trans z1)).stps hP1))) .nil)),
        sh2.s, Nat.le_trans sh2.p (by decide), Nat.le_trans sh2.w (by decide), ?_⟩
      exact q _ (sI.trans (sab.trans z1))
end
end K37
-- K37pa
set_option Elab.async false
set_option linter.all false
set_option maxRecDepth 100000
set_option maxHeartbeats 8000000
namespace DC
open PySem L2
end DC
namespace K37
open PySem L2 DC LamX
section
variable {P : Program} {w : World} {K : PySem.W.Frag} {mg : Str → Option Value} {base : Heap}
theorem scCu : FnScope NCu ["joints"] (defScope (top 20)) := ⟨rfl, rfl, rfl, by decide +kernel, rfl, by decide +kernel, by decide +kernel⟩
theorem okCu {f : Addr} {fd : FuncData} (F : Fun K "cuts" "cuts" (top 20) f fd) : OkF P w K mg base 1 f fd ["joints"] (spCuts K) := by
  refine ok0 F scCu (fun vs H Q E h => ?_) (fun cdv A outer s H vs Q E hgd hr h => ?_)
  · obtain ⟨v, js, rfl, _⟩ := h; rfl
  · obtain ⟨v, js, rfl, ⟨t, ws, rfl, hS, hP⟩, hl, q⟩ := h
    have nd := scCu.nd
    have lw : ws.length = js.length := Paired.length hP
    refine ⟨_, (pss_one (ps_ret (pe_lc (own := [("joint", 1)]) (g := gName 1) (tt := tYes) rfl nd (pi_tup (pv 0)) (blkOk_by (N := NCu) (sc := defScope (top 20)) (by decide +kernel)) (fun _ _ _ _ _ => pg_name (i := 1) nd rfl (Or.inl rfl)) (fun _ _ _ _ _ => pts_nil) (fun _ _ _ _ _ => (pe_tup (pa_cons (pe_tup (pa_cons (pv 1) pa_nil)) (pa_cons (pe_tup pa_nil) pa_nil))))))), ?_⟩
    refine ⟨_, rfl, t, rfl, ⟨ws, hS⟩, fun D hD => ?_⟩
    refine lc_it (walk_tup (xs := ws)) (fun i H' => ∃ acc : List V, Same H H' ∧ H' D = some (.lst acc) ∧ Paired (Stp K H') acc ((js.take i).map cutS)) ⟨[], Same.new hD, upd_same, .nil⟩ (fun i H' _ hp => by
      obtain ⟨acc, sm, _⟩ := hp
      exact Same.t sm hS) ?_ ?_
    · rintro i x Ha Hb hi ⟨acc, sm, hL, hA⟩ ⟨rfl, ex⟩
      obtain ⟨p, ep, hx⟩ := paired_at hP ex
      have hx := hx.up sm
      have la := Paired.length hA
      refine ⟨rfl, ?_⟩
      refine yesT ?_
      refine ⟨_, rfl, by show 1 ≤ sizeLine; decide, fun T1 hT1 => ⟨by show 0 ≤ sizeLine; decide, fun T2 hT2 => ⟨by show 2 ≤ sizeLine; decide, fun T3 hT3 => ?_⟩⟩⟩
      have u1 := Same.new (o := .tup [x]) hT1
      have u2 := Same.new (o := .tup []) hT2
      have u3 := Same.new (o := .tup [.ref T1, .ref T2]) hT3
      have u := u1.trans (u2.trans u3)
      have hSt : Stp K (upd (upd (upd Hb T1 (.tup [x])) T2 (.tup [])) T3 (.tup [.ref T1, .ref T2])) (.ref T3) (cutS p) :=
        ⟨T3, _, _, rfl, SqT.of upd_same, ⟨T1, [x], rfl, SqT.of ((u2.trans u3) _ _ upd_same), .cons (hx.up u) .nil⟩, ⟨T2, [], rfl, SqT.of (u3 _ _ upd_same), .nil⟩⟩
      have tm := TM.put (K := K) (o := .lst (acc ++ [.ref T3])) (u _ _ hL)
      refine ⟨acc, u _ _ hL, ?_, acc ++ [.ref T3], same_put (sm.trans u) hD, upd_same, ?_⟩
      · rw [List.length_map, List.length_take] at la
        exact Nat.lt_of_le_of_lt (show acc.length ≤ 1000 by omega) (by decide)
      · rw [take_next ep, List.map_append]
        exact pair_snoc (tm.stps ((TM.of u).stps hA)) (tm.stp hSt)
    · rintro H' ⟨acc, sm, hL, hA⟩
      rw [List.take_of_length_le (by omega)] at hA
      exact q D acc H' sm hD hL hA
theorem scJn : FnScope NJn ["free"] (defScope (top 19)) := ⟨rfl, rfl, rfl, by decide +kernel, rfl, by decide +kernel, by decide +kernel⟩
theorem okJn {f : Addr} {fd : FuncData} (F : Fun K "joins" "joins" (top 19) f fd) (B : Bn mg) : OkF P w K mg base 1 f fd ["free"] (spJoins K) := by
  refine ok0 F scJn (fun vs H Q E h => ?_) (fun cdv A outer s H vs Q E hgd hr h => ?_)
  · obtain ⟨l, fr, rfl, _⟩ := h; rfl
  · obtain ⟨l, fr, rfl, hl, hf, q⟩ := h
    have nd := scJn.nd
    have lenV : (Vn fr).length = fr.length := Vn_len fr
    refine ⟨_, (pss_one (ps_ret (pe_lc2 (own := [("at", 1), ("low", 2), ("high", 3)]) (vs1 := [3]) (g := gTup K 2 (gCons (gName 1) (gCons (gName 2) gNil))) (g1 := gName 3) (tt := tYes) (tt1 := tYes) rfl nd (pi_enum (by rfl) B.enum (pa_cons (pv 0) pa_nil)) (blkOk_by (N := NJn) (sc := defScope (top 19)) (by decide +kernel)) (by decide) (fun _ _ _ _ _ => (pg_tup (by rfl) (pgs_cons (pg_name (i := 1) nd rfl (Or.inl rfl)) (pgs_cons (pg_name (i := 2) nd rfl (Or.inl rfl)) pgs_nil)))) (fun _ _ _ _ _ => pts_nil) (fun _ _ _ _ _ => pi_listK (K := K) (pe_slice (r := rSlL K) sl_list (pv 0) (po_some (pe_op op_add (pv 1) pe_int)) po_none)) (fun _ _ _ _ _ => pg_name (i := 3) nd rfl (Or.inl rfl)) (fun _ _ _ _ _ => pts_nil) (fun _ _ _ _ _ => (pe_tup (pa_cons (pe_tup pa_nil) (pa_cons (pe_tup (pa_cons (pe_tup (pa_cons (pv 2) (pa_cons (pv 3) pa_nil))) pa_nil)) pa_nil))))))), ?_⟩
    refine ⟨_, rfl, l, Vn fr, rfl, SqL.of hl, fun D hD => ?_⟩
    refine it_gen (walk_enum (xs := Vn fr)) (fun i H' => ∃ acc : List V, Same H H' ∧ H' D = some (.lst acc) ∧ Paired (Stp K H') acc (pre2 fr i) ∧ acc.length ≤ 24 * i) ⟨[], Same.new hD, upd_same, .nil, Nat.le_refl _⟩ (fun i H' _ hp => by
      obtain ⟨acc, sm, _⟩ := hp
      exact SqL.of (sm _ _ hl)) ?_ ?_
    · rintro i x Ha Hb hi ⟨acc, sm, hL, hA, hal⟩ ⟨T, x1, x2, rfl, nT, rfl, e1, e2⟩
      cases e1
      have hi' : i < fr.length := by omega
      obtain rfl : x2 = V.int (fr.getD i 0 : Nat) := Option.some.inj (Eq.trans (Eq.symm e2) (Vn_at hi'))
      have sT := Same.new (o := .tup [.int (i : Nat), .int (fr.getD i 0 : Nat)]) nT
      refine ⟨T, _, rfl, SqT.of upd_same, rfl, _, _, rfl, _, _, rfl, rfl, rfl, ?_⟩
      refine yesT ?_
      refine ⟨_, rfl, _, rfl, ((i : Nat) : Int), 1, rfl, rfl, _, rfl, l, _, rfl, SqL.of (sT _ _ (sm _ _ hl)), fun p hp => ?_⟩
      have ecut : cutV (Vn fr) (some (((i : Nat) : Int) + 1)) none = Vn (fr.drop (i + 1)) := by
        have := cut_a (xs := Vn fr) (a := i + 1) (by rw [Vn_len]; omega)
        rw [show ((i + 1 : Nat) : Int) = ((i : Nat) : Int) + 1 by omega] at this
        rw [this, vn_drop]
      rw [ecut]
      have sp := Same.new (o := .lst (Vn (fr.drop (i + 1)))) hp
      have hLp := sp _ _ (sT _ _ hL)
      have Dp : D ≠ p := ne_of_none (sT _ _ hL) hp
      have SS := sm.trans (sT.trans sp)
      have hAp := (TM.of (sT.trans sp)).stps hA
      have hpp := upd_same (H := upd Ha T (.tup [.int (i : Nat), .int (fr.getD i 0 : Nat)])) (a := p) (o := .lst (Vn (fr.drop (i + 1))))
      clear sT sp hp nT
      generalize upd (upd Ha T (.tup [.int (i : Nat), .int (fr.getD i 0 : Nat)])) p (.lst (Vn (fr.drop (i + 1)))) = Hc at hLp SS hAp hpp ⊢
      refine ⟨p, rfl, ⟨_, SqL.of hpp⟩, ?_⟩
      refine it_gen (walk_list (xs := Vn (fr.drop (i + 1)))) (fun d H' => ∃ acc : List V, Same H H' ∧ H' D = some (.lst acc) ∧ H' p = some (.lst (Vn (fr.drop (i + 1)))) ∧ Paired (Stp K H') acc (pre2 fr i ++ ((fr.drop (i + 1)).take d).map fun b => ([], [(fr.getD i 0, b)])) ∧ acc.length ≤ 24 * i + d) ⟨acc, SS, hLp, hpp, by rw [List.take_zero, List.map_nil, List.append_nil]; exact hAp, hal⟩ (fun d H' _ hp => by
        obtain ⟨acc, sm, _, h, _⟩ := hp
        exact SqL.of h) ?_ ?_
      · rintro d y Hd He hd ⟨acc, sm, hL, hp, hA, hal⟩ ⟨rfl, ey⟩
        rw [Vn_len] at hd
        have hd2 := hd
        rw [List.length_drop] at hd2
        obtain rfl : y = V.int ((fr.drop (i + 1)).getD d 0 : Nat) := Option.some.inj (Eq.trans (Eq.symm ey) (Vn_at hd))
        refine ⟨rfl, ?_⟩
        refine yesT ?_
        refine ⟨by show 0 ≤ sizeLine; decide, fun T1 hT1 => ⟨_, rfl, _, rfl, by show 2 ≤ sizeLine; decide, fun T2 hT2 => ⟨by show 1 ≤ sizeLine; decide, fun T3 hT3 => ⟨by show 2 ≤ sizeLine; decide, fun T4 hT4 => ?_⟩⟩⟩⟩
        have u1 := Same.new (o := .tup []) hT1
        have u2 := Same.new (o := .tup [.int (fr.getD i 0 : Nat), .int ((fr.drop (i + 1)).getD d 0 : Nat)]) hT2
        have u3 := Same.new (o := .tup [.ref T2]) hT3
        have u4 := Same.new (o := .tup [.ref T1, .ref T3]) hT4
        have u34 := u3.trans u4
        have u := u1.trans (u2.trans u34)
        have hSt : Stp K (upd (upd (upd (upd He T1 (.tup [])) T2 (.tup [.int (fr.getD i 0 : Nat), .int ((fr.drop (i + 1)).getD d 0 : Nat)])) T3 (.tup [.ref T2])) T4 (.tup [.ref T1, .ref T3])) (.ref T4) ([], [(fr.getD i 0, (fr.drop (i + 1)).getD d 0)]) :=
          ⟨T4, _, _, rfl, SqT.of upd_same, ⟨T1, [], rfl, SqT.of ((u2.trans u34) _ _ upd_same), .nil⟩, ⟨T3, [.ref T2], rfl, SqT.of (u4 _ _ upd_same), .cons ⟨T2, rfl, SqT.of (u34 _ _ upd_same)⟩ .nil⟩⟩
        have tm := TM.put (K := K) (o := .lst (acc ++ [.ref T4])) (u _ _ hL)
        refine ⟨acc, u _ _ hL, Nat.lt_of_le_of_lt (show acc.length ≤ 1000 by omega) (by decide), acc ++ [.ref T4], same_put (sm.trans u) hD, upd_same, by rw [upd_ne (Ne.symm Dp)]; exact u _ _ hp, ?_, by rw [List.length_append]; exact Nat.succ_le_succ hal⟩
        have en : (fr.drop (i + 1))[d]? = some ((fr.drop (i + 1)).getD d 0) := by
          rw [List.getD_eq_getElem?_getD, List.getElem?_eq_getElem hd]
          rfl
        rw [take_next en, List.map_append, ← List.append_assoc]
        exact pair_snoc (tm.stps ((TM.of u).stps hA)) (tm.stp hSt)
      · rintro H' ⟨acc, sm, hL, hp, hA, hal⟩
        rw [Vn_len, List.take_of_length_le (Nat.le_refl _), ← pre2_succ] at hA
        rw [Vn_len, List.length_drop] at hal
        exact ⟨acc, sm, hL, hA, by omega⟩
    · rintro H' ⟨acc, sm, hL, hA, hal⟩
      rw [lenV] at hA hal
      exact q D acc H' sm hD hL hA (by omega)
end
end K37
-- K37pb
set_option Elab.async false
set_option linter.all false
set_option maxRecDepth 100000
set_option maxHeartbeats 8000000
/-! K14p2: doubles, shifts, steps_of, stepped, _law_after -/
namespace DC
open PySem L2
end DC
namespace K37
open PySem L2 DC LamX
section
variable {P : Program} {w : World} {K : PySem.W.Frag} {mg : Str → Option Value} {base : Heap}
theorem scDb : FnScope NDb ["joints"] (defScope (top 17)) := ⟨rfl, rfl, rfl, by decide +kernel, rfl, by decide +kernel, by decide +kernel⟩
theorem okDb {f fP : Addr} {fd fdP : FuncData} (F : Fun K "doubles" "doubles" (top 17) f fd) (B : Bn mg)
    (DP : Df K mg "pairings" fP fdP ["one", "other"]) (GP : OkF P w K mg base 2 fP fdP ["one", "other"] (spPg K)) : OkF P w K mg base 3 f fd ["joints"] (spDb K) := by
  refine ok0 F scDb (fun vs H Q E h => ?_) (fun cdv A outer s H vs Q E hgd hr h => ?_)
  · obtain ⟨v, js, rfl, _⟩ := h; rfl
  · obtain ⟨v, js, rfl, ⟨tj, ws, rfl, hSj, hPj⟩, hl, q⟩ := h
    have nd := scDb.nd
    have lw : ws.length = js.length := Paired.length hPj
    refine ⟨_, (pss_cons (ps_set (i := 1) nd rfl (.inl rfl) (pe_lst pa_nil)) (pss_cons (ps_for PassesOwn.never rfl (pi_enumT (by rfl) B.enum (pa_cons (pv 0) pa_nil)) (pg_tup (by rfl) (pgs_cons (pg_name (i := 2) nd rfl (.inl rfl)) (pgs_cons (pg_name (i := 3) nd rfl (.inl rfl)) pgs_nil))) (pss_one (ps_for PassesOwn.never rfl (pi_tup (pe_slice sl_tup (pv 0) (po_some (pe_op op_add (pv 2) pe_int)) po_none)) (pg_name (i := 4) nd rfl (.inl rfl)) (pss_one (ps_for PassesOwn.never rfl (pi_list (cl DP GP hgd hr (pa_cons (pv 3) (pa_cons (pv 4) pa_nil)))) (pg_name (i := 5) nd rfl (.inl rfl)) (pss_one (ps_expr (pe_bm PySem.F.plainAttrs_list PySem.F.slot_list_append PySem.F.type_list_append mt_append (pv 1) (pa_cons (pe_tup (pa_cons (pe_tup (pa_cons (pv 3) (pa_cons (pv 4) pa_nil))) (pa_cons (pv 5) pa_nil))) pa_nil))))))))) (pss_one (ps_ret (pv 1))))), ?_⟩
    refine ⟨by show 0 ≤ sizeLine; decide, fun L hL0 => gn ?_⟩
    have F0 : FI K H (upd H L (.lst [])) L [] 0 := ⟨Same.new hL0, [], upd_same, .nil, Nat.le_refl _⟩
    generalize upd H L (.lst []) = H1 at F0 ⊢
    refine ⟨_, rfl, tj, ws, rfl, Same.t F0.sm hSj, for_it (walk_enumT (xs := ws)) (fun i σ H' => ∃ (y2 y3 y4 y5 : Option V), σ = [some (.ref tj), some (.ref L), y2, y3, y4, y5] ∧ FI K H H' L (dbJ js i) (24 * i)) ?_ ?_ ?_ ?_⟩
    · exact ⟨none, none, none, none, rfl, F0⟩
    · rintro i σ H' hi ⟨_, _, _, _, rfl, f⟩
      exact Same.t f.sm hSj
    · rintro i x σ Hz H4 hi ⟨y2, y3, y4, y5, rfl, f⟩ ⟨T, x1, y, rfl, nT, rfl, e1, e2⟩
      cases e1
      obtain ⟨p, hp, jt, rfl, hj⟩ := pair_at hPj e2
      have sT := Same.new (o := .tup [.int (i : Nat), .ref jt]) nT
      have f1 := f.up sT
      have gd : js.getD i (0, 0) = p := by
        rw [List.getD_eq_getElem?_getD, hp]
        rfl
      rw [dbJ_succ, gd]
      refine ⟨T, _, rfl, SqT.of upd_same, rfl, _, _, rfl, _, _, rfl, rfl, ?_⟩
      generalize upd Hz T (.tup [.int (i : Nat), .ref jt]) = H4 at f1 ⊢
      have ecut : cutV ws (some (((i : Nat) : Int) + 1)) none = ws.drop (i + 1) := cut_a (xs := ws) (a := i + 1) (by omega)
      refine ⟨_, rfl, _, rfl, ((i : Nat) : Int), 1, rfl, rfl, _, rfl, tj, ws, rfl, Same.t f1.sm hSj, ?_, fun S hSn => ?_⟩
      · rintro ⟨z, _⟩
        have := sIx_nat ws.length 0 (i + 1)
        rw [show ((i + 1 : Nat) : Int) = ((i : Nat) : Int) + 1 by omega] at this
        rw [this] at z
        omega
      rw [ecut]
      have uS := Same.new (o := .tup (ws.drop (i + 1))) hSn
      have fS := f1.up uS
      have hSS : SqT K (upd H4 S (.tup (ws.drop (i + 1)))) S (ws.drop (i + 1)) := SqT.of upd_same
      generalize upd H4 S (.tup (ws.drop (i + 1))) = H6 at fS hSS ⊢
      refine ⟨S, rfl, ⟨_, hSS⟩, ?_⟩
      refine for_it (walk_tup (xs := ws.drop (i + 1))) (fun m σ H' => ∃ (y4 y5 : Option V), σ = [some (.ref tj), some (.ref L), some (.int (i : Nat)), some (.ref jt), y4, y5] ∧ SqT K H' S (ws.drop (i + 1)) ∧ FI K H H' L (dbJ js i ++ ((js.drop (i + 1)).take m).flatMap (dbB p)) (24 * i + 2 * m)) ?_ ?_ ?_ ?_
      · refine ⟨_, _, rfl, hSS, ?_⟩
        show FI _ _ _ _ (_ ++ []) _
        rw [List.append_nil]
        exact fS
      · rintro m σ H' hm ⟨_, _, rfl, h, _⟩
        exact h
      · rintro m x σ Hy H7 hm ⟨y4, y5, rfl, hSm, f⟩ ⟨rfl, ex⟩
        rw [List.length_drop] at hm
        rw [List.getElem?_drop] at ex
        obtain ⟨o, ho, ot, rfl, hot⟩ := pair_at hPj ex
        have eg : (js.drop (i + 1))[m]? = some o := by
          rw [List.getElem?_drop]
          exact ho
        refine gn ?_
        refine ⟨_, rfl, _, rfl, .ref jt, .ref ot, p, o, rfl, ⟨jt, rfl, Same.t f.sm hj⟩, ⟨ot, rfl, Same.t f.sm hot⟩, fun r rs H8 s8 r0 hr8 hP8 => ?_⟩
        rw [nm_mk2, nm_mk2] at hP8
        have f8 := f.up s8
        have nrL : r ≠ L := by
          obtain ⟨us, hL, _⟩ := f.ex
          exact Ne.symm (ne_of_none hL r0)
        have hSm8 := Same.t s8 hSm
        have rl : rs.length = 2 := Paired.length hP8
        refine ⟨r, rfl, ⟨_, SqL.of hr8⟩, ?_⟩
        refine for_it (walk_list (xs := rs)) (fun k σ H' => ∃ (y5 : Option V), σ = [some (.ref tj), some (.ref L), some (.int (i : Nat)), some (.ref jt), some (.ref ot), y5] ∧ SqT K H' S (ws.drop (i + 1)) ∧ H' r = some (.lst rs) ∧ Paired (Js K H') rs [[(p.1, o.1), mk2 p.2 o.2], [(p.1, o.2), mk2 p.2 o.1]] ∧ FI K H H' L ((dbJ js i ++ ((js.drop (i + 1)).take m).flatMap (dbB p)) ++ (dbB p o).take k) (24 * i + 2 * m + k)) ?_ ?_ ?_ ?_
        · refine ⟨_, rfl, hSm8, hr8, hP8, ?_⟩
          rw [List.take_zero, List.append_nil]
          exact f8
        · rintro k σ H' hk ⟨_, rfl, _, h, _⟩
          exact SqL.of h
        · rintro k z σ Hw H9 hk ⟨y5, rfl, hSm9, hr9, hP9, f9⟩ ⟨rfl, ez⟩
          obtain ⟨M, eM, hz⟩ := paired_at hP9 ez
          have eD : (dbB p o)[k]? = some ([p, o], M) := by
            rw [show dbB p o = [[(p.1, o.1), mk2 p.2 o.2], [(p.1, o.2), mk2 p.2 o.1]].map (fun M => ([p, o], M)) from rfl, List.getElem?_map, eM]
            rfl
          refine gn ?_
          obtain ⟨us, hL, hP, hb⟩ := f9.ex
          refine ⟨_, rfl, .inl ⟨rfl, _, SqL.of hL⟩, _, rfl, _, rfl, by show 2 ≤ sizeLine; decide, fun T1 hT1 => ⟨_, rfl, by show 2 ≤ sizeLine; decide, fun T2 hT2 => ?_⟩⟩
          have u1 := Same.new (o := .tup [.ref jt, .ref ot]) hT1
          have u2 := Same.new (o := .tup [.ref T1, z]) hT2
          have u := u1.trans u2
          have sH := f9.sm.trans u
          have f10 := (f9.up u).put (v := .ref T2) (st := ([p, o], M)) hL0 (u _ _ hL) ⟨T2, .ref T1, z, rfl, SqT.of upd_same, ⟨T1, [.ref jt, .ref ot], rfl, SqT.of (u2 _ _ upd_same), .cons ⟨jt, rfl, Same.t sH hj⟩ (.cons ⟨ot, rfl, Same.t sH hot⟩ .nil)⟩, (TM.of u).js hz⟩
          have tm := (TM.of (K := K) u).trans (TM.put (o := .lst (us ++ [.ref T2])) (u _ _ hL))
          refine ⟨L, us, _, rfl, rfl, u _ _ hL, Nat.lt_of_le_of_lt hb (Nat.lt_of_le_of_lt (show 24 * i + 2 * m + k ≤ 1000 by omega) (by decide)), _, rfl, tm.t hSm9, ?_, L2.Paired.mapP hP9 fun _ _ q => tm.js q, ?_⟩
          · rw [upd_ne nrL]
            exact u _ _ hr9
          · rw [take_next eD, ← List.append_assoc]
            exact f10
        · rintro σ H9 ⟨y5, rfl, hSm9, _, _, f9⟩
          rw [rl, List.take_of_length_le (show (dbB p o).length ≤ 2 from Nat.le_refl _)] at f9
          refine ⟨_, y5, rfl, hSm9, ?_⟩
          rw [take_next eg, List.flatMap_append, ← List.append_assoc]
          simp only [List.flatMap_cons, List.flatMap_nil, List.append_nil]
          exact f9
      · rintro σ H7 ⟨y4, y5, rfl, hSm, f⟩
        rw [List.length_drop, List.take_of_length_le (by rw [List.length_drop]; omega)] at f
        exact ⟨_, _, _, _, rfl, f.mono (by omega)⟩
    · rintro σ H4 ⟨y2, y3, y4, y5, rfl, f⟩
      rw [lw] at f
      obtain ⟨us, hL, hP, hb⟩ := f.ex
      exact ⟨_, rfl, q L us _ f.sm hL0 hL hP (by omega)⟩
theorem scSh : FnScope NSh ["joints", "free"] (defScope (top 18)) := ⟨rfl, rfl, rfl, by decide +kernel, rfl, by decide +kernel, by decide +kernel⟩
theorem okSh {f fJ : Addr} {fd fdJ : FuncData} (F : Fun K "shifts" "shifts" (top 18) f fd)
    (DJ : Df K mg "joint_of" fJ fdJ ["one", "other"]) (GJ : OkF P w K mg base 1 fJ fdJ ["one", "other"] (spJt K)) : OkF P w K mg base 2 f fd ["joints", "free"] (spSh K) := by
  refine ok0 F scSh (fun vs H Q E h => ?_) (fun cdv A outer s H vs Q E hgd hr h => ?_)
  · obtain ⟨v, l, js, fr, rfl, _⟩ := h; rfl
  · obtain ⟨v, l, js, fr, rfl, ⟨tj, ws, rfl, hSj, hPj⟩, hl, h12, h24, q⟩ := h
    have nd := scSh.nd
    have lw : ws.length = js.length := Paired.length hPj
    refine ⟨_, (pss_one (ps_ret (pe_lc3 (own := [("joint", 2), ("kept", 3), ("end", 4)]) (vs1 := [3, 4]) (vs2 := [4]) (g := gName 2) (g1 := gName 3) (g2 := gName 4) (tt := tYes) (tt1 := tYes) (tt2 := tYes) rfl nd (pi_tup (pv 0)) (blkOk_by (N := NSh) (sc := defScope (top 18)) (by decide +kernel)) (by decide) (by decide) (fun _ _ _ _ _ => pg_name (i := 2) nd rfl (Or.inl rfl)) (fun _ _ _ _ _ => pts_nil) (fun _ _ _ _ _ => pi_tupK (K := K) (pv 2)) (fun _ _ _ _ _ => pg_name (i := 3) nd rfl (Or.inl rfl)) (fun _ _ _ _ _ => pts_nil) (fun _ _ _ _ _ => pi_listK (K := K) (pv 1)) (fun _ _ _ _ _ => pg_name (i := 4) nd rfl (Or.inl rfl)) (fun _ _ _ _ _ => pts_nil) (fun _ _ _ _ _ => (pe_tup (pa_cons (pe_tup (pa_cons (pv 2) pa_nil)) (pa_cons (pe_tup (pa_cons (cl DJ GJ hgd hr (pa_cons (pv 3) (pa_cons (pv 4) pa_nil))) pa_nil)) pa_nil))))))), ?_⟩
    refine ⟨_, rfl, tj, rfl, ⟨ws, hSj⟩, fun D hD => ?_⟩
    refine it_gen (walk_tup (xs := ws)) (fun i H' => FI K H H' D (shJ (js.take i) fr) (48 * i)) ⟨Same.new hD, [], upd_same, .nil, Nat.le_refl _⟩ (fun i H' _ f => Same.t f.sm hSj) ?_ ?_
    · rintro i x Ha Hb hi f ⟨rfl, ex⟩
      obtain ⟨p, hp, jt, rfl, hj⟩ := pair_at hPj ex
      have eS : shJ (js.take (i + 1)) fr = shJ (js.take i) fr ++ (shE fr p p.1 ++ shE fr p p.2) := by
        unfold shJ
        rw [take_next hp, List.flatMap_append]
        simp only [List.flatMap_cons, List.flatMap_nil, List.append_nil]
      refine ⟨rfl, ?_⟩
      refine yesT ?_
      refine ⟨_, rfl, jt, rfl, ⟨_, Same.t f.sm hj⟩, ?_⟩
      refine it_gen (walk_tup (xs := [.int (p.1 : Nat), .int (p.2 : Nat)])) (fun k H' => FI K H H' D (shJ (js.take i) fr ++ (([p.1, p.2].take k).flatMap (shE fr p))) (48 * i + 24 * k)) (by rw [List.take_zero, List.flatMap_nil, List.append_nil]; exact f) (fun k H' _ f => Same.t f.sm hj) ?_ ?_
      · rintro k y Hc Hd hk f1 ⟨rfl, ey⟩
        obtain ⟨near, en, rfl⟩ : ∃ near, [p.1, p.2][k]? = some near ∧ y = V.int (near : Nat) := by
          have hk : k < 2 := hk
          match k, hk with
          | 0, _ => exact ⟨p.1, rfl, (Option.some.inj ey).symm⟩
          | 1, _ => exact ⟨p.2, rfl, (Option.some.inj ey).symm⟩
        refine ⟨rfl, ?_⟩
        refine yesT ?_
        refine ⟨_, rfl, l, rfl, ⟨_, SqL.of (f1.sm _ _ hl)⟩, ?_⟩
        have hk : k < 2 := hk
        refine it_gen (walk_list (xs := Vn fr)) (fun m H' => FI K H H' D ((shJ (js.take i) fr ++ (([p.1, p.2].take k).flatMap (shE fr p))) ++ (shE (fr.take m) p near)) (48 * i + 24 * k + m)) (by rw [List.take_zero]; show FI _ _ _ _ (_ ++ []) _; rw [List.append_nil]; exact f1) (fun m H' _ f => SqL.of (f.sm _ _ hl)) ?_ ?_
        · rintro m z He Hf hm f2 ⟨rfl, ez⟩
          rw [Vn_len] at hm
          obtain rfl := Option.some.inj ((Vn_at hm).symm.trans ez)
          have eg : fr[m]? = some (fr.getD m 0) := by
            rw [List.getD_eq_getElem?_getD, List.getElem?_eq_getElem hm]
            rfl
          generalize fr.getD m 0 = e at eg ⊢
          refine ⟨rfl, ?_⟩
          refine yesT ?_
          refine ⟨_, rfl, by show 1 ≤ sizeLine; decide, fun T1 hT1 => ⟨_, rfl, _, rfl, near, e, rfl, fun T2 H8 s8 fr8 hT2 => ⟨by show 1 ≤ sizeLine; decide, fun T3 hT3 => ⟨by show 2 ≤ sizeLine; decide, fun T4 hT4 => ?_⟩⟩⟩⟩
          rw [nm_mk2] at hT2
          have u1 := Same.new (o := .tup [.ref jt]) hT1
          have u3 := Same.new (o := .tup [.ref T2]) hT3
          have u4 := Same.new (o := .tup [.ref T1, .ref T3]) hT4
          have u34 := u3.trans u4
          have u := u1.trans (s8.trans u34)
          obtain ⟨us, hL, hP, hb⟩ := f2.ex
          have f3 := (f2.up u).put (v := .ref T4) (st := ([p], [mk2 near e])) hD (u _ _ hL) ⟨T4, .ref T1, .ref T3, rfl, SqT.of upd_same, ⟨T1, [.ref jt], rfl, SqT.of ((s8.trans u34) _ _ upd_same), .cons ⟨jt, rfl, Same.t (f2.sm.trans u) hj⟩ .nil⟩, ⟨T3, [.ref T2], rfl, SqT.of (u4 _ _ upd_same), .cons ⟨T2, rfl, SqT.of (u34 _ _ hT2)⟩ .nil⟩⟩
          refine ⟨us, u _ _ hL, Nat.lt_of_le_of_lt hb (Nat.lt_of_le_of_lt (show 48 * i + 24 * k + m ≤ 1000 by omega) (by decide)), ?_⟩
          have e3 : shE (fr.take (m + 1)) p near = shE (fr.take m) p near ++ [([p], [mk2 near e])] := by
            unfold shE
            rw [take_next eg, List.map_append]
            rfl
          rw [e3, ← List.append_assoc]
          exact f3
        · rintro H9 f2
          rw [Vn_len, List.take_of_length_le (Nat.le_refl _)] at f2
          rw [take_next en, List.flatMap_append, ← List.append_assoc]
          simp only [List.flatMap_cons, List.flatMap_nil, List.append_nil]
          exact f2.mono (by omega)
      · rintro H9 f1
        rw [eS]
        have e9 : ([p.1, p.2].take 2).flatMap (shE fr p) = shE fr p p.1 ++ shE fr p p.2 := by
          show shE fr p p.1 ++ (shE fr p p.2 ++ []) = _
          rw [List.append_nil]
        have f2 : FI K H H9 D (shJ (js.take i) fr ++ ([p.1, p.2].take 2).flatMap (shE fr p)) (48 * i + 24 * 2) := f1
        rw [e9] at f2
        exact f2.mono (by omega)
    · rintro H9 f
      rw [List.take_of_length_le (by omega)] at f
      obtain ⟨us, hL, hP, hb⟩ := f.ex
      exact q D us H9 f.sm hD hL hP (by omega)
end
end K37
-- K37q9
set_option Elab.async false
set_option linter.all false
set_option maxRecDepth 100000
set_option maxHeartbeats 4000000
/-! K37q9: law -/
namespace K37
open PySem L2 DC LamX ITG
/-- the lays told by hand -/
def LL : List (List J2) := [[], [(0, 1)], [(0, 2)], [(0, 2), (1, 3)], [(0, 1), (2, 3)], [(0, 3)]]
def resD (js : List J2) : PyData := .tuple [.int (hcJ 2 js), .tuple ((twL 2 js).map pcD)]
def pD (c : Int) (ps : List (Str × Nat)) : PyData := .tuple [.int c, .tuple (ps.map pcD)]
theorem res_of {js : List J2} {c : Int} {ps : List (Str × Nat)} (h1 : hcJ 2 js = c) (h2 : (tw 2 js).1 = ps) (h3 : ps.Pairwise fun a b => PySem.W.dataLe false pcD a b = true) : resD js = pD c ps := by
  unfold resD pD twL
  rw [h1, h2, List.mergeSort_of_pairwise h3]
theorem r0 : resD [] = pD 0 [("path", 1), ("path", 1)] := res_of (by decide +kernel) (by decide +kernel) (by decide +kernel)
theorem r1 : resD [(0, 1)] = pD 1 [("path", 2)] := res_of (by decide +kernel) (by decide +kernel) (by decide +kernel)
theorem r2 : resD [(0, 2)] = pD 1 [("path", 1), ("ring", 1)] := res_of (by decide +kernel) (by decide +kernel) (by decide +kernel)
theorem r3 : resD [(0, 2), (1, 3)] = pD 1 [("ring", 1), ("ring", 1)] := res_of (by decide +kernel) (by decide +kernel) (by decide +kernel)
theorem r4 : resD [(0, 1), (2, 3)] = pD 0 [("ring", 2)] := res_of (by decide +kernel) (by decide +kernel) (by decide +kernel)
theorem r5 : resD [(0, 3)] = pD 1 [("path", 2)] := res_of (by decide +kernel) (by decide +kernel) (by decide +kernel)
def due1 : List PyData := [pD 0 [("path", 1), ("path", 1)], pD 1 [("path", 2)], pD 1 [("path", 1), ("ring", 1)]]
def due2 : List PyData := [pD 1 [("ring", 1), ("ring", 1)], pD 0 [("ring", 2)], pD 1 [("path", 2)]]
theorem res_due : LL.map resD = due1 ++ due2 := by
  show [resD [], resD [(0, 1)], resD [(0, 2)], resD [(0, 2), (1, 3)], resD [(0, 1), (2, 3)], resD [(0, 3)]] = _
  rw [r0, r1, r2, r3, r4, r5]
  rfl
theorem LL_good : ∀ js ∈ LL, Good 2 js := by
  intro js h
  unfold LL at h
  simp only [List.mem_cons, List.not_mem_nil, or_false] at h
  rcases h with rfl | rfl | rfl | rfl | rfl | rfl <;> exact ⟨by decide, by decide, by decide, by decide, by unfold DC.Apart; decide⟩
theorem dpAll_app {K : PySem.W.Frag} {H : Hp} : ∀ {vs ws : List V} {ds es : List PyData}, DpAll K H vs ds → DpAll K H ws es → DpAll K H (vs ++ ws) (ds ++ es)
  | _, _, _, _, .nil, h => h
  | _, _, _, _, .cons a b, h => .cons a (dpAll_app b h)
theorem dp_pcv {K : PySem.W.Frag} {H : Hp} : ∀ {ps : List (Str × Nat)} {us : List V}, DpAll K H us (ps.map pcD) → Paired (PcV K H) us ps
  | [], _, h => by
    cases h
    exact .nil
  | p :: ps, _, h => by
    cases h with
    | cons a b => exact .cons (dp_pc a) (dp_pcv b)
/-- what is told of one lay -/
def RV (K : PySem.W.Frag) (H : Hp) (v : V) (js : List J2) : Prop := ∃ (T r : Addr) (us : List V), v = .ref T ∧ SqT K H T [.int (hcJ 2 js), .ref r] ∧ SqT K H r us ∧ Paired (PcV K H) us (twL 2 js)
theorem rv_up {K : PySem.W.Frag} {H H' : Hp} (e : ∀ {t : Addr} {xs : List V}, SqT K H t xs → SqT K H' t xs) : ∀ {vs : List V} {l : List (List J2)}, Paired (RV K H) vs l → Paired (RV K H') vs l
  | _, _, .nil => .nil
  | _, _, .cons ⟨T, r, us, q, h1, h2, h3⟩ b => .cons ⟨T, r, us, q, e h1, e h2, pcv_up e h3⟩ (rv_up e b)
theorem rv_dp {K : PySem.W.Frag} {H : Hp} : ∀ {vs : List V} {l : List (List J2)}, Paired (RV K H) vs l → DpAll K H vs (l.map resD)
  | _, _, .nil => .nil
  | _, _, .cons ⟨T, r, us, q, h1, h2, h3⟩ b => by
    subst q
    exact .cons (Dp.tup h1 (.cons (.int _) (.cons (Dp.tup h2 (pcv_dp h3)) .nil))) (rv_dp b)
section
variable {P : Program} {w : World} {K : PySem.W.Frag} {mg : Str → Option Value} {base : Heap}
def spLaw (K : PySem.W.Frag) : Sp := fun vs H Q _ => ∃ (a : Addr) (ns : List Int), vs = [.ref a] ∧ SqL K H a (ns.map V.int) ∧ ns.length ≤ 63 ∧ ∀ H', Q (.bl true) H'
abbrev NLaw : List Str := ["script", "m", "turn", "some", "said", "due", "one"]
theorem scLaw : FnScope NLaw ["script"] (defScope (top 53)) := ⟨rfl, rfl, rfl, by decide +kernel, rfl, by decide +kernel, by decide +kernel⟩
theorem okLaw {f fBg fDr fAl fRi fHc fTp : Addr} {fd fdBg fdDr fdAl fdRi fdHc fdTp : FuncData} (F : Fun K "law" "law" (top 53) f fd) (B : Bn mg)
    (DBg : Df K mg "_law_begun" fBg fdBg ["script"]) (GBg : OkF P w K mg base 2 fBg fdBg ["script"] (spBegun K))
    (DDr : Df K mg "_law_draw" fDr fdDr ["m", "limit"]) (GDr : OkF P w K mg base 2 fDr fdDr ["m", "limit"] spDraw)
    (DAl : Df K mg "_law_any_lay" fAl fdAl ["m", "many"]) (GAl : OkF P w K mg base 4 fAl fdAl ["m", "many"] (spAl K))
    (DRi : Df K mg "_law_right" fRi fdRi ["lay_so"]) (GRi : OkF P w K mg base 8 fRi fdRi ["lay_so"] (spRi K))
    (DHc : Df K mg "halving_cost" fHc fdHc ["lay"]) (GHc : OkF P w K mg base 7 fHc fdHc ["lay"] (spHc K))
    (DTp : Df K mg "twin_pieces" fTp fdTp ["lay"]) (GTp : OkF P w K mg base 7 fTp fdTp ["lay"] (spTp K)) : OkF P w K mg base 9 f fd ["script"] (spLaw K) := by
  refine ok0 F scLaw (fun vs H Q E h => ?_) (fun cdv A outer s H vs Q E hgd hr h => ?_)
  · obtain ⟨a, ns, rfl, _⟩ := h; rfl
  · obtain ⟨a, ns, rfl, hS, hl, q⟩ := h
    have nd := scLaw.nd
    have hr2 : Room 2 _ := hr.mono (by decide)
    have hr4 : Room 4 _ := hr.mono (by decide)
    have hr7 : Room 7 _ := hr.mono (by decide)
    have hr8 : Room 8 _ := hr
    refine ⟨_, (pss_cons (ps_set (i := 1) nd rfl (.inl rfl) (cl DBg GBg hgd hr2 (pa_cons (pv 0) pa_nil))) (pss_cons (ps_for PassesOwn.never rfl (pi_range1 (by rfl) B.range (pa_cons pe_int pa_nil)) (pg_name (i := 2) nd rfl (.inl rfl)) (pss_one (ps_if (pt_not (pt_val (cl DRi GRi hgd hr8 (pa_cons (cl DAl GAl hgd hr4 (pa_cons (pv 1) (pa_cons (pe_op op_mul pe_int (pe_op op_add pe_int (cl DDr GDr hgd hr2 (pa_cons (pv 1) (pa_cons (pe_op op_add pe_int (pe_callTy call_int1 (by rfl) B.int (by decide +kernel) (pa_cons (pe_cmpR op_eq (cl DDr GDr hgd hr2 (pa_cons (pv 1) (pa_cons pe_int pa_nil))) pe_int (nomark _)) pa_nil))) pa_nil))))) pa_nil))) pa_nil)))) (pss_one (ps_ret pe_bl)) pss_nil))) (pss_cons (ps_set (i := 3) nd rfl (.inl rfl) (pe_lst (pa_cons (pe_tup (pa_cons pe_int (pa_cons (pe_tup pa_nil) pa_nil))) (pa_cons (pe_tup (pa_cons pe_int (pa_cons (pe_tup (pa_cons (pe_tup (pa_cons pe_int (pa_cons pe_int pa_nil))) pa_nil)) pa_nil))) (pa_cons (pe_tup (pa_cons pe_int (pa_cons (pe_tup (pa_cons (pe_tup (pa_cons pe_int (pa_cons pe_int pa_nil))) pa_nil)) pa_nil))) (pa_cons (pe_tup (pa_cons pe_int (pa_cons (pe_tup (pa_cons (pe_tup (pa_cons pe_int (pa_cons pe_int pa_nil))) (pa_cons (pe_tup (pa_cons pe_int (pa_cons pe_int pa_nil))) pa_nil))) pa_nil))) (pa_cons (pe_tup (pa_cons pe_int (pa_cons (pe_tup (pa_cons (pe_tup (pa_cons pe_int (pa_cons pe_int pa_nil))) (pa_cons (pe_tup (pa_cons pe_int (pa_cons pe_int pa_nil))) pa_nil))) pa_nil))) (pa_cons (pe_tup (pa_cons pe_int (pa_cons (pe_tup (pa_cons (pe_tup (pa_cons pe_int (pa_cons pe_int pa_nil))) pa_nil)) pa_nil))) pa_nil)))))))) (pss_cons (ps_setLc (i := 4) (own := [("one", 6)]) (g := (gName 6)) (tt := tYes) rfl nd rfl rfl (sw_true rfl rfl rfl (by decide +kernel)) (pi_list (pv 3)) (blkOk_by (N := NLaw) (sc := defScope (top 53)) (by decide +kernel)) (fun _ _ _ _ _ => (pg_name (i := 6) nd rfl (Or.inl rfl))) (fun _ _ _ _ _ => pts_nil) (fun _ _ _ _ _ => (pe_tup (pa_cons (cl DHc GHc hgd hr7 (pa_cons (pv 6) pa_nil)) (pa_cons (cl DTp GTp hgd hr7 (pa_cons (pv 6) pa_nil)) pa_nil))))) (pss_cons (ps_set (i := 5) nd rfl (.inl rfl) (pe_lst (pa_cons (pe_tup (pa_cons pe_int (pa_cons (pe_tup (pa_cons (pe_tup (pa_cons pe_str (pa_cons pe_int pa_nil))) (pa_cons (pe_tup (pa_cons pe_str (pa_cons pe_int pa_nil))) pa_nil))) pa_nil))) (pa_cons (pe_tup (pa_cons pe_int (pa_cons (pe_tup (pa_cons (pe_tup (pa_cons pe_str (pa_cons pe_int pa_nil))) pa_nil)) pa_nil))) (pa_cons (pe_tup (pa_cons pe_int (pa_cons (pe_tup (pa_cons (pe_tup (pa_cons pe_str (pa_cons pe_int pa_nil))) (pa_cons (pe_tup (pa_cons pe_str (pa_cons pe_int pa_nil))) pa_nil))) pa_nil))) pa_nil))))) (pss_cons (ps_set (i := 5) nd rfl (.inl rfl) (pe_op op_cat (pv 5) (pe_lst (pa_cons (pe_tup (pa_cons pe_int (pa_cons (pe_tup (pa_cons (pe_tup (pa_cons pe_str (pa_cons pe_int pa_nil))) (pa_cons (pe_tup (pa_cons pe_str (pa_cons pe_int pa_nil))) pa_nil))) pa_nil))) (pa_cons (pe_tup (pa_cons pe_int (pa_cons (pe_tup (pa_cons (pe_tup (pa_cons pe_str (pa_cons pe_int pa_nil))) pa_nil)) pa_nil))) (pa_cons (pe_tup (pa_cons pe_int (pa_cons (pe_tup (pa_cons (pe_tup (pa_cons pe_str (pa_cons pe_int pa_nil))) pa_nil)) pa_nil))) pa_nil)))))) (pss_one (ps_ret (pe_cmpR (op_eqD hr.units) (pv 4) (pv 5) (nomark _)))))))))), ?_⟩
    refine ⟨_, rfl, a, ns, rfl, hS, hl, fun m lc lg H1 s1 _ _ hM => gn ?_⟩
    refine ⟨2, rfl, by decide, by decide, for_it (walk_range (lo := 0)) (fun i σ H' => ∃ (y2 : Option V) (nb : Nat), σ = [some (.ref a), some (.ref m), y2, none, none, none, none] ∧ MB H' m lc lg nb ∧ nb ≤ 400 * i) ⟨none, 0, rfl, hM, by omega⟩ (fun _ _ _ _ _ => trivial) ?_ ?_⟩
    · rintro i x σ H2 H3 hi ⟨y2, nb, rfl, hM2, hnb⟩ ⟨rfl, rfl⟩
      have hi2 : i < 2 := hi
      refine gn ?_
      refine ⟨_, rfl, _, rfl, _, rfl, m, lc, lg, nb, 9, rfl, hM2, by omega, by decide, by decide, fun z H4 z1 z2 sx hM4 => ⟨rfl, ?_⟩⟩
      refine .inr ⟨_, rfl, ?_⟩
      obtain ⟨lim, elim, l1, l2⟩ : ∃ lim : Int, (2 + if decide (V.int z = V.int 0) = true then (1 : Int) else 0) = lim ∧ 2 ≤ lim ∧ lim ≤ 3 := ⟨_, rfl, by split <;> omega, by split <;> omega⟩
      refine ⟨2, _, rfl, rfl, ?_⟩
      refine ⟨m, lc, lg, nb + 1, lim, by rw [← elim]; rfl, hM4, by omega, by omega, by omega, fun z3 H5 w1 w2 sx5 hM5 => ?_⟩
      obtain ⟨k, rfl⟩ := Int.eq_ofNat_of_zero_le w1
      refine ⟨1, (k : Int), rfl, rfl, 2, 1 + (k : Int), rfl, rfl, .inl ⟨by decide, by decide⟩, ?_⟩
      refine ⟨m, lc, lg, nb + 1 + 1, 2 * (1 + k), by rw [show ((2 * (1 + k) : Nat) : Int) = 2 * (1 + (k : Int)) by omega]; rfl, hM5, by omega, by omega, by omega, fun v js H6 sx6 hM6 y6 g => ?_⟩
      refine ⟨v, 2 * (1 + k), js, rfl, y6, g, by omega, fun H7 s7 => ⟨true, rfl, iteF ?_⟩⟩
      exact ⟨_, _, rfl, hM6.up s7, by omega⟩
    · rintro σ H2 ⟨y2, nb, rfl, hM2, hnb⟩
      dsimp only
      refine seq_i (asg_i (dsp_ok (K := K) (d := .list (LL.map (layD 2))) ?_ fun v3 H3 s3 hd3 => gn ?_))
      · exact .lst (.cons (dsL (n := 2) rfl .nil (by decide)) (.cons (dsL (n := 2) rfl (.cons (dsP (a := 0) (b := 1) rfl rfl) .nil) (by decide)) (.cons (dsL (n := 2) rfl (.cons (dsP (a := 0) (b := 2) rfl rfl) .nil) (by decide)) (.cons (dsL (n := 2) rfl (.cons (dsP (a := 0) (b := 2) rfl rfl) (.cons (dsP (a := 1) (b := 3) rfl rfl) .nil)) (by decide)) (.cons (dsL (n := 2) rfl (.cons (dsP (a := 0) (b := 1) rfl rfl) (.cons (dsP (a := 2) (b := 3) rfl rfl) .nil)) (by decide)) (.cons (dsL (n := 2) rfl (.cons (dsP (a := 0) (b := 3) rfl rfl) .nil) (by decide)) .nil)))))) (by decide)
      obtain ⟨l3, us3, rfl, h3, d3⟩ : ∃ l us, v3 = .ref l ∧ SqL K H3 l us ∧ DpAll K H3 us (LL.map (layD 2)) := by
        cases hd3 with
        | lst h d => exact ⟨_, _, rfl, h, d⟩
      have lu : us3.length = 6 := by rw [dpAll_len d3]; rfl
      dsimp only
      refine seq_i ?_
      refine ⟨_, rfl, l3, rfl, ⟨_, h3⟩, fun D nD => ?_⟩
      refine lc_it (walk_list (xs := us3)) (fun i H' => ∃ acc : List V, Same H3 H' ∧ H' D = some (.lst acc) ∧ Paired (RV K H') acc (LL.take i) ∧ acc.length ≤ i) ⟨[], Same.new nD, upd_same, .nil, Nat.le_refl _⟩ (fun i H' _ hq => by
        obtain ⟨_, s', _⟩ := hq
        exact extN_l (ExtN.of s') h3) ?_ ?_
      · rintro i z Ha Hb hi ⟨acc, s', hD, hP, la⟩ ⟨rfl, ez⟩
        obtain ⟨d, ed, dd⟩ := dpAll_at d3 ez
        rw [List.getElem?_map] at ed
        obtain ⟨js, ej, rfl⟩ := Option.map_eq_some_iff.mp ed
        have g := LL_good js (List.mem_of_getElem? ej)
        have yz := dp_ly (Dp.up s' dd)
        refine ⟨rfl, ?_⟩
        refine yesT ?_
        refine ⟨_, rfl, z, 2, js, rfl, yz, g, rfl, fun H4 s4 => ?_⟩
        refine ⟨_, rfl, z, 2, js, rfl, yz.up s4, g, rfl, fun r us H5 s5 nr hr' dp => ⟨by show 2 ≤ sizeLine; decide, fun T nT => ?_⟩⟩
        have xT := Same.new (o := .tup [.int (hcJ 2 js), .ref r]) nT
        have sZ := s4.trans (s5.trans xT)
        have hDz := sZ _ _ hD
        refine ⟨acc, hDz, ?_, acc ++ [.ref T], same_put (s'.trans sZ) nD, upd_same, ?_, by rw [List.length_append]; exact Nat.succ_le_succ la⟩
        · rw [lu] at hi
          exact Nat.lt_of_le_of_lt (show acc.length ≤ 1000 by omega) (by decide)
        · rw [take_next ej]
          refine pair_snoc (rv_up (fun h => sqT_put h hDz) (rv_up (fun h => Same.t sZ h) hP)) ⟨T, r, us, rfl, sqT_put (SqT.of upd_same) hDz, sqT_put (SqT.of (xT _ _ hr')) hDz, pcv_up (fun h => sqT_put h hDz) (dp_pcv (DC.DpAll.up xT dp))⟩
      rintro H4 ⟨acc, s4, hD, hP, la⟩
      rw [List.take_of_length_le (by rw [lu]; decide)] at hP
      replace hP := rv_dp hP
      refine gn ?_
      dsimp only
      refine seq_i (asg_i (lst_i (dspA_ok (K := K) (ds := due1) ?_ fun xs5 H5 s5 d5 => ⟨?_, fun p5 n5 => gn ?_⟩)))
      · exact .cons (.tup (.cons (.int _) (.cons (.tup (.cons (.tup (.cons (.str _) (.cons (.int _) .nil)) (by decide)) (.cons (.tup (.cons (.str _) (.cons (.int _) .nil)) (by decide)) .nil)) (by decide)) .nil)) (by decide)) (.cons (.tup (.cons (.int _) (.cons (.tup (.cons (.tup (.cons (.str _) (.cons (.int _) .nil)) (by decide)) .nil) (by decide)) .nil)) (by decide)) (.cons (.tup (.cons (.int _) (.cons (.tup (.cons (.tup (.cons (.str _) (.cons (.int _) .nil)) (by decide)) (.cons (.tup (.cons (.str _) (.cons (.int _) .nil)) (by decide)) .nil)) (by decide)) .nil)) (by decide)) .nil))
      · rw [dpAll_len d5]; decide
      have x5 := Same.new (o := .lst xs5) n5
      dsimp only
      refine seq_i (asg_i ⟨_, rfl, lst_i (dspA_ok (K := K) (ds := due2) ?_ fun xs6 H6 s6 d6 => ⟨?_, fun p6 n6 => ⟨p5, p6, xs5, xs6, rfl, rfl, ?_, upd_same, ?_, fun p7 n7 => gn ?_⟩⟩)⟩)
      · exact .cons (.tup (.cons (.int _) (.cons (.tup (.cons (.tup (.cons (.str _) (.cons (.int _) .nil)) (by decide)) (.cons (.tup (.cons (.str _) (.cons (.int _) .nil)) (by decide)) .nil)) (by decide)) .nil)) (by decide)) (.cons (.tup (.cons (.int _) (.cons (.tup (.cons (.tup (.cons (.str _) (.cons (.int _) .nil)) (by decide)) .nil) (by decide)) .nil)) (by decide)) (.cons (.tup (.cons (.int _) (.cons (.tup (.cons (.tup (.cons (.str _) (.cons (.int _) .nil)) (by decide)) .nil) (by decide)) .nil)) (by decide)) .nil))
      · rw [dpAll_len d6]; decide
      · exact (s6.trans (Same.new (o := .lst xs6) n6)) _ _ upd_same
      · rw [dpAll_len d5, dpAll_len d6]; decide
      have x6 := Same.new (o := .lst xs6) n6
      have x7 := Same.new (o := .lst (xs5 ++ xs6)) n7
      have s67 := s6.trans (x6.trans x7)
      have sall := s5.trans (x5.trans s67)
      have dd : DpAll K _ (xs5 ++ xs6) (due1 ++ due2) := dpAll_app (DC.DpAll.up (x5.trans s67) d5) (DC.DpAll.up (x6.trans x7) d6)
      rw [res_due] at hP
      refine ⟨_, rfl, _, rfl, .list (due1 ++ due2), .list (due1 ++ due2), Dp.lst (SqL.of (sall _ _ hD)) (DC.DpAll.up sall hP), Dp.lst (SqL.of upd_same) dd, by decide +kernel, by decide +kernel, ?_⟩
      rw [show PyData.eqv (.list (due1 ++ due2)) (.list (due1 ++ due2)) = true by decide +kernel]
      exact q _
end
end K37
-- K37zd
set_option Elab.async false
set_option linter.all false
set_option maxRecDepth 100000
set_option maxHeartbeats 4000000
namespace K37
open PySem L2 DC
/-- a def as it stands in the top's heap -/
structure Hd (K : PySem.W.Frag) (x : Str) (st : Stmt) (f : Addr) (fd : FuncData) : Prop where
  a : PySem.W.nsIn K mainGlobals x = some (some (.ref f))
  F : Fun K x x st f fd
theorem hd_mk {K : PySem.W.Frag} {x : Str} {st : Stmt} {f : Addr} {oc : Value} {od an : Option Addr} {osl : Array (Option Value)} {kV doc pm cdv ct : Value} (a : PySem.W.nsIn K mainGlobals x = some (some (.ref f)))
    (l : K.lookup f = some ⟨oc, od, .func (PySem.W.fnOf x x (defArgs st) (defBody st) (defScope st) .none kV doc pm an cdv ct), osl⟩) (c : PySem.W.codeIn K cdv x = true) (k : PySem.W.keepIn K (.ref f) = true) :
    Hd K x st f (PySem.W.fnOf x x (defArgs st) (defBody st) (defScope st) .none kV doc pm an cdv ct) := ⟨a, fun_mk l c k⟩
theorem all_mk {l : PySem.W.OpenLaw} {w : World} {K : PySem.W.Frag} {h : Heap} {mg : Str → Option Value} {fa f5 f6 f7 f8 f9 f11 f12 f13 f14 f16 f17 f18 f19 f20 f21 f22 f24 f25 f27 f28 f29 f30 f31 f32 f34 f35 f37 f38 f39 f40 f41 f42 f43 f44 f45 f46 f47 f48 f49 f50 f51 f52 f53 : Addr} {fd5 fd6 fd7 fd8 fd9 fd11 fd12 fd13 fd14 fd16 fd17 fd18 fd19 fd20 fd21 fd22 fd24 fd25 fd27 fd28 fd29 fd30 fd31 fd32 fd34 fd35 fd37 fd38 fd39 fd40 fd41 fd42 fd43 fd44 fd45 fd46 fd47 fd48 fd49 fd50 fd51 fd52 fd53 : FuncData} {tm : Tok}
    (X : K.In h) (G : h.Ns mainGlobals mg) (hfa : mg "law" = some (.ref fa))
    (h5 : Hd K "is_int" (top 5) f5 fd5)
    (h6 : Hd K "is_from" (top 6) f6 fd6)
    (h7 : Hd K "is_pair" (top 7) f7 fd7)
    (h8 : Hd K "is_joint" (top 8) f8 fd8)
    (h9 : Hd K "false_joint" (top 9) f9 fd9)
    (h11 : Hd K "need_lay" (top 11) f11 fd11)
    (h12 : Hd K "joint_of" (top 12) f12 fd12)
    (h13 : Hd K "mates" (top 13) f13 fd13)
    (h14 : Hd K "free_of" (top 14) f14 fd14)
    (h16 : Hd K "pairings" (top 16) f16 fd16)
    (h17 : Hd K "doubles" (top 17) f17 fd17)
    (h18 : Hd K "shifts" (top 18) f18 fd18)
    (h19 : Hd K "joins" (top 19) f19 fd19)
    (h20 : Hd K "cuts" (top 20) f20 fd20)
    (h21 : Hd K "steps_of" (top 21) f21 fd21)
    (h22 : Hd K "stepped" (top 22) f22 fd22)
    (h24 : Hd K "need_doubled" (top 24) f24 fd24)
    (h25 : Hd K "twin_of" (top 25) f25 fd25)
    (h27 : Hd K "count_ties" (top 27) f27 fd27)
    (h28 : Hd K "twin_web" (top 28) f28 fd28)
    (h29 : Hd K "cost_of_pieces" (top 29) f29 fd29)
    (h30 : Hd K "cost_to_half" (top 30) f30 fd30)
    (h31 : Hd K "twin_pieces" (top 31) f31 fd31)
    (h32 : Hd K "halving_cost" (top 32) f32 fd32)
    (h34 : Hd K "good_from" (top 34) f34 fd34)
    (h35 : Hd K "good_halvings" (top 35) f35 fd35)
    (h37 : Hd K "_law_mixed" (top 37) f37 fd37)
    (h38 : Hd K "_law_folded" (top 38) f38 fd38)
    (h39 : Hd K "_law_draw" (top 39) f39 fd39)
    (h40 : Hd K "_law_begun" (top 40) f40 fd40)
    (h41 : Hd K "_law_like" (top 41) f41 fd41)
    (h42 : Hd K "_law_shuffled" (top 42) f42 fd42)
    (h43 : Hd K "_law_pair" (top 43) f43 fd43)
    (h44 : Hd K "_law_mates" (top 44) f44 fd44)
    (h45 : Hd K "_law_any_lay" (top 45) f45 fd45)
    (h46 : Hd K "_law_steps" (top 46) f46 fd46)
    (h47 : Hd K "_law_after" (top 47) f47 fd47)
    (h48 : Hd K "_law_twin" (top 48) f48 fd48)
    (h49 : Hd K "_law_twin_pieces" (top 49) f49 fd49)
    (h50 : Hd K "_law_halving_cost" (top 50) f50 fd50)
    (h51 : Hd K "_law_is_perfect" (top 51) f51 fd51)
    (h52 : Hd K "_law_right" (top 52) f52 fd52)
    (h53 : Hd K "law" (top 53) f53 fd53)
    (hM : PySem.W.nsIn K mainGlobals "MOST_LINKS" = some (some (.int 12 tm)))
    (z_isinstance : PySem.W.nsIn K mainGlobals "isinstance" = some none)
    (z_int : PySem.W.nsIn K mainGlobals "int" = some none)
    (z_bool : PySem.W.nsIn K mainGlobals "bool" = some none)
    (z_tuple : PySem.W.nsIn K mainGlobals "tuple" = some none)
    (z_len : PySem.W.nsIn K mainGlobals "len" = some none)
    (z_enumerate : PySem.W.nsIn K mainGlobals "enumerate" = some none)
    (z_range : PySem.W.nsIn K mainGlobals "range" = some none)
    (z_list : PySem.W.nsIn K mainGlobals "list" = some none)
    (z_repr : PySem.W.nsIn K mainGlobals "repr" = some none)
    (z_sorted : PySem.W.nsIn K mainGlobals "sorted" = some none)
    (z_sum : PySem.W.nsIn K mainGlobals "sum" = some none)
    (z_min : PySem.W.nsIn K mainGlobals "min" = some none)
    (z_max : PySem.W.nsIn K mainGlobals "max" = some none)
    (z_abs : PySem.W.nsIn K mainGlobals "abs" = some none)
    (z_zip : PySem.W.nsIn K mainGlobals "zip" = some none)
    (z_all : PySem.W.nsIn K mainGlobals "all" = some none)
    (hb : ∀ (s : Shared) (v : Value), BindsTo s fd53 ⟨[v], []⟩ [("script", v)]) :
    ∃ fd : FuncData, (∀ (s : Shared) (v : Value), BindsTo s fd ⟨[v], []⟩ [("script", v)]) ∧ ∀ base : Heap, K.In base → base.Ns mainGlobals mg → OkG l.prog w K mg base CX0 9 fa fd ["script"] (spLaw K) := by
  have e := hfa.symm.trans (PySem.W.mg_of X G h53.a)
  cases e
  have B : Bn mg := ⟨PySem.W.mg_none_of X G z_isinstance, PySem.W.mg_none_of X G z_int, PySem.W.mg_none_of X G z_bool, PySem.W.mg_none_of X G z_tuple, PySem.W.mg_none_of X G z_len, PySem.W.mg_none_of X G z_enumerate, PySem.W.mg_none_of X G z_range, PySem.W.mg_none_of X G z_list, PySem.W.mg_none_of X G z_repr, PySem.W.mg_none_of X G z_sorted, PySem.W.mg_none_of X G z_sum, PySem.W.mg_none_of X G z_min, PySem.W.mg_none_of X G z_max, PySem.W.mg_none_of X G z_abs, PySem.W.mg_none_of X G z_zip, PySem.W.mg_none_of X G z_all⟩
  have hM := PySem.W.mg_of X G hM
  have D5 : Df K mg "is_int" f5 fd5 ["value"] := ⟨PySem.W.mg_of X G h5.a, h5.F.kp, h5.F.binds (ps := ["value"]) fun _ _ _ _ _ _ us hl => match us, hl with | [_], _ => rfl⟩
  have D6 : Df K mg "is_from" f6 fd6 ["value", "least", "most"] := ⟨PySem.W.mg_of X G h6.a, h6.F.kp, h6.F.binds (ps := ["value", "least", "most"]) fun _ _ _ _ _ _ us hl => match us, hl with | [_, _, _], _ => rfl⟩
  have D7 : Df K mg "is_pair" f7 fd7 ["value"] := ⟨PySem.W.mg_of X G h7.a, h7.F.kp, h7.F.binds (ps := ["value"]) fun _ _ _ _ _ _ us hl => match us, hl with | [_], _ => rfl⟩
  have D8 : Df K mg "is_joint" f8 fd8 ["value", "links"] := ⟨PySem.W.mg_of X G h8.a, h8.F.kp, h8.F.binds (ps := ["value", "links"]) fun _ _ _ _ _ _ us hl => match us, hl with | [_, _], _ => rfl⟩
  have D9 : Df K mg "false_joint" f9 fd9 ["joints", "links"] := ⟨PySem.W.mg_of X G h9.a, h9.F.kp, h9.F.binds (ps := ["joints", "links"]) fun _ _ _ _ _ _ us hl => match us, hl with | [_, _], _ => rfl⟩
  have D11 : Df K mg "need_lay" f11 fd11 ["lay"] := ⟨PySem.W.mg_of X G h11.a, h11.F.kp, h11.F.binds (ps := ["lay"]) fun _ _ _ _ _ _ us hl => match us, hl with | [_], _ => rfl⟩
  have D12 : Df K mg "joint_of" f12 fd12 ["one", "other"] := ⟨PySem.W.mg_of X G h12.a, h12.F.kp, h12.F.binds (ps := ["one", "other"]) fun _ _ _ _ _ _ us hl => match us, hl with | [_, _], _ => rfl⟩
  have D13 : Df K mg "mates" f13 fd13 ["lay"] := ⟨PySem.W.mg_of X G h13.a, h13.F.kp, h13.F.binds (ps := ["lay"]) fun _ _ _ _ _ _ us hl => match us, hl with | [_], _ => rfl⟩
  have D14 : Df K mg "free_of" f14 fd14 ["lay"] := ⟨PySem.W.mg_of X G h14.a, h14.F.kp, h14.F.binds (ps := ["lay"]) fun _ _ _ _ _ _ us hl => match us, hl with | [_], _ => rfl⟩
  have D16 : Df K mg "pairings" f16 fd16 ["one", "other"] := ⟨PySem.W.mg_of X G h16.a, h16.F.kp, h16.F.binds (ps := ["one", "other"]) fun _ _ _ _ _ _ us hl => match us, hl with | [_, _], _ => rfl⟩
  have D17 : Df K mg "doubles" f17 fd17 ["joints"] := ⟨PySem.W.mg_of X G h17.a, h17.F.kp, h17.F.binds (ps := ["joints"]) fun _ _ _ _ _ _ us hl => match us, hl with | [_], _ => rfl⟩
  have D18 : Df K mg "shifts" f18 fd18 ["joints", "free"] := ⟨PySem.W.mg_of X G h18.a, h18.F.kp, h18.F.binds (ps := ["joints", "free"]) fun _ _ _ _ _ _ us hl => match us, hl with | [_, _], _ => rfl⟩
  have D19 : Df K mg "joins" f19 fd19 ["free"] := ⟨PySem.W.mg_of X G h19.a, h19.F.kp, h19.F.binds (ps := ["free"]) fun _ _ _ _ _ _ us hl => match us, hl with | [_], _ => rfl⟩
  have D20 : Df K mg "cuts" f20 fd20 ["joints"] := ⟨PySem.W.mg_of X G h20.a, h20.F.kp, h20.F.binds (ps := ["joints"]) fun _ _ _ _ _ _ us hl => match us, hl with | [_], _ => rfl⟩
  have D21 : Df K mg "steps_of" f21 fd21 ["lay"] := ⟨PySem.W.mg_of X G h21.a, h21.F.kp, h21.F.binds (ps := ["lay"]) fun _ _ _ _ _ _ us hl => match us, hl with | [_], _ => rfl⟩
  have D22 : Df K mg "stepped" f22 fd22 ["lay", "step"] := ⟨PySem.W.mg_of X G h22.a, h22.F.kp, h22.F.binds (ps := ["lay", "step"]) fun _ _ _ _ _ _ us hl => match us, hl with | [_, _], _ => rfl⟩
  have D24 : Df K mg "need_doubled" f24 fd24 ["lay"] := ⟨PySem.W.mg_of X G h24.a, h24.F.kp, h24.F.binds (ps := ["lay"]) fun _ _ _ _ _ _ us hl => match us, hl with | [_], _ => rfl⟩
  have D25 : Df K mg "twin_of" f25 fd25 ["end", "links"] := ⟨PySem.W.mg_of X G h25.a, h25.F.kp, h25.F.binds (ps := ["end", "links"]) fun _ _ _ _ _ _ us hl => match us, hl with | [_, _], _ => rfl⟩
  have D27 : Df K mg "count_ties" f27 fd27 ["mate", "begun", "seen"] := ⟨PySem.W.mg_of X G h27.a, h27.F.kp, h27.F.binds (ps := ["mate", "begun", "seen"]) fun _ _ _ _ _ _ us hl => match us, hl with | [_, _, _], _ => rfl⟩
  have D28 : Df K mg "twin_web" f28 fd28 ["lay"] := ⟨PySem.W.mg_of X G h28.a, h28.F.kp, h28.F.binds (ps := ["lay"]) fun _ _ _ _ _ _ us hl => match us, hl with | [_], _ => rfl⟩
  have D29 : Df K mg "cost_of_pieces" f29 fd29 ["parts"] := ⟨PySem.W.mg_of X G h29.a, h29.F.kp, h29.F.binds (ps := ["parts"]) fun _ _ _ _ _ _ us hl => match us, hl with | [_], _ => rfl⟩
  have D30 : Df K mg "cost_to_half" f30 fd30 ["lay"] := ⟨PySem.W.mg_of X G h30.a, h30.F.kp, h30.F.binds (ps := ["lay"]) fun _ _ _ _ _ _ us hl => match us, hl with | [_], _ => rfl⟩
  have D31 : Df K mg "twin_pieces" f31 fd31 ["lay"] := ⟨PySem.W.mg_of X G h31.a, h31.F.kp, h31.F.binds (ps := ["lay"]) fun _ _ _ _ _ _ us hl => match us, hl with | [_], _ => rfl⟩
  have D32 : Df K mg "halving_cost" f32 fd32 ["lay"] := ⟨PySem.W.mg_of X G h32.a, h32.F.kp, h32.F.binds (ps := ["lay"]) fun _ _ _ _ _ _ us hl => match us, hl with | [_], _ => rfl⟩
  have D34 : Df K mg "good_from" f34 fd34 ["lay"] := ⟨PySem.W.mg_of X G h34.a, h34.F.kp, h34.F.binds (ps := ["lay"]) fun _ _ _ _ _ _ us hl => match us, hl with | [_], _ => rfl⟩
  have D35 : Df K mg "good_halvings" f35 fd35 ["lay"] := ⟨PySem.W.mg_of X G h35.a, h35.F.kp, h35.F.binds (ps := ["lay"]) fun _ _ _ _ _ _ us hl => match us, hl with | [_], _ => rfl⟩
  have D37 : Df K mg "_law_mixed" f37 fd37 ["cell", "n"] := ⟨PySem.W.mg_of X G h37.a, h37.F.kp, h37.F.binds (ps := ["cell", "n"]) fun _ _ _ _ _ _ us hl => match us, hl with | [_, _], _ => rfl⟩
  have D38 : Df K mg "_law_folded" f38 fd38 ["script"] := ⟨PySem.W.mg_of X G h38.a, h38.F.kp, h38.F.binds (ps := ["script"]) fun _ _ _ _ _ _ us hl => match us, hl with | [_], _ => rfl⟩
  have D39 : Df K mg "_law_draw" f39 fd39 ["m", "limit"] := ⟨PySem.W.mg_of X G h39.a, h39.F.kp, h39.F.binds (ps := ["m", "limit"]) fun _ _ _ _ _ _ us hl => match us, hl with | [_, _], _ => rfl⟩
  have D40 : Df K mg "_law_begun" f40 fd40 ["script"] := ⟨PySem.W.mg_of X G h40.a, h40.F.kp, h40.F.binds (ps := ["script"]) fun _ _ _ _ _ _ us hl => match us, hl with | [_], _ => rfl⟩
  have D41 : Df K mg "_law_like" f41 fd41 ["got", "due"] := ⟨PySem.W.mg_of X G h41.a, h41.F.kp, h41.F.binds (ps := ["got", "due"]) fun _ _ _ _ _ _ us hl => match us, hl with | [_, _], _ => rfl⟩
  have D42 : Df K mg "_law_shuffled" f42 fd42 ["m", "many"] := ⟨PySem.W.mg_of X G h42.a, h42.F.kp, h42.F.binds (ps := ["m", "many"]) fun _ _ _ _ _ _ us hl => match us, hl with | [_, _], _ => rfl⟩
  have D43 : Df K mg "_law_pair" f43 fd43 ["one", "other"] := ⟨PySem.W.mg_of X G h43.a, h43.F.kp, h43.F.binds (ps := ["one", "other"]) fun _ _ _ _ _ _ us hl => match us, hl with | [_, _], _ => rfl⟩
  have D44 : Df K mg "_law_mates" f44 fd44 ["lay_so"] := ⟨PySem.W.mg_of X G h44.a, h44.F.kp, h44.F.binds (ps := ["lay_so"]) fun _ _ _ _ _ _ us hl => match us, hl with | [_], _ => rfl⟩
  have D45 : Df K mg "_law_any_lay" f45 fd45 ["m", "many"] := ⟨PySem.W.mg_of X G h45.a, h45.F.kp, h45.F.binds (ps := ["m", "many"]) fun _ _ _ _ _ _ us hl => match us, hl with | [_, _], _ => rfl⟩
  have D46 : Df K mg "_law_steps" f46 fd46 ["lay_so"] := ⟨PySem.W.mg_of X G h46.a, h46.F.kp, h46.F.binds (ps := ["lay_so"]) fun _ _ _ _ _ _ us hl => match us, hl with | [_], _ => rfl⟩
  have D47 : Df K mg "_law_after" f47 fd47 ["lay_so", "step_so"] := ⟨PySem.W.mg_of X G h47.a, h47.F.kp, h47.F.binds (ps := ["lay_so", "step_so"]) fun _ _ _ _ _ _ us hl => match us, hl with | [_, _], _ => rfl⟩
  have D48 : Df K mg "_law_twin" f48 fd48 ["many", "end"] := ⟨PySem.W.mg_of X G h48.a, h48.F.kp, h48.F.binds (ps := ["many", "end"]) fun _ _ _ _ _ _ us hl => match us, hl with | [_, _], _ => rfl⟩
  have D49 : Df K mg "_law_twin_pieces" f49 fd49 ["lay_so"] := ⟨PySem.W.mg_of X G h49.a, h49.F.kp, h49.F.binds (ps := ["lay_so"]) fun _ _ _ _ _ _ us hl => match us, hl with | [_], _ => rfl⟩
  have D50 : Df K mg "_law_halving_cost" f50 fd50 ["lay_so"] := ⟨PySem.W.mg_of X G h50.a, h50.F.kp, h50.F.binds (ps := ["lay_so"]) fun _ _ _ _ _ _ us hl => match us, hl with | [_], _ => rfl⟩
  have D51 : Df K mg "_law_is_perfect" f51 fd51 ["lay_so"] := ⟨PySem.W.mg_of X G h51.a, h51.F.kp, h51.F.binds (ps := ["lay_so"]) fun _ _ _ _ _ _ us hl => match us, hl with | [_], _ => rfl⟩
  have D52 : Df K mg "_law_right" f52 fd52 ["lay_so"] := ⟨PySem.W.mg_of X G h52.a, h52.F.kp, h52.F.binds (ps := ["lay_so"]) fun _ _ _ _ _ _ us hl => match us, hl with | [_], _ => rfl⟩
  refine ⟨fd53, hb, fun base _ _ => ?_⟩
  have G5 : OkF l.prog w K mg base 1 f5 fd5 ["value"] spInt := ok7 h5.F B
  have G6 := ok8 h6.F D5 G5
  have G7 : OkF l.prog w K mg base 1 f7 fd7 ["value"] (spPair K) := ok9 h7.F B
  have G8 := ok10 h8.F D6 G6 D7 G7
  have G9 := ok11 h9.F B D8 G8
  have G11 := ok13 h11.F B hM D6 G6 D7 G7 D9 G9
  have G12 : OkF l.prog w K mg base 1 f12 fd12 ["one", "other"] (spJt K) := okJt h12.F B
  have G13 : OkF l.prog w K mg base 1 f13 fd13 ["lay"] (spMates K) := ok17 h13.F B
  have G14 := okFree h14.F B D13 G13
  have G16 := okPg h16.F D12 G12
  have G17 := okDb h17.F B D16 G16
  have G18 := okSh h18.F D12 G12
  have G19 : OkF l.prog w K mg base 1 f19 fd19 ["free"] (spJoins K) := okJn h19.F B
  have G20 : OkF l.prog w K mg base 1 f20 fd20 ["joints"] (spCuts K) := okCu h20.F
  have G21 := okSo h21.F B D14 G14 D17 G17 D18 G18 D20 G20 D19 G19
  have G22 : OkF l.prog w K mg base 1 f22 fd22 ["lay", "step"] (spAf K) := okSp h22.F B
  have G24 := okNe h24.F D11 G11
  have G25 : OkF l.prog w K mg base 1 f25 fd25 ["end", "links"] spTn := okTn h25.F
  have G27 := okCt h27.F B D25 G25
  have G28 := okTb h28.F B D13 G13 D14 G14 D27 G27
  have G29 : OkF l.prog w K mg base 1 f29 fd29 ["parts"] (spCp K) := okCp h29.F B
  have G30 := okCh h30.F D28 G28 D29 G29
  have G31 := okTp h31.F D24 G24 D28 G28
  have G32 := okHc h32.F D24 G24 D30 G30
  have G34 := okGf h34.F D30 G30 D21 G21 D22 G22
  have G35 := okGh h35.F B D24 G24 D34 G34
  have G37 : OkF l.prog w K mg base 1 f37 fd37 ["cell", "n"] spMixed := ok38 h37.F B
  have G38 : OkF l.prog w K mg base 1 f38 fd38 ["script"] (spFold K) := ok39 h38.F B
  have G39 := ok40 h39.F B D37 G37
  have G40 := ok41 h40.F B D38 G38
  have G41 : OkF l.prog w K mg base 1 f41 fd41 ["got", "due"] (spLike K) := ok42 h41.F B
  have G42 := okShf h42.F B D39 G39
  have G43 : OkF l.prog w K mg base 1 f43 fd43 ["one", "other"] spPa := okPa h43.F B
  have G44 : OkF l.prog w K mg base 1 f44 fd44 ["lay_so"] (spMates K) := okMt h44.F B
  have G45 := okAl h45.F B D39 G39 D42 G42 D43 G43
  have G46 := okSts h46.F B D44 G44 D43 G43
  have G47 : OkF l.prog w K mg base 1 f47 fd47 ["lay_so", "step_so"] (spAfL K) := okAf h47.F B
  have G48 : OkF l.prog w K mg base 1 f48 fd48 ["many", "end"] spLt := okLt h48.F B
  have G49 := okLtp h49.F B D44 G44 D48 G48
  have G50 := okLhc h50.F B D49 G49
  have G51 := okLp h51.F B D48 G48 D43 G43
  have G52 := okRi h52.F B D49 G49 D50 G50 D31 G31 D32 G32 D41 G41 D51 G51 D46 G46 D47 G47 D35 G35
  exact okLaw h53.F B D40 G40 D39 G39 D45 G45 D52 G52 D32 G32 D31 G31
theorem walk {l : PySem.W.OpenLaw} {q : Program} {loose : List Str} {XP : (Str → Option Value) → Heap → Prop} {YP : World → Heap → Prop} {d : DefRec} {K : Params → PySem.W.Frag} (hn : l.most = some 63) (hdf : d.params.defaults = [])
    (hY : ∀ (w : World) (h : Heap), YP w h → (K w.params).In h)
    (F : ∀ (w : World) (mg : Str → Option Value) (fa : Addr) (h : Heap), (K w.params).In h → h.Ns mainGlobals mg → mg d.name = some (.ref fa) →
      ∃ fd : FuncData, (∀ (s : Shared) (u : Value), BindsTo s fd ⟨[u], []⟩ [("script", u)]) ∧ ∀ base : Heap, (K w.params).In base → base.Ns mainGlobals mg → OkG l.prog w (K w.params) mg base CX0 9 fa fd ["script"] (spLaw (K w.params))) :
    PySem.W.WalkO q loose XP YP l.row.toRowW d [] (fun f vs => PySem.call f vs) :=
  walkG (n := 63) (k := 9) (x := "script") (cx := fun _ => CX0) (sp := fun w => spLaw (K w.params)) hn (by decide) hdf ⟨rfl, by decide, by decide⟩ hY F (fun _ _ a ns hl _ hS => ⟨a, ns, rfl, hS, hl, fun _ => rfl⟩) fun _ _ _ _ _ z => z
end K37
-- K37zz
set_option Elab.async false
set_option linter.all false
set_option maxRecDepth 100000
open PySem PySem.W PyProof.Rows in
set_option maxHeartbeats 0 in
theorem PySem.Challenge.cw_doublecut_k37_whole_twin_webs_holds : PySem.Challenge.rw_doublecut_k37_whole_twin_webs.Holds := by
  w_on; o_law; k_head; (case hw => w_witness2)
  k_fill
  refine K37.walk (l := PySem.Challenge.rw_doublecut_k37_whole_twin_webs) rfl rfl (fun w h Y => PySem.W.kIn_of Y) ?F
  case F =>
    intro w mg fa h KX G hmg
    refine' K37.all_mk KX G hmg (K37.hd_mk ?a5 ?l5 ?c5 ?k5) (K37.hd_mk ?a6 ?l6 ?c6 ?k6) (K37.hd_mk ?a7 ?l7 ?c7 ?k7) (K37.hd_mk ?a8 ?l8 ?c8 ?k8) (K37.hd_mk ?a9 ?l9 ?c9 ?k9) (K37.hd_mk ?a11 ?l11 ?c11 ?k11) (K37.hd_mk ?a12 ?l12 ?c12 ?k12) (K37.hd_mk ?a13 ?l13 ?c13 ?k13) (K37.hd_mk ?a14 ?l14 ?c14 ?k14) (K37.hd_mk ?a16 ?l16 ?c16 ?k16) (K37.hd_mk ?a17 ?l17 ?c17 ?k17) (K37.hd_mk ?a18 ?l18 ?c18 ?k18) (K37.hd_mk ?a19 ?l19 ?c19 ?k19) (K37.hd_mk ?a20 ?l20 ?c20 ?k20) (K37.hd_mk ?a21 ?l21 ?c21 ?k21) (K37.hd_mk ?a22 ?l22 ?c22 ?k22) (K37.hd_mk ?a24 ?l24 ?c24 ?k24) (K37.hd_mk ?a25 ?l25 ?c25 ?k25) (K37.hd_mk ?a27 ?l27 ?c27 ?k27) (K37.hd_mk ?a28 ?l28 ?c28 ?k28) (K37.hd_mk ?a29 ?l29 ?c29 ?k29) (K37.hd_mk ?a30 ?l30 ?c30 ?k30) (K37.hd_mk ?a31 ?l31 ?c31 ?k31) (K37.hd_mk ?a32 ?l32 ?c32 ?k32) (K37.hd_mk ?a34 ?l34 ?c34 ?k34) (K37.hd_mk ?a35 ?l35 ?c35 ?k35) (K37.hd_mk ?a37 ?l37 ?c37 ?k37) (K37.hd_mk ?a38 ?l38 ?c38 ?k38) (K37.hd_mk ?a39 ?l39 ?c39 ?k39) (K37.hd_mk ?a40 ?l40 ?c40 ?k40) (K37.hd_mk ?a41 ?l41 ?c41 ?k41) (K37.hd_mk ?a42 ?l42 ?c42 ?k42) (K37.hd_mk ?a43 ?l43 ?c43 ?k43) (K37.hd_mk ?a44 ?l44 ?c44 ?k44) (K37.hd_mk ?a45 ?l45 ?c45 ?k45) (K37.hd_mk ?a46 ?l46 ?c46 ?k46) (K37.hd_mk ?a47 ?l47 ?c47 ?k47) (K37.hd_mk ?a48 ?l48 ?c48 ?k48) (K37.hd_mk ?a49 ?l49 ?c49 ?k49) (K37.hd_mk ?a50 ?l50 ?c50 ?k50) (K37.hd_mk ?a51 ?l51 ?c51 ?k51) (K37.hd_mk ?a52 ?l52 ?c52 ?k52) (K37.hd_mk ?a53 ?l53 ?c53 ?k53) ?hM ?z_isinstance ?z_int ?z_bool ?z_tuple ?z_len ?z_enumerate ?z_range ?z_list ?z_repr ?z_sorted ?z_sum ?z_min ?z_max ?z_abs ?z_zip ?z_all (fun s v => .of_eq rfl)
    (case a5 => k_is)
    (case l5 => k_is)
    (case c5 => k_is)
    (case k5 => k_is)
    (case a6 => k_is)
    (case l6 => k_is)
    (case c6 => k_is)
    (case k6 => k_is)
    (case a7 => k_is)
    (case l7 => k_is)
    (case c7 => k_is)
    (case k7 => k_is)
    (case a8 => k_is)
    (case l8 => k_is)
    (case c8 => k_is)
    (case k8 => k_is)
    (case a9 => k_is)
    (case l9 => k_is)
    (case c9 => k_is)
    (case k9 => k_is)
    (case a11 => k_is)
    (case l11 => k_is)
    (case c11 => k_is)
    (case k11 => k_is)
    (case a12 => k_is)
    (case l12 => k_is)
    (case c12 => k_is)
    (case k12 => k_is)
    (case a13 => k_is)
    (case l13 => k_is)
    (case c13 => k_is)
    (case k13 => k_is)
    (case a14 => k_is)
    (case l14 => k_is)
    (case c14 => k_is)
    (case k14 => k_is)
    (case a16 => k_is)
    (case l16 => k_is)
    (case c16 => k_is)
    (case k16 => k_is)
    (case a17 => k_is)
    (case l17 => k_is)
    (case c17 => k_is)
    (case k17 => k_is)
    (case a18 => k_is)
    (case l18 => k_is)
    (case c18 => k_is)
    (case k18 => k_is)
    (case a19 => k_is)
    (case l19 => k_is)
    (case c19 => k_is)
    (case k19 => k_is)
    (case a20 => k_is)
    (case l20 => k_is)
    (case c20 => k_is)
    (case k20 => k_is)
    (case a21 => k_is)
    (case l21 => k_is)
    (case c21 => k_is)
    (case k21 => k_is)
    (case a22 => k_is)
    (case l22 => k_is)
    (case c22 => k_is)
    (case k22 => k_is)
    (case a24 => k_is)
    (case l24 => k_is)
    (case c24 => k_is)
    (case k24 => k_is)
    (case a25 => k_is)
    (case l25 => k_is)
    (case c25 => k_is)
    (case k25 => k_is)
    (case a27 => k_is)
    (case l27 => k_is)
    (case c27 => k_is)
    (case k27 => k_is)
    (case a28 => k_is)
    (case l28 => k_is)
    (case c28 => k_is)
    (case k28 => k_is)
    (case a29 => k_is)
    (case l29 => k_is)
    (case c29 => k_is)
    (case k29 => k_is)
    (case a30 => k_is)
    (case l30 => k_is)
    (case c30 => k_is)
    (case k30 => k_is)
    (case a31 => k_is)
    (case l31 => k_is)
    (case c31 => k_is)
    (case k31 => k_is)
    (case a32 => k_is)
    (case l32 => k_is)
    (case c32 => k_is)
    (case k32 => k_is)
    (case a34 => k_is)
    (case l34 => k_is)
    (case c34 => k_is)
    (case k34 => k_is)
    (case a35 => k_is)
    (case l35 => k_is)
    (case c35 => k_is)
    (case k35 => k_is)
    (case a37 => k_is)
    (case l37 => k_is)
    (case c37 => k_is)
    (case k37 => k_is)
    (case a38 => k_is)
    (case l38 => k_is)
    (case c38 => k_is)
    (case k38 => k_is)
    (case a39 => k_is)
    (case l39 => k_is)
    (case c39 => k_is)
    (case k39 => k_is)
    (case a40 => k_is)
    (case l40 => k_is)
    (case c40 => k_is)
    (case k40 => k_is)
    (case a41 => k_is)
    (case l41 => k_is)
    (case c41 => k_is)
    (case k41 => k_is)
    (case a42 => k_is)
    (case l42 => k_is)
    (case c42 => k_is)
    (case k42 => k_is)
    (case a43 => k_is)
    (case l43 => k_is)
    (case c43 => k_is)
    (case k43 => k_is)
    (case a44 => k_is)
    (case l44 => k_is)
    (case c44 => k_is)
    (case k44 => k_is)
    (case a45 => k_is)
    (case l45 => k_is)
    (case c45 => k_is)
    (case k45 => k_is)
    (case a46 => k_is)
    (case l46 => k_is)
    (case c46 => k_is)
    (case k46 => k_is)
    (case a47 => k_is)
    (case l47 => k_is)
    (case c47 => k_is)
    (case k47 => k_is)
    (case a48 => k_is)
    (case l48 => k_is)
    (case c48 => k_is)
    (case k48 => k_is)
    (case a49 => k_is)
    (case l49 => k_is)
    (case c49 => k_is)
    (case k49 => k_is)
    (case a50 => k_is)
    (case l50 => k_is)
    (case c50 => k_is)
    (case k50 => k_is)
    (case a51 => k_is)
    (case l51 => k_is)
    (case c51 => k_is)
    (case k51 => k_is)
    (case a52 => k_is)
    (case l52 => k_is)
    (case c52 => k_is)
    (case k52 => k_is)
    (case a53 => k_is)
    (case l53 => k_is)
    (case c53 => k_is)
    (case k53 => k_is)
    (case hM => k_is)
    (case z_isinstance => k_is)
    (case z_int => k_is)
    (case z_bool => k_is)
    (case z_tuple => k_is)
    (case z_len => k_is)
    (case z_enumerate => k_is)
    (case z_range => k_is)
    (case z_list => k_is)
    (case z_repr => k_is)
    (case z_sorted => k_is)
    (case z_sum => k_is)
    (case z_min => k_is)
    (case z_max => k_is)
    (case z_abs => k_is)
    (case z_zip => k_is)
    (case z_all => k_is)
