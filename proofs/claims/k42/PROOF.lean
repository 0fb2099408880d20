import PyProof.Rows.All
import Wide.All
import OpenK.AllK
import Wide.FinOn
import HandS.ForMost
import HandS.ForExc
import HandS.Gcd
import HandS.IsInst
import HandS.Flow
import HandS.Evl
import HandS.SortRule
import HandS.TupSets
import HandS.Conv
import KE.KMathGC
import HandS.Walk
import KE.GoesEnum
import HandS.TupLe
import PyProof.StrLawsRepr
import KE.SortData
import KE.DataMinMax
import KE.SortKeyHeap
import HandS.Lambda
import HandS.SortKw
import HandS.EndTab
import HandS.Style
import HandS.SetFor
import HandS.Star
import HandS.Deep
import KE.KDictKeyed
import KE.KDictDisplayH
import KE.KNestM
import PySem.Challenge.RW_doublecut_k42_whole_single_steps
-- DG
set_option Elab.async false
set_option linter.all false
set_option maxRecDepth 100000
set_option maxHeartbeats 4000000
/-! DG: a def's promise where no shown object stands around (for repr); repr of data, comb, xs[i] op= e. -/
namespace DC
open PySem PySem.Spec PyProof.Rows L2 Evl

structure OkG (P : Program) (w : World) (K : PySem.W.Frag) (mg : Str → Option Value) (base : Heap)
    (cx : CXT) (k : Nat) (f : Addr) (fd : FuncData) (ps : List Str) (sp : Sp) : Prop where
  cnt : ∀ vs H Q E, sp vs H Q E → vs.length = ps.length
  go : ∀ (A : Around) (outer : List Env) (s : Shared) (H : Hp) (args : Args) (us : List Value) (vs : List V) (Q : VK) (E : XK),
    A.guards = some [] → Room k A → Env0 P w K mg base A outer s H → BindsTo s fd args (ps.zip us) → Vals vs us →
    sp vs H Q E → codeAny (model P w) A (.call (.ref f) args) (CR cx outer P w H s Q E) s

section
variable {P : Program} {w : World} {K : PySem.W.Frag} {mg : Str → Option Value} {base : Heap} {cx : CXT}
  {f : Addr} {fd : FuncData} {ps : List Str} {sp : Sp} {j k : Nat}
theorem OkG.of (F : FnOk P w K mg base cx k f fd ps sp) : OkG P w K mg base cx k f fd ps sp :=
  ⟨F.len, fun A outer s H args us vs Q E _ => F.run A outer s H args us vs Q E⟩
theorem OkG.more (F : OkG P w K mg base cx j f fd ps sp) (h : j ≤ k) : OkG P w K mg base cx k f fd ps sp :=
  ⟨F.cnt, fun A outer s H args us vs Q E g hr => F.go A outer s H args us vs Q E g (hr.mono h)⟩
end

section
variable {X : Cx} {cx : CXT} {k : Nat} {f : Addr} {fd : FuncData} {ps : List Str} {sp : Sp} {dvs : List V} {ds : List Value} {E : XK}
  {x : Str} {p pos : Pos} {e : Expr} {es : List Expr} {t : TA}
theorem goG {pins : List (Addr × Obj)} {σ : L2.St} {H : Hp} {s : Shared} {Q : VK} {us : List Value} {vs : List V}
    (F : OkG X.prog X.w X.K X.mg X.base cx k f fd ps sp) (hgd : X.A.guards = some []) (hr : Room k X.A)
    (hb : Binds X.K fd ps ds) (hd : Vals dvs ds) (hx : Passes cx X E) (I : Inv X pins σ H s) (r : Vals vs us)
    (h : sp (vs ++ dvs) H Q E) : wpAny (model X.prog X.w) X.A (call (.ref f) us) (EP X pins σ Q) X.xe s := by
  have both : Vals (vs ++ dvs) (us ++ ds) := r.append hd
  have len : (us ++ ds).length = ps.length := both.length.symm.trans (F.cnt _ _ _ _ h)
  have run := F.go X.A X.stack s H ⟨us, []⟩ (us ++ ds) (vs ++ dvs) Q E hgd hr I.env0 (hb s us I.kIn len) both h
  refine wpAny_call (codeAny_mono run ?_)
  intro res s' hq
  match res, hq with
  | .error e, hq => exact hx pins σ H s e s' I hq
  | .ok (.ret u), hq => exact I.after hq
theorem callG (F : OkG X.prog X.w X.K X.mg X.base cx k f fd ps sp) (hgd : X.A.guards = some []) (hr : Room k X.A) (hg : Gl X x)
    (hm : X.mg x = some (.ref f)) (hk : PySem.W.keepIn X.K (.ref f) = true) (hb : Binds X.K fd ps ds) (hd : Vals dvs ds)
    (hx : Passes cx X E) (ha : PA X (e :: es) t)
    (hdb : (x == ("__debug__" : Str)) = false := by decide)
    (he : starEach (e :: es) X.env = (false, eval e X.env) :: starEach es X.env := by rfl)
    (hpl : (backTo pos (starEach es X.env)).any (·.1) = false := by rfl) :
    PE X (.Call (.Name x p) (e :: es) [] pos) (tCall sp dvs E t) := by
  constructor
  intro pins s σ H Q I h
  apply wpAny_Call_Name_kw
  apply ld_glob I hg hm _ hdb
  refine PySem.W.callWith_K (h₀ := X.base) I.ok.mod.kin hk (thn (ha.run pos pins s σ H _ I h) ?_) he hpl
  intro us s1 ⟨vs, H1, I1, r, q⟩
  exact ⟨I1.kIn, goG F hgd hr hb hd hx I1 r q⟩
theorem callG0 (F : OkG X.prog X.w X.K X.mg X.base cx k f fd ps sp) (hgd : X.A.guards = some []) (hr : Room k X.A) (hg : Gl X x)
    (hm : X.mg x = some (.ref f)) (hk : PySem.W.keepIn X.K (.ref f) = true) (hb : Binds X.K fd ps ds) (hd : Vals dvs ds)
    (hx : Passes cx X E) (hdb : (x == ("__debug__" : Str)) = false := by decide) :
    PE X (.Call (.Name x p) [] [] pos) (tCall sp dvs E tNil) := by
  constructor
  intro pins s σ H Q I h
  apply wpAny_Call_Name_kw
  apply ld_glob I hg hm _ hdb
  exact PySem.W.callWith_K0 I.kIn hk (goG (us := []) F hgd hr hb hd hx I .nil h)
end

section
variable {P : Program} {w : World} {K : PySem.W.Frag} {mg : Str → Option Value} {base : Heap}
/-- a def of the text, by its body, where no guard stands around -/
theorem okG {cx : CXT} {x qual : Str} {st : Stmt} {f : Addr} {fd : FuncData} {N ps : List Str} {k : Nat} {sp : Sp}
    (F : Fun K x qual st f fd) (S : FnScope N ps (defScope st)) (cnt : ∀ vs H Q E, sp vs H Q E → vs.length = ps.length)
    (body : ∀ (cdv : Value) (A : Around) (outer : List Env) (s : Shared) (H : Hp) (vs : List V) (Q : VK) (E : XK),
      A.guards = some [] → Room k (A.deeper (envOfC qual (defScope st) s.heap.objs.size f cdv)) → sp vs H Q E →
      ∃ t, PSs (cxOf cx P w K mg base N qual (defScope st) f cdv A outer s H E) (defBody st) t ∧
        t { nx := fun _ H' => Q .non H', rt := Q } (start N vs) H) :
    OkG P w K mg base cx (k + 1) f fd ps sp := by
  obtain ⟨oc, od, kV, doc, pm, an, cdv, ct, osl, rfl, lk, hcd⟩ := F.ex
  refine ⟨cnt, ?_⟩
  intro A outer s H args us vs Q E hgd hr e0 hb r hsp
  have hl := cnt _ _ _ _ hsp
  have up : ∀ b o, base.get? b = some o → s.heap.get? b = some o := fun b o e => (e0.bs b o e).1
  have KX : K.In s.heap := e0.mod.kin.keeps up
  have lim : s.heap.NoLimit := e0.mod.nolimit.keeps up
  have kinds : ∀ y ∈ ps.zip us, (defScope st).names.lookup y.1 = some .local ∨
      ((defScope st).names.lookup y.1 = some .cell ∧ ((cellsFrom (s.heap.objs.size + 1) (defScope st).names []).lookup y.1).isSome = true) := by
    rintro ⟨n, v⟩ hy
    cases S.par n (List.of_mem_zip hy).1 with
    | inl q => exact Or.inl q
    | inr q => exact Or.inr ⟨q, PySem.W.cellsFrom_some _ _ _ (Or.inl q)⟩
  refine codeAny_call_function hr.depth (KX _ _ lk) rfl S.co S.gen rfl (PySem.W.codeRec_of KX hcd) (hb _ _ _ _ ?_)
  refine wpAny_newFunctionEnv_cells S.kind kinds ?_
  rintro env rfl s1 x
  refine ⟨lim.keeps x.toInCall.keep, codeAny_func ?_⟩
  obtain ⟨t, ht, hq⟩ := body cdv A outer s H vs Q E hgd (hr.deeper _) hsp
  have I := inv_start (E := E) (CX := cx) (f := f) (qual := qual) (cd := cdv) S hr.hd e0 hl r x
  have ends : ∀ {σ' : L2.St} {H' : Hp} {s' : Shared} {v : V} {u : Value},
      Inv (cxOf cx P w K mg base N qual (defScope st) f cdv A outer s H E) [] σ' H' s' → RelV v u → Q v H' → CE outer P w H s Q u s' :=
    fun J rv q => ⟨_, _, J.os, J.bare, J.base, J.hok, rv, q⟩
  refine wpAny_mono (ht.run [] s1 (start N vs) H _ I hq) ?_ (fun _ _ hs => hs)
  intro fl s' hs
  match fl, hs with
  | .ret u, ⟨v, σ', H', J, rv, q⟩ => exact ends J rv q
  | .next, ⟨σ', H', J, q⟩ => exact ends (v := V.non) (u := Value.none) J rfl q
  | .brk, ⟨_, _, _, q⟩ => exact q.elim
  | .cont, ⟨_, _, _, q⟩ => exact q.elim
end

section
variable {P : Program} {w : World} {K : PySem.W.Frag} {mg : Str → Option Value} {base : Heap}
/-- .. that nothing raised leaves -/
theorem ok0 {x qual : Str} {st : Stmt} {f : Addr} {fd : FuncData} {N ps : List Str} {k : Nat} {sp : Sp}
    (F : Fun K x qual st f fd) (S : FnScope N ps (defScope st)) (cnt : ∀ vs H Q E, sp vs H Q E → vs.length = ps.length)
    (body : ∀ (cdv : Value) (A : Around) (outer : List Env) (s : Shared) (H : Hp) (vs : List V) (Q : VK) (E : XK),
      A.guards = some [] → Room k (A.deeper (envOfC qual (defScope st) s.heap.objs.size f cdv)) → sp vs H Q E →
      ∃ t, PSs (cxOf CX0 P w K mg base N qual (defScope st) f cdv A outer s H E).nox (defBody st) t ∧
        t { nx := fun _ H' => Q .non H', rt := Q } (start N vs) H) :
    OkG P w K mg base CX0 (k + 1) f fd ps sp := by
  refine okG F S cnt ?_
  intro cdv A outer s H vs Q E hgd hr hsp
  obtain ⟨t, h, q⟩ := body cdv A outer s H vs Q E hgd hr hsp
  exact ⟨t, h.nox, q⟩
end

/-! ### data -/
section
variable {K : PySem.W.Frag} {H H' : Hp}
theorem Same.t {a : Addr} {xs : List V} (e : Same H H') (h : SqT K H a xs) : SqT K H' a xs := ex_t e h
mutual
theorem Dp.up (e : Same H H') : ∀ {d : PyData} {v : V}, Dp K H v d → Dp K H' v d
  | _, _, .non => .non
  | _, _, .bl b => .bl b
  | _, _, .int i => .int i
  | _, _, .str x => .str x
  | _, _, .lst h a => .lst (e.seq h) (DpAll.up e a)
  | _, _, .tup h a => .tup (Same.t e h) (DpAll.up e a)
theorem DpAll.up (e : Same H H') : ∀ {ds : List PyData} {vs : List V}, DpAll K H vs ds → DpAll K H' vs ds
  | _, _, .nil => .nil
  | _, _, .cons a b => .cons (Dp.up e a) (DpAll.up e b)
end
theorem Same.new {a : Addr} {o : HO} (h : H a = none) : Same H (upd H a o) := fun b u q => by
  rw [upd_ne (ne_of_none q h)]
  exact q
end

/-! ### repr of data -/
section
variable {X : Cx}
def rRepr (K : PySem.W.Frag) : List V → Hp → VK → Prop := fun vs H Q =>
  ∃ v d, vs = [v] ∧ Dp K H v d ∧ d.showable = true ∧ d.hasDict = false ∧ d.shown.length ≤ sizeLine ∧ d.depth ≤ 60 ∧ Q (.str d.shown) H
theorem cr_repr (hgd : X.A.guards = some []) (hu : X.A.units + 64 < cLine) : CallR X (.builtin "repr") (rRepr X.K) := by
  intro pins s σ H vs us Q I r h
  obtain ⟨v, d, rfl, hd, hs, hn, hz, hp, q⟩ := h
  obtain ⟨u, rfl, ru⟩ : ∃ u, us = [u] ∧ RelV v u := by
    cases r with
    | cons a b => cases b; exact ⟨_, rfl, a⟩
  obtain ⟨as, rd⟩ := Dp.reads I d v u hd ru
  have fin : ∀ (h' : Heap) (tk t : Nat), (∀ b o, s.heap.get? b = some o → h'.get? b = some o) →
      EP X pins σ Q (.str d.shown t) { s with heap := h', toks := tk } :=
    fun h' tk t hk => ⟨.str d.shown, H, I.kept (t' := tk) hk, ⟨t, rfl⟩, q⟩
  cases hd with
  | non => cases ru; exact PySem.P.repr_of_none (fin _ _ _ fun _ _ e => e)
  | bl b => cases ru; exact PySem.P.repr_of_bool (fin _ _ _ fun _ _ e => e)
  | int i =>
    obtain ⟨t, rfl⟩ := ru
    exact PySem.P.repr_of_int (of_decide_eq_true hs) (fin _ _ _ fun _ _ e => e)
  | str z =>
    obtain ⟨t, rfl⟩ := ru
    exact PySem.P.repr_of_str (fin _ _ _ fun _ _ e => e) hz
  | lst h a =>
    cases ru
    exact repr_of_reads' rd hs (PyData.noDict_hsm hn) hgd (by omega) (fun _ _ e => e) (fun h' u tk hk => fin h' tk u hk) hz
  | tup h a =>
    cases ru
    exact repr_of_reads' rd hs (PyData.noDict_hsm hn) hgd (by omega) (fun _ _ e => e) (fun h' u tk hk => fin h' tk u hk) hz
end

/-! ### math.comb -/
section
variable {X : Cx}
def rComb : List V → Hp → VK → Prop := fun vs H Q => ∃ a b : Int, vs = [.int a, .int b] ∧ 0 ≤ a ∧ 0 ≤ b ∧ a < 9000 ∧ Q (.int (PySem.W.mcComb a b)) H
theorem cr_comb : CallR X (.builtin "math.comb") rComb := by
  intro pins s σ H vs us Q I r h
  obtain ⟨a, b, rfl, ha, hb, hs, q⟩ := h
  obtain ⟨t, u, rfl⟩ := Vals.int2 r
  have g := PySem.W.mc_gives_comb t u ha hb (by omega) (Or.inr (by omega))
  exact call_function_meets PySem.W.MGF.kind_comb PySem.W.MGF.plain_comb PySem.W.MGF.entry_comb (PySem.W.MGF.args_comb _ _) g.meets ⟨.int _, H, I.tok _, ⟨_, rfl⟩, q⟩
end

/-! ### xs[i] op= e -/
section
variable {X : Cx}
def rGetL (K : PySem.W.Frag) : V → V → Hp → VK → Prop := fun x y H Q => ∃ a xs i v, x = .ref a ∧ y = .int i ∧ 0 ≤ i ∧ SqL K H a xs ∧ xs[i.toNat]? = some v ∧ Q v H
theorem get_list : PGet X (rGetL X.K) := by
  intro pins s σ H o i ov iv Q I ro ri h
  obtain ⟨a, xs, k, v, rfl, rfl, hk, hq, he, q⟩ := h
  cases ro
  obtain ⟨t, rfl⟩ := ri
  obtain ⟨its, r, pl, hz⟩ := I.list hq
  obtain ⟨w, ew, rw'⟩ := r.get he
  have hl := r.length
  have hn := line63
  have hlt : k.toNat < xs.length := (List.getElem?_eq_some_iff.mp he).1
  exact wpAny_getItem_list pl.isList hk (by omega) (by simpa using ew) ⟨v, H, I, rw', q⟩
end
end DC
-- DW
set_option Elab.async false
set_option linter.all false
set_option maxRecDepth 100000
set_option maxHeartbeats 4000000
namespace DC
open PySem PySem.Spec PyProof.Rows L2 Evl

/-- the law's promise at the heap behind the top, no guard around -/
theorem endG {P : Program} {w : World} {K : PySem.W.Frag} {mg mb : Str → Option Value} {cx : CXT} {k : Nat} {fa a : Addr} {fd : FuncData} {x : Str} {sp : Sp}
    {s₁ : Shared} {vs : List Value} {ns : List Int} (KX : K.In s₁.heap) (hns : s₁.heap.Ns mainGlobals mg) (hb : s₁.heap.Ns builtinsNs mb)
    (hbb : ∀ x : Str, x ≠ "__name__" → mb x = bootBuiltins x) (hlim : s₁.heap.NoLimit) (hg : s₁.gens = #[])
    (ha : s₁.heap.get? a = some { cls := .type "list", data := .seq vs.toArray }) (hi : IntsAre vs ns) (hl : ns.length ≤ sizeLine) (hr : Room k callerA)
    (F : ∀ base : Heap, K.In base → base.Ns mainGlobals mg → OkG P w K mg base cx k fa fd [x] sp)
    (hbind : ∀ (s : Shared) (u : Value), BindsTo s fd ⟨[u], []⟩ [(x, u)])
    (hsp : ∀ H : Hp, Only H → SqL K H a (ns.map V.int) → sp [.ref a] H (fun v _ => v = .bl true) fun _ _ _ => False)
    (hcx : ∀ H e s', cx [] H s₁ (fun _ _ _ => False) e s' → False) :
    codeAny (model P w) callerA (.call (.ref fa) ⟨[.ref a], []⟩)
      (fun r s' => r = .ok (.ret (.bool true)) ∧ OldK s₁.heap s'.heap ∧ s'.os = s₁.os ∧ AllBare s'.gens) s₁ := by
  have vals := vals_ints hi
  have vlen := hi.length
  suffices core : ∀ H : Hp, Only H → SqL K H a (ns.map V.int) → HOk P w H s₁.heap → (∀ b, H b ≠ none → b = a) → (H a ≠ none → K.lookup a = none) →
      codeAny (model P w) callerA (.call (.ref fa) ⟨[.ref a], []⟩)
        (fun r s' => r = .ok (.ret (.bool true)) ∧ OldK s₁.heap s'.heap ∧ s'.os = s₁.os ∧ AllBare s'.gens) s₁ by
    cases hk : K.lookup a with
    | some o =>
      have e := KX a o hk
      rw [ha] at e
      cases e
      refine core (fun _ => none) (fun _ => Or.inl rfl) (Or.inr ⟨_, vs.toArray, _, hk, rfl, rfl, rfl, ?_, ?_⟩) ?_ ?_ ?_
      · rw [List.size_toArray, vlen]; exact hl
      · simpa using vals
      · intro b u z; cases (show (none : Option HO) = some u from z)
      · intro b z; exact absurd rfl z
      · intro z; exact absurd rfl z
    | none =>
      let H : Hp := fun b => if b = a then some (.frz { cls := .type "list", data := .seq vs.toArray } (.lst (ns.map V.int))) else none
      have Ha : H a = some (.frz { cls := .type "list", data := .seq vs.toArray } (.lst (ns.map V.int))) := if_pos rfl
      have Hn : ∀ b, b ≠ a → H b = none := fun b h => if_neg h
      refine core H ?_ (Or.inl (Or.inr ⟨_, Ha⟩)) ?_ ?_ (fun _ => hk)
      · intro b
        by_cases h : b = a
        · subst h; exact Or.inr ⟨_, _, Ha⟩
        · exact Or.inl (Hn b h)
      · intro b u z
        by_cases h : b = a
        · subst h
          cases Ha.symm.trans z
          exact ⟨ha, by rw [List.length_map]; exact hl, vs, _, vals, ha⟩
        · cases (Hn b h).symm.trans z
      · intro b z
        by_cases h : b = a
        · exact h
        · exact absurd (Hn b h) z
  intro H hO hS hok hA hK
  have one : ∀ {b : Addr} {u : HO}, H b = some u → b = a := fun {b u} q => hA b (by rw [q]; exact fun z => nomatch z)
  have keepN : ∀ {b : Addr} {o : Obj}, s₁.heap.get? b = some o → H b = none → (hidT s₁.heap H).get? b = some o := fun e n => hidT_get e n
  have noD : ∀ {b : Addr} {o : Obj} {es : Array DictEntry} {ep : Nat}, s₁.heap.get? b = some o → o.data = .dict es ep → H b = none := by
    intro b o es ep e d
    cases q : H b with
    | none => rfl
    | some u =>
      obtain rfl := one q
      rw [ha] at e
      cases e
      cases (show Data.seq vs.toArray _ = Data.dict es ep from d)
  have nsK : ∀ {b : Addr} {m : Str → Option Value}, s₁.heap.Ns b m → (hidT s₁.heap H).Ns b m := by
    rintro b m ⟨o, es, ep, e, d, r⟩
    exact ⟨o, es, ep, keepN e (noD e d), d, r⟩
  have hKb : K.In (hidT s₁.heap H) := by
    intro b o e
    refine keepN (KX b o e) ?_
    cases q : H b with
    | none => rfl
    | some u =>
      obtain rfl := one q
      rw [hK (by rw [q]; exact fun z => nomatch z)] at e
      cases e
  obtain ⟨mc, l1, l2⟩ := hlim
  have hM : Mod K mg (hidT s₁.heap H) := ⟨hKb, nsK hns, ⟨mb, nsK hb, hbb⟩, ⟨mc, nsK l1, l2⟩⟩
  have nil : ∀ b : Addr, b ∉ ([] : List Addr) := fun b z => nomatch z
  have e0 : Env0 P w K mg (hidT s₁.heap H) callerA [] s₁ H :=
    ⟨rfl, hM, fun b o e => of_hidT e, Nat.le_of_eq (hidT_size _ _), trivial, fun b hb => absurd (show b ∈ ([] : List Addr) from hb) (nil b), hok, .of_eq hg⟩
  have run := (F _ hKb (nsK hns)).go callerA [] s₁ H ⟨[.ref a], []⟩ [.ref a] [.ref a] _ _ rfl hr e0 (hbind s₁ (.ref a)) (.cons rfl .nil) (hsp H hO hS)
  refine codeAny_mono run ?_
  intro r s' h
  match r, h with
  | .error e, h => exact (hcx H e s' h).elim
  | .ok (.ret u), ⟨v, H', os, bare, un, hok', r', q⟩ =>
    obtain rfl : v = .bl true := q
    obtain rfl : u = Value.bool true := r'
    refine ⟨rfl, OldK.of_keep ?_, os, bare⟩
    intro b o e
    cases q : H b with
    | none => exact un.keep b o e q (fun z => absurd (show b ∈ ([] : List Addr) from z) (nil b)) (nil b)
    | some u =>
      rcases hO b with z | ⟨ob, xs, z⟩
      · rw [q] at z; cases z
      · obtain ⟨e1, _⟩ := hok b _ z
        obtain ⟨e2, _⟩ := hok' b _ (un.frzs b ob _ z)
        rw [e] at e1
        cases e1
        exact e2

theorem walkG {l : PySem.W.OpenLaw} {n k : Nat} {q : Program} {loose : List Str} {XP : (Str → Option Value) → Heap → Prop} {YP : World → Heap → Prop}
    {d : DefRec} {K : Params → PySem.W.Frag} {cx : World → CXT} {sp : World → Sp} {x : Str}
    (hn : l.most = some n) (hn2 : n ≤ sizeLine) (hdf : d.params.defaults = []) (hr : Room k callerA)
    (hY : ∀ (w : World) (h : Heap), YP w h → (K w.params).In h)
    (F : ∀ (w : World) (mg : Str → Option Value) (fa : Addr) (h : Heap), (K w.params).In h → h.Ns mainGlobals mg → mg d.name = some (.ref fa) →
      ∃ fd : FuncData, (∀ (s : Shared) (u : Value), BindsTo s fd ⟨[u], []⟩ [(x, u)]) ∧
        ∀ base : Heap, (K w.params).In base → base.Ns mainGlobals mg → OkG l.prog w (K w.params) mg base (cx w) k fa fd [x] (sp w))
    (hsp : ∀ (w : World) (H : Hp) (a : Addr) (ns : List Int), ns.length ≤ n → Only H → SqL (K w.params) H a (ns.map V.int) → sp w [.ref a] H (fun v _ => v = .bl true) fun _ _ _ => False)
    (hcx : ∀ (w : World) (H : Hp) (s : Shared) (e : Value) (s' : Shared), cx w [] H s (fun _ _ _ => False) e s' → False) :
    PySem.W.WalkO q loose XP YP l.row.toRowW d [] (fun f vs => PySem.call f vs) := by
  refine Att.attach_call hn hdf ?_
  intro w s₀ s₁ mg mb fa o pm cd doc a vs ns G Y ho hd hcd hmg hobj hints hlen hg
  have KX := hY w _ Y
  obtain ⟨fd, hb, hF⟩ := F w mg fa _ KX G.T.g hmg
  exact endG KX G.T.g G.T.b G.T.builtins G.T.nolimit hg hobj hints (Nat.le_trans hlen hn2) hr hF hb (fun H hO hS => hsp w H a ns hlen hO hS) (fun H e s' => hcx w H s₁ e s')
end DC
-- DE
set_option Elab.async false
set_option linter.all false
set_option maxRecDepth 100000
set_option maxHeartbeats 4000000
/-! DE: for i, x in enumerate(t), t a tuple. -/
namespace DC
open PySem PySem.Spec PyProof.Rows L2 Evl

theorem meets_enumB {v : Value} {ob : Obj} {J : Heap → Prop} (B : Begins v ob J) :
    Meets (Builtin.«enumerate.__new__» ⟨[.type "enumerate", v], []⟩) (fun _ R s => J s.heap ∧
      R (.ok (.ret (.ref (s.heap.push ob).objs.size)))
        { s with heap := (s.heap.push ob).push { cls := .type "enumerate", data := .fields #[.none, .bool false, .ref s.heap.objs.size, rawInt 0, .none, .none] } }) := by
  refine .of_wp ?_
  intro prog w A R s h
  obtain ⟨hp, g, d, tk, os⟩ := s
  obtain ⟨j0, h⟩ := h
  have hsub := sub_enumerate
  have step : ∀ {A' : Around} {E : Value → Shared → Prop} {Q : Value → Shared → Prop},
      Q (.ref hp.objs.size) ⟨hp.push ob, g, d, tk, os⟩ → wpAny (model prog w) A' (pyIter v) Q E ⟨hp, g, d, tk, os⟩ := by
    intro A' E Q q
    exact B.iter prog w _ _ ⟨hp, g, d, tk, os⟩ _ j0 q
  wp_walk using step
  refine wpAny_stack_any ?_
  intro st
  refine wpAny_pure ?_
  split
  · rename_i c _ _ _ _ _
    cases (c == Value.type "enumerate") <;> (wp_walk using step; exact ⟨_, rfl, h⟩)
  · wp_walk using step
    exact ⟨_, rfl, h⟩

section
variable {prog : Program} {w : World} {A : Around} {E : Value → Shared → Prop} {s : Shared}
theorem call_enumT {t : Addr} {items : Array Value} {Q : Value → Shared → Prop} (hT : s.heap.IsTuple t items)
    (h : ∀ h', IsEnum h' (s.heap.objs.size + 1) s.heap.objs.size 0 .none → h'.IsTupleIter s.heap.objs.size t 0 →
      (∀ b o, s.heap.get? b = some o → h'.get? b = some o) → Q (.ref (s.heap.objs.size + 1)) { s with heap := h' }) :
    wpAny (model prog w) A (call (.type "enumerate") [.ref t]) Q E s := by
  let it : Obj := { cls := .type "tuple_iterator", data := .fields #[.ref t, .int 0 0] }
  let en : Obj := { cls := .type "enumerate", data := .fields #[.none, .bool false, .ref s.heap.objs.size, rawInt 0, .none, .none] }
  have hz : (s.heap.push it).objs.size = s.heap.objs.size + 1 := Heap.size_push ..
  have he : ((s.heap.push it).push en).get? (s.heap.objs.size + 1) = some en := by
    have q := Heap.get?_push_size (s.heap.push it) (o := en) rfl
    rw [hz] at q
    exact q
  refine callType_new F.called_enumerate (by decide) (F.typeCall_enumerate_1 _) (F.newCall_enumerate_1 _) (fun obj => F.args_object_init_2 obj _) F.entry_enumerate_new
    (meets_enumB (begins_tuple t items)) ⟨hT, ?_⟩
  show _ ∧ _
  rw [show (s.heap.push { cls := .type "tuple_iterator", data := .fields #[.ref t, .int 0 0] }).objs.size = s.heap.objs.size + 1 from hz]
  refine ⟨⟨_, he, rfl⟩, h _ he ⟨it, Heap.get?_push_of_some _ (Heap.get?_push_size _ rfl), rfl, rfl⟩ ?_⟩
  intro b o x
  exact Heap.get?_push_of_some _ (Heap.get?_push_of_some _ x)
end

/-- the tuple at a, each item with its number in a new pair -/
def ItE (K : PySem.W.Frag) (a : Addr) : It :=
  ⟨fun i H => ∃ (xs : List V) (x : V), SqT K H a xs ∧ xs[i]? = some x,
   fun i H v H' => ∃ T x, v = .ref T ∧ H T = none ∧ H' = upd H T (.tup [.int (i : Nat), x]) ∧ ∀ xs, SqT K H a xs → xs[i]? = some x,
   fun i H => ∃ xs : List V, SqT K H a xs ∧ xs.length = i⟩

theorem turnE {P : Program} {w : World} {K : PySem.W.Frag} {elts : List Expr} {kk : Nat} {tpos : Pos} (a e it : Addr) (hai : a ≠ it) (hae : a ≠ e) :
    Turn P w K (.Tuple elts kk tpos) (ItE K a) [e, it] e (fun i h => (∃ old, IsEnum h e it ((i : Nat) : Int) old) ∧ h.IsTupleIter it a i ∧ e ≠ it) where
  mem := List.mem_cons_self ..
  obj := by
    rintro i h ⟨⟨old, he⟩, ⟨o, ho, hc, hd⟩, _⟩ b hb
    rcases (show b = e ∨ b = it by simpa using hb) with rfl | rfl
    · exact ⟨_, he, fun v q => nomatch q⟩
    · exact ⟨o, ho, fun v q => by rw [hd] at q; cases q⟩
  keep := by
    rintro i h h' ⟨⟨old, he⟩, hi, hne⟩ k
    exact ⟨⟨old, k e (by simp) _ he⟩, hi.at (fun o q => k it (by simp) o q), hne⟩
  item := by
    intro X hP hw hK hc i pins s σ H E I hf st hg
    subst hP hw hK
    obtain ⟨⟨old, he⟩, hit, hne⟩ := st
    obtain ⟨xs, x, hq, hx⟩ := hg
    obtain ⟨its, rv, p, hz⟩ := I.tuple hq
    obtain ⟨u, hu, ru⟩ := rv.get hx
    have hil : i < its.toArray.size := by
      have := (List.getElem?_eq_some_iff.mp hu).1
      simpa using this
    have hel : e < s.heap.objs.size := Heap.lt_size he
    have hitl : it < s.heap.objs.size := by obtain ⟨_, q, _⟩ := hit; exact Heap.lt_size q
    have D := Draws.tuple (prog := X.prog) (w := X.w) (A := X.A.in1) (I.ok.hd hc) it a hai its.toArray
    refine wpAny_pyNext_enum_itemD D he ⟨hit, p⟩ hil hne (by simp only [List.mem_cons, List.not_mem_nil, or_false, not_or]; exact ⟨hne, hae.symm⟩) ?_
    intro u' h' tk hu' ho st' hT hsz hk
    have eu : u' = u := by
      have q : its.toArray[i]? = some u' := hu'
      rw [List.getElem?_toArray, hu] at q
      exact (Option.some.inj q).symm
    subst eu
    refine ⟨_, rfl, wpAny_letOwnedTupleGo_enum (s := { s with heap := h', toks := tk + 1 }) ho ?_⟩
    intro h'' he' sb
    have hT2 : h''.get? s.heap.objs.size = some { cls := .type "tuple", data := .seq #[.int i tk, u'] } := (sb.2 _ (Nat.ne_of_gt hel)).trans hT
    have new : ObjOk X.prog X.w (upd H s.heap.objs.size (.tup [.int (i : Nat), x])) h'' s.heap.objs.size (.tup [.int (i : Nat), x]) :=
      ⟨by show 2 ≤ sizeLine; decide, [.int i tk, u'], .cons ⟨_, rfl⟩ (.cons ru .nil), ⟨_, hT2, rfl, _, rfl⟩⟩
    have I1 : Inv X pins σ (upd H s.heap.objs.size (.tup [.int (i : Nat), x])) { s with heap := h'', toks := tk + 1 } := by
      refine I.turnedNew (ch := [e, it]) ?_ hf (Nat.le_refl _) new
      intro b ob hb q
      exact (sb.2 b (fun z => hb (by simp [z]))).trans (hk b ob (fun z => hb (by simp [z])) (fun z => hb (by simp [z])) q)
    refine ⟨.ref s.heap.objs.size, _, I1, rfl, ⟨_, x, rfl, I.hok.fresh (Nat.le_refl _), rfl, ?_⟩, ⟨⟨u', ?_⟩, ?_, hne⟩, ?_⟩
    · intro ys hy
      rw [I.tuple_inj hy hq]
      exact hx
    · have e1 : ((i + 1 : Nat) : Int) = (i : Int) + 1 := by omega
      rw [e1]
      exact he'
    · exact st'.1.at fun o q => (sb.2 it (Ne.symm hne)).trans q
    · intro b hb
      have hb' : b < s.heap.objs.size := by
        rcases (show b = e ∨ b = it by simpa using hb) with rfl | rfl
        · exact hel
        · exact hitl
      rw [upd_ne (Nat.ne_of_lt hb')]
      exact (hf b hb).1
  done := by
    intro X hP hw hK hc i pins s σ H E I hf st hg
    subst hP hw hK
    obtain ⟨⟨old, he⟩, hit, hne⟩ := st
    obtain ⟨xs, hq, hx⟩ := hg
    obtain ⟨its, rv, p, hz⟩ := I.tuple hq
    obtain ⟨f0, f1, f2, f3, f4, f5⟩ := hf it (by simp)
    have hl := rv.length
    have D := Draws.tuple (prog := X.prog) (w := X.w) (A := X.A.in1) (I.ok.hd hc) it a hai its.toArray
    have hn : its.toArray.size = i := by rw [List.size_toArray, ← hl]; exact hx
    rw [← hn] at hit
    exact wpAny_pyNext_enum_endD D he ⟨hit, p⟩ fun h' eb => ⟨rfl, I.turned (t' := s.toks) (fun b o hb q => eb b o hb q) f0 f1 f3 f4 f5⟩
  self := by
    rintro A i s Q E ⟨⟨_, he⟩, _⟩ h
    exact wpAny_pyIter_enum he h

def iEnumT (K : PySem.W.Frag) (ta : TA) : TI := fun σ H R => ta σ H fun vs H1 => ∃ a xs, vs = [.ref a] ∧ SqT K H1 a xs ∧ R (ItE K a) H1
theorem pi_enumT {X : Cx} {e : Expr} {ta : TA} {p pos tpos : Pos} {elts : List Expr} {kk : Nat} (hg : Gl X "enumerate") (hm : X.mg "enumerate" = none)
    (ha : PA X [e] ta) (hs : starEach [e] X.env = [(false, eval e X.env)] := by rfl) :
    PI X (.Tuple elts kk tpos) (.Call (.Name "enumerate" p) [e] [] pos) (iEnumT X.K ta) := by
  constructor
  intro pins s σ H R I h
  refine Call_ (ld_blt I hg hm boot_enumerate (PyProof.Rows.callWith_type1 (thn (ha.run pos pins s σ H _ I h) ?_) hs rfl))
  rintro us s1 ⟨vs, H1, I1, r1, a, xs, rfl, hq, q⟩
  obtain rfl : us = [.ref a] := by
    cases r1 with
    | cons r rr => cases rr; cases r; rfl
  obtain ⟨its, rv, p', hz⟩ := I1.tuple hq
  have hlt : a < s1.heap.objs.size := p'.lt
  have h1 : a ≠ s1.heap.objs.size := Nat.ne_of_lt hlt
  have h2 : a ≠ s1.heap.objs.size + 1 := Nat.ne_of_lt (Nat.lt_succ_of_lt hlt)
  refine call_enumT p' ?_
  intro h' he hit hk
  refine wpAny_pyIter_enum he ?_
  have I2 : Inv X pins σ H1 { s1 with heap := h' } := I1.kept (t' := s1.toks) hk
  refine ⟨s1.heap.objs.size + 1, [s1.heap.objs.size + 1, s1.heap.objs.size], _, _, H1, rfl, I2, turnE a _ _ h1 h2, ⟨⟨.none, he⟩, hit, Nat.succ_ne_self _⟩, ?_, q⟩
  intro b hb
  have hle : s1.heap.objs.size ≤ b := by
    rcases (show b = s1.heap.objs.size + 1 ∨ b = s1.heap.objs.size by simpa using hb) with rfl | rfl
    · exact Nat.le_add_right _ _
    · exact Nat.le_refl _
  exact I1.fpOk hle (I1.hok.fresh hle)
theorem walk_enumT {K : PySem.W.Frag} {a : Addr} {xs : List V} :
    Walk (ItE K a) xs.length (fun H => SqT K H a xs) (YPair (fun i => some (.int (i : Nat))) (fun i => xs[i]?)) := by
  refine ⟨fun i _ hi q => ⟨xs, xs[i], q, by simp [hi]⟩, fun _ q => ⟨xs, q, rfl⟩, ?_⟩
  rintro i H v H' _ q ⟨T, x, h1, h2, h3, h4⟩
  exact ⟨T, .int (i : Nat), x, h1, h2, h3, rfl, h4 xs q⟩
end DC
-- DM
set_option Elab.async false
set_option linter.all false
set_option maxRecDepth 100000
set_option maxHeartbeats 4000000
/-! DM: lays as numbers, and how they stand in the heap. -/
namespace DC
open PySem L2
abbrev J2 := Nat × Nat
/-- two joints have no end in common -/
def Apart (p q : J2) : Prop := p.1 ≠ q.1 ∧ p.1 ≠ q.2 ∧ p.2 ≠ q.1 ∧ p.2 ≠ q.2
structure Good (n : Nat) (js : List J2) : Prop where
  one : 1 ≤ n
  top : n ≤ 12
  rng : ∀ p ∈ js, p.1 < p.2 ∧ p.2 < 2 * n
  asc : js.Pairwise (fun p q => p.1 < q.1)
  dis : js.Pairwise Apart
/-- a tuple of two ints at v -/
def Pr (K : PySem.W.Frag) (H : Hp) (v : V) (p : J2) : Prop := ∃ t, v = .ref t ∧ SqT K H t [.int (p.1 : Nat), .int (p.2 : Nat)]
/-- a tuple of such -/
def Js (K : PySem.W.Frag) (H : Hp) (v : V) (js : List J2) : Prop := ∃ t vs, v = .ref t ∧ SqT K H t vs ∧ Paired (Pr K H) vs js
/-- a lay -/
def Ly (K : PySem.W.Frag) (H : Hp) (v : V) (n : Nat) (js : List J2) : Prop := ∃ t u, v = .ref t ∧ SqT K H t [.int (n : Nat), u] ∧ Js K H u js
section
variable {K : PySem.W.Frag} {H H' : Hp} {v : V}
theorem Pr.up (e : Same H H') {p : J2} : Pr K H v p → Pr K H' v p
  | ⟨t, q, h⟩ => ⟨t, q, Same.t e h⟩
theorem Js.up (e : Same H H') {js : List J2} : Js K H v js → Js K H' v js
  | ⟨t, vs, q, h, r⟩ => ⟨t, vs, q, Same.t e h, L2.Paired.mapP r fun _ _ z => z.up e⟩
theorem Ly.up (e : Same H H') {n : Nat} {js : List J2} : Ly K H v n js → Ly K H' v n js
  | ⟨t, u, q, h, r⟩ => ⟨t, u, q, Same.t e h, r.up e⟩
end
theorem pair_at {α β : Type} {R : α → β → Prop} : ∀ {xs : List α} {ys : List β}, Paired R xs ys → ∀ {i : Nat} {x : α}, xs[i]? = some x → ∃ y, ys[i]? = some y ∧ R x y
  | _, _, .nil, i, x, h => by simp at h
  | _, _, .cons r t, 0, x, h => by
    have e := Option.some.inj h
    subst e
    exact ⟨_, rfl, r⟩
  | _, _, .cons r t, i + 1, x, h => pair_at t (i := i) h
/-- which ends of 2 n stand in some joints -/
def Seen (js : List J2) (e : Nat) : Prop := ∃ p ∈ js, e = p.1 ∨ e = p.2
theorem good_at {n : Nat} {js : List J2} (g : Good n js) {i : Nat} {p : J2} (h : js[i]? = some p) :
    p.1 < p.2 ∧ p.2 < 2 * n ∧ ¬ Seen (js.take i) p.1 ∧ ¬ Seen (js.take i) p.2 ∧ (∀ q, (js.take i).getLast? = some q → q.1 < p.1) := by
  obtain ⟨hi, e⟩ := List.getElem?_eq_some_iff.mp h
  have hm : p ∈ js := e ▸ List.getElem_mem hi
  have ap : ∀ q ∈ js.take i, Apart q p ∧ q.1 < p.1 := by
    intro q hq
    obtain ⟨j, hj, ej⟩ := List.mem_iff_getElem.mp hq
    have hj' : j < i ∧ j < js.length := by
      rw [List.length_take] at hj
      omega
    have e2 : js[j] = q := by rw [← ej, List.getElem_take]
    have a := List.pairwise_iff_getElem.mp g.dis j i hj'.2 hi hj'.1
    have b := List.pairwise_iff_getElem.mp g.asc j i hj'.2 hi hj'.1
    rw [e2, e] at a b
    exact ⟨a, b⟩
  refine ⟨(g.rng p hm).1, (g.rng p hm).2, ?_, ?_, ?_⟩
  · rintro ⟨q, hq, h | h⟩
    · exact (ap q hq).1.1 h.symm
    · exact (ap q hq).1.2.2.1 h.symm
  · rintro ⟨q, hq, h | h⟩
    · exact (ap q hq).1.2.1 h.symm
    · exact (ap q hq).1.2.2.2 h.symm
  · intro q hq
    exact (ap q (List.mem_of_getLast? hq)).2
end DC
-- DR
set_option Elab.async false
set_option linter.all false
set_option maxRecDepth 100000
set_option maxHeartbeats 4000000
/-! DR: data whose text is surely short. -/
namespace DC
open PySem L2
mutual
/-- ints of at most twenty figures, short texts of plain signs -/
def sm : PyData → Bool
  | .none | .bool _ => true
  | .int i => decide (i.natAbs < 10 ^ 20)
  | .str x => decide (x.length ≤ 100) && x.cps.toList.all (fun c => decide (c < 128))
  | .list xs | .tuple xs => smAll xs
  | .dict _ => false
def smAll : List PyData → Bool
  | [] => true
  | x :: xs => sm x && smAll xs
end
mutual
def wt : PyData → Nat
  | .none | .bool _ => 5
  | .int _ => 21
  | .str _ => 1002
  | .list xs | .tuple xs => wtAll xs + 4
  | .dict _ => 0
def wtAll : List PyData → Nat
  | [] => 0
  | x :: xs => wt x + 2 + wtAll xs
end
theorem textFrom_le : ∀ (ts : List Str) (k : Nat) (acc : Str), (textFrom k acc ts).length ≤ acc.length + piled ts
  | [], _, acc => Nat.le_add_right _ _
  | t :: ts, k, acc => by
    have ih := textFrom_le ts (k + 1) (acc ++ (if k > 0 then ", " else "" : String) ++ t)
    rw [piled_cons]
    refine Nat.le_trans ih ?_
    rw [strLen_append, strLen_append, ofString_length]
    split
    · have : (", " : String).length = 2 := by decide
      omega
    · have : ("" : String).length = 0 := by decide
      omega
theorem listText_le (ts : List Str) : (listText ts).length ≤ piled ts + 4 := by
  have h := textFrom_le ts 0 "["
  unfold listText
  rw [strLen_append, ofString_length]
  rw [ofString_length] at h
  have e1 : ("[" : String).length = 1 := by decide
  have e2 : ("]" : String).length = 1 := by decide
  omega
theorem tupleText_le (ts : List Str) : (tupleText ts).length ≤ piled ts + 4 := by
  unfold tupleText
  rw [strLen_append, strLen_append, ofString_length, ofString_length]
  have e1 : ("(" : String).length = 1 := by decide
  have e2 : (if (ts.length == 1) = true then ",)" else ")" : String).length ≤ 2 := by split <;> decide
  by_cases h : ts = []
  · subst h
    have e3 : (Str.join ", " ([] : List Str)).length = 0 := by decide
    omega
  · have j := join_length_add ts h
    omega
mutual
theorem sm_show : ∀ d : PyData, sm d = true → d.showable = true ∧ d.hasDict = false ∧ d.shown.length ≤ wt d
  | .none, _ => ⟨by simp only [PyData.showable], by simp only [PyData.hasDict], by simp only [PyData.shown, wt]; decide⟩
  | .bool b, _ => ⟨by simp only [PyData.showable], by simp only [PyData.hasDict], by simp only [PyData.shown, wt]; cases b <;> decide⟩
  | .int i, h => by
    simp only [sm, decide_eq_true_eq] at h
    refine ⟨?_, by simp only [PyData.hasDict], ?_⟩
    · simp only [PyData.showable, decide_eq_true_eq]
      by_cases z : i.natAbs = 0
      · rw [z]; decide
      · exact (Nat.log2_lt z).mpr (Nat.lt_trans h (by decide))
    · simp only [PyData.shown, wt]
      rw [ofString_length]
      exact int_text_length_le10 (by decide) h
  | .str x, h => by
    simp only [sm, Bool.and_eq_true, decide_eq_true_eq, List.all_eq_true] at h
    refine ⟨by simp only [PyData.showable], by simp only [PyData.hasDict], ?_⟩
    simp only [PyData.shown, wt]
    have q := StrLaws.reprText_len x fun c hc => Nat.lt_trans (h.2 c hc) (by decide)
    have := h.1
    omega
  | .list xs, h => by
    simp only [sm] at h
    obtain ⟨a, b, c⟩ := sm_showAll xs h
    refine ⟨by simpa only [PyData.showable] using a, by simpa only [PyData.hasDict] using b, ?_⟩
    simp only [PyData.shown, wt]
    have := listText_le (PyData.shownAll xs)
    omega
  | .tuple xs, h => by
    simp only [sm] at h
    obtain ⟨a, b, c⟩ := sm_showAll xs h
    refine ⟨by simpa only [PyData.showable] using a, by simpa only [PyData.hasDict] using b, ?_⟩
    simp only [PyData.shown, wt]
    have := tupleText_le (PyData.shownAll xs)
    omega
  | .dict _, h => by simp [sm] at h
theorem sm_showAll : ∀ xs : List PyData, smAll xs = true → PyData.showableAll xs = true ∧ PyData.hasDictAll xs = false ∧ piled (PyData.shownAll xs) ≤ wtAll xs
  | [], _ => ⟨by simp only [PyData.showableAll], by simp only [PyData.hasDictAll], by simp only [PyData.shownAll, wtAll, piled_nil]; decide⟩
  | x :: xs, h => by
    simp only [smAll, Bool.and_eq_true] at h
    obtain ⟨a, b, c⟩ := sm_show x h.1
    obtain ⟨a', b', c'⟩ := sm_showAll xs h.2
    refine ⟨by simp only [PyData.showableAll, a, a', Bool.and_self], by simp only [PyData.hasDictAll, b, b', Bool.or_self], ?_⟩
    simp only [PyData.shownAll, wtAll, piled_cons]
    omega
end
end DC
-- DS
set_option Elab.async false
set_option linter.all false
set_option maxRecDepth 100000
set_option maxHeartbeats 4000000
/-! DS: sorted of data of one shape (ints, texts, tuples of these, nested). -/
namespace DC
open PySem PySem.Spec PyProof.Rows L2 Evl
section
variable {K : PySem.W.Frag} {H : Hp}
theorem dpAll_len : ∀ {xs : List V} {ds : List PyData}, DpAll K H xs ds → xs.length = ds.length
  | _, _, .nil => rfl
  | _, _, .cons _ t => by rw [List.length_cons, List.length_cons, dpAll_len t]
theorem dpAll_zip : ∀ {xs : List V} {ds : List PyData}, DpAll K H xs ds → ∀ p ∈ xs.zip ds, Dp K H p.1 p.2
  | _, _, .nil, p, h => by simp at h
  | _, _, .cons a t, p, h => by
    rw [List.zip_cons_cons] at h
    rcases List.mem_cons.mp h with rfl | h
    · exact a
    · exact dpAll_zip t p h
theorem dpAll_of : ∀ (zs : List (V × PyData)), (∀ p ∈ zs, Dp K H p.1 p.2) → DpAll K H (zs.map Prod.fst) (zs.map Prod.snd)
  | [], _ => .nil
  | z :: zs, h => .cons (h z List.mem_cons_self) (dpAll_of zs fun p hp => h p (List.mem_cons_of_mem _ hp))
end
/-- sorted(xs): xs a list of data of one shape; the new list has the same things, in the data's order -/
def rSortD (K : PySem.W.Frag) : List V → Hp → VK → Prop := fun vs H Q => ∃ (a : Addr) (xs : List V) (ds : List PyData), vs = [.ref a] ∧ SqL K H a xs ∧ DpAll K H xs ds ∧ PySem.W.AllAlike ds ∧ PySem.W.Sortable ds ∧ (∀ d ∈ ds, d.depth ≤ 60) ∧
  ∀ (ys : List V) (p : Addr), ys.Perm xs → DpAll K H ys (ds.mergeSort (PySem.W.dataLe false id)) → H p = none → Q (.ref p) (upd H p (.lst ys))
theorem each_vals : ∀ {xs : List V} {us : List Value} {ds : List PyData}, Vals xs us → xs.length = ds.length → PySem.W.EachIs (fun (v : Value) (b : V × PyData) => RelV b.1 v) us (xs.zip ds)
  | _, _, [], .nil, _ => .nil
  | _, _, d :: ds, .cons r t, h => .cons r (each_vals t (Nat.succ.inj h))
  | _, _, [], .cons r t, h => by simp at h
  | _, _, d :: ds, .nil, h => by simp at h
theorem each_back : ∀ {us : List Value} {bs : List (V × PyData)}, PySem.W.EachIs (fun (v : Value) (b : V × PyData) => RelV b.1 v) us bs → Vals (bs.map Prod.fst) us
  | _, _, .nil => .nil
  | _, _, .cons r t => .cons r (each_back t)
theorem cr_sortD {X : Cx} (hu : X.A.units + 64 < cLine) : CallR X (.builtin "sorted") (rSortD X.K) := by
  intro pins s σ H vs us Q I r h
  obtain ⟨a, xs, ds, rfl, hs, hd, hal, hk, hp, q⟩ := h
  obtain ⟨its, rv, hl, hz⟩ := I.list hs
  rw [Vals.ref1 r]
  have len := dpAll_len hd
  have snd : (xs.zip ds).map Prod.snd = ds := by rw [List.map_snd_zip]; omega
  have fst : (xs.zip ds).map Prod.fst = xs := by rw [List.map_fst_zip]; omega
  have hb : (xs.zip ds).length = xs.length := by rw [List.length_zip]; omega
  have e1 := each_vals rv len
  have hdp := dpAll_zip hd
  refine PySem.W.sorted_data (bs := xs.zip ds) (enc := Prod.snd) (R := fun (v : Value) (b : V × PyData) => RelV b.1 v) hl.isList e1 ?_ (by rw [snd]; exact hal) (by rw [snd]; exact hk) (by rw [hb]; exact hz) (fun b hb => ?_) fun out ho eo => ?_
  · have gen : ∀ {us : List Value} {bs : List (V × PyData)}, PySem.W.EachIs (fun (v : Value) (b : V × PyData) => RelV b.1 v) us bs → (∀ b ∈ bs, Dp X.K H b.1 b.2) → PySem.W.EachIs (fun v (b : V × PyData) => ∃ as, Reads s.heap v b.2 as) us bs := by
      intro us bs e
      induction e with
      | nil => intro _; exact .nil
      | cons r t ih => intro h; exact .cons (Dp.reads I _ _ _ (h _ List.mem_cons_self) r) (ih fun b hb => h b (List.mem_cons_of_mem _ hb))
    exact gen e1 hdp
  · have : b.2 ∈ ds := by
      rw [← snd]
      exact List.mem_map.mpr ⟨b, hb, rfl⟩
    have := hp _ this
    omega
  · obtain ⟨ep, he'⟩ := PyProof.Rows.sortedAll_at s.heap its out.toArray
    have pm : ((xs.zip ds).mergeSort (PySem.W.dataLe false Prod.snd)).Perm (xs.zip ds) := List.mergeSort_perm _ _
    have p2 : (((xs.zip ds).mergeSort (PySem.W.dataLe false Prod.snd)).map Prod.fst).Perm xs := by
      have := pm.map Prod.fst
      rw [fst] at this
      exact this
    have hlen : (((xs.zip ds).mergeSort (PySem.W.dataLe false Prod.snd)).map Prod.fst).length ≤ sizeLine := by
      rw [p2.length_eq]
      exact hz
    have ms : ((xs.zip ds).mergeSort (PySem.W.dataLe false Prod.snd)).map Prod.snd = ds.mergeSort (PySem.W.dataLe false id) := by
      have z := List.map_mergeSort (r := PySem.W.dataLe false (Prod.snd : V × PyData → PyData)) (s := PySem.W.dataLe false id) (f := Prod.snd) (l := xs.zip ds) (fun a _ b _ => rfl)
      rw [snd] at z
      exact z
    refine ⟨.ref _, upd H (s.heap.objs.size + 1) (.lst (((xs.zip ds).mergeSort (PySem.W.dataLe false Prod.snd)).map Prod.fst)), I.laid (t' := s.toks) (fun _ _ => PyProof.Rows.sortedAll_old) (Nat.le_succ _) ⟨hlen, out, ep, each_back eo, he'⟩, rfl, q _ _ p2 ?_ (I.hok.fresh (Nat.le_succ _))⟩
    rw [← ms]
    exact dpAll_of _ fun p hp => hdp p (pm.mem_iff.mp hp)
end DC
-- DX
set_option Elab.async false
set_option linter.all false
set_option maxRecDepth 100000
set_option maxHeartbeats 4000000
/-! DX: max of a list of data of one shape. -/
namespace DC
open PySem PySem.Spec PyProof.Rows L2 Evl
theorem dpAll_at {K : PySem.W.Frag} {H : Hp} : ∀ {xs : List V} {ds : List PyData} {i : Nat} {x : V}, DpAll K H xs ds → xs[i]? = some x → ∃ d, ds[i]? = some d ∧ Dp K H x d
  | _, _, i, x, .nil, h => by simp at h
  | _, _, 0, x, .cons a t, h => by
    have e := Option.some.inj h
    subst e
    exact ⟨_, rfl, a⟩
  | _, _, i + 1, x, .cons a t, h => dpAll_at (i := i) t h
theorem maxD_mem : ∀ (ds : List PyData) (d : PyData), PySem.W.maxD d ds ∈ d :: ds := by
  intro ds
  unfold PySem.W.maxD
  induction ds with
  | nil => intro d; exact List.mem_cons_self
  | cons e ds ih =>
    intro d
    rw [List.foldl_cons]
    have h := ih (if PySem.W.dataLt d e then e else d)
    rcases List.mem_cons.mp h with z | z
    · rw [z]
      split
      · exact List.mem_cons_of_mem _ List.mem_cons_self
      · exact List.mem_cons_self
    · exact List.mem_cons_of_mem _ (List.mem_cons_of_mem _ z)
def rMaxD (K : PySem.W.Frag) : List V → Hp → VK → Prop := fun vs H Q => ∃ (a : Addr) (xs : List V) (d : PyData) (ds : List PyData), vs = [.ref a] ∧ SqL K H a xs ∧ DpAll K H xs (d :: ds) ∧ PySem.W.AlikeAll (d :: ds) ∧ PyData.depthAll (d :: ds) ≤ 60 ∧
  ∀ y, y ∈ xs → Dp K H y (PySem.W.maxD d ds) → Q y H
theorem cr_maxD {X : Cx} (hc : X.calm = true) (hu : X.A.units + 64 < cLine) : CallR X (.builtin "max") (rMaxD X.K) := by
  intro pins s σ H vs us Q I r h
  obtain ⟨a, xs, d, ds, rfl, hs, hd, hal, hp, q⟩ := h
  obtain ⟨its, rv, hl, hz⟩ := I.list hs
  rw [Vals.ref1 r]
  obtain ⟨as, hr⟩ := Dp.readsAll I _ _ _ hd rv
  refine PySem.W.max_list_data (I.ok.hd hc) hl.isList hr hal (by omega) fun i v h' tk bs hv hrd hk => ?_
  have hv' : its[i]? = some v := by simpa using hv
  have hi : i < xs.length := by
    have := (List.getElem?_eq_some_iff.mp hv').1
    have := rv.length
    omega
  have hx : xs[i]? = some xs[i] := List.getElem?_eq_getElem hi
  obtain ⟨u, hu2, ru⟩ := rv.get hx
  obtain rfl : v = u := Option.some.inj (hv'.symm.trans hu2)
  obtain ⟨d', hd', dp⟩ := dpAll_at hd hx
  obtain ⟨as', hr'⟩ := Dp.reads I _ _ _ dp ru
  have e := PySem.W.alike_unique d' (PySem.W.maxD d ds) _ _ _ (hal.1 _ (List.mem_of_getElem? hd') _ (maxD_mem ds d)) (PyProof.Rows.Reads.keeps hk hr') hrd
  rw [e] at dp
  exact ⟨xs[i], H, I.kept (t' := tk) hk, ru, q _ (List.getElem_mem hi) dp⟩
end DC
-- DL
set_option Elab.async false
set_option linter.all false
set_option maxRecDepth 100000
set_option maxHeartbeats 4000000
/-! DL: sorted(xs, key=lambda y: y[1]), the keys tuples of ints. -/
namespace DC
open PySem PySem.Spec PyProof.Rows L2 Evl LamX
section
variable {prog : Program} {w : World} {A : Around} {s : Shared}
/-- (lambda y: y[1])(t), t a tuple -/
theorem lam1_run {f t c' : Addr} {qual y : Str} {params : Arguments} {scope : Scope} {pm ctv : Value} {q1 q2 q3 : Pos} {j : Nat} {items : Array Value} {v1 : Value} {d : PyData}
    (hroom : A.depth < recursionLimit) (hlim : s.heap.NoLimit)
    (ho : s.heap.get? f = some (PySem.W.kla_obj "<lambda>" qual params (.Subscript (.Name y q1) (.Constant (.int 1) j q2) q3) scope [] pm c' ctv)) (hcd : s.heap.CodeRec (.ref c') qual)
    (hbind : ∀ v, bindArgs (PySem.W.kla_fn "<lambda>" qual params (.Subscript (.Name y q1) (.Constant (.int 1) j q2) q3) scope [] pm (.ref c') ctv) ⟨[v], []⟩ = pure [(y, v)])
    (hk : scope.kind = .function) (hl : scope.names.lookup y = some .local) (hc : ∀ x ∈ scope.names, x.2 ≠ .cell) (hco : scope.isCoroutine = false) (hgen : scope.isGenerator = false) (hd : (y == ("__debug__" : Str)) = false)
    (hT : IsTup s.heap t items) (h1 : items[1]? = some v1) (hr : ∀ h', (∀ b o, s.heap.get? b = some o → h'.get? b = some o) → Reads h' v1 d []) :
    wpAny (model prog w) A (call (.ref f) [.ref t]) (PySem.W.KeyPure d s) (fun _ _ => False) s := by
  have h1s : 1 < items.size := (Array.getElem?_eq_some_iff.mp h1).1
  refine wpAny_call (PySem.W.kla_callFunE hroom ho rfl hco hgen rfl hcd ?_)
  rw [hbind]
  refine wpAny_pure (wpAny_newFunctionEnv hc (fun x hx => ?_) (fun h₁ hns hsb => ⟨hlim.fresh _ hsb, ?_⟩) hk)
  · obtain rfl := List.mem_singleton.mp hx
    exact hl
  · show codeAny _ _ (.expr _ (PySem.W.envX qual scope s.heap.objs.size f (.ref c') [])) _ _
    have kp : ∀ b o, s.heap.get? b = some o → h₁.get? b = some o := fun b o e => hsb.extBut b o (Nat.ne_of_lt (Heap.lt_size e)) (Heap.get?_push_of_some _ e)
    have hT' : IsTup h₁ t items := by
      obtain ⟨o, a, b⟩ := hT
      exact ⟨o, kp _ _ a, b⟩
    refine PySem.W.kla_codeExpr (Subscript_Constant (wpAny_Name (wpAny_loadName_local (v := .ref t) hk ?_ hns ?_ ?_) hd))
    · exact hl
    · show List.lookup y [(y, Value.ref t)] = some (Value.ref t)
      simp [List.lookup]
    · refine wpAny_Constant_int ⟨"tuple", "tuple.__getitem__", slot_tuple_getitem.lookup, hT'.typeIs, getItem_tuple (j := 1) hT' (by decide) (by decide) (ixN_seq (Evl.ixN_nat (n := items.size) (j := 1) h1s)).1 h1 ?_⟩
      exact ⟨h₁, _, rfl, kp, hr h₁ kp⟩
end
def tupD (k : List Int) : PyData := .tuple (k.map PyData.int)
theorem reads_ints {h : Heap} : ∀ {k : List Int} {its : List Value}, Vals (k.map V.int) its → ReadsAll h its (k.map PyData.int) []
  | [], _, r => by
    cases r
    exact .nil
  | i :: k, _, r => by
    cases r with
    | cons a t =>
      obtain ⟨tk, rfl⟩ := a
      exact ReadsAll.cons (as := []) (bs := []) (Reads.int i tk) (reads_ints t)
theorem alike_ints : ∀ (k l : List Int), PySem.W.alikeAll (k.map PyData.int) (l.map PyData.int) = true
  | [], l => by cases l <;> simp [PySem.W.alikeAll]
  | a :: k, [] => by simp [PySem.W.alikeAll]
  | a :: k, b :: l => by
    simp only [List.map_cons, PySem.W.alikeAll, PySem.W.alike, alike_ints k l, Bool.and_self]
theorem alike_tup (k l : List Int) : PySem.W.alike (tupD k) (tupD l) = true := by
  unfold tupD
  simp only [PySem.W.alike, alike_ints]
theorem each_valsB {β : Type} : ∀ {xs : List V} {us : List Value} {ds : List β}, Vals xs us → xs.length = ds.length → PySem.W.EachIs (fun (v : Value) (b : V × β) => RelV b.1 v) us (xs.zip ds)
  | _, _, [], .nil, _ => .nil
  | _, _, d :: ds, .cons r t, h => .cons r (each_valsB t (Nat.succ.inj h))
  | _, _, [], .cons r t, h => by simp at h
  | _, _, d :: ds, .nil, h => by simp at h
theorem each_backB {β : Type} : ∀ {us : List Value} {bs : List (V × β)}, PySem.W.EachIs (fun (v : Value) (b : V × β) => RelV b.1 v) us bs → Vals (bs.map Prod.fst) us
  | _, _, .nil => .nil
  | _, _, .cons r t => .cons r (each_backB t)
/-- an item: a pair whose second thing is a tuple of ints, not empty -/
def KeyAt (K : PySem.W.Frag) (H : Hp) (x : V) (k : List Int) : Prop := ∃ t u t2, x = .ref t ∧ SqT K H t [u, .ref t2] ∧ SqT K H t2 (k.map V.int) ∧ k ≠ []
def byKey (p : V × List Int) : PyData := tupD p.2
def tSortLam (K : PySem.W.Frag) (T : List (Addr × Str)) (te : TE) : TE := fun σ H Q => te σ H fun v H1 => Tabs T H1 ∧ ∀ H2, ExtN H1 H2 → Tabs T H2 → ∃ (a : Addr) (xs : List V) (ks : List (List Int)),
  v = .ref a ∧ SqL K H2 a xs ∧ xs.length = ks.length ∧ (∀ p ∈ xs.zip ks, KeyAt K H2 p.1 p.2) ∧
  ∀ (q : Addr), H2 q = none → Q (.ref q) (upd H2 q (.lst (((xs.zip ks).mergeSort (PySem.W.dataLe false byKey)).map Prod.fst)))
section
variable {X : Cx}
theorem pe_sortLam {T : List (Addr × Str)} {c P : Addr} {e : Expr} {te : TE} {y : Str} {params : Arguments} {scope : Scope} {j k : Nat} {p q1 q2 q3 pos kp cpos : Pos}
    (TB : TabB X.base X.mg c P) (hcode : X.env.code = .ref c) (hmT : (P, X.env.qual ++ "<lambda>") ∈ T) (hu : ∀ p ∈ T, p.1 = P → p.2 = X.env.qual ++ "<lambda>")
    (hr : Room k X.A) (hg : Gl X "sorted") (hm : X.mg "sorted" = none) (he : PE X e te)
    (hbind : ∀ c' pm ctv v, bindArgs (PySem.W.kla_fn "<lambda>" (X.env.qual ++ "<lambda>") params (.Subscript (.Name y q1) (.Constant (.int 1) j q2) q3) scope [] pm (.ref c') ctv) ⟨[v], []⟩ = pure [(y, v)])
    (hdef : defaultsOf params X.env = ([], [])) (hfree : ∀ z ∈ scope.names, z.2 = .free → ∃ c, X.env.cells.lookup z.1 = some c) (hclo : cloFrom X.env.cells scope.names [] = [])
    (hk : scope.kind = .function) (hl : scope.names.lookup y = some .local) (hcell : ∀ x ∈ scope.names, x.2 ≠ .cell) (hco : scope.isCoroutine = false) (hgen : scope.isGenerator = false) (hd : (y == ("__debug__" : Str)) = false)
    (hb : backTo cpos (starEach [e] X.env) = (false, eval e X.env) :: backTo cpos (starEach [] X.env) := by rfl) (hpl : (backTo cpos (starEach [e] X.env)).any (·.1) = false := by rfl) (na : starEach [e] X.env = (false, eval e X.env) :: starEach [] X.env := by rfl) :
    PE X (.Call (.Name "sorted" p) [e] [⟨some "key", .Lambda params (.Subscript (.Name y q1) (.Constant (.int 1) j q2) q3) scope pos, kp⟩] cpos) (tSortLam X.K T te) := by
  refine ⟨fun pins s σ H Q I h => ?_⟩
  refine wpAny_Call_Name_kw (ld_blt (u := .builtin "sorted") I hg hm (by decide +kernel) ?_ (by decide) (by decide))
  refine PyProof.Rows.callWith_kw (thn ((pa_cons he pa_nil na).run cpos pins s σ H (fun vs H1 => match vs with
    | [v] => Tabs T H1 ∧ ∀ H2, ExtN H1 H2 → Tabs T H2 → ∃ (a : Addr) (xs : List V) (ks : List (List Int)),
      v = .ref a ∧ SqL X.K H2 a xs ∧ xs.length = ks.length ∧ (∀ p ∈ xs.zip ks, KeyAt X.K H2 p.1 p.2) ∧
      ∀ (q : Addr), H2 q = none → Q (.ref q) (upd H2 q (.lst (((xs.zip ks).mergeSort (PySem.W.dataLe false byKey)).map Prod.fst)))
    | _ => False) I h) fun us s1 hh => ?_) hb hpl
  obtain ⟨vs, H1, I1, r1, hh⟩ := hh
  match vs, r1, hh with
  | [], _, hh => exact hh.elim
  | _ :: _ :: _, _, hh => exact hh.elim
  | [v], r1, ⟨hT1, qq⟩ =>
  show wpAny _ _ (evalAll ((do let v ← eval (.Lambda params (.Subscript (.Name y q1) (.Constant (.int 1) j q2) q3) scope pos) X.env; standAt cpos; pure v) :: [])) _ _ s1
  refine wpAny_evalAll_cons (wpAny_bind (lam_make2 I1 TB hcode hmT hu hT1 hdef hfree fun f c' pm ctv H2 s2 I2 eN T2 hf hfn hfr hcc => wpAny_bind (wpAny_standAt (wpAny_pure ?_))))
  refine wpAny_evalAll_nil ?_
  rw [hclo] at hf
  obtain ⟨a, xs, ks, rfl, hs, hlen, hkey, q⟩ := qq H2 eN T2
  obtain ⟨its, rv, hl2, hz⟩ := I2.list hs
  rw [Vals.ref1 r1]
  show wpAny (model X.prog X.w) X.A (call (.builtin "sorted") [.ref a] [(Str.ofString "key", .ref f)]) (EP X pins σ Q) X.xe s2
  obtain ⟨⟨oc, cvs, ct, hoc, hdc, hvc⟩, _, _⟩ := I2.hok c' _ hcc
  have hbl : (xs.zip ks).length = xs.length := by rw [List.length_zip]; omega
  refine PySem.W.sorted_key_data (bs := xs.zip ks) (b := false) (R := fun (v : Value) (b : V × List Int) => RelV b.1 v) byKey hl2.isList (each_valsB rv hlen) ?_ ?_ (by rw [hbl]; exact hz) ?_ (PyProof.Rows.ksk_s1 _ _) (fun x => PyProof.Rows.ksk_l1 _ _) (fun x => PyProof.Rows.ksk_t1 f x) ?_ ?_
  · intro d hd d' hd'
    obtain ⟨b, _, rfl⟩ := List.mem_map.mp hd
    obtain ⟨b', _, rfl⟩ := List.mem_map.mp hd'
    exact alike_tup _ _
  · refine .inl fun d hd => ?_
    obtain ⟨b, hb, rfl⟩ := List.mem_map.mp hd
    obtain ⟨_, _, _, _, _, _, ne⟩ := hkey b hb
    unfold byKey tupD
    cases hk2 : b.2 with
    | nil => exact absurd hk2 ne
    | cons z r => exact ⟨_, _, rfl⟩
  · intro b hb
    have := hr.units
    have hd1 : (byKey b).depth ≤ 1 := by
      unfold byKey tupD
      simp only [PyData.depth]
      have : ∀ cs : List Int, PyData.depthAll (cs.map PyData.int) = 0 := by
        intro cs
        induction cs with
        | nil => simp only [List.map_nil, PyData.depthAll]
        | cons c cs ih => simp only [List.map_cons, PyData.depthAll, PyData.depth, ih, Nat.max_self]
      rw [this]
      omega
    omega
  · intro v b hR hb h tk up
    obtain ⟨t, u, t2, e1, hq, hq2, _⟩ := hkey b hb
    rw [e1] at hR
    obtain rfl : v = Value.ref t := hR
    obtain ⟨its1, rv1, pl1, _⟩ := I2.tuple hq
    obtain ⟨its2, rv2, ⟨o2, ho2, hc2, n2, hd2⟩, _⟩ := I2.tuple hq2
    obtain ⟨w1, ew1, rw1⟩ := rv1.get (i := 1) (x := .ref t2) rfl
    obtain rfl : w1 = Value.ref t2 := rw1
    have hT' : IsTup h t its1.toArray := by
      obtain ⟨o, a, b⟩ := pl1
      exact ⟨o, up _ _ a, b⟩
    refine lam1_run (s := { s2 with heap := h, toks := tk }) (show X.A.in1.in1.depth < recursionLimit from hr.depth) (I2.nolimit.keeps up) (up _ _ hf) ⟨c', oc, cvs, ct, rfl, up _ _ hoc, hdc, hvc⟩ (hbind c' pm ctv) hk hl hcell hco hgen hd hT' (by simpa using ew1) fun h' up' => ?_
    exact Reads.tuple (up' _ _ (up _ _ ho2)) hc2 hd2 (reads_ints rv2)
  · intro out cc h' tk up hn hg' ho eo
    have pm2 : (((xs.zip ks).mergeSort (PySem.W.dataLe false byKey)).map Prod.fst).length = xs.length := by
      rw [List.length_map, List.length_mergeSort, hbl]
    refine ⟨.ref _, upd H2 (s2.heap.objs.size + 1) (.lst (((xs.zip ks).mergeSort (PySem.W.dataLe false byKey)).map Prod.fst)), I2.laid (t' := tk) up (Nat.le_succ _) ⟨by rw [pm2]; exact hz, out, cc, each_backB eo, hg'⟩, rfl, q _ (I2.hok.fresh (Nat.le_succ _))⟩
end
end DC
-- DV
set_option Elab.async false
set_option linter.all false
set_option maxRecDepth 100000
set_option maxHeartbeats 4000000
/-! DV: a range kept in a name, and walked (again). -/
namespace DC
open PySem PySem.Spec PyProof.Rows L2 Evl
section
variable {X : Cx}
theorem cr_range1 : CallR X (.type "range") (fun vs H Q => ∃ j, vs = [V.int j] ∧ ∀ p, H p = none → Q (.ref p) (upd H p (.rng 0 j))) := by
  intro pins s σ H vs us Q I r h
  obtain ⟨j, rfl, q⟩ := h
  obtain ⟨u1, rfl, rj⟩ : ∃ u, us = [u] ∧ RelV (.int j) u := by
    cases r with
    | cons a b => cases b; exact ⟨_, rfl, a⟩
  obtain ⟨u, rfl⟩ := rj
  exact call_range_1 ⟨.ref s.heap.objs.size, upd H s.heap.objs.size (.rng 0 j), I.laid (fun b o e => Heap.get?_push_of_some _ e) (Nat.le_refl _) ⟨_, _, _, Heap.get?_push_size _ rfl⟩, rfl, q _ (I.hok.fresh (Nat.le_refl _))⟩
def iRngV (te : TE) : TI := fun σ H R => te σ H fun v H1 => ∃ (a : Addr) (j : Nat), v = .ref a ∧ H1 a = some (.rng 0 (j : Nat)) ∧ j < 1000000 ∧ R (Itr 0 j) H1
theorem pi_rngV {tg e : Expr} {te : TE} (he : PE X e te) : PI X tg e (iRngV te) := by
  constructor
  intro pins s σ H R I h
  refine thn (he.run pins s σ H _ I h) ?_
  rintro v s1 ⟨x, H1, I1, r1, a, j, rfl, hq, hj, q⟩
  cases r1
  obtain ⟨t, u, v, hob⟩ := I1.hok a _ hq
  have hIs : IsRange s1.heap a 0 ((j : Nat) : Int) 1 t u v := hob
  refine wpAny_pyIter_range hIs (small_one (by omega) (by omega) (by omega) (by omega)) ?_
  refine ⟨s1.heap.objs.size, [s1.heap.objs.size], _, _, H1, rfl, I1.kept (t' := s1.toks) fun b o e => Heap.get?_push_of_some _ e, turn_range _ 0 j, ?_, fun b hb => ?_, q⟩
  · have e1 : (0 : Int) + ((0 : Nat) : Int) * 1 = 0 := by simp
    have e2 : ((j : Nat) : Int) - ((0 : Nat) : Int) = Builtin.Range.rangeSize 0 ((j : Nat) : Int) 1 := by rw [rangeSize_one]; split <;> omega
    show IsRangeIter _ _ ((0 : Int) + ((0 : Nat) : Int) * 1) (((j : Nat) : Int) - ((0 : Nat) : Int)) 1
    rw [e1, e2]
    exact Heap.get?_push_size _ rfl
  · have e : b = s1.heap.objs.size := by simpa using hb
    subst e
    exact I1.fpOk (Nat.le_refl _) (I1.hok.fresh (Nat.le_refl _))
end
end DC
-- K42a
set_option Elab.async false
set_option linter.all false
set_option maxRecDepth 100000
set_option maxHeartbeats 4000000
namespace K42
open PySem L2 DC
def top (i : Nat) : Stmt := PySem.Challenge.pw_doublecut_k42_whole_single_steps.main.body.getD i (.Pass ⟨0, 0, 0, 0⟩)

/-- built-in names that the text leaves alone -/
structure Bn (mg : Str → Option Value) : Prop where
  isi : mg "isinstance" = none
  int : mg "int" = none
  bool : mg "bool" = none
  tuple : mg "tuple" = none
  len : mg "len" = none
  enum : mg "enumerate" = none
  range : mg "range" = none
  list : mg "list" = none
  repr : mg "repr" = none
  sorted : mg "sorted" = none
  sum : mg "sum" = none
  min : mg "min" = none
  max : mg "max" = none
  abs : mg "abs" = none
  zip : mg "zip" = none
  all : mg "all" = none

/-- a def as callers find it -/
structure Df (K : PySem.W.Frag) (mg : Str → Option Value) (nm : Str) (f : Addr) (fd : FuncData) (ps : List Str) : Prop where
  g : mg nm = some (.ref f)
  kp : PySem.W.keepIn K (.ref f) = true
  b : Binds K fd ps []
section
variable {X : Cx} {k : Nat} {x : Str} {f : Addr} {fd : FuncData} {ps : List Str} {sp : Sp} {p pos : Pos} {e : Expr} {es : List Expr} {t : TA}
theorem cl (D : Df X.K X.mg x f fd ps) (G : OkG X.prog X.w X.K X.mg X.base CX0 k f fd ps sp) (hgd : X.A.guards = some []) (hr : Room k X.A)
    (ha : PA X (e :: es) t) (hg : Gl X x := by rfl) (hdb : (x == ("__debug__" : Str)) = false := by decide)
    (he : starEach (e :: es) X.env = (false, eval e X.env) :: starEach es X.env := by rfl)
    (hpl : (backTo pos (starEach es X.env)).any (·.1) = false := by rfl) : PE X (.Call (.Name x p) (e :: es) [] pos) (tCall sp [] E0 t) :=
  callG G hgd hr hg D.g D.kp D.b .nil pass0 ha hdb he hpl
/-- isinstance(e, T), T a built-in class -/
theorem isi {te : TE} {T : String} {n : Str} {p2 : Pos} (hm : X.mg "isinstance" = none) (ht : X.mg n = none) (ha : PE X e te) (hv : bootBuiltins n = some (.type T))
    (hg : Gl X "isinstance" := by rfl) (hg2 : Gl X n := by rfl) (hn : n ≠ "__name__" := by decide) (hd : (n == ("__debug__" : Str)) = false := by decide)
    (h1 : starEach [e, .Name n p2] X.env = (false, eval e X.env) :: starEach [.Name n p2] X.env := by rfl)
    (hpl : (backTo pos (starEach [.Name n p2] X.env)).any (·.1) = false := by rfl) :
    PE X (.Call (.Name "isinstance" p) [e, .Name n p2] [] pos) (tCB (rIsi X.K) (tCons te (tCons (tC (.ty T)) tNil))) :=
  pe_callB call_isi hg hm (by decide +kernel) (pa_cons ha (pa_cons (pe_bltn (v := .ty T) hg2 ht hv rfl hn hd) pa_nil) h1) (by decide) (by decide) h1 hpl
end

section
variable {P : Program} {w : World} {K : PySem.W.Frag} {mg : Str → Option Value} {base : Heap}
abbrev OkF (P : Program) (w : World) (K : PySem.W.Frag) (mg : Str → Option Value) (base : Heap) (k : Nat) (f : Addr) (fd : FuncData) (ps : List Str) (sp : Sp) : Prop :=
  OkG P w K mg base CX0 k f fd ps sp

/-! is_int, of an int -/
def spInt : Sp := fun vs H Q _ => ∃ i : Int, vs = [.int i] ∧ Q (.bl true) H
theorem sc7 : FnScope ["value"] ["value"] (defScope (top 7)) := ⟨rfl, rfl, rfl, by decide +kernel, rfl, by decide +kernel, by decide +kernel⟩
theorem ok7 {f : Addr} {fd : FuncData} (F : Fun K "is_int" "is_int" (top 7) f fd) (B : Bn mg) : OkF P w K mg base 1 f fd ["value"] spInt := by
  refine ok0 F sc7 (fun vs H Q E h => ?_) (fun cdv A outer s H vs Q E hgd hr h => ?_)
  · obtain ⟨i, rfl, _⟩ := h; rfl
  · obtain ⟨i, rfl, q⟩ := h
    refine ⟨_, pss_one (ps_ret (pe_and (isi (T := "int") B.isi B.int (pv 0) (by decide +kernel)) (pe_one (pe_not (isi (T := "bool") B.isi B.bool (pv 0) (by decide +kernel)))))), ?_⟩
    refine ⟨_, rfl, _, _, _, _, true, rfl, .ty _, .base (.int i), kit_ty (by decide +kernel), true, rfl, ?_⟩
    exact ⟨_, rfl, _, _, _, _, false, rfl, .ty _, .base (.int i), kit_ty (by decide +kernel), false, rfl, q⟩

/-! is_from -/
def spFrom : Sp := fun vs H Q _ => ∃ v lo hi : Int, vs = [.int v, .int lo, .int hi] ∧ lo ≤ v ∧ v ≤ hi ∧ Q (.bl true) H
theorem sc8 : FnScope ["value", "least", "most"] ["value", "least", "most"] (defScope (top 8)) := ⟨rfl, rfl, rfl, by decide +kernel, rfl, by decide +kernel, by decide +kernel⟩
theorem ok8 {f f7 : Addr} {fd fd7 : FuncData} (F : Fun K "is_from" "is_from" (top 8) f fd)
    (D7 : Df K mg "is_int" f7 fd7 ["value"]) (G7 : OkF P w K mg base 1 f7 fd7 ["value"] spInt) : OkF P w K mg base 2 f fd ["value", "least", "most"] spFrom := by
  refine ok0 F sc8 (fun vs H Q E h => ?_) (fun cdv A outer s H vs Q E hgd hr h => ?_)
  · obtain ⟨v, lo, hi, rfl, _⟩ := h; rfl
  · obtain ⟨v, lo, hi, rfl, h1, h2, q⟩ := h
    refine ⟨_, pss_one (ps_ret (pe_and (cl D7 G7 hgd hr (pa_cons (pv 0) pa_nil)) (pe_one (pe_chain op_le op_le (pv 1) (pv 0) (pv 2))))), ?_⟩
    refine ⟨_, rfl, v, rfl, true, rfl, iteT ?_⟩
    refine ⟨_, rfl, _, rfl, lo, v, rfl, rfl, _, rfl, ?_⟩
    rw [decide_eq_true h1]
    refine iteT ⟨_, rfl, v, hi, rfl, rfl, ?_⟩
    show Q (.bl (decide (v ≤ hi))) H
    rw [decide_eq_true h2]
    exact q

/-! is_pair -/
theorem tyT {H : Hp} {a : Addr} {xs : List V} (h : SqT K H a xs) : TyX K H (.ref a) (.type "tuple") := by
  rcases h with (h | ⟨o, h⟩) | ⟨o, its, n, h, hc, _⟩
  · exact .base (.tup h)
  · exact .fTuple h
  · exact .kTuple h hc
def spPair (K : PySem.W.Frag) : Sp := fun vs H Q _ => ∃ a x y, vs = [.ref a] ∧ SqT K H a [x, y] ∧ Q (.bl true) H
theorem sc9 : FnScope ["value"] ["value"] (defScope (top 9)) := ⟨rfl, rfl, rfl, by decide +kernel, rfl, by decide +kernel, by decide +kernel⟩
theorem ok9 {f : Addr} {fd : FuncData} (F : Fun K "is_pair" "is_pair" (top 9) f fd) (B : Bn mg) : OkF P w K mg base 1 f fd ["value"] (spPair K) := by
  refine ok0 F sc9 (fun vs H Q E h => ?_) (fun cdv A outer s H vs Q E hgd hr h => ?_)
  · obtain ⟨a, x, y, rfl, _⟩ := h; rfl
  · obtain ⟨a, x, y, rfl, hS, q⟩ := h
    refine ⟨_, pss_one (ps_ret (pe_and (isi (T := "tuple") B.isi B.tuple (pv 0) (by decide +kernel))
      (pe_one (pe_cmpR op_eq (pe_callB call_len_seq (by rfl) B.len PySem.boot_len (pa_cons (pv 0) pa_nil)) pe_int (nomark _))))), ?_⟩
    refine ⟨_, rfl, _, _, _, _, true, rfl, .ty _, tyT hS, kit_ty (by decide +kernel), true, rfl, iteT ?_⟩
    exact ⟨_, rfl, a, _, rfl, .inr hS, rfl, q⟩

/-! is_joint -/
def spJoint (K : PySem.W.Frag) : Sp := fun vs H Q _ => ∃ a lo hi n : Nat, vs = [.ref a, .int n] ∧ SqT K H a [.int lo, .int hi] ∧ lo < hi ∧ hi < 2 * n ∧ Q (.bl true) H
theorem sc10 : FnScope ["value", "links", "low", "high"] ["value", "links"] (defScope (top 10)) := ⟨rfl, rfl, rfl, by decide +kernel, rfl, by decide +kernel, by decide +kernel⟩
theorem ok10 {f f8 f9 : Addr} {fd fd8 fd9 : FuncData} (F : Fun K "is_joint" "is_joint" (top 10) f fd)
    (D8 : Df K mg "is_from" f8 fd8 ["value", "least", "most"]) (G8 : OkF P w K mg base 2 f8 fd8 ["value", "least", "most"] spFrom)
    (D9 : Df K mg "is_pair" f9 fd9 ["value"]) (G9 : OkF P w K mg base 1 f9 fd9 ["value"] (spPair K)) : OkF P w K mg base 3 f fd ["value", "links"] (spJoint K) := by
  refine ok0 F sc10 (fun vs H Q E h => ?_) (fun cdv A outer s H vs Q E hgd hr h => ?_)
  · obtain ⟨a, lo, hi, n, rfl, _⟩ := h; rfl
  · obtain ⟨a, lo, hi, n, rfl, hS, h1, h2, q⟩ := h
    have hr1 : Room 1 _ := hr.mono (by decide)
    refine ⟨_, pss_cons (ps_if (pt_not (pt_val (cl D9 G9 hgd hr1 (pa_cons (pv 0) pa_nil)))) (pss_one (ps_ret pe_bl)) pss_nil)
      (pss_cons (ps_asg (pv 0) (pg_tup (by rfl) (pgs_cons (pg_name (i := 2) sc10.nd rfl (.inl rfl)) (pgs_cons (pg_name (i := 3) sc10.nd rfl (.inl rfl)) pgs_nil))))
      (pss_one (ps_ret (pe_and (cl D8 G8 hgd hr (pa_cons (pv 2) (pa_cons pe_int (pa_cons (pe_op op_sub (pe_op op_mul pe_int (pv 1)) pe_int) pa_nil))))
        (pe_one (cl D8 G8 hgd hr (pa_cons (pv 3) (pa_cons (pe_op op_add (pv 2) pe_int) (pa_cons (pe_op op_sub (pe_op op_mul pe_int (pv 1)) pe_int) pa_nil))))))))), ?_⟩
    refine ⟨_, rfl, a, _, _, rfl, hS, true, rfl, iteF ?_⟩
    refine ⟨_, rfl, a, _, rfl, hS, rfl, _, _, rfl, _, _, rfl, rfl, ?_⟩
    refine ⟨_, rfl, _, rfl, 2, (n : Int), rfl, rfl, .inl ⟨by decide, by decide⟩, _, _, rfl, rfl, (lo : Int), 0, 2 * (n : Int) - 1, rfl, by omega, by omega, true, rfl, iteT ?_⟩
    refine ⟨_, rfl, _, rfl, (lo : Int), 1, rfl, rfl, _, rfl, 2, (n : Int), rfl, rfl, .inl ⟨by decide, by decide⟩, _, _, rfl, rfl, (hi : Int), (lo : Int) + 1, 2 * (n : Int) - 1, rfl, by omega, by omega, q⟩

/-! false_joint, of what are joints -/
def spNoFalse (K : PySem.W.Frag) : Sp := fun vs H Q _ => ∃ (v : V) (n : Nat) (js : List J2), vs = [v, .int n] ∧ Js K H v js ∧ Good n js ∧ ∀ H', Same H H' → Q .non H'
theorem sc11 : FnScope ["joints", "links", "taken", "ahead", "number", "joint", "low", "high"] ["joints", "links"] (defScope (top 12)) := ⟨rfl, rfl, rfl, by decide +kernel, rfl, by decide +kernel, by decide +kernel⟩
/-- what the list of taken ends tells at a turn -/
def Tk (js : List J2) (n : Nat) (tk : List Bool) : Prop := tk.length = 2 * n ∧ ∀ e, tk[e]? = some true → Seen js e
theorem Tk.no {js : List J2} {n e : Nat} {tk : List Bool} (h : Tk js n tk) (he : e < 2 * n) (hn : ¬ Seen js e) : tk[e]? = some false := by
  have hl : e < tk.length := by rw [h.1]; exact he
  cases q : tk[e]'hl with
  | false => rw [List.getElem?_eq_getElem hl, q]
  | true => exact absurd (h.2 e (by rw [List.getElem?_eq_getElem hl, q])) hn
theorem Tk.put {js : List J2} {n : Nat} {p : J2} {tk : List Bool} (h : Tk js n tk) : Tk (js ++ [p]) n ((tk.set p.1 true).set p.2 true) := by
  refine ⟨by rw [List.length_set, List.length_set]; exact h.1, ?_⟩
  intro e he
  by_cases h2 : e = p.2
  · exact ⟨p, by simp, .inr h2⟩
  · rw [List.getElem?_set_ne (Ne.symm h2)] at he
    by_cases h1 : e = p.1
    · exact ⟨p, by simp, .inl h1⟩
    · rw [List.getElem?_set_ne (Ne.symm h1)] at he
      obtain ⟨q, hq, r⟩ := h.2 e he
      exact ⟨q, by simp [hq], r⟩
theorem map_set {α β : Type} (g : α → β) : ∀ (l : List α) (i : Nat) (x : α), (l.set i x).map g = (l.map g).set i (g x)
  | [], _, _ => rfl
  | _ :: _, 0, _ => rfl
  | a :: l, i + 1, x => by
    show g a :: (l.set i x).map g = g a :: (l.map g).set i (g x)
    rw [map_set g l i x]
theorem take_next {α : Type} {l : List α} {i : Nat} {x : α} (h : l[i]? = some x) : l.take (i + 1) = l.take i ++ [x] := by
  obtain ⟨hi, e⟩ := List.getElem?_eq_some_iff.mp h
  rw [← e]
  exact List.take_succ_eq_append_getElem hi
/-- the pair ahead, as the text holds it -/
def prev (js : List J2) : List Int := match js.getLast? with
  | none => []
  | some q => [(q.1 : Nat), (q.2 : Nat)]
theorem prev_no {js : List J2} {p : J2} (h : ∀ q, js.getLast? = some q → q.1 < p.1) :
    Ob.lexAt (fun j => decide (([((p.1 : Nat) : Int), ((p.2 : Nat) : Int)] : List Int).getD j 0 = (prev js).getD j 0)) (fun j => decide (([((p.1 : Nat) : Int), ((p.2 : Nat) : Int)] : List Int).getD j 0 ≤ (prev js).getD j 0))
      (decide (([((p.1 : Nat) : Int), ((p.2 : Nat) : Int)] : List Int).length ≤ (prev js).length)) 0 (min ([((p.1 : Nat) : Int), ((p.2 : Nat) : Int)] : List Int).length (prev js).length) = false := by
  unfold prev
  cases e : js.getLast? with
  | none => rfl
  | some q =>
    have hq := h q e
    show (if decide (((p.1 : Nat) : Int) = ((q.1 : Nat) : Int)) = true then _ else decide (((p.1 : Nat) : Int) ≤ ((q.1 : Nat) : Int))) = false
    rw [if_neg (by rw [decide_eq_false (by omega)]; decide)]
    exact decide_eq_false (by omega)
theorem sqT_put {K : PySem.W.Frag} {H : Hp} {a l : Addr} {xs ys : List V} {o : HO} (h : SqT K H a xs) (hl : H l = some (.lst ys)) : SqT K (upd H l o) a xs := by
  have ne : ∀ u, H a = some u → (∀ zs, u ≠ .lst zs) → a ≠ l := by
    rintro u e hu rfl
    rw [hl] at e
    exact hu ys (Option.some.inj e).symm
  rcases h with (h | ⟨ob, h⟩) | h
  · exact .inl (.inl (by rw [upd_ne (ne _ h (fun _ z => nomatch z))]; exact h))
  · exact .inl (.inr ⟨ob, by rw [upd_ne (ne _ h (fun _ z => nomatch z))]; exact h⟩)
  · exact .inr h
theorem same_new0 {H : Hp} {l : Addr} {o : HO} (h : H l = none) : Same H (upd H l o) := Same.new h
theorem same_put {H H' : Hp} {l : Addr} {o : HO} (e : Same H H') (h : H l = none) : Same H (upd H' l o) := fun b u q => by
  rw [upd_ne (ne_of_none q h)]
  exact e b u q
theorem ok11 {f f10 : Addr} {fd fd10 : FuncData} (F : Fun K "false_joint" "false_joint" (top 12) f fd) (B : Bn mg)
    (D10 : Df K mg "is_joint" f10 fd10 ["value", "links"]) (G10 : OkF P w K mg base 3 f10 fd10 ["value", "links"] (spJoint K)) :
    OkF P w K mg base 4 f fd ["joints", "links"] (spNoFalse K) := by
  refine ok0 F sc11 (fun vs H Q E h => ?_) (fun cdv A outer s H vs Q E hgd hr h => ?_)
  · obtain ⟨v, n, js, rfl, _⟩ := h; rfl
  · obtain ⟨v, n, js, rfl, ⟨t, us, rfl, hS, hP⟩, g, q⟩ := h
    have nd := sc11.nd
    refine ⟨_, pss_cons (ps_set (i := 2) nd rfl (.inl rfl) (pe_op op_rep (pe_lst (pa_cons pe_bl pa_nil)) (pe_op op_mul pe_int (pv 1))))
      (pss_cons (ps_set (i := 3) nd rfl (.inl rfl) (pe_tup pa_nil))
      (pss_cons (ps_for PassesOwn.never rfl (pi_enumT (by rfl) B.enum (pa_cons (pv 0) pa_nil)) (pg_tup (by rfl) (pgs_cons (pg_name (i := 4) nd rfl (.inl rfl)) (pgs_cons (pg_name (i := 5) nd rfl (.inl rfl)) pgs_nil)))
        (pss_cons (ps_if (PW.pt (pw_or (pt_not (pt_val (cl D10 G10 hgd hr (pa_cons (pv 5) (pa_cons (pv 1) pa_nil))))) (pw_or1 (pt_cmpR (op_leT hr.units0) (pv 5) (pv 3) (nomark _))))) (pss_one (ps_ret (pv 4))) pss_nil)
        (pss_cons (ps_asg (pv 5) (pg_tup (by rfl) (pgs_cons (pg_name (i := 6) nd rfl (.inl rfl)) (pgs_cons (pg_name (i := 7) nd rfl (.inl rfl)) pgs_nil))))
        (pss_cons (ps_if (PW.pt (pw_or (pt_val (pe_ix ix_list (pv 2) (pv 6) (fun _ _ => rfl))) (pw_or1 (pt_val (pe_ix ix_list (pv 2) (pv 7) (fun _ _ => rfl)))))) (pss_one (ps_ret (pv 4))) pss_nil)
        (pss_cons (ps_asg2 pe_bl (pg_sub (pv 2) (pv 6) set_list) (pg_sub (pv 2) (pv 7) set_list))
        (pss_one (ps_set (i := 3) nd rfl (.inl rfl) (pv 5))))))))
      (pss_one (ps_ret pe_non)))), ?_⟩
    have n12 := g.top
    refine ⟨by show 1 ≤ sizeLine; decide, fun l0 hl0 => ?_⟩
    refine ⟨_, rfl, 2, (n : Int), rfl, rfl, .inl ⟨by decide, by decide⟩, l0, 2 * (n : Int), [.bl false], rfl, rfl, upd_same, by omega, by omega, ?_, fun l hl => ?_⟩
    · show 1 * (2 * (n : Int)).toNat ≤ sizeLine
      exact Nat.le_trans (show 1 * (2 * (n : Int)).toNat ≤ 24 by omega) (by decide)
    refine ⟨by show 0 ≤ sizeLine; decide, fun a0 ha0 => ?_⟩
    have Hl : H l = none := Same.free (same_new0 hl0) hl
    refine ⟨_, rfl, t, us, rfl, Same.t (same_put (same_put (same_new0 hl0) Hl) (Same.free (same_put (same_new0 hl0) Hl) ha0)) hS, for_it (walk_enumT (xs := us))
      (fun i σ H' => ∃ (tk : List Bool) (ah : Addr) (s4 s5 s6 s7 : Option V), σ = [some (.ref t), some (.int n), some (.ref l), some (.ref ah), s4, s5, s6, s7] ∧ Same H H' ∧
        H' l = some (.lst (tk.map V.bl)) ∧ Tk (js.take i) n tk ∧ SqT K H' ah ((prev (js.take i)).map V.int)) ?_ ?_ ?_ ?_⟩
    · have el : l ≠ a0 := by
        rintro rfl
        rw [upd_same] at ha0
        cases ha0
      refine ⟨List.replicate (2 * n) false, a0, none, none, none, none, rfl, same_put (same_put (same_new0 hl0) Hl) (Same.free (same_put (same_new0 hl0) Hl) ha0), ?_, ⟨by simp, ?_⟩, SqT.of upd_same⟩
      · rw [upd_ne el, upd_same]
        show some (HO.lst (List.replicate (2 * (n : Int)).toNat [V.bl false]).flatten) = _
        rw [show (2 * (n : Int)).toNat = 2 * n by omega]
        simp
      · intro e he
        rw [List.getElem?_replicate] at he
        split at he <;> cases he
    · rintro i σ H' hi ⟨tk, ah, s4, s5, s6, s7, rfl, sm, _⟩
      exact Same.t sm hS
    · rintro i x σ H1 H2 hi ⟨tk, ah, s4, s5, s6, s7, rfl, sm, hL, hT, hA⟩ ⟨T, x1, y, rfl, nT, rfl, e1, e2⟩
      cases e1
      obtain ⟨p, hp, j, rfl, hj⟩ := pair_at hP e2
      obtain ⟨r1, r2, r3, r4, r5⟩ := good_at g hp
      have sT : Same H1 (upd H1 T (.tup [.int (i : Nat), .ref j])) := Same.new nT
      have hj2 : SqT K (upd H1 T (.tup [.int (i : Nat), .ref j])) j [.int (p.1 : Nat), .int (p.2 : Nat)] := Same.t sT (Same.t sm hj)
      refine ⟨T, _, rfl, SqT.of upd_same, rfl, _, _, rfl, _, _, rfl, rfl, ?_⟩
      refine ⟨_, rfl, _, rfl, j, p.1, p.2, n, rfl, hj2, r1, r2, true, rfl, iteF ?_⟩
      refine ⟨_, rfl, _, rfl, j, ah, [((p.1 : Nat) : Int), ((p.2 : Nat) : Int)], prev (js.take i), rfl, rfl, hj2, Same.t sT hA, _, rfl, ?_⟩
      rw [prev_no r5]
      refine iteF ?_
      have hL2 := sT _ _ hL
      have no1 := hT.no (by omega : p.1 < 2 * n) r3
      have no2 := hT.no r2 r4
      refine ⟨_, rfl, j, _, rfl, hj2, rfl, _, _, rfl, _, _, rfl, rfl, ?_⟩
      refine ⟨_, rfl, _, rfl, l, tk.map V.bl, (p.1 : Nat), .bl false, rfl, rfl, SqL.of hL2, atI_nat (by rw [List.getElem?_map, no1]; rfl), false, rfl, iteF ?_⟩
      refine ⟨_, rfl, _, rfl, l, tk.map V.bl, (p.2 : Nat), .bl false, rfl, rfl, SqL.of hL2, atI_nat (by rw [List.getElem?_map, no2]; rfl), false, rfl, iteF ?_⟩
      have z1 : p.1 < (tk.map V.bl).length := by rw [List.length_map, hT.1]; omega
      have z2 : p.2 < ((tk.map V.bl).set p.1 (.bl true)).length := by rw [List.length_set, List.length_map, hT.1]; exact r2
      refine ⟨_, rfl, _, rfl, l, tk.map V.bl, (p.1 : Nat), p.1, rfl, rfl, hL2, Evl.ixN_nat z1, ?_⟩
      refine ⟨_, rfl, _, rfl, l, _, (p.2 : Nat), p.2, rfl, rfl, upd_same, Evl.ixN_nat z2, ?_⟩
      refine ⟨_, rfl, (tk.set p.1 true).set p.2 true, j, _, _, _, _, rfl, same_put (same_put (sm.trans sT) Hl) Hl, ?_, ?_, ?_⟩
      · rw [upd_same, map_set, map_set]
      · rw [take_next hp]
        exact hT.put
      · rw [take_next hp]
        unfold prev
        rw [List.getLast?_append]
        exact sqT_put (sqT_put hj2 hL2) upd_same
    · rintro σ H' ⟨tk, ah, s4, s5, s6, s7, rfl, sm, _⟩
      exact q _ sm
/-! need_lay, of a lay -/
def spLay (K : PySem.W.Frag) : Sp := fun vs H Q _ => ∃ (v : V) (n : Nat) (js : List J2), vs = [v] ∧ Ly K H v n js ∧ Good n js ∧ ∀ H', Same H H' → Q v H'
theorem sc13 : FnScope ["lay", "links", "joints", "number"] ["lay"] (defScope (top 14)) := ⟨rfl, rfl, rfl, by decide +kernel, rfl, by decide +kernel, by decide +kernel⟩
theorem ok13 {f f8 f9 f11 : Addr} {fd fd8 fd9 fd11 : FuncData} {tm : Tok} (F : Fun K "need_lay" "need_lay" (top 14) f fd) (B : Bn mg) (hM : mg "MOST_LINKS" = some (.int 12 tm))
    (D8 : Df K mg "is_from" f8 fd8 ["value", "least", "most"]) (G8 : OkF P w K mg base 2 f8 fd8 ["value", "least", "most"] spFrom)
    (D9 : Df K mg "is_pair" f9 fd9 ["value"]) (G9 : OkF P w K mg base 1 f9 fd9 ["value"] (spPair K))
    (D11 : Df K mg "false_joint" f11 fd11 ["joints", "links"]) (G11 : OkF P w K mg base 4 f11 fd11 ["joints", "links"] (spNoFalse K)) : OkF P w K mg base 5 f fd ["lay"] (spLay K) := by
  refine ok0 F sc13 (fun vs H Q E h => ?_) (fun cdv A outer s H vs Q E hgd hr h => ?_)
  · obtain ⟨v, n, js, rfl, _⟩ := h; rfl
  · obtain ⟨v, n, js, rfl, ⟨t, u, rfl, hS, hJ⟩, g, q⟩ := h
    have nd := sc13.nd
    have hr1 : Room 1 _ := hr.mono (by decide)
    have hr2 : Room 2 _ := hr.mono (by decide)
    obtain ⟨tj, vs, rfl, hSj, hPj⟩ := id hJ
    have one := g.one
    have tp := g.top
    refine ⟨_, pss_cons (ps_if (pt_not (pt_val (cl D9 G9 hgd hr1 (pa_cons (pv 0) pa_nil)))) (pss_one ps_never) pss_nil)
      (pss_cons (ps_asg (pv 0) (pg_tup (by rfl) (pgs_cons (pg_name (i := 1) nd rfl (.inl rfl)) (pgs_cons (pg_name (i := 2) nd rfl (.inl rfl)) pgs_nil))))
      (pss_cons (ps_if (pt_not (pt_val (cl D8 G8 hgd hr2 (pa_cons (pv 1) (pa_cons pe_int (pa_cons (pe_glob rfl hM (v := .int 12) ⟨_, rfl⟩) pa_nil)))))) (pss_one ps_never) pss_nil)
      (pss_cons (ps_if (pt_not (pt_val (isi (T := "tuple") B.isi B.tuple (pv 2) (by decide +kernel)))) (pss_one ps_never) pss_nil)
      (pss_cons (ps_set (i := 3) nd rfl (.inl rfl) (cl D11 G11 hgd hr (pa_cons (pv 2) (pa_cons (pv 1) pa_nil))))
      (pss_cons (ps_if (pt_cmp (pc_notN (pv 3))) (pss_one ps_never) pss_nil)
      (pss_one (ps_ret (pv 0)))))))), ?_⟩
    refine ⟨_, rfl, t, _, _, rfl, hS, true, rfl, iteF ?_⟩
    refine ⟨_, rfl, t, _, rfl, hS, rfl, _, _, rfl, _, _, rfl, rfl, ?_⟩
    refine ⟨_, rfl, (n : Int), 1, 12, rfl, by omega, by omega, true, rfl, iteF ?_⟩
    refine ⟨_, rfl, _, _, _, _, true, rfl, .ty _, tyT hSj, kit_ty (by decide +kernel), true, rfl, iteF ?_⟩
    refine ⟨_, rfl, _, rfl, .ref tj, n, js, rfl, hJ, g, fun H' sm => ?_⟩
    exact ⟨_, rfl, false, rfl, iteF ⟨_, rfl, q _ sm⟩⟩

end
end K42
-- K42b
set_option Elab.async false
set_option linter.all false
set_option maxRecDepth 100000
set_option maxHeartbeats 4000000
namespace K42
open PySem L2 DC
theorem pair_snoc {α β : Type} {R : α → β → Prop} : ∀ {xs : List α} {ys : List β} {x : α} {y : β}, Paired R xs ys → R x y → Paired R (xs ++ [x]) (ys ++ [y])
  | _, _, _, _, .nil, r => .cons r .nil
  | _, _, _, _, .cons a b, r => .cons a (pair_snoc b r)
def Vn (ys : List Nat) : List V := ys.map fun y => V.int (y : Nat)
/-- all but what stands at d is as it was -/
def SameX (d : Addr) (H H' : Hp) : Prop := ∀ b o, b ≠ d → H b = some o → H' b = some o
theorem SameX.refl (d : Addr) (H : Hp) : SameX d H H := fun _ _ _ h => h
theorem SameX.trans {d : Addr} {H H1 H2 : Hp} (a : SameX d H H1) (b : SameX d H1 H2) : SameX d H H2 := fun x o n h => b x o n (a x o n h)
theorem Same.x {d : Addr} {H H' : Hp} (a : Same H H') : SameX d H H' := fun x o _ h => a x o h
theorem SameX.put {d : Addr} {H H' : Hp} {l : Addr} {o : HO} (a : SameX d H H') (h : H l = none) : SameX d H (upd H' l o) := fun b u n q => by
  rw [upd_ne (ne_of_none q h)]
  exact a b u n q
theorem SameX.putd {d : Addr} {H H' : Hp} {o : HO} (a : SameX d H H') : SameX d H (upd H' d o) := fun b u n q => by
  rw [upd_ne n]
  exact a b u n q
theorem SameX.free {d : Addr} {H H' : Hp} {l : Addr} {o : HO} (a : SameX d H H') (hd : H' d = some o) (h : H' l = none) : H l = none := by
  cases q : H l with
  | none => rfl
  | some u =>
    have n : l ≠ d := by
      rintro rfl
      rw [hd] at h
      cases h
    rw [a l u n q] at h
    cases h
theorem Vn_len (ys : List Nat) : (Vn ys).length = ys.length := List.length_map _
theorem Vn_at {ys : List Nat} {i : Nat} (h : i < ys.length) : (Vn ys)[i]? = some (.int ((ys.getD i 0 : Nat))) := by
  unfold Vn
  rw [List.getElem?_map, List.getElem?_eq_getElem h, List.getD_eq_getElem?_getD, List.getElem?_eq_getElem h]
  rfl
theorem gn {i : Nat} {v : V} {σ : L2.St} {H : Hp} {k : L2.St → Hp → Prop} (h : k (σ.set i (some v)) H) : gName i v σ H k := h
theorem yesT {σ : L2.St} {H : Hp} {a b : Hp → Prop} (h : a H) : tYes σ H (fun k H3 => if k = true then a H3 else b H3) := iteT (A := a H) (B := b H) h
/-! the law's state: what is left of great numbers, a place, a mixed number -/
def md (l : Addr) (a x : Int) : List (Key × V) := [(.inr "left", .ref l), (.inr "at", .int a), (.inr "mixed", .int x)]
theorem n1 : ¬ (("left" : Str) = "at") := by decide +kernel
theorem n2 : ¬ (("left" : Str) = "mixed") := by decide +kernel
theorem n3 : ¬ (("at" : Str) = "mixed") := by decide +kernel
theorem inr_ne {a b : Str} (h : ¬ a = b) : ¬ ((Sum.inr a : Key) = Sum.inr b) := fun e => h (Sum.inr.inj e)
theorem md_left (l : Addr) (a x : Int) : valV (md l a x) (.inr "left") = some (.ref l) := valV_pos rfl
theorem md_at (l : Addr) (a x : Int) : valV (md l a x) (.inr "at") = some (.int a) := (valV_neg (inr_ne n1)).trans (valV_pos rfl)
theorem md_mixed (l : Addr) (a x : Int) : valV (md l a x) (.inr "mixed") = some (.int x) := (valV_neg (inr_ne n2)).trans ((valV_neg (inr_ne n3)).trans (valV_pos rfl))
theorem put_at {κ : Type} [DecidableEq κ] {kvs : List (κ × V)} {k : κ} {v : V} (h : k ∈ kvs.map (·.1)) : putK kvs k v = kvs.map (fun kv => if kv.1 = k then (kv.1, v) else kv) := by
  unfold putK
  rw [if_pos]
  rw [List.any_eq_true]
  obtain ⟨e, he, q⟩ := List.mem_map.mp h
  exact ⟨e, he, decide_eq_true q⟩
theorem md_put_left (l l' : Addr) (a x : Int) : putK (md l a x) (.inr "left") (.ref l') = md l' a x := by
  rw [put_at (by unfold md; simp)]
  unfold md
  simp only [List.map_cons, List.map_nil, if_true]
  rw [if_neg (inr_ne (Ne.symm n1)), if_neg (inr_ne (Ne.symm n2))]
theorem md_put_at (l : Addr) (a a' x : Int) : putK (md l a x) (.inr "at") (.int a') = md l a' x := by
  rw [put_at (by unfold md; simp)]
  unfold md
  simp only [List.map_cons, List.map_nil, if_true]
  rw [if_neg (inr_ne n1), if_neg (inr_ne (Ne.symm n3))]
theorem md_put_mixed (l : Addr) (a x x' : Int) : putK (md l a x) (.inr "mixed") (.int x') = md l a x' := by
  rw [put_at (by unfold md; simp)]
  unfold md
  simp only [List.map_cons, List.map_nil, if_true]
  rw [if_neg (inr_ne n2), if_neg (inr_ne n3)]
/-- the state at m, its great numbers in the list at l -/
structure MAt (H : Hp) (m l : Addr) : Prop where
  ex : ∃ (cs : List Int) (a x : Int), H m = some (.dK (md l a x)) ∧ H l = some (.lst (cs.map V.int)) ∧ cs.length ≤ 63 ∧ 0 ≤ x ∧ x < 2147483647
theorem MAt.up {H H' : Hp} {m l : Addr} (s : Same H H') : MAt H m l → MAt H' m l
  | ⟨cs, a, x, h1, h2, r⟩ => ⟨cs, a, x, s _ _ h1, s _ _ h2, r⟩
theorem MAt.put {H : Hp} {m l c : Addr} {o : HO} (n1 : c ≠ m) (n2 : c ≠ l) : MAt H m l → MAt (upd H c o) m l
  | ⟨cs, a, x, h1, h2, r⟩ => ⟨cs, a, x, by rw [upd_ne (Ne.symm n1)]; exact h1, by rw [upd_ne (Ne.symm n2)]; exact h2, r⟩
theorem sqL_m {K : PySem.W.Frag} {H H' : Hp} {m a lm : Addr} {xs : List V} (s : SameX m H H') (hm : MAt H m lm) (h : SqL K H a xs) : SqL K H' a xs := by
  obtain ⟨cs, b, x, hd, _⟩ := hm
  have ne : ∀ u, H a = some u → (∀ kvs, u ≠ .dK kvs) → a ≠ m := by
    rintro u e hu rfl
    rw [hd] at e
    exact hu _ (Option.some.inj e).symm
  rcases h with (h | ⟨o, h⟩) | h
  · exact .inl (.inl (s _ _ (ne _ h (fun _ z => nomatch z)) h))
  · exact .inl (.inr ⟨o, s _ _ (ne _ h (fun _ z => nomatch z)) h⟩)
  · exact .inr h
theorem sqT_m {K : PySem.W.Frag} {H H' : Hp} {m a lm : Addr} {xs : List V} (s : SameX m H H') (hm : MAt H m lm) (h : SqT K H a xs) : SqT K H' a xs := by
  obtain ⟨cs, b, x, hd, _⟩ := hm
  have ne : ∀ u, H a = some u → (∀ kvs, u ≠ .dK kvs) → a ≠ m := by
    rintro u e hu rfl
    rw [hd] at e
    exact hu _ (Option.some.inj e).symm
  rcases h with (h | ⟨o, h⟩) | h
  · exact .inl (.inl (s _ _ (ne _ h (fun _ z => nomatch z)) h))
  · exact .inl (.inr ⟨o, s _ _ (ne _ h (fun _ z => nomatch z)) h⟩)
  · exact .inr h
/-! _law_draw -/
theorem get_left {H : Hp} {m l : Addr} {a x : Int} (h : H m = some (.dK (md l a x))) : DGet H m (.str "left") (some (.ref l)) := by
  have q := DGet.k (k := .inr "left") h
  rw [md_left] at q
  exact q
theorem get_at {H : Hp} {m l : Addr} {a x : Int} (h : H m = some (.dK (md l a x))) : DGet H m (.str "at") (some (.int a)) := by
  have q := DGet.k (k := .inr "at") h
  rw [md_at] at q
  exact q
theorem get_mixed {H : Hp} {m l : Addr} {a x : Int} (h : H m = some (.dK (md l a x))) : DGet H m (.str "mixed") (some (.int x)) := by
  have q := DGet.k (k := .inr "mixed") h
  rw [md_mixed] at q
  exact q
theorem put_left {H : Hp} {m l l' : Addr} {a x : Int} (h : H m = some (.dK (md l a x))) : DPut H m (.str "left") (.ref l') (upd H m (.dK (md l' a x))) := by
  have q := DPut.k (k := .inr "left") (v := .ref l') h (by show 3 < sizeLine; decide)
  rw [md_put_left] at q
  exact q
theorem put_at' {H : Hp} {m l : Addr} {a a' x : Int} (h : H m = some (.dK (md l a x))) : DPut H m (.str "at") (.int a') (upd H m (.dK (md l a' x))) := by
  have q := DPut.k (k := .inr "at") (v := .int a') h (by show 3 < sizeLine; decide)
  rw [md_put_at] at q
  exact q
theorem put_mixed {H : Hp} {m l : Addr} {a x x' : Int} (h : H m = some (.dK (md l a x))) : DPut H m (.str "mixed") (.int x') (upd H m (.dK (md l a x'))) := by
  have q := DPut.k (k := .inr "mixed") (v := .int x') h (by show 3 < sizeLine; decide)
  rw [md_put_mixed] at q
  exact q
def intD (cs : List Int) : PyData := .list (cs.map PyData.int)
theorem dp_ints {K : PySem.W.Frag} {H : Hp} : ∀ cs : List Int, DpAll K H (cs.map V.int) (cs.map PyData.int)
  | [] => .nil
  | c :: cs => .cons (.int c) (dp_ints cs)
theorem lay_ints : ∀ cs : List Int, PyData.canLayAll0 (cs.map PyData.int) = true
  | [] => by simp only [List.map_nil, PyData.canLayAll0]
  | c :: cs => by simp only [List.map_cons, PyData.canLayAll0, PyData.canLay0, lay_ints cs, Bool.and_self]
theorem depth_ints : ∀ cs : List Int, PyData.depthAll (cs.map PyData.int) = 0
  | [] => by simp only [List.map_nil, PyData.depthAll]
  | c :: cs => by simp only [List.map_cons, PyData.depthAll, PyData.depth, depth_ints cs, Nat.max_self]
theorem shaped_ints (cs : List Int) : SeqAt.shaped (intD cs) = true := by
  unfold SeqAt.shaped intD
  simp only [PyData.canLay0, lay_ints, PyData.depth, depth_ints]
  decide
theorem cut1 (c : Int) (cs : List Int) : cutV ((c :: cs).map V.int) (some 1) none = cs.map V.int := by
  unfold cutV
  rw [show (some (1 : Int)) = some ((1 : Nat) : Int) from rfl, HT.sIx_nat, HT.sIx_none]
  rw [List.length_map, List.length_cons, show min 1 (cs.length + 1) = 1 by omega, List.map_cons, List.drop_succ_cons, List.drop_zero]
  exact List.take_of_length_le (by rw [List.length_map]; omega)
section
variable {P : Program} {w : World} {K : PySem.W.Frag} {mg : Str → Option Value} {base : Heap}
def spDraw : Sp := fun vs H Q _ => ∃ (m lm : Addr) (lim : Int), vs = [.ref m, .int lim] ∧ MAt H m lm ∧ 0 < lim ∧ lim < 1000000 ∧
  ∀ (r : Int) (H' : Hp) (l' : Addr), 0 ≤ r → r < lim → SameX m H H' → MAt H' m l' → (l' = lm ∨ H l' = none) → Q (.int r) H'
theorem sc27 : FnScope ["m", "limit", "cell"] ["m", "limit"] (defScope (top 45)) := ⟨rfl, rfl, rfl, by decide +kernel, rfl, by decide +kernel, by decide +kernel⟩
theorem ok27 {f : Addr} {fd : FuncData} (F : Fun K "_law_draw" "_law_draw" (top 45) f fd) (B : Bn mg) : OkF P w K mg base 1 f fd ["m", "limit"] spDraw := by
  refine ok0 F sc27 (fun vs H Q E h => ?_) (fun cdv A outer s H vs Q E hgd hr h => ?_)
  · obtain ⟨m, lm, lim, rfl, _⟩ := h; rfl
  · obtain ⟨m, lm, lim, rfl, hM, h1, h2, q⟩ := h
    have nd := sc27.nd
    have hu := hu_of hr
    refine ⟨_, pss_cons (ps_while PassesOwn.never (PW.pt (pw_and (pt_cmpR (op_neD hr.units) (pe_dget hu (pv 0) pe_str (fun _ _ => rfl)) (pe_lst pa_nil) (nomark _))
          (pw_and1 (pt_cmpR op_eq (pe_ix ix_list (pe_dget hu (pv 0) pe_str (fun _ _ => rfl)) pe_int (fun _ _ => rfl)) pe_int (nomark _)))))
        (pss_one (ps_dput hu (pv 0) pe_str (pe_slice sl_list (pe_dget hu (pv 0) pe_str (fun _ _ => rfl)) (po_some pe_int) po_none) rfl)))
      (pss_cons (ps_if (pt_cmpR (op_neD hr.units) (pe_dget hu (pv 0) pe_str (fun _ _ => rfl)) (pe_lst pa_nil) (nomark _))
        (pss_cons (ps_set (i := 2) nd rfl (.inl rfl) (pe_ix ix_list (pe_dget hu (pv 0) pe_str (fun _ _ => rfl)) pe_int (fun _ _ => rfl)))
        (pss_cons (ps_dput hu (pv 0) pe_str (pe_op op_cat (pe_lst (pa_cons (pe_op op_fdivN (pv 2) (pv 1)) pa_nil)) (pe_slice sl_list (pe_dget hu (pv 0) pe_str (fun _ _ => rfl)) (po_some pe_int) po_none)) rfl)
        (pss_one (ps_ret (pe_op op_mod (pe_callTy call_int1 (by rfl) B.int (by decide +kernel) (pa_cons (pv 2) pa_nil)) (pv 1))))))
        pss_nil)
      (pss_cons (ps_dput hu (pv 0) pe_str (pe_op op_add (pe_dget hu (pv 0) pe_str (fun _ _ => rfl)) pe_int) rfl)
      (pss_cons (ps_dput hu (pv 0) pe_str (pe_op op_mod (pe_callTy call_int1 (by rfl) B.int (by decide +kernel) (pa_cons (pe_op op_add (pe_op op_add (pe_op op_mul (pe_dget hu (pv 0) pe_str (fun _ _ => rfl)) pe_int) (pe_op op_mul pe_int (pe_dget hu (pv 0) pe_str (fun _ _ => rfl)))) pe_int) pa_nil)) pe_int) rfl)
      (pss_one (ps_ret (pe_op op_mod (pe_callTy call_int1 (by rfl) B.int (by decide +kernel) (pa_cons (pe_op op_fdiv (pe_dget hu (pv 0) pe_str (fun _ _ => rfl)) pe_int) pa_nil)) (pv 1))))))), ?_⟩
    let Wf : Nat → L2.St → Hp → Prop := fun k σ H' => σ = [some (.ref m), some (.int lim), none] ∧ SameX m H H' ∧ ∃ (l : Addr) (cs : List Int) (a x : Int), H' m = some (.dK (md l a x)) ∧ H' l = some (.lst (cs.map V.int)) ∧ cs.length ≤ 63 ∧ 0 ≤ x ∧ x < 2147483647 ∧ (l = lm ∨ H l = none) ∧ cs.length = k
    have hm0 := hM
    obtain ⟨cs0, a0, x0, e1, e2, e3, e4, e5⟩ := hM
    have notM : ∀ {H' : Hp} {l : Addr} {a x : Int} {b : Addr} {xs : List V}, H' m = some (.dK (md l a x)) → H' b = some (.lst xs) → b ≠ m := by
      rintro H' l a x b xs h h' rfl
      rw [h] at h'
      cases h'
    refine ⟨Wf, ⟨_, rfl, SameX.refl _ _, lm, cs0, a0, x0, e1, e2, e3, e4, e5, .inl rfl, rfl⟩, ?_⟩
    rintro k σ H1 ⟨rfl, sx, l, cs, a, x, d1, d2, d3, d4, d5, d6, rfl⟩
    refine ⟨_, rfl, m, _, rfl, get_left d1, Nat.zero_le _, fun p hp => ?_⟩
    have sp : Same H1 (upd H1 p (.lst [])) := Same.new hp
    have c1 := sp _ _ d1
    have c2 := sp _ _ d2
    refine ⟨intD cs, intD [], Dp.lst (SqL.of c2) (dp_ints cs), Dp.lst (SqL.of upd_same) .nil, shaped_ints cs, rfl, _, rfl, ?_⟩
    cases cs with
    | nil =>
      refine iteF (iteF ?_)
      -- nothing is left: the mixed number is turned
      refine ⟨_, rfl, m, _, rfl, get_left c1, Nat.zero_le _, fun p2 hp2 => ?_⟩
      have s2 : Same H1 (upd (upd H1 p (.lst [])) p2 (.lst [])) := sp.trans (Same.new hp2)
      have b1 := s2 _ _ d1
      have b2 := s2 _ _ d2
      refine ⟨intD [], intD [], Dp.lst (SqL.of b2) .nil, Dp.lst (SqL.of upd_same) .nil, rfl, rfl, _, rfl, iteF ?_⟩
      refine ⟨_, rfl, m, _, rfl, get_at b1, a, 1, rfl, rfl, _, rfl, m, _, rfl, put_at' b1, ?_⟩
      refine ⟨_, rfl, m, _, rfl, get_mixed upd_same, x, 16807, rfl, rfl, .inl ⟨by omega, by omega⟩, _, rfl, m, _, rfl, get_at upd_same, 7919, a + 1, rfl, rfl, .inl ⟨by decide, by decide⟩, _, _, rfl, rfl, _, 1, rfl, rfl, .inl ⟨_, rfl, ?_⟩⟩
      refine ⟨_, 2147483647, rfl, rfl, (by show (0 : Int) < 2147483647; decide), _, rfl, m, _, rfl, put_mixed upd_same, ?_⟩
      have z1 := Int.emod_nonneg (x * 16807 + 7919 * (a + 1) + 1) (b := 2147483647) (by decide)
      have z2 := Int.emod_lt_of_pos (x * 16807 + 7919 * (a + 1) + 1) (b := 2147483647) (by decide)
      refine ⟨_, rfl, m, _, rfl, get_mixed upd_same, _, 65536, rfl, rfl, ⟨by decide, by decide⟩, .inl ⟨_, rfl, _, rfl, _, lim, rfl, rfl, h1, ?_⟩⟩
      refine q _ _ l (Int.emod_nonneg _ (by omega)) (Int.emod_lt_of_pos _ h1) ((sx.trans (Same.x s2)).putd.putd) ⟨[], a + 1, _, upd_same, ?_, Nat.zero_le _, z1, z2⟩ d6
      have nl := notM d1 d2
      rw [upd_ne nl, upd_ne nl]
      exact b2
    | cons c cs =>
      refine iteT ?_
      refine ⟨_, rfl, m, _, rfl, get_left c1, l, _, 0, .int c, rfl, rfl, SqL.of c2, at_of (j := 0) rfl rfl, rfl, _, rfl, ?_⟩
      by_cases hc : c = 0
      · rw [decide_eq_true (show V.int c = V.int 0 by rw [hc])]
        refine iteT ⟨Wf cs.length, fun σ' H' hw => ⟨_, Nat.lt_succ_self _, hw⟩, ?_⟩
        refine ⟨_, rfl, m, _, rfl, get_left c1, 1, rfl, l, _, rfl, SqL.of c2, fun p3 hp3 => ?_⟩
        have s3 : Same H1 (upd (upd H1 p (.lst [])) p3 (.lst (cutV ((c :: cs).map V.int) (some 1) none))) := sp.trans (Same.new hp3)
        have b1 := s3 _ _ d1
        have np : p3 ≠ m := fun z => by
          rw [z, c1] at hp3
          cases hp3
        refine ⟨_, rfl, m, _, rfl, put_left b1, rfl, (sx.trans (Same.x s3)).putd, p3, cs, a, x, upd_same, ?_, by rw [List.length_cons] at d3; omega, d4, d5, .inr (sx.free d1 (sp.free hp3)), rfl⟩
        rw [upd_ne np, upd_same, cut1]
      · rw [decide_eq_false (show ¬ V.int c = V.int 0 from fun z => hc (V.int.inj z))]
        refine iteF ?_
        refine ⟨_, rfl, m, _, rfl, get_left c1, Nat.zero_le _, fun p2 hp2 => ?_⟩
        have s2 : Same H1 (upd (upd H1 p (.lst [])) p2 (.lst [])) := sp.trans (Same.new hp2)
        have b1 := s2 _ _ d1
        have b2 := s2 _ _ d2
        refine ⟨intD (c :: cs), intD [], Dp.lst (SqL.of b2) (dp_ints _), Dp.lst (SqL.of upd_same) .nil, shaped_ints _, rfl, _, rfl, iteT ?_⟩
        refine ⟨_, rfl, m, _, rfl, get_left b1, l, _, 0, .int c, rfl, rfl, SqL.of b2, at_of (j := 0) rfl rfl, ?_⟩
        refine ⟨_, rfl, _, rfl, c, lim, rfl, rfl, ⟨by omega, by omega⟩, by show 1 ≤ sizeLine; decide, fun p4 hp4 => ?_⟩
        have s4 := s2.trans (Same.new (o := .lst [.int (c.fdiv lim)]) hp4)
        refine ⟨_, rfl, m, _, rfl, get_left (s4 _ _ d1), 1, rfl, l, _, rfl, SqL.of (s4 _ _ d2), fun p5 hp5 => ?_⟩
        have s5 := s4.trans (Same.new (o := .lst (cutV ((c :: cs).map V.int) (some 1) none)) hp5)
        refine ⟨p4, p5, _, _, rfl, rfl, Same.new hp5 _ _ upd_same, upd_same, ?_, fun p6 hp6 => ?_⟩
        · rw [cut1, List.length_map]
          rw [List.length_cons] at d3
          exact Nat.le_trans (show 1 + cs.length ≤ 1000 by omega) (by decide)
        have s6 := s5.trans (Same.new (o := .lst ([.int (c.fdiv lim)] ++ cutV ((c :: cs).map V.int) (some 1) none)) hp6)
        have np : p6 ≠ m := fun z => by
          rw [z, s5 _ _ d1] at hp6
          cases hp6
        refine ⟨_, rfl, m, _, rfl, put_left (s6 _ _ d1), ?_⟩
        refine ⟨_, rfl, .inl ⟨_, rfl, _, rfl, c, lim, rfl, rfl, h1, ?_⟩⟩
        refine q _ _ p6 (Int.emod_nonneg _ (by omega)) (Int.emod_lt_of_pos _ h1) ((sx.trans (Same.x s6)).putd) ⟨c.fdiv lim :: cs, a, x, upd_same, ?_, d3, d4, d5⟩ (.inr (sx.free d1 (s5.free hp6)))
        rw [upd_ne np, upd_same, cut1]
        rfl
end
theorem putK_new {κ : Type} [DecidableEq κ] {kvs : List (κ × V)} {k : κ} {v : V} (h : ∀ e ∈ kvs, ¬ e.1 = k) : putK kvs k v = kvs ++ [(k, v)] := by
  unfold putK
  rw [if_neg]
  intro z
  rw [List.any_eq_true] at z
  obtain ⟨e, he, q⟩ := z
  exact h e he (of_decide_eq_true q)
theorem merge_md (l : Addr) (a x : Int) : mergeK [] (md l a x) = md l a x := by
  unfold mergeK md
  simp only [List.foldl_cons, List.foldl_nil]
  rw [putK_new (kvs := []) (by simp), putK_new (kvs := [] ++ _) (by simp [n1]), putK_new (kvs := [] ++ _ ++ _) (by simp [n2, n3])]
  rfl
section
variable {P : Program} {w : World} {K : PySem.W.Frag} {mg : Str → Option Value} {base : Heap}
def spBegun (K : PySem.W.Frag) : Sp := fun vs H Q _ => ∃ (a : Addr) (ns : List Int), vs = [.ref a] ∧ SqL K H a (ns.map V.int) ∧ ns.length ≤ 63 ∧
  ∀ (m l : Addr) (H' : Hp), Same H H' → H m = none → H l = none → MAt H' m l → Q (.ref m) H'
theorem sc26 : FnScope ["script", "mixed", "cell", "great"] ["script"] (defScope (top 44)) := ⟨rfl, rfl, rfl, by decide +kernel, rfl, by decide +kernel, by decide +kernel⟩
theorem ok26 {f : Addr} {fd : FuncData} (F : Fun K "_law_begun" "_law_begun" (top 44) f fd) (B : Bn mg) : OkF P w K mg base 1 f fd ["script"] (spBegun K) := by
  refine ok0 F sc26 (fun vs H Q E h => ?_) (fun cdv A outer s H vs Q E hgd hr h => ?_)
  · obtain ⟨a, ns, rfl, _⟩ := h; rfl
  · obtain ⟨a, ns, rfl, hS, hl, q⟩ := h
    have nd := sc26.nd
    refine ⟨_, pss_cons (ps_set (i := 1) nd rfl (.inl rfl) pe_int)
      (pss_cons (ps_for PassesOwn.never rfl (pi_list (pv 0)) (pg_name (i := 2) nd rfl (.inl rfl))
        (pss_one (ps_set (i := 1) nd rfl (.inl rfl) (pe_op op_mod (pe_callTy call_int1 (by rfl) B.int (by decide +kernel) (pa_cons (pe_op op_add (pe_op op_add (pe_op op_mul (pv 1) pe_int) (pv 2)) pe_int) pa_nil)) pe_int))))
      (pss_cons (ps_setLc (i := 3) (own := [("cell", 2)]) (g := gName 2) rfl nd rfl rfl (sw_true rfl rfl rfl (by decide +kernel)) (pi_list (pv 0)) (blkOk_by (N := ["script", "mixed", "cell", "great"]) (sc := defScope (top 44)) (by decide +kernel)) (fun _ _ _ _ _ => pg_name (i := 2) nd rfl (Or.inl rfl))
          (fun _ _ _ _ _ => pts_one (pt_cmpR op_ge (pv 2) (pe_op op_pow pe_int pe_int) (nomark _))) (fun _ _ _ _ _ => pv 2))
      (pss_one (ps_ret (pe_disp (pps_cons pe_str (pv 3) (pps_cons pe_str pe_int (pps_cons pe_str (pv 1) pps_nil))) rfl rfl (by simp) (by decide)))))), ?_⟩
    refine ⟨_, rfl, a, rfl, ⟨_, hS⟩, for_it (walk_list (xs := ns.map V.int)) (fun i σ H' => ∃ (x : Int) (y : Option V), σ = [some (.ref a), some (.int x), y, none] ∧ 0 ≤ x ∧ x < 2147483647 ∧ H = H') ?_ ?_ ?_ ?_⟩
    · exact ⟨40277, none, rfl, by decide, by decide, rfl⟩
    · rintro i σ H' hi ⟨x, y, rfl, _, _, rfl⟩
      exact hS
    · rintro i v σ H1 H2 hi ⟨x, y, rfl, h0, h1, rfl⟩ ⟨rfl, ex⟩
      rw [List.getElem?_map] at ex
      obtain ⟨c, _, rfl⟩ := Option.map_eq_some_iff.mp ex
      refine ⟨_, rfl, x, 48271, rfl, rfl, .inl ⟨by omega, by omega⟩, _, rfl, _, c, rfl, rfl, _, 12820163, rfl, rfl, .inl ⟨_, rfl, ?_⟩⟩
      refine ⟨_, 2147483647, rfl, rfl, (by show (0 : Int) < 2147483647; decide), ?_⟩
      exact ⟨_, _, rfl, Int.emod_nonneg _ (by decide), Int.emod_lt_of_pos _ (by decide), rfl⟩
    · rintro σ H' ⟨x, y, rfl, h0, h1, rfl⟩
      refine ⟨_, rfl, a, rfl, ⟨_, hS⟩, fun D hD => ?_⟩
      refine lc_it (walk_list (xs := ns.map V.int)) (fun i H' => ∃ acc : List Int, Same H H' ∧ H' D = some (.lst (acc.map V.int)) ∧ acc.length ≤ i) ?_ ?_ ?_ ?_
      · exact ⟨[], Same.new hD, upd_same, Nat.le_refl _⟩
      · rintro i H' hi ⟨acc, sm, _⟩
        exact sm.seq hS
      · rintro i v H1 H2 hi ⟨acc, sm, hL, hacc⟩ ⟨rfl, ex⟩
        rw [List.getElem?_map] at ex
        obtain ⟨c, _, rfl⟩ := Option.map_eq_some_iff.mp ex
        have hi' : i < ns.length := by rw [List.length_map] at hi; exact hi
        refine ⟨rfl, ?_⟩
        refine ⟨_, rfl, 10, 18, rfl, rfl, ⟨by decide, by decide, by decide⟩, c, _, rfl, rfl, ?_⟩
        by_cases hc : (10 : Int) ^ ((18 : Int)).toNat ≤ c
        · refine ⟨_, rfl, ?_⟩
          rw [decide_eq_true hc]
          refine ⟨_, rfl, acc.map V.int, hL, ?_, acc ++ [c], same_put sm hD, ?_, ?_⟩
          · rw [List.length_map]
            exact Nat.lt_of_le_of_lt (show acc.length ≤ 1000 by omega) (by decide)
          · rw [upd_same, List.map_append]; rfl
          · rw [List.length_append]; exact Nat.succ_le_succ hacc
        · refine ⟨_, rfl, ?_⟩
          rw [decide_eq_false hc]
          exact ⟨acc, sm, hL, Nat.le_succ_of_le hacc⟩
      · rintro H' ⟨acc, sm, hL, hacc⟩
        refine fun p hp => ⟨_, rfl, _, rfl, upd_same, md D 0 x, rfl, (by show 3 ≤ 15; decide), ?_⟩
        rw [merge_md]
        have hpD : D ≠ p := ne_of_none hL hp
        have Hp : H p = none := sm.free hp
        refine q p D _ (same_put (same_put sm Hp) Hp) Hp hD ⟨acc, 0, x, upd_same, ?_, Nat.le_trans (by rw [List.length_map] at hacc; exact hacc) hl, h0, h1⟩
        rw [upd_ne hpD, upd_ne hpD]
        exact hL
/-! _law_of -/
def spOf (K : PySem.W.Frag) : Sp := fun vs H Q _ => ∃ (m lm b : Addr) (xs : List V), vs = [.ref m, .ref b] ∧ MAt H m lm ∧ SqL K H b xs ∧ 0 < xs.length ∧ xs.length < 1000000 ∧
  ∀ (i : Nat) (v : V) (H' : Hp) (l' : Addr), xs[i]? = some v → SameX m H H' → MAt H' m l' → (l' = lm ∨ H l' = none) → Q v H'
theorem sc28 : FnScope ["m", "some"] ["m", "some"] (defScope (top 46)) := ⟨rfl, rfl, rfl, by decide +kernel, rfl, by decide +kernel, by decide +kernel⟩
theorem ok28 {f f27 : Addr} {fd fd27 : FuncData} (F : Fun K "_law_of" "_law_of" (top 46) f fd) (B : Bn mg)
    (D27 : Df K mg "_law_draw" f27 fd27 ["m", "limit"]) (G27 : OkF P w K mg base 1 f27 fd27 ["m", "limit"] spDraw) : OkF P w K mg base 2 f fd ["m", "some"] (spOf K) := by
  refine ok0 F sc28 (fun vs H Q E h => ?_) (fun cdv A outer s H vs Q E hgd hr h => ?_)
  · obtain ⟨m, lm, b, xs, rfl, _⟩ := h; rfl
  · obtain ⟨m, lm, b, xs, rfl, hM, hS, z1, z2, q⟩ := h
    refine ⟨_, pss_one (ps_ret (pe_ix (r := rIxL K) ix_list (pv 1) (cl D27 G27 hgd hr (pa_cons (pv 0) (pa_cons (pe_callB call_len_seq (by rfl) B.len PySem.boot_len (pa_cons (pv 1) pa_nil)) pa_nil))) (fun _ _ => rfl))), ?_⟩
    refine ⟨_, rfl, _, rfl, _, rfl, b, xs, rfl, .inl hS, m, lm, _, rfl, hM, by omega, by omega, fun r H' l' r0 r1 sx hM' hl' => ?_⟩
    obtain ⟨k, rfl⟩ := Int.eq_ofNat_of_zero_le r0
    have hk : k < xs.length := by omega
    exact ⟨b, xs, _, xs[k], rfl, rfl, sqL_m sx hM hS, atI_nat (List.getElem?_eq_getElem hk), q k _ _ l' (List.getElem?_eq_getElem hk) sx hM' hl'⟩
/-! _law_like -/
def spLike (K : PySem.W.Frag) : Sp := fun vs H Q _ => ∃ (v v' : V) (d : PyData), vs = [v, v'] ∧ Dp K H v d ∧ Dp K H v' d ∧ sm d = true ∧ d.depth ≤ 60 ∧ wt d ≤ sizeLine ∧ Q (.bl true) H
theorem sc29 : FnScope ["told", "due"] ["told", "due"] (defScope (top 47)) := ⟨rfl, rfl, rfl, by decide +kernel, rfl, by decide +kernel, by decide +kernel⟩
theorem ok29 {f : Addr} {fd : FuncData} (F : Fun K "_law_like" "_law_like" (top 47) f fd) (B : Bn mg) : OkF P w K mg base 1 f fd ["told", "due"] (spLike K) := by
  refine ok0 F sc29 (fun vs H Q E h => ?_) (fun cdv A outer s H vs Q E hgd hr h => ?_)
  · obtain ⟨v, v', d, rfl, _⟩ := h; rfl
  · obtain ⟨v, v', d, rfl, d1, d2, hs, hp, hz, q⟩ := h
    obtain ⟨s1, s2, s3⟩ := sm_show d hs
    refine ⟨_, pss_one (ps_ret (pe_cmpR op_eq (pe_callB (cr_repr hgd hr.units) (by rfl) B.repr (by decide +kernel) (pa_cons (pv 0) pa_nil)) (pe_callB (cr_repr hgd hr.units) (by rfl) B.repr (by decide +kernel) (pa_cons (pv 1) pa_nil)) (nomark _))), ?_⟩
    refine ⟨_, rfl, v, d, rfl, d1, s1, s2, by omega, hp, _, rfl, v', d, rfl, d2, s1, s2, by omega, hp, rfl, ?_⟩
    rw [show decide (V.str d.shown = V.str d.shown) = true from decide_eq_true rfl]
    exact q
end
theorem paired_perm {α β : Type} {R : α → β → Prop} {xs ys : List α} (h : ys.Perm xs) : ∀ {js : List β}, Paired R xs js → ∃ js', Paired R ys js' ∧ js'.Perm js := by
  induction h with
  | nil => intro js p; cases p; exact ⟨[], .nil, .nil⟩
  | cons x h ih =>
    intro js p
    cases p with
    | cons r t =>
      obtain ⟨js', a, b⟩ := ih t
      exact ⟨_ :: js', .cons r a, b.cons _⟩
  | swap x y l =>
    intro js p
    cases p with
    | cons r t =>
      cases t with
      | cons r2 t2 => exact ⟨_ :: _ :: _, .cons r2 (.cons r t2), .swap ..⟩
  | trans h1 h2 ih1 ih2 =>
    intro js p
    obtain ⟨j1, a1, b1⟩ := ih2 p
    obtain ⟨j2, a2, b2⟩ := ih1 a1
    exact ⟨j2, a2, b2.trans b1⟩
theorem paired_mem {α β : Type} {R : α → β → Prop} : ∀ {ys : List α} {js : List β}, Paired R ys js → ∀ q ∈ js, ∃ y ∈ ys, R y q
  | _, _, .nil, q, h => absurd h (List.not_mem_nil)
  | y :: ys, j :: js, .cons r t, q, h => by
    rcases List.mem_cons.mp h with rfl | h
    · exact ⟨y, List.mem_cons_self, r⟩
    · obtain ⟨z, hz, rz⟩ := paired_mem t q h
      exact ⟨z, List.mem_cons_of_mem _ hz, rz⟩
theorem paired_memL {α β : Type} {R : α → β → Prop} : ∀ {ys : List α} {js : List β}, Paired R ys js → ∀ y ∈ ys, ∃ q ∈ js, R y q
  | _, _, .nil, q, h => absurd h (List.not_mem_nil)
  | y :: ys, j :: js, .cons r t, q, h => by
    rcases List.mem_cons.mp h with rfl | h
    · exact ⟨j, List.mem_cons_self, r⟩
    · obtain ⟨z, hz, rz⟩ := paired_memL t q h
      exact ⟨z, List.mem_cons_of_mem _ hz, rz⟩
theorem paired_pw {α β : Type} {R : α → β → Prop} {S : α → α → Prop} {S' : β → β → Prop} (hs : ∀ x y p q, R x p → R y q → S x y → S' p q) :
    ∀ {ys : List α} {js : List β}, Paired R ys js → ys.Pairwise S → js.Pairwise S'
  | _, _, .nil, _ => .nil
  | y :: ys, j :: js, .cons r t, h => by
    have h' := List.pairwise_cons.mp h
    refine List.pairwise_cons.mpr ⟨fun q hq => ?_, paired_pw hs t h'.2⟩
    obtain ⟨z, hz, rz⟩ := paired_mem t q hq
    exact hs y z j q r rz (h'.1 z hz)
theorem vn_ints (ys : List Nat) : Vn ys = (ys.map fun y => ((y : Nat) : Int)).map V.int := by
  unfold Vn
  rw [List.map_map]
  rfl
theorem cutN (c : Nat) (cs : List Nat) : cutV (Vn (c :: cs)) (some 1) none = Vn cs := by
  rw [vn_ints, vn_ints, List.map_cons, cut1]
theorem vn_app (xs ys : List Nat) : Vn (xs ++ ys) = Vn xs ++ Vn ys := by
  unfold Vn
  exact List.map_append
/-- the left ends at l, the joints made so far at J -/
structure LI (K : PySem.W.Frag) (m : Addr) (n : Nat) (H H' : Hp) (l J lm : Addr) (es : List Nat) (vs : List V) (js : List J2) (i : Nat) : Prop where
  sx : SameX m H H'
  mt : MAt H' m lm
  left : H' l = some (.lst (Vn es))
  jl : H' J = some (.lst vs)
  pr : Paired (Pr K H') vs js
  asc : es.Pairwise (· < ·)
  lt : ∀ e ∈ es, e < 2 * n
  ok : ∀ p ∈ js, p.1 < p.2 ∧ p.2 < 2 * n
  ap : js.Pairwise DC.Apart
  off : ∀ p ∈ js, ∀ e ∈ es, e ≠ p.1 ∧ e ≠ p.2
  fr : H J = none
  ne : J ≠ lm
  ne2 : l ≠ J
  cnt : js.length ≤ i
  len : es.length ≤ 2 * n
theorem MAt.ne {H : Hp} {m lm a : Addr} {o : HO} (h : MAt H m lm) (e : H a = some o) (hu : ∀ kvs, o ≠ .dK kvs) : a ≠ m := by
  rintro rfl
  obtain ⟨cs, b, x, hd, _⟩ := h
  rw [hd] at e
  exact hu _ (Option.some.inj e).symm
theorem LI.draw {K : PySem.W.Frag} {m : Addr} {n : Nat} {H H1 H2 : Hp} {l J lm lm2 : Addr} {es : List Nat} {vs : List V} {js : List J2} {i : Nat}
    (L : LI K m n H H1 l J lm es vs js i) (s : SameX m H1 H2) (hM : MAt H2 m lm2) (hl : lm2 = lm ∨ H1 lm2 = none) : LI K m n H H2 l J lm2 es vs js i where
  sx := L.sx.trans s
  mt := hM
  left := s _ _ (L.mt.ne L.left fun _ z => nomatch z) L.left
  jl := s _ _ (L.mt.ne L.jl fun _ z => nomatch z) L.jl
  pr := L2.Paired.mapP L.pr fun _ _ ⟨t, q, h⟩ => ⟨t, q, sqT_m s L.mt h⟩
  asc := L.asc
  lt := L.lt
  ok := L.ok
  ap := L.ap
  off := L.off
  fr := L.fr
  ne := by
    rcases hl with rfl | h
    · exact L.ne
    · rintro rfl
      rw [L.jl] at h
      cases h
  ne2 := L.ne2
  cnt := L.cnt
  len := L.len
theorem LI.same {K : PySem.W.Frag} {m : Addr} {n : Nat} {H H1 H2 : Hp} {l J lm : Addr} {es : List Nat} {vs : List V} {js : List J2} {i : Nat}
    (L : LI K m n H H1 l J lm es vs js i) (s : Same H1 H2) : LI K m n H H2 l J lm es vs js i := L.draw (Same.x s) (L.mt.up s) (.inl rfl)
/-- the left ends stand elsewhere, some of them taken -/
theorem LI.take {K : PySem.W.Frag} {m : Addr} {n : Nat} {H H1 : Hp} {l l2 J lm : Addr} {es fs : List Nat} {vs : List V} {js : List J2} {i : Nat}
    (L : LI K m n H H1 l J lm es vs js i) (hl : H1 l2 = some (.lst (Vn fs))) (ne2 : l2 ≠ J) (sub : fs.Sublist es) : LI K m n H H1 l2 J lm fs vs js (i + 1) :=
  { L with left := hl, asc := L.asc.sublist sub, lt := fun e he => L.lt e (sub.subset he), off := fun p hp e he => L.off p hp e (sub.subset he), ne2 := ne2, cnt := Nat.le_succ_of_le L.cnt, len := Nat.le_trans sub.length_le L.len }
/-- a joint more -/
theorem LI.more {K : PySem.W.Frag} {m : Addr} {n : Nat} {H H1 : Hp} {l l2 J lm T : Addr} {es fs : List Nat} {vs : List V} {js : List J2} {i a b : Nat}
    (L : LI K m n H H1 l J lm es vs js i) (hT : H1 T = some (.tup [.int (a : Nat), .int (b : Nat)])) (ha : a ∈ es) (hb : b ∈ es) (hab : a < b) {H2 : Hp} (hs : Same (upd H1 J (.lst (vs ++ [.ref T]))) H2)
    (hl : H2 l2 = some (.lst (Vn fs))) (ne2 : l2 ≠ J) (sub : fs.Sublist es) (no : ∀ e ∈ fs, e ≠ a ∧ e ≠ b) : LI K m n H H2 l2 J lm fs (vs ++ [.ref T]) (js ++ [(a, b)]) (i + 1) where
  sx := (L.sx.put L.fr).trans (Same.x hs)
  mt := (L.mt.put (L.mt.ne L.jl fun _ z => nomatch z) L.ne).up hs
  left := hl
  jl := hs _ _ upd_same
  pr := by
    have p1 : Paired (Pr K (upd H1 J (.lst (vs ++ [.ref T])))) (vs ++ [.ref T]) (js ++ [(a, b)]) := pair_snoc (L2.Paired.mapP L.pr fun _ _ ⟨t, q, h⟩ => ⟨t, q, sqT_put h L.jl⟩) ⟨T, rfl, sqT_put (SqT.of hT) L.jl⟩
    exact L2.Paired.mapP p1 fun _ _ z => z.up hs
  asc := L.asc.sublist sub
  lt := fun e he => L.lt e (sub.subset he)
  ok := fun p hp => by
    rcases List.mem_append.mp hp with h | h
    · exact L.ok p h
    · obtain rfl := List.mem_singleton.mp h
      exact ⟨hab, L.lt b hb⟩
  ap := by
    refine List.pairwise_append.mpr ⟨L.ap, List.pairwise_singleton _ _, fun p hp q hq => ?_⟩
    obtain rfl := List.mem_singleton.mp hq
    have h1 := L.off p hp a ha
    have h2 := L.off p hp b hb
    exact ⟨Ne.symm h1.1, Ne.symm h2.1, Ne.symm h1.2, Ne.symm h2.2⟩
  off := fun p hp e he => by
    rcases List.mem_append.mp hp with h | h
    · exact L.off p h e (sub.subset he)
    · obtain rfl := List.mem_singleton.mp h
      exact no e he
  fr := L.fr
  ne := L.ne
  ne2 := ne2
  cnt := by
    rw [List.length_append]
    exact Nat.succ_le_succ L.cnt
  len := Nat.le_trans sub.length_le L.len
/-- the joints, in their order -/
theorem LI.good {K : PySem.W.Frag} {m : Addr} {n : Nat} {H H1 : Hp} {l J lm : Addr} {es : List Nat} {vs ys : List V} {js : List J2} {i : Nat}
    (L : LI K m n H H1 l J lm es vs js i) (h1 : 1 ≤ n) (h12 : n ≤ 12) (pm : ys.Perm vs) (pw : ys.Pairwise (fun x y => ∀ n m, TupI K H1 x n → TupI K H1 y m → TS.code 100 n ≤ TS.code 100 m)) :
    ∃ js', Paired (Pr K H1) ys js' ∧ Good n js' := by
  obtain ⟨js', hp, pj⟩ := paired_perm pm L.pr
  have rng : ∀ p ∈ js', p.1 < p.2 ∧ p.2 < 2 * n := fun p h => L.ok p (pj.mem_iff.mp h)
  have ap : js'.Pairwise DC.Apart := (pj.pairwise_iff (fun {p q} h => ⟨Ne.symm h.1, Ne.symm h.2.2.1, Ne.symm h.2.1, Ne.symm h.2.2.2⟩)).mpr L.ap
  have cw : js'.Pairwise (fun p q => p.1 * 100 + p.2 ≤ q.1 * 100 + q.2) := by
    refine paired_pw (fun x y p q rx ry h => ?_) hp pw
    obtain ⟨t, e, ht⟩ := rx
    obtain ⟨t2, e2, ht2⟩ := ry
    have z := h [((p.1 : Nat) : Int), ((p.2 : Nat) : Int)] [((q.1 : Nat) : Int), ((q.2 : Nat) : Int)] ⟨t, e, ht⟩ ⟨t2, e2, ht2⟩
    simp only [TS.code, List.length_cons, List.length_nil, Nat.zero_add, Int.pow_one, Int.pow_zero] at z
    omega
  refine ⟨js', hp, h1, h12, rng, ?_, ap⟩
  refine List.Pairwise.imp_of_mem (fun {p q} hp hq h => ?_) (List.Pairwise.and cw ap)
  have a1 := rng p hp
  have a2 := rng q hq
  have a3 := h.1
  have a4 := h.2.1
  omega
theorem in2 (e a b : Nat) : inV (.int (e : Nat)) [.int (a : Nat), .int (b : Nat)] = decide (e = a ∨ e = b) := by
  show ((((a : Nat) : Int) == ((e : Nat) : Int)) || ((((b : Nat) : Int) == ((e : Nat) : Int)) || false)) = _
  rw [Bool.eq_iff_iff]
  simp only [Bool.or_eq_true, beq_iff_eq, decide_eq_true_eq, Bool.false_eq_true, or_false]
  omega
section
variable {P : Program} {w : World} {K : PySem.W.Frag} {mg : Str → Option Value} {base : Heap}
def spMake (K : PySem.W.Frag) : Sp := fun vs H Q _ => ∃ (m lm : Addr) (n : Nat), vs = [.ref m, .int n] ∧ MAt H m lm ∧ 1 ≤ n ∧ n ≤ 12 ∧
  ∀ (v : V) (js : List J2) (H' : Hp) (l' : Addr), SameX m H H' → MAt H' m l' → Ly K H' v n js → Good n js → Q v H'
abbrev N30 : List Str := ["m", "links", "left", "joints_so", "share", "turn", "end", "mate", "other"]
theorem sc30 : FnScope N30 ["m", "links"] (defScope (top 48)) := ⟨rfl, rfl, rfl, by decide +kernel, rfl, by decide +kernel, by decide +kernel⟩
theorem ok30 {f f27 f28 : Addr} {fd fd27 fd28 : FuncData} (F : Fun K "_law_lay" "_law_lay" (top 48) f fd) (B : Bn mg)
    (D27 : Df K mg "_law_draw" f27 fd27 ["m", "limit"]) (G27 : OkF P w K mg base 1 f27 fd27 ["m", "limit"] spDraw)
    (D28 : Df K mg "_law_of" f28 fd28 ["m", "some"]) (G28 : OkF P w K mg base 2 f28 fd28 ["m", "some"] (spOf K)) : OkF P w K mg base 3 f fd ["m", "links"] (spMake K) := by
  refine ok0 F sc30 (fun vs H Q E h => ?_) (fun cdv A outer s H vs Q E hgd hr h => ?_)
  · obtain ⟨m, lm, n, rfl, _⟩ := h; rfl
  · obtain ⟨m, lm, n, rfl, hM, h1, h12, q⟩ := h
    have nd := sc30.nd
    have hr1 : Room 1 _ := hr.mono (by decide)
    refine ⟨_, pss_cons (ps_par3 (i := 2) (j := 3) (l := 4) (by rfl) nd rfl rfl rfl (by decide) (by decide) (by decide) rfl rfl rfl
        (pa_cons (pe_listRg rfl (by rfl) B.list (prg_1 (by rfl) B.range (pe_op op_mul pe_int (pv 1)))) (pa_cons (pe_lst pa_nil) (pa_cons (cl D28 G28 hgd hr (pa_cons (pv 0) (pa_cons (pe_lst (pa_cons pe_int (pa_cons pe_int (pa_cons pe_int (pa_cons pe_int (pa_cons pe_int (pa_cons pe_int pa_nil))))))) pa_nil))) pa_nil))) (by rfl))
      (pss_cons (ps_for PassesOwn.never rfl (pi_range1 (by rfl) B.range (pa_cons (pe_op op_mul pe_int (pv 1)) pa_nil)) (pg_name (i := 5) nd rfl (.inl rfl))
        (pss_one (ps_if (pt_cmpR op_gt (pe_callB call_len_seq (by rfl) B.len PySem.boot_len (pa_cons (pv 2) pa_nil)) pe_int (nomark _))
          (pss_cons (ps_set (i := 6) nd rfl (.inr rfl) (pe_ix (r := rIxL K) ix_list (pv 2) pe_int (fun _ _ => rfl)))
          (pss_one (ps_if (pt_cmpR op_gt (cl D27 G27 hgd hr1 (pa_cons (pv 0) (pa_cons (pv 4) pa_nil))) pe_int (nomark _))
            (pss_cons (ps_set (i := 7) nd rfl (.inr rfl) (pe_ix (r := rIxL K) ix_list (pv 2) (pe_op op_add pe_int (cl D27 G27 hgd hr1 (pa_cons (pv 0) (pa_cons (pe_op op_sub (pe_callB call_len_seq (by rfl) B.len PySem.boot_len (pa_cons (pv 2) pa_nil)) pe_int) pa_nil)))) (fun _ _ => rfl)))
            (pss_cons (ps_expr (pe_bm PySem.F.plainAttrs_list PySem.F.slot_list_append PySem.F.type_list_append mt_append (pv 3) (pa_cons (pe_tup (pa_cons (pv 6) (pa_cons (pv 7) pa_nil))) pa_nil)))
            (pss_one (ps_setLc (i := 2) (own := [("other", 8)]) (g := gName 8) rfl nd rfl rfl (sw_true rfl rfl rfl (by decide +kernel)) (pi_list (pv 2)) (blkOk_by (N := N30) (sc := defScope (top 48)) (by decide +kernel)) (fun _ _ _ _ _ => pg_name (i := 8) nd rfl (Or.inl rfl))
              (fun _ _ _ _ _ => pts_one (pt_cmpR (r := rIn K true) op_notIn_seq (pv 8) (pe_tup (pa_cons (pv 6) (pa_cons (pv 7) pa_nil))) (by rfl))) (fun _ _ _ _ _ => pv 8)))))
            (pss_one (ps_set (i := 2) nd rfl (.inl rfl) (pe_slice sl_list (pv 2) (po_some pe_int) po_none))))))
          pss_nil)))
      (pss_one (ps_ret (pe_tup (pa_cons (pv 1) (pa_cons (pe_callTy call_tuple_of (by rfl) B.tuple (by decide +kernel) (pa_cons (pe_callB (cr_sortT (d := 2) (B := 100) (by decide)) (by rfl) B.sorted (by decide +kernel) (pa_cons (pv 3) pa_nil)) pa_nil)) pa_nil)))))), ?_⟩
    refine ⟨_, rfl, 2, (n : Int), rfl, rfl, .inl ⟨by decide, by decide⟩, _, rfl, RgOk.of_le (by omega) (by omega) (by omega) (by omega), fun l0 hl0 => ?_⟩
    refine ⟨by show 0 ≤ sizeLine; decide, fun J hJ => ?_⟩
    refine ⟨_, rfl, by show 6 ≤ sizeLine; decide, fun b hb => ?_⟩
    have s1 : Same H (upd H l0 (.lst (rgV 0 (2 * (n : Int))))) := Same.new hl0
    have s2 := s1.trans (Same.new (o := .lst []) hJ)
    have s3 := s2.trans (Same.new (o := .lst [.int 1, .int 2, .int 3, .int 3, .int 5, .int 9]) hb)
    have eJ0 : l0 ≠ J := ne_of_none upd_same hJ
    have aJ : upd (upd H l0 (.lst (rgV 0 (2 * (n : Int))))) J (.lst []) J = some (.lst []) := upd_same
    have aJ3 := Same.new (o := .lst [.int 1, .int 2, .int 3, .int 3, .int 5, .int 9]) hb _ _ aJ
    have al3 := Same.new (o := .lst [.int 1, .int 2, .int 3, .int 3, .int 5, .int 9]) hb _ _ (Same.new (o := .lst []) hJ _ _ (upd_same (H := H) (a := l0) (o := .lst (rgV 0 (2 * (n : Int))))))
    have fJ : H J = none := s1.free hJ
    refine ⟨m, lm, b, _, rfl, hM.up s3, SqL.of upd_same, by show 0 < 6; decide, by show 6 < 1000000; decide, fun i v H1 l1 hv sx hM1 hl1 => ?_⟩
    obtain ⟨sh, rfl, z0, z1⟩ : ∃ sh : Int, v = .int sh ∧ 0 < sh ∧ sh < 1000000 := by
      have hm := List.mem_of_getElem? hv
      simp only [List.mem_cons, List.not_mem_nil, or_false] at hm
      rcases hm with rfl | rfl | rfl | rfl | rfl | rfl <;> exact ⟨_, rfl, by decide, by decide⟩
    have hM3 := hM.up s3
    have L0 : LI K m n H H1 l0 J l1 (List.range (2 * n)) [] [] 0 := by
      refine ⟨(Same.x s3).trans sx, hM1, ?_, ?_, .nil, ?_, ?_, fun p hp => absurd hp (List.not_mem_nil), .nil, fun p hp => absurd hp (List.not_mem_nil), fJ, ?_, eJ0, Nat.le_refl _, by rw [List.length_range]; exact Nat.le_refl _⟩
      · rw [sx _ _ (hM3.ne al3 fun _ z => nomatch z) al3]
        unfold rgV Vn
        rw [show (2 * (n : Int) - 0).toNat = 2 * n by omega]
        congr 2
        refine List.map_congr_left fun i _ => ?_
        rw [Int.zero_add]
      · exact sx _ _ (hM3.ne aJ3 fun _ z => nomatch z) aJ3
      · exact List.pairwise_lt_range
      · intro e he
        exact List.mem_range.mp he
      · rintro rfl
        rcases hl1 with rfl | h
        · obtain ⟨cs, _, _, _, e2, _⟩ := hM
          rw [fJ] at e2
          cases e2
        · rw [aJ3] at h
          cases h
    refine ⟨_, _, _, rfl, ?_⟩
    refine ⟨_, rfl, 2, (n : Int), rfl, rfl, .inl ⟨by decide, by decide⟩, _, rfl, by omega, by omega, ?_⟩
    rw [show (2 * (n : Int)).toNat = 2 * n by omega]
    refine for_it (walk_range (lo := 0) (n := 2 * n)) (fun i σ H' => ∃ (y5 y6 y7 : Option V) (l lm2 : Addr) (es : List Nat) (vs : List V) (js : List J2),
      σ = [some (.ref m), some (.int n), some (.ref l), some (.ref J), some (.int sh), y5, y6, y7, none] ∧ LI K m n H H' l J lm2 es vs js i) ⟨none, none, none, l0, l1, _, _, _, rfl, L0⟩ (fun _ _ _ _ _ => trivial) ?_ ?_
    · rintro i x σ H2 H3 hi ⟨y5, y6, y7, l, lm2, es, vs, js, rfl, L⟩ ⟨rfl, ex⟩
      have n24 := L.cnt
      refine ⟨_, rfl, l, _, rfl, .inl (SqL.of L.left), _, 1, rfl, rfl, _, rfl, ite2 (fun d => ?_) (fun d => ?_)⟩
      · match es, L, d with
        | [], L, d => exact absurd (of_decide_eq_true d) (by show ¬ (1 : Int) < 0; decide)
        | [e0], L, d => exact absurd (of_decide_eq_true d) (by show ¬ (1 : Int) < 1; decide)
        | e0 :: e1 :: er, L, d =>
        refine ⟨_, rfl, l, _, 0, .int (e0 : Nat), rfl, rfl, SqL.of L.left, at_of (j := 0) rfl rfl, ?_⟩
        refine gn ?_
        refine ⟨_, rfl, _, rfl, m, lm2, sh, rfl, L.mt, z0, z1, fun r H4 l4 r0 r1 sx4 hM4 hl4 => ?_⟩
        have L4 := L.draw sx4 hM4 hl4
        refine ⟨r, 0, rfl, rfl, _, rfl, ite2 (fun d2 => ?_) (fun d2 => ?_)⟩
        · refine ⟨_, rfl, _, rfl, _, rfl, l, _, rfl, .inl (SqL.of L4.left), _, 1, rfl, rfl, m, l4, _, rfl, L4.mt, ?_, ?_, fun r2 H5 l5 b0 b1 sx5 hM5 hl5 => ?_⟩
          · rw [Vn_len]
            show (0 : Int) < ((er.length + 1 + 1 : Nat) : Int) - 1
            omega
          · rw [Vn_len]
            have := L.len
            omega
          obtain ⟨k, rfl⟩ := Int.eq_ofNat_of_zero_le b0
          have hk : k + 1 < (e0 :: e1 :: er).length := by
            rw [Vn_len] at b1
            omega
          have L5 := L4.draw sx5 hM5 hl5
          have eat : (Vn (e0 :: e1 :: er))[k + 1]? = some (.int ((e0 :: e1 :: er).getD (k + 1) 0 : Nat)) := Vn_at hk
          generalize hek : (e0 :: e1 :: er).getD (k + 1) 0 = ek at eat
          have hmem : ek ∈ e1 :: er := by
            rw [← hek, List.getD_cons_succ, List.getD_eq_getElem?_getD, List.getElem?_eq_getElem (Nat.lt_of_succ_lt_succ hk)]
            exact List.getElem_mem _
          have hlt : e0 < ek := (List.pairwise_cons.mp L.asc).1 ek hmem
          refine ⟨1, (k : Nat), rfl, rfl, l, _, _, .int (ek : Nat), rfl, rfl, SqL.of L5.left, ?_, gn ?_⟩
          · rw [show (1 : Int) + ((k : Nat) : Int) = ((k + 1 : Nat) : Int) by omega]
            exact atI_nat eat
          have el : vs.length = js.length := Paired.length L.pr
          refine ⟨_, rfl, .inl ⟨rfl, _, SqL.of L5.jl⟩, _, rfl, _, rfl, by show 2 ≤ sizeLine; decide, fun T hT => ?_⟩
          refine ⟨J, _, _, rfl, rfl, Same.new hT _ _ L5.jl, Nat.lt_of_le_of_lt (show vs.length ≤ 1000 by omega) (by decide), ?_⟩
          have L6 := L5.same (Same.new (o := .tup [.int (e0 : Nat), .int (ek : Nat)]) hT)
          have left7 : upd (upd H5 T (.tup [.int (e0 : Nat), .int (ek : Nat)])) J (.lst (vs ++ [.ref T])) l = some (.lst (Vn (e0 :: e1 :: er))) := by
            rw [upd_ne L.ne2]
            exact L6.left
          refine ⟨_, rfl, l, rfl, ⟨_, SqL.of left7⟩, fun D hD => ?_⟩
          have nDJ : D ≠ J := fun z => by
            rw [z, upd_same] at hD
            cases hD
          refine lc_it (walk_list (xs := Vn (e0 :: e1 :: er))) (fun i H' => Same (upd (upd H5 T (.tup [.int (e0 : Nat), .int (ek : Nat)])) J (.lst (vs ++ [.ref T]))) H' ∧
            H' D = some (.lst (Vn (((e0 :: e1 :: er).take i).filter fun e => !decide (e = e0 ∨ e = ek))))) ⟨Same.new hD, upd_same⟩ (fun i H' _ hp => SqL.of (hp.1 _ _ left7)) ?_ ?_
          · rintro i2 v Ha Hb hi2 ⟨sm, hL⟩ ⟨rfl, ev⟩
            rw [Vn_len] at hi2
            have ev2 := Vn_at hi2
            have eg : (e0 :: e1 :: er)[i2]? = some ((e0 :: e1 :: er).getD i2 0) := by rw [List.getD_eq_getElem?_getD, List.getElem?_eq_getElem hi2]; rfl
            generalize (e0 :: e1 :: er).getD i2 0 = e at ev2 eg
            obtain rfl : v = V.int (e : Nat) := Option.some.inj (ev.symm.trans ev2)
            refine ⟨rfl, _, rfl, _, rfl, _, rfl, by show 2 ≤ sizeLine; decide, fun T2 hT2 => ?_⟩
            refine ⟨T2, _, rfl, .inr (SqT.of upd_same), rfl, rfl, _, rfl, ?_⟩
            show if (!inV (V.int (e : Nat)) [V.int (e0 : Nat), V.int (ek : Nat)]) = true then _ else _
            rw [in2, take_next eg, List.filter_append]
            have sT := Same.new (o := .tup [.int (e0 : Nat), .int (ek : Nat)]) hT2
            by_cases hc : e = e0 ∨ e = ek
            · rw [decide_eq_true hc]
              refine iteF ⟨sm.trans sT, ?_⟩
              rw [List.filter_cons_of_neg (by rw [decide_eq_true hc]; decide), List.filter_nil, List.append_nil]
              exact sT _ _ hL
            · rw [decide_eq_false hc]
              refine iteT ⟨_, rfl, _, sT _ _ hL, ?_, same_put (sm.trans sT) hD, ?_⟩
              · rw [Vn_len]
                refine Nat.lt_of_le_of_lt (Nat.le_trans (List.length_filter_le _ _) (Nat.le_trans (List.length_take_le' _ _) (Nat.le_trans L.len (show 2 * n ≤ 1000 by omega)))) (by decide)
              · rw [upd_same, List.filter_cons_of_pos (by rw [decide_eq_false hc]; rfl), List.filter_nil, vn_app]
                rfl
          · rintro H' ⟨sm, hL⟩
            rw [List.take_of_length_le (by rw [Vn_len]; exact Nat.le_refl _)] at hL
            refine ⟨_, _, _, D, l5, _, _, _, rfl, L6.more upd_same List.mem_cons_self (List.mem_cons_of_mem _ hmem) hlt sm hL nDJ List.filter_sublist fun e he => ?_⟩
            have hz := (List.mem_filter.mp he).2
            simp only [Bool.not_eq_true', decide_eq_false_iff_not] at hz
            exact ⟨fun z => hz (.inl z), fun z => hz (.inr z)⟩
        · refine ⟨_, rfl, 1, rfl, l, _, rfl, SqL.of L4.left, fun p hp => ?_⟩
          have L5 := L4.same (Same.new (o := .lst (cutV (Vn (e0 :: e1 :: er)) (some 1) none)) hp)
          refine ⟨_, _, _, p, l4, _, _, _, rfl, L5.take (fs := e1 :: er) ?_ ?_ (List.sublist_cons_self _ _)⟩
          · rw [upd_same, cutN]
          · exact Ne.symm (ne_of_none L4.jl hp)
      · exact ⟨_, _, _, _, _, _, _, _, rfl, { L with cnt := Nat.le_succ_of_le L.cnt }⟩
    · rintro σ H' ⟨y5, y6, y7, l, lm2, es, vs, js, rfl, L⟩
      have n24 := L.cnt
      have el : vs.length = js.length := Paired.length L.pr
      refine ⟨_, rfl, _, rfl, J, vs, rfl, SqL.of L.jl, by omega, ?_, fun ys p hperm hpw hp => ?_⟩
      · intro x hx
        obtain ⟨pq, hpq, t, rfl, ht⟩ := paired_memL L.pr x hx
        refine ⟨[((pq.1 : Nat) : Int), ((pq.2 : Nat) : Int)], ⟨t, rfl, ht⟩, rfl, ?_⟩
        have z := L.ok pq hpq
        intro u hu
        simp only [List.mem_cons, List.not_mem_nil, or_false] at hu
        rcases hu with rfl | rfl <;> constructor <;> omega
      · obtain ⟨js', hP, hG⟩ := L.good h1 h12 hperm hpw
        refine ⟨p, _, rfl, .inl ⟨SqL.of upd_same, fun t ht => ?_⟩⟩
        refine ⟨by show 2 ≤ sizeLine; decide, fun T hT => ?_⟩
        have sp : Same H' (upd H' p (.lst ys)) := Same.new hp
        have st := sp.trans (Same.new (o := .tup ys) ht)
        have sT := st.trans (Same.new (o := .tup [.int (n : Nat), .ref t]) hT)
        refine q (.ref T) js' _ lm2 (L.sx.trans (Same.x sT)) (L.mt.up sT) ⟨T, .ref t, rfl, SqT.of upd_same, t, ys, rfl, SqT.of (Same.new hT _ _ upd_same), L2.Paired.mapP hP fun _ _ z => z.up sT⟩ hG
end
end K42
-- C02
set_option Elab.async false
set_option linter.all false
set_option maxRecDepth 100000
set_option maxHeartbeats 4000000
/-! C02: mates of a lay as a function. -/
namespace DC
open PySem L2
def mt : List J2 → Nat → Option Nat
  | [], _ => none
  | p :: js, e => if e = p.1 then some p.2 else if e = p.2 then some p.1 else mt js e
theorem mt_app (p : J2) : ∀ (xs : List J2) (e : Nat), mt (xs ++ [p]) e = (mt xs e).or (if e = p.1 then some p.2 else if e = p.2 then some p.1 else none)
  | [], e => by
    show (if e = p.1 then some p.2 else if e = p.2 then some p.1 else mt [] e) = _
    rfl
  | q :: xs, e => by
    show (if e = q.1 then some q.2 else if e = q.2 then some q.1 else mt (xs ++ [p]) e) = ((if e = q.1 then some q.2 else if e = q.2 then some q.1 else mt xs e) : Option Nat).or _
    rw [mt_app p xs e]
    split
    · rfl
    · split <;> rfl
theorem mt_none : ∀ {xs : List J2} {e : Nat}, ¬ Seen xs e → mt xs e = none
  | [], _, _ => rfl
  | q :: xs, e, h => by
    have h1 : e ≠ q.1 := fun z => h ⟨q, List.mem_cons_self, .inl z⟩
    have h2 : e ≠ q.2 := fun z => h ⟨q, List.mem_cons_self, .inr z⟩
    show (if e = q.1 then some q.2 else if e = q.2 then some q.1 else mt xs e) = none
    rw [if_neg h1, if_neg h2]
    exact mt_none fun ⟨p, hp, r⟩ => h ⟨p, List.mem_cons_of_mem _ hp, r⟩
theorem mt_some : ∀ {xs : List J2} {e x : Nat}, mt xs e = some x → ∃ p ∈ xs, (e = p.1 ∧ x = p.2) ∨ (e = p.2 ∧ x = p.1)
  | [], _, _, h => by cases h
  | q :: xs, e, x, h => by
    have h' : (if e = q.1 then some q.2 else if e = q.2 then some q.1 else mt xs e) = some x := h
    split at h'
    · rename_i c
      exact ⟨q, List.mem_cons_self, .inl ⟨c, (Option.some.inj h').symm⟩⟩
    · split at h'
      · rename_i c
        exact ⟨q, List.mem_cons_self, .inr ⟨c, (Option.some.inj h').symm⟩⟩
      · obtain ⟨p, hp, r⟩ := mt_some h'
        exact ⟨p, List.mem_cons_of_mem _ hp, r⟩
theorem mt_of {xs : List J2} (ap : xs.Pairwise Apart) (ne : ∀ p ∈ xs, p.1 ≠ p.2) {p : J2} (hp : p ∈ xs) : mt xs p.1 = some p.2 ∧ mt xs p.2 = some p.1 := by
  induction xs with
  | nil => exact absurd hp (List.not_mem_nil)
  | cons q xs ih =>
    have ap' := List.pairwise_cons.mp ap
    show (if p.1 = q.1 then some q.2 else if p.1 = q.2 then some q.1 else mt xs p.1) = some p.2 ∧ (if p.2 = q.1 then some q.2 else if p.2 = q.2 then some q.1 else mt xs p.2) = some p.1
    rcases List.mem_cons.mp hp with rfl | hp
    · have n := ne p List.mem_cons_self
      rw [if_pos rfl, if_neg (Ne.symm n), if_pos rfl]
      exact ⟨rfl, rfl⟩
    · obtain ⟨a1, a2, a3, a4⟩ := ap'.1 p hp
      rw [if_neg (Ne.symm a1), if_neg (Ne.symm a3), if_neg (Ne.symm a2), if_neg (Ne.symm a4)]
      exact ih ap'.2 (fun r hr => ne r (List.mem_cons_of_mem _ hr)) hp
/-- a good lay's mates go both ways, are no fixed ends, lie within -/
structure Mt (N : Nat) (f : Nat → Option Nat) : Prop where
  inv : ∀ {a b}, f a = some b → f b = some a
  irr : ∀ {a}, f a ≠ some a
  lt : ∀ {a b}, f a = some b → a < N ∧ b < N
theorem Good.mt {n : Nat} {js : List J2} (g : Good n js) : Mt (2 * n) (mt js) := by
  have ne : ∀ p ∈ js, p.1 ≠ p.2 := fun p hp => Nat.ne_of_lt (g.rng p hp).1
  refine ⟨?_, ?_, ?_⟩
  · intro a b h
    obtain ⟨p, hp, ⟨rfl, rfl⟩ | ⟨rfl, rfl⟩⟩ := mt_some h
    · exact (mt_of g.dis ne hp).2
    · exact (mt_of g.dis ne hp).1
  · intro a h
    obtain ⟨p, hp, ⟨e1, e2⟩ | ⟨e1, e2⟩⟩ := mt_some h
    · exact ne p hp (e1.symm.trans e2)
    · exact ne p hp (e2.symm.trans e1)
  · intro a b h
    obtain ⟨p, hp, ⟨rfl, rfl⟩ | ⟨rfl, rfl⟩⟩ := mt_some h
    · have := g.rng p hp
      omega
    · have := g.rng p hp
      omega
def oV : Option Nat → V
  | none => .non
  | some x => .int (x : Nat)
def mV (n : Nat) (js : List J2) : List V := (List.range (2 * n)).map fun e => oV (mt js e)
theorem mV_len (n : Nat) (js : List J2) : (mV n js).length = 2 * n := by
  unfold mV
  rw [List.length_map, List.length_range]
theorem mV_at {n : Nat} {js : List J2} {e : Nat} (h : e < 2 * n) : (mV n js)[e]? = some (oV (mt js e)) := by
  unfold mV
  rw [List.getElem?_map, List.getElem?_range h]
  rfl
theorem range_set {α : Type} {N i : Nat} (f : Nat → α) (v : α) : ((List.range N).map f).set i v = (List.range N).map fun e => if e = i then v else f e := by
  apply List.ext_getElem
  · rw [List.length_set, List.length_map, List.length_map]
  · intro k h1 h2
    rw [List.getElem_set, List.getElem_map, List.getElem_map, List.getElem_range]
    by_cases c : i = k
    · rw [if_pos c, if_pos c.symm]
    · rw [if_neg c, if_neg (Ne.symm c)]
theorem mV_step {n : Nat} {xs : List J2} {p : J2} (h1 : ¬ Seen xs p.1) (h2 : ¬ Seen xs p.2) : ((mV n xs).set p.1 (.int (p.2 : Nat))).set p.2 (.int (p.1 : Nat)) = mV n (xs ++ [p]) := by
  unfold mV
  rw [range_set, range_set]
  refine List.map_congr_left fun e _ => ?_
  rw [mt_app]
  by_cases a : e = p.2
  · subst a
    rw [if_pos rfl, mt_none h2]
    by_cases b : p.2 = p.1
    · rw [if_pos b, b]
      rfl
    · rw [if_neg b, if_pos rfl]
      rfl
  · rw [if_neg a]
    by_cases b : e = p.1
    · subst b
      rw [if_pos rfl, mt_none h1, if_pos rfl]
      rfl
    · rw [if_neg b, if_neg b, if_neg a, Option.or_none]
/-- the other end of the same link -/
def fel (e : Nat) : Nat := if e % 2 = 0 then e + 1 else e - 1
def tld (e : Nat) : Int := if e % 2 = 0 then ((e / 2 + 1 : Nat) : Int) else -((e / 2 + 1 : Nat) : Int)
/-- the free ends -/
def frees (n : Nat) (js : List J2) : List Nat := (List.range (2 * n)).filter fun e => (mt js e).isNone
end DC
-- C03
set_option Elab.async false
set_option linter.all false
set_option maxRecDepth 100000
set_option maxHeartbeats 4000000
/-! C03: walks along the links of a lay. -/
namespace DC
theorem fel_fel (e : Nat) : fel (fel e) = e := by
  unfold fel
  split <;> split <;> omega
theorem fel_ne (e : Nat) : fel e ≠ e := by
  unfold fel
  split <;> omega
theorem fel_lt {n e : Nat} (h : e < 2 * n) : fel e < 2 * n := by
  unfold fel
  split <;> omega
theorem fel_inj {a b : Nat} (h : fel a = fel b) : a = b := by rw [← fel_fel a, h, fel_fel]
theorem fel_div (e : Nat) : fel e / 2 = e / 2 := by
  unfold fel
  split <;> omega
theorem same_link {a b : Nat} (h : a / 2 = b / 2) : a = b ∨ a = fel b := by
  unfold fel
  split <;> omega
theorem tld_fel (e : Nat) : tld (fel e) = - tld e := by
  unfold tld fel
  split <;> split <;> omega
theorem tld_inj {a b : Nat} (h : tld a = tld b) : a = b := by
  unfold tld at h
  split at h <;> split at h <;> omega
theorem nodup_le {α : Type} [DecidableEq α] : ∀ {l m : List α}, l.Nodup → (∀ x ∈ l, x ∈ m) → l.length ≤ m.length
  | [], _, _, _ => Nat.zero_le _
  | a :: l, m, h, s => by
    have ha := s a (List.mem_cons_self ..)
    have h' := List.nodup_cons.mp h
    have q := nodup_le (l := l) (m := m.erase a) h'.2 fun x hx => (List.mem_erase_of_ne (show x ≠ a from fun e => h'.1 (e ▸ hx))).mpr (s x (List.mem_cons_of_mem _ hx))
    rw [List.length_erase_of_mem ha] at q
    have := List.length_pos_of_mem ha
    rw [List.length_cons]
    omega
def it (f : Nat → Option Nat) (a : Nat) : Nat → Option Nat
  | 0 => some a
  | k + 1 => (it f a k).bind fun e => f (fel e)
theorem it_step {f : Nat → Option Nat} {a k x : Nat} (h : it f a (k + 1) = some x) : ∃ y, it f a k = some y ∧ f (fel y) = some x := Option.bind_eq_some_iff.mp h
theorem it_next {f : Nat → Option Nat} {a k y : Nat} (h : it f a k = some y) : it f a (k + 1) = f (fel y) := by
  show (it f a k).bind _ = _
  rw [h]
  rfl
theorem it_add {f : Nat → Option Nat} {a b j : Nat} (h : it f a j = some b) : ∀ i, it f b i = it f a (j + i)
  | 0 => h.symm
  | i + 1 => by
    show (it f b i).bind _ = (it f a (j + i)).bind _
    rw [it_add h i]
structure Part (f : Nat → Option Nat) (a k : Nat) : Prop where
  pos : 0 < k
  all : ∀ i, i < k → ∃ x, it f a i = some x
  no : ∀ i, 0 < i → i < k → it f a i ≠ some a
/-- a whole walk: it ends at a free end, or where it began -/
structure Run (f : Nat → Option Nat) (a k : Nat) : Prop extends Part f a k where
  fin : it f a k = none ∨ it f a k = some a
def wk (f : Nat → Option Nat) (a k : Nat) : List Nat := (List.range k).map fun i => (it f a i).getD 0
section
variable {f : Nat → Option Nat} {N a k : Nat}
theorem wk_len : (wk f a k).length = k := by
  unfold wk
  rw [List.length_map, List.length_range]
theorem wk_at {i x : Nat} (hi : i < k) (h : it f a i = some x) : (wk f a k)[i]? = some x := by
  unfold wk
  rw [List.getElem?_map, List.getElem?_range hi, Option.map_some, h]
  rfl
theorem mem_wk (P : Part f a k) {x : Nat} : x ∈ wk f a k ↔ ∃ i, i < k ∧ it f a i = some x := by
  unfold wk
  rw [List.mem_map]
  constructor
  · rintro ⟨i, hi, rfl⟩
    have hi := List.mem_range.mp hi
    obtain ⟨y, hy⟩ := P.all i hi
    exact ⟨i, hi, by rw [hy]; rfl⟩
  · rintro ⟨i, hi, h⟩
    exact ⟨i, List.mem_range.mpr hi, by rw [h]; rfl⟩
theorem wk_succ (x : Nat) (h : it f a k = some x) : wk f a (k + 1) = wk f a k ++ [x] := by
  unfold wk
  rw [List.range_succ, List.map_append, List.map_cons, h]
  rfl
theorem Part.one : Part f a 1 := ⟨by decide, fun i hi => ⟨a, by rw [show i = 0 by omega]; rfl⟩, fun i h1 h2 => by omega⟩
theorem Part.next (P : Part f a k) {x : Nat} (h : it f a k = some x) (hx : x ≠ a) : Part f a (k + 1) := by
  refine ⟨Nat.succ_pos _, fun i hi => ?_, fun i h1 h2 => ?_⟩
  · by_cases c : i = k
    · exact ⟨x, c ▸ h⟩
    · exact P.all i (by omega)
  · by_cases c : i = k
    · rw [c, h]
      exact fun z => hx (Option.some.inj z)
    · exact P.no i h1 (by omega)
theorem it_back (M : Mt N f) : ∀ (i d x : Nat), it f a i = some x → it f a (i + d) = some x → it f a d = some a
  | 0, d, x, h1, h2 => by
    rw [Nat.zero_add] at h2
    rw [h2]
    exact h1.symm
  | i + 1, d, x, h1, h2 => by
    obtain ⟨y, hy, ey⟩ := it_step h1
    rw [show i + 1 + d = (i + d) + 1 by omega] at h2
    obtain ⟨z, hz, ez⟩ := it_step h2
    have e := (M.inv ey).symm.trans (M.inv ez)
    have e2 := fel_inj (Option.some.inj e)
    subst e2
    exact it_back M i d y hy hz
theorem Part.inj (P : Part f a k) (M : Mt N f) {i j x : Nat} (hi : i < k) (hj : j < k) (h1 : it f a i = some x) (h2 : it f a j = some x) : i = j := by
  rcases Nat.lt_trichotomy i j with c | c | c
  · rw [show j = i + (j - i) by omega] at h2
    exact absurd (it_back M i (j - i) x h1 h2) (P.no _ (by omega) (by omega))
  · exact c
  · rw [show i = j + (i - j) by omega] at h1
    exact absurd (it_back M j (i - j) x h2 h1) (P.no _ (by omega) (by omega))
theorem Part.lt (P : Part f a k) (M : Mt N f) (ha : a < N) : ∀ x ∈ wk f a k, x < N := by
  intro x hx
  obtain ⟨i, hi, h⟩ := (mem_wk P).mp hx
  cases i with
  | zero =>
    have e : a = x := Option.some.inj h
    omega
  | succ i =>
    obtain ⟨y, _, e⟩ := it_step h
    exact (M.lt e).2
theorem Part.nodup (P : Part f a k) (M : Mt N f) : (wk f a k).Nodup := by
  unfold wk
  rw [List.Nodup, List.pairwise_map]
  refine List.Pairwise.imp_of_mem (fun {i j} hi hj hne e => ?_) (List.nodup_range (n := k))
  obtain ⟨x, hx⟩ := P.all i (List.mem_range.mp hi)
  obtain ⟨y, hy⟩ := P.all j (List.mem_range.mp hj)
  rw [hx, hy] at e
  have e : x = y := e
  subst e
  exact hne (P.inj M (List.mem_range.mp hi) (List.mem_range.mp hj) hx hy)
theorem Part.le (P : Part f a k) (M : Mt N f) (ha : a < N) : k ≤ N := by
  have q := nodup_le (m := List.range N) (P.nodup M) fun x hx => List.mem_range.mpr (P.lt M ha x hx)
  rw [wk_len, List.length_range] at q
  exact q
theorem run_ex (M : Mt N f) (ha : a < N) : ∃ k, Run f a k := by
  have gen : ∀ d k, Part f a k → N - k ≤ d → ∃ k, Run f a k := by
    intro d
    induction d with
    | zero =>
      intro k P h
      cases e : it f a k with
      | none => exact ⟨k, P, .inl e⟩
      | some x =>
        by_cases c : x = a
        · exact ⟨k, P, .inr (by rw [e, c])⟩
        · have := (P.next e c).le M ha
          omega
    | succ d ih =>
      intro k P h
      cases e : it f a k with
      | none => exact ⟨k, P, .inl e⟩
      | some x =>
        by_cases c : x = a
        · exact ⟨k, P, .inr (by rw [e, c])⟩
        · exact ih (k + 1) (P.next e c) (by omega)
  exact gen N 1 .one (by omega)
theorem run_eq {j : Nat} (R : Run f a k) (S : Run f a j) : k = j := by
  have gen : ∀ {k j}, Run f a k → Run f a j → ¬ k < j := by
    intro k j R S c
    rcases R.fin with h | h
    · obtain ⟨x, hx⟩ := S.all k c
      rw [h] at hx
      cases hx
    · exact S.no k R.pos c h
  rcases Nat.lt_trichotomy k j with c | c | c
  · exact absurd c (gen R S)
  · exact c
  · exact absurd c (gen S R)
/-- no link is come to by both its ends -/
theorem no_fel (M : Mt N f) : ∀ (d i x : Nat), it f a i = some x → it f a (i + d) = some (fel x) → False
  | 0, i, x, h1, h2 => by
    have e : some x = some (fel x) := h1.symm.trans h2
    exact fel_ne x (Option.some.inj e).symm
  | 1, i, x, h1, h2 => by
    rw [it_next h1] at h2
    exact M.irr h2
  | d + 2, i, x, h1, h2 => by
    obtain ⟨z, hz, ez⟩ := it_step (k := i + d + 1) h2
    have e := M.inv ez
    rw [← it_next h1] at e
    refine no_fel M d (i + 1) (fel z) e ?_
    rw [fel_fel, show i + 1 + d = i + d + 1 by omega]
    exact hz
theorem Part.link (P : Part f a k) (M : Mt N f) {i j x y : Nat} (hi : i < k) (hj : j < k) (h1 : it f a i = some x) (h2 : it f a j = some y) (h : x / 2 = y / 2) : i = j := by
  rcases same_link h with rfl | rfl
  · exact P.inj M hi hj h1 h2
  · rcases Nat.le_total j i with c | c
    · rw [show i = j + (i - j) by omega] at h1
      exact (no_fel M _ j y h2 h1).elim
    · rw [show j = i + (j - i) by omega] at h2
      rw [← fel_fel y] at h2
      exact (no_fel M _ i (fel y) h1 h2).elim
/-- the walk backwards -/
theorem it_rev (M : Mt N f) (P : Part f a k) {z : Nat} (hz : it f a (k - 1) = some z) : ∀ i, i < k → it f (fel z) i = (it f a (k - 1 - i)).map fel
  | 0, _ => by
    rw [Nat.sub_zero, hz]
    rfl
  | i + 1, hi => by
    have ih := it_rev M P hz i (by omega)
    obtain ⟨y, hy⟩ := P.all (k - 1 - i) (by omega)
    rw [hy] at ih
    have ih' : it f (fel z) i = some (fel y) := ih
    rw [it_next ih', fel_fel]
    have hy' : it f a ((k - 1 - (i + 1)) + 1) = some y := by
      rw [show k - 1 - (i + 1) + 1 = k - 1 - i by omega]
      exact hy
    obtain ⟨w, hw, ew⟩ := it_step hy'
    rw [hw, M.inv ew]
    rfl
theorem rev_part (M : Mt N f) (P : Part f a k) {z : Nat} (hz : it f a (k - 1) = some z) : Part f (fel z) k := by
  have pos := P.pos
  refine ⟨P.pos, fun i hi => ?_, fun i h1 h2 e => ?_⟩
  · obtain ⟨y, hy⟩ := P.all (k - 1 - i) (by omega)
    exact ⟨fel y, by rw [it_rev M P hz i hi, hy]; rfl⟩
  · rw [it_rev M P hz i h2] at e
    obtain ⟨y, hy⟩ := P.all (k - 1 - i) (by omega)
    rw [hy] at e
    have e2 := fel_inj (Option.some.inj e)
    subst e2
    have := P.inj M (by omega) (by omega) hy hz
    omega
theorem rev_wk (M : Mt N f) (P : Part f a k) {z : Nat} (hz : it f a (k - 1) = some z) : wk f (fel z) k = ((wk f a k).reverse).map fel := by
  apply List.ext_getElem?
  intro i
  by_cases hi : i < k
  · obtain ⟨y, hy⟩ := P.all (k - 1 - i) (by omega)
    have h := it_rev M P hz i hi
    rw [hy] at h
    rw [wk_at hi h, List.getElem?_map, List.getElem?_reverse (by rw [wk_len]; exact hi), wk_len, wk_at (by omega) hy]
    rfl
  · rw [List.getElem?_eq_none (by rw [wk_len]; omega), List.getElem?_eq_none (by rw [List.length_map, List.length_reverse, wk_len]; omega)]
theorem rev_fin (M : Mt N f) (P : Part f a k) {z : Nat} (hz : it f a (k - 1) = some z) : it f (fel z) k = f a := by
  have pos := P.pos
  have h := it_rev M P hz (k - 1) (by omega)
  rw [show k - 1 - (k - 1) = 0 by omega] at h
  have h' : it f (fel z) (k - 1) = some (fel a) := h
  have e := it_next h'
  rw [show k - 1 + 1 = k by omega, fel_fel] at e
  exact e
end
end DC
-- C10
set_option Elab.async false
set_option linter.all false
set_option maxRecDepth 100000
set_option maxHeartbeats 4000000
/-! C10: walks by two pairings in turn; what hangs together by both. -/
namespace DC
/-- which pairing is followed at a step -/
def hh (f g : Nat → Option Nat) (i : Nat) : Nat → Option Nat := if i % 2 = 0 then f else g
def jt (f g : Nat → Option Nat) (a : Nat) : Nat → Option Nat
  | 0 => some a
  | k + 1 => (jt f g a k).bind (hh f g k)
section
variable {f g : Nat → Option Nat} {N a k : Nat}
theorem hh_par {i j : Nat} (h : i % 2 = j % 2) : hh f g i = hh f g j := by
  unfold hh
  rw [h]
theorem hh_inv (F : Mt N f) (G : Mt N g) {i x y : Nat} (h : hh f g i x = some y) : hh f g i y = some x := by
  unfold hh at h ⊢
  split at h
  · rename_i c
    rw [if_pos c]
    exact F.inv h
  · rename_i c
    rw [if_neg c]
    exact G.inv h
theorem hh_irr (F : Mt N f) (G : Mt N g) {i x : Nat} : hh f g i x ≠ some x := by
  unfold hh
  split
  · exact F.irr
  · exact G.irr
theorem hh_lt (F : Mt N f) (G : Mt N g) {i x y : Nat} (h : hh f g i x = some y) : y < N := by
  unfold hh at h
  split at h
  · exact (F.lt h).2
  · exact (G.lt h).2
theorem jt_step {x : Nat} (h : jt f g a (k + 1) = some x) : ∃ y, jt f g a k = some y ∧ hh f g k y = some x := Option.bind_eq_some_iff.mp h
theorem jt_next {y : Nat} (h : jt f g a k = some y) : jt f g a (k + 1) = hh f g k y := by
  show (jt f g a k).bind _ = _
  rw [h]
  rfl
theorem jt_odd (F : Mt N f) (G : Mt N g) : ∀ (d i x : Nat), jt f g a i = some x → jt f g a (i + (2 * d + 1)) = some x → False
  | 0, i, x, h1, h2 => by
    rw [show i + (2 * 0 + 1) = i + 1 by omega, jt_next h1] at h2
    exact hh_irr F G h2
  | d + 1, i, x, h1, h2 => by
    rw [show i + (2 * (d + 1) + 1) = (i + 2 * d + 2) + 1 by omega] at h2
    obtain ⟨y, hy, ey⟩ := jt_step h2
    rw [hh_par (show (i + 2 * d + 2) % 2 = i % 2 by omega)] at ey
    have e := hh_inv F G ey
    rw [← jt_next h1] at e
    exact jt_odd F G d (i + 1) y e (by rw [show i + 1 + (2 * d + 1) = i + 2 * d + 2 by omega]; exact hy)
theorem jt_even (F : Mt N f) (G : Mt N g) (d : Nat) : ∀ (i x : Nat), jt f g a i = some x → jt f g a (i + 2 * d) = some x → jt f g a (2 * d) = some a
  | 0, x, h1, h2 => by
    rw [Nat.zero_add] at h2
    rw [h2]
    exact h1.symm
  | i + 1, x, h1, h2 => by
    obtain ⟨y, hy, ey⟩ := jt_step h1
    rw [show i + 1 + 2 * d = (i + 2 * d) + 1 by omega] at h2
    obtain ⟨z, hz, ez⟩ := jt_step h2
    rw [hh_par (show (i + 2 * d) % 2 = i % 2 by omega)] at ez
    have e := (hh_inv F G ey).symm.trans (hh_inv F G ez)
    obtain rfl := Option.some.inj e
    exact jt_even F G d i y hy hz
structure Pj (f g : Nat → Option Nat) (a k : Nat) : Prop where
  pos : 0 < k
  all : ∀ i, i < k → ∃ x, jt f g a i = some x
  no : ∀ i, 0 < i → i < k → jt f g a i ≠ some a
structure Rj (f g : Nat → Option Nat) (a k : Nat) : Prop extends Pj f g a k where
  fin : jt f g a k = none ∨ jt f g a k = some a
def rj (f g : Nat → Option Nat) (a k : Nat) : List Nat := (List.range k).map fun i => (jt f g a i).getD 0
theorem rj_len : (rj f g a k).length = k := by
  unfold rj
  rw [List.length_map, List.length_range]
theorem rj_succ (x : Nat) (h : jt f g a k = some x) : rj f g a (k + 1) = rj f g a k ++ [x] := by
  unfold rj
  rw [List.range_succ, List.map_append, List.map_cons, h]
  rfl
theorem mem_rj (P : Pj f g a k) {x : Nat} : x ∈ rj f g a k ↔ ∃ i, i < k ∧ jt f g a i = some x := by
  unfold rj
  rw [List.mem_map]
  constructor
  · rintro ⟨i, hi, rfl⟩
    have hi := List.mem_range.mp hi
    obtain ⟨y, hy⟩ := P.all i hi
    exact ⟨i, hi, by rw [hy]; rfl⟩
  · rintro ⟨i, hi, h⟩
    exact ⟨i, List.mem_range.mpr hi, by rw [h]; rfl⟩
theorem Pj.one : Pj f g a 1 := ⟨by decide, fun i hi => ⟨a, by rw [show i = 0 by omega]; rfl⟩, fun i h1 h2 => by omega⟩
theorem Pj.next (P : Pj f g a k) {x : Nat} (h : jt f g a k = some x) (hx : x ≠ a) : Pj f g a (k + 1) := by
  refine ⟨Nat.succ_pos _, fun i hi => ?_, fun i h1 h2 => ?_⟩
  · by_cases c : i = k
    · exact ⟨x, c ▸ h⟩
    · exact P.all i (by omega)
  · by_cases c : i = k
    · rw [c, h]
      exact fun z => hx (Option.some.inj z)
    · exact P.no i h1 (by omega)
theorem Pj.inj (P : Pj f g a k) (F : Mt N f) (G : Mt N g) {i j x : Nat} (hi : i < k) (hj : j < k) (h1 : jt f g a i = some x) (h2 : jt f g a j = some x) : i = j := by
  have gen : ∀ {i j : Nat}, j < k → jt f g a i = some x → jt f g a j = some x → ¬ i < j := by
    intro i j hj h1 h2 c
    by_cases e : (j - i) % 2 = 0
    · rw [show j = i + 2 * ((j - i) / 2) by omega] at h2
      exact P.no _ (by omega) (by omega) (jt_even F G ((j - i) / 2) i x h1 h2)
    · rw [show j = i + (2 * ((j - i) / 2) + 1) by omega] at h2
      exact jt_odd F G _ i x h1 h2
  rcases Nat.lt_trichotomy i j with c | c | c
  · exact absurd c (gen hj h1 h2)
  · exact c
  · exact absurd c (gen hi h2 h1)
theorem Pj.lt (P : Pj f g a k) (F : Mt N f) (G : Mt N g) (ha : a < N) : ∀ x ∈ rj f g a k, x < N := by
  intro x hx
  obtain ⟨i, hi, h⟩ := (mem_rj P).mp hx
  cases i with
  | zero =>
    have e : a = x := Option.some.inj h
    omega
  | succ i =>
    obtain ⟨y, _, e⟩ := jt_step h
    exact hh_lt F G e
theorem Pj.nodup (P : Pj f g a k) (F : Mt N f) (G : Mt N g) : (rj f g a k).Nodup := by
  unfold rj
  rw [List.Nodup, List.pairwise_map]
  refine List.Pairwise.imp_of_mem (fun {i j} hi hj hne e => ?_) (List.nodup_range (n := k))
  obtain ⟨x, hx⟩ := P.all i (List.mem_range.mp hi)
  obtain ⟨y, hy⟩ := P.all j (List.mem_range.mp hj)
  rw [hx, hy] at e
  have e : x = y := e
  subst e
  exact hne (P.inj F G (List.mem_range.mp hi) (List.mem_range.mp hj) hx hy)
theorem Pj.le (P : Pj f g a k) (F : Mt N f) (G : Mt N g) (ha : a < N) : k ≤ N := by
  have q := nodup_le (m := List.range N) (P.nodup F G) fun x hx => List.mem_range.mpr (P.lt F G ha x hx)
  rw [rj_len, List.length_range] at q
  exact q
theorem rj_eq {j : Nat} (R : Rj f g a k) (S : Rj f g a j) : k = j := by
  have gen : ∀ {k j}, Rj f g a k → Rj f g a j → ¬ k < j := by
    intro k j R S c
    rcases R.fin with h | h
    · obtain ⟨x, hx⟩ := S.all k c
      rw [h] at hx
      cases hx
    · exact S.no k R.pos c h
  rcases Nat.lt_trichotomy k j with c | c | c
  · exact absurd c (gen R S)
  · exact c
  · exact absurd c (gen S R)
/-- one leads to the other by some pairing -/
def Nb (f g : Nat → Option Nat) (x y : Nat) : Prop := f x = some y ∨ g x = some y
inductive Cl (f g : Nat → Option Nat) (a : Nat) : Nat → Prop
  | base : Cl f g a a
  | step {x y : Nat} : Cl f g a x → Nb f g x y → Cl f g a y
theorem nb_hh {i x y : Nat} (h : hh f g i x = some y) : Nb f g x y := by
  unfold hh at h
  split at h
  · exact .inl h
  · exact .inr h
theorem nb_or {i x y : Nat} (h : Nb f g x y) : hh f g i x = some y ∨ hh f g (i + 1) x = some y := by
  unfold hh
  by_cases c : i % 2 = 0
  · rw [if_pos c, if_neg (show ¬ (i + 1) % 2 = 0 by omega)]
    exact h
  · rw [if_neg c, if_pos (show (i + 1) % 2 = 0 by omega)]
    exact h.symm
theorem nb_symm (F : Mt N f) (G : Mt N g) {x y : Nat} (h : Nb f g x y) : Nb f g y x := h.imp F.inv G.inv
theorem cl_trans {x y : Nat} (h1 : Cl f g a x) (h2 : Cl f g x y) : Cl f g a y := by
  induction h2 with
  | base => exact h1
  | step _ n ih => exact ih.step n
theorem cl_symm (F : Mt N f) (G : Mt N g) {x y : Nat} (h : Cl f g x y) : Cl f g y x := by
  induction h with
  | base => exact .base
  | step _ n ih => exact cl_trans (.step .base (nb_symm F G n)) ih
theorem cl_closed {S : Nat → Prop} (h0 : S a) (hs : ∀ x y, S x → Nb f g x y → S y) : ∀ {x}, Cl f g a x → S x := by
  intro x h
  induction h with
  | base => exact h0
  | step _ n ih => exact hs _ _ ih n
theorem rj_cl (P : Pj f g a k) : ∀ x ∈ rj f g a k, Cl f g a x := by
  have gen : ∀ i x, jt f g a i = some x → Cl f g a x := by
    intro i
    induction i with
    | zero => intro x h; obtain rfl : a = x := Option.some.inj h; exact .base
    | succ i ih =>
      intro x h
      obtain ⟨y, hy, e⟩ := jt_step h
      exact (ih y hy).step (nb_hh e)
  intro x hx
  obtain ⟨i, _, h⟩ := (mem_rj P).mp hx
  exact gen i x h
/-- the row of a piece is all that hangs together with its beginning: begun at a last end, or in a ring -/
theorem cl_rj (F : Mt N f) (G : Mt N g) (R : Rj f g a k) (h0 : g a = none ∨ jt f g a k = some a) : ∀ x, Cl f g a x → x ∈ rj f g a k := by
  have P := R.toPj
  intro x hx
  refine cl_closed (S := fun x => x ∈ rj f g a k) ((mem_rj P).mpr ⟨0, P.pos, rfl⟩) (fun x y hx n => ?_) hx
  obtain ⟨i, hi, hxi⟩ := (mem_rj P).mp hx
  -- ahead: by the pairing that is followed there
  have ahead : hh f g i x = some y → y ∈ rj f g a k := by
    intro e
    rw [← jt_next hxi] at e
    by_cases c : i + 1 < k
    · exact (mem_rj P).mpr ⟨i + 1, c, e⟩
    · rw [show i + 1 = k by omega] at e
      rcases R.fin with z | z
      · rw [z] at e
        cases e
      · rw [z] at e
        obtain rfl : a = y := Option.some.inj e
        exact (mem_rj P).mpr ⟨0, P.pos, rfl⟩
  -- behind: by the other one
  have behind : hh f g (i + 1) x = some y → y ∈ rj f g a k := by
    intro e
    cases i with
    | zero =>
      obtain rfl : a = x := Option.some.inj hxi
      have e' : g a = some y := e
      rcases h0 with z | z
      · rw [z] at e'
        cases e'
      · have pos := P.pos
        have ev : k % 2 = 0 := by
          by_cases c : k % 2 = 0
          · exact c
          · rw [show k = 0 + (2 * (k / 2) + 1) by omega] at z
            exact (jt_odd F G (k / 2) 0 a rfl z).elim
        rw [show k = (k - 1) + 1 by omega] at z
        obtain ⟨w, hw, ew⟩ := jt_step z
        have ew' := hh_inv F G ew
        have e2 : hh f g (k - 1) a = g a := by
          unfold hh
          rw [if_neg (by omega)]
        rw [e2, e'] at ew'
        obtain rfl := Option.some.inj ew'
        exact (mem_rj P).mpr ⟨k - 1, by omega, hw⟩
    | succ i =>
      obtain ⟨w, hw, ew⟩ := jt_step hxi
      rw [hh_par (show (i + 1 + 1) % 2 = i % 2 by omega)] at e
      have ew' := hh_inv F G ew
      rw [e] at ew'
      obtain rfl := Option.some.inj ew'
      exact (mem_rj P).mpr ⟨i, by omega, hw⟩
  rcases nb_or (i := i) n with e | e
  · exact ahead e
  · exact behind e
end
end DC
-- K42c
set_option Elab.async false
set_option linter.all false
set_option maxRecDepth 100000
set_option maxHeartbeats 4000000
namespace K42
open PySem L2 DC
section
variable {P : Program} {w : World} {K : PySem.W.Frag} {mg : Str → Option Value} {base : Heap}
def spMates (K : PySem.W.Frag) : Sp := fun vs H Q _ => ∃ (v : V) (n : Nat) (js : List J2), vs = [v] ∧ Ly K H v n js ∧ Good n js ∧ ∀ (r : Addr) (H' : Hp), Same H H' → H r = none → H' r = some (.lst (mV n js)) → Q (.ref r) H'
theorem non_rep {n : Nat} : (List.replicate (2 * (n : Int)).toNat [V.non]).flatten = mV n [] := by
  rw [show (2 * (n : Int)).toNat = 2 * n by omega]
  unfold mV
  rw [show (fun e => oV (mt [] e)) = fun _ : Nat => V.non from rfl, List.map_const', List.length_range]
  induction 2 * n with
  | zero => rfl
  | succ k ih => rw [List.replicate_succ, List.flatten_cons, ih]; rfl
abbrev N17 : List Str := ["lay", "links", "joints", "found", "low", "high"]
theorem sc17 : FnScope N17 ["lay"] (defScope (top 18)) := ⟨rfl, rfl, rfl, by decide +kernel, rfl, by decide +kernel, by decide +kernel⟩
theorem ok17 {f : Addr} {fd : FuncData} (F : Fun K "mates" "mates" (top 18) f fd) (B : Bn mg) : OkF P w K mg base 1 f fd ["lay"] (spMates K) := by
  refine ok0 F sc17 (fun vs H Q E h => ?_) (fun cdv A outer s H vs Q E hgd hr h => ?_)
  · obtain ⟨v, n, js, rfl, _⟩ := h; rfl
  · obtain ⟨v, n, js, rfl, ⟨t, u, rfl, hS, tj, ws, rfl, hSj, hPj⟩, g, q⟩ := h
    have nd := sc17.nd
    have tp := g.top
    refine ⟨_, pss_cons (ps_asg (pv 0) (pg_tup (by rfl) (pgs_cons (pg_name (i := 1) nd rfl (.inl rfl)) (pgs_cons (pg_name (i := 2) nd rfl (.inl rfl)) pgs_nil))))
      (pss_cons (ps_set (i := 3) nd rfl (.inl rfl) (pe_op op_rep (pe_lst (pa_cons pe_non pa_nil)) (pe_op op_mul pe_int (pv 1))))
      (pss_cons (ps_for PassesOwn.never rfl (pi_tup (pv 2)) (pg_tup (by rfl) (pgs_cons (pg_name (i := 4) nd rfl (.inl rfl)) (pgs_cons (pg_name (i := 5) nd rfl (.inl rfl)) pgs_nil)))
        (pss_cons (ps_asg (pv 5) (pg_sub (pv 3) (pv 4) set_list)) (pss_one (ps_asg (pv 4) (pg_sub (pv 3) (pv 5) set_list)))))
      (pss_one (ps_ret (pv 3))))), ?_⟩
    refine ⟨_, rfl, t, _, rfl, hS, rfl, _, _, rfl, _, _, rfl, rfl, ?_⟩
    refine ⟨by show 1 ≤ sizeLine; decide, fun l0 hl0 => ?_⟩
    refine ⟨_, rfl, 2, (n : Int), rfl, rfl, .inl ⟨by decide, by decide⟩, l0, 2 * (n : Int), [.non], rfl, rfl, upd_same, by omega, by omega, ?_, fun l hl => ?_⟩
    · show 1 * (2 * (n : Int)).toNat ≤ sizeLine
      exact Nat.le_trans (show 1 * (2 * (n : Int)).toNat ≤ 24 by omega) (by decide)
    refine gn ?_
    have Hl : H l = none := Same.free (same_new0 hl0) hl
    have s2 : Same H (upd (upd H l0 (.lst [.non])) l (.lst (List.replicate (2 * (n : Int)).toNat [V.non]).flatten)) := same_put (same_new0 hl0) Hl
    refine ⟨_, rfl, tj, rfl, ⟨ws, Same.t s2 hSj⟩, for_it (walk_tup (xs := ws)) (fun i σ H' => ∃ y4 y5, σ = [some (.ref t), some (.int n), some (.ref tj), some (.ref l), y4, y5] ∧ Same H H' ∧ H' l = some (.lst (mV n (js.take i)))) ⟨none, none, rfl, s2, ?_⟩ ?_ ?_ ?_⟩
    · rw [upd_same, non_rep]
      rfl
    · rintro i σ H' hi ⟨y4, y5, rfl, sm, _⟩
      exact Same.t sm hSj
    · rintro i x σ H1 H2 hi ⟨y4, y5, rfl, sm, hL⟩ ⟨rfl, ex⟩
      obtain ⟨p, hp, j, rfl, hj⟩ := pair_at hPj ex
      obtain ⟨r1, r2, r3, r4, r5⟩ := good_at g hp
      refine ⟨j, _, rfl, Same.t sm hj, rfl, _, _, rfl, _, _, rfl, rfl, ?_⟩
      refine ⟨_, rfl, _, rfl, _, rfl, l, mV n (js.take i), _, p.1, rfl, rfl, hL, Evl.ixN_nat (by rw [mV_len]; omega), ?_⟩
      refine ⟨_, rfl, _, rfl, _, rfl, l, _, _, p.2, rfl, rfl, upd_same, Evl.ixN_nat (by rw [List.length_set, mV_len]; exact r2), ?_⟩
      refine ⟨_, _, rfl, same_put (same_put sm Hl) Hl, ?_⟩
      rw [upd_same, take_next hp, mV_step r3 r4]
    · rintro σ H' ⟨y4, y5, rfl, sm, hL⟩
      rw [List.take_of_length_le (by rw [Paired.length hPj]; exact Nat.le_refl _)] at hL
      exact ⟨_, rfl, q l H' sm Hl hL⟩

def spAlong : Sp := fun vs H Q _ => ∃ (m1 m2 : Addr) (n a : Nat) (js ls : List J2), vs = [.ref m1, .ref m2, .int a] ∧ H m1 = some (.lst (mV n js)) ∧ H m2 = some (.lst (mV n ls)) ∧ Good n js ∧ Good n ls ∧ a < 2 * n ∧
  ∀ (k : Nat) (r : Addr) (H' : Hp), Rj (mt js) (mt ls) a k → Same H H' → H r = none → H' r = some (.lst (Vn (rj (mt js) (mt ls) a k))) → Q (.ref r) H'
abbrev N20 : List Str := ["first", "second", "begun", "row", "here"]
theorem sc20 : FnScope N20 ["first", "second", "begun"] (defScope (top 29)) := ⟨rfl, rfl, rfl, by decide +kernel, rfl, by decide +kernel, by decide +kernel⟩
def sw (m1 m2 : Addr) (i : Nat) : Addr := if i % 2 = 0 then m1 else m2
theorem ok20 {f : Addr} {fd : FuncData} (F : Fun K "row_along" "row_along" (top 29) f fd) (B : Bn mg) : OkF P w K mg base 1 f fd ["first", "second", "begun"] spAlong := by
  refine ok0 F sc20 (fun vs H Q E h => ?_) (fun cdv A outer s H vs Q E hgd hr h => ?_)
  · obtain ⟨m1, m2, n, a, js, ls, rfl, _⟩ := h; rfl
  · obtain ⟨m1, m2, n, a, js, ls, rfl, hm1, hm2, g1, g2, ha, q⟩ := h
    have nd := sc20.nd
    have tp := g1.top
    have F1 := g1.mt
    have F2 := g2.mt
    refine ⟨_, pss_cons (ps_set (i := 3) nd rfl (.inl rfl) (pe_lst (pa_cons (pv 2) pa_nil)))
      (pss_cons (ps_set (i := 4) nd rfl (.inl rfl) (pe_ix (r := rIxL K) ix_list (pv 0) (pv 2) (fun _ _ => rfl)))
      (pss_cons (ps_while PassesOwn.never (PW.pt (pw_and (pt_cmp (pc_notN (pv 4)) rfl) (pw_and1 (pt_cmpR op_ne (pv 4) (pv 2) (nomark _)))))
        (pss_cons (ps_expr (pe_bm PySem.F.plainAttrs_list PySem.F.slot_list_append PySem.F.type_list_append mt_append (pv 3) (pa_cons (pv 4) pa_nil)))
        (pss_cons (ps_par (i := 0) (j := 1) (by rfl) nd rfl rfl (by decide) rfl rfl (pa_cons (pv 1) (pa_cons (pv 0) pa_nil)) (by rfl))
        (pss_one (ps_set (i := 4) nd rfl (.inl rfl) (pe_ix (r := rIxL K) ix_list (pv 0) (pv 4) (fun _ _ => rfl)))))))
      (pss_one (ps_ret (pv 3))))), ?_⟩
    refine ⟨_, rfl, by show 1 ≤ sizeLine; decide, fun l hl => gn ?_⟩
    have s1 : Same H (upd H l (.lst [.int a])) := Same.new hl
    refine ⟨_, rfl, _, rfl, m1, _, _, _, rfl, rfl, SqL.of (s1 _ _ hm1), atI_nat (mV_at ha), gn ?_⟩
    have hsw : ∀ i, H (sw m1 m2 i) = some (.lst ((List.range (2 * n)).map fun e => oV (hh (mt js) (mt ls) i e))) := by
      intro i
      unfold sw hh
      split
      · exact hm1
      · exact hm2
    let Wf : Nat → L2.St → Hp → Prop := fun k σ H' => ∃ i, k = 2 * n - (i + 1) ∧ σ = [some (.ref (sw m1 m2 i)), some (.ref (sw m1 m2 (i + 1))), some (.int a), some (.ref l), some (oV (jt (mt js) (mt ls) a (i + 1)))] ∧ Pj (mt js) (mt ls) a (i + 1) ∧ Same H H' ∧
      H' l = some (.lst (Vn (rj (mt js) (mt ls) a (i + 1))))
    refine ⟨Wf, ⟨_, 0, rfl, rfl, .one, s1, upd_same⟩, ?_⟩
    rintro k σ H1 ⟨i, rfl, rfl, Pt, sm, hL⟩
    have ile := Pt.le F1 F2 ha
    cases e : jt (mt js) (mt ls) a (i + 1) with
    | none =>
      exact ⟨_, rfl, false, rfl, iteF (iteF ⟨_, rfl, q _ l _ ⟨Pt, .inl e⟩ sm hl hL⟩)⟩
    | some x =>
      refine ⟨_, rfl, true, rfl, iteT ⟨_, rfl, _, rfl, rfl, _, rfl, ?_⟩⟩
      by_cases c : x = a
      · rw [show decide (oV (some x) = V.int (a : Nat)) = true from decide_eq_true (by rw [c]; rfl)]
        exact iteF ⟨_, rfl, q _ l _ ⟨Pt, .inr (by rw [e, c])⟩ sm hl hL⟩
      · rw [show decide (oV (some x) = V.int (a : Nat)) = false from decide_eq_false (fun z => c (by have := V.int.inj z; omega))]
        have Pn := Pt.next e c
        have hx : x < 2 * n := Pn.lt F1 F2 ha x ((mem_rj Pn).mpr ⟨i + 1, by omega, e⟩)
        refine iteT ⟨fun σ' H' => ∃ k', k' < 2 * n - (i + 1) ∧ Wf k' σ' H', fun σ' H' hw => hw, ?_⟩
        refine ⟨_, rfl, .inl ⟨rfl, _, SqL.of hL⟩, _, rfl, l, _, _, rfl, rfl, hL, ?_, ?_⟩
        · rw [Vn_len, rj_len]
          exact Nat.lt_of_le_of_lt (show i + 1 ≤ 1000 by omega) (by decide)
        have sm2 := same_put (l := l) (o := .lst (Vn (rj (mt js) (mt ls) a (i + 1)) ++ [.int (x : Nat)])) sm hl
        refine ⟨_, rfl, _, rfl, _, _, rfl, ?_⟩
        refine ⟨_, rfl, _, rfl, sw m1 m2 (i + 1), _, _, _, rfl, rfl, SqL.of (sm2 _ _ (hsw (i + 1))), atI_nat (v := oV (hh (mt js) (mt ls) (i + 1) x)) (by rw [List.getElem?_map, List.getElem?_range hx]; rfl), gn ?_⟩
        have nle := Pn.le F1 F2 ha
        refine ⟨_, by omega, i + 1, rfl, ?_, Pn, sm2, ?_⟩
        · rw [jt_next e, show sw m1 m2 (i + 1 + 1) = sw m1 m2 i by unfold sw; rw [show (i + 1 + 1) % 2 = i % 2 by omega]]
          rfl
        · rw [upd_same, rj_succ x e]
          unfold Vn
          rw [List.map_append]
          rfl
end
end K42
-- C11
set_option Elab.async false
set_option linter.all false
set_option maxRecDepth 100000
set_option maxHeartbeats 4000000
/-! C11: the pieces of a web. -/
namespace DC
open PySem L2
section
variable {f g : Nat → Option Nat} {N a k : Nat}
theorem cl_swap {x : Nat} (h : Cl f g a x) : Cl g f a x := by
  induction h with
  | base => exact .base
  | step _ n ih => exact ih.step n.symm
/-- all that hangs together with a, each once -/
structure Cls (N : Nat) (f g : Nat → Option Nat) (a : Nat) (row : List Nat) : Prop where
  mem : ∀ x, x ∈ row ↔ Cl f g a x
  nd : row.Nodup
  lt : ∀ x ∈ row, x < N
theorem Cls.swap {row : List Nat} (c : Cls N f g a row) : Cls N g f a row := ⟨fun x => (c.mem x).trans ⟨cl_swap, cl_swap⟩, c.nd, c.lt⟩
theorem cls_rj (F : Mt N f) (G : Mt N g) (ha : a < N) (R : Rj f g a k) (h0 : g a = none ∨ jt f g a k = some a) : Cls N f g a (rj f g a k) :=
  ⟨fun x => ⟨rj_cl R.toPj x, cl_rj F G R h0 x⟩, R.toPj.nodup F G, R.toPj.lt F G ha⟩
theorem Cls.beg {row : List Nat} (c : Cls N f g a row) : a ∈ row := (c.mem a).mpr .base
/-- two such are the same, or apart -/
theorem Cls.meet {b : Nat} {row row' : List Nat} (F : Mt N f) (G : Mt N g) (c : Cls N f g a row) (d : Cls N f g b row') {x : Nat} (h : x ∈ row) (h' : x ∈ row') : ∀ y, y ∈ row → y ∈ row' := by
  intro y hy
  have e1 := (c.mem x).mp h
  have e2 := (d.mem x).mp h'
  have e3 := (c.mem y).mp hy
  exact (d.mem y).mpr (cl_trans e2 (cl_trans (cl_symm F G e1) e3))
end
/-- the row of a piece that is no ring, begun with a last end of it; "open" or "shut" where it is even -/
def Pth (js ls : List J2) (a : Nat) (kd : Str) (row : List Nat) : Prop := ∃ k,
  (mt js a = none ∧ Rj (mt ls) (mt js) a k ∧ row = rj (mt ls) (mt js) a k ∧ kd = "open") ∨ (mt js a ≠ none ∧ Rj (mt js) (mt ls) a k ∧ row = rj (mt js) (mt ls) a k ∧ kd = "shut")
def oddK (row : List Nat) (kd : Str) : Str := if row.length % 2 = 1 then "odd" else kd
/-- an end that is free in one of both -/
def Lst (js ls : List J2) (e : Nat) : Prop := mt js e = none ∨ mt ls e = none
theorem pth_cls {n : Nat} {js ls : List J2} (g1 : Good n js) (g2 : Good n ls) {a : Nat} (ha : a < 2 * n) {kd : Str} {row : List Nat} (h : Pth js ls a kd row) (hl : Lst js ls a) : Cls (2 * n) (mt js) (mt ls) a row := by
  obtain ⟨k, ⟨e, R, rfl, _⟩ | ⟨e, R, rfl, _⟩⟩ := h
  · exact (cls_rj g2.mt g1.mt ha R (.inl e)).swap
  · exact cls_rj g1.mt g2.mt ha R (.inl (hl.resolve_left e))
/-- a piece: its kind, its row -/
def Wpc (n : Nat) (js ls : List J2) (p : Str × List Nat) : Prop := ∃ a, a < 2 * n ∧ Cls (2 * n) (mt js) (mt ls) a p.2 ∧
  ((Lst js ls a ∧ (∃ kd, Pth js ls a kd p.2 ∧ p.1 = oddK p.2 kd) ∧ ∀ e ∈ p.2, Lst js ls e → a ≤ e) ∨
   ((∀ e ∈ p.2, ¬ Lst js ls e) ∧ p.1 = "ring" ∧ (∃ k, Rj (mt js) (mt ls) a k ∧ p.2 = rj (mt js) (mt ls) a k) ∧ ∀ e ∈ p.2, a ≤ e))
/-- the pieces found so far, the ends seen -/
structure Wi (n : Nat) (js ls : List J2) (ps : List (Str × List Nat)) (bs : List Bool) : Prop where
  len : bs.length = 2 * n
  seen : ∀ e, e < 2 * n → (bs[e]? = some true ↔ ∃ p ∈ ps, e ∈ p.2)
  pcs : ∀ p ∈ ps, Wpc n js ls p
  dis : ps.Pairwise (fun p q => ∀ e, e ∈ p.2 → e ∉ q.2)
section
variable {n : Nat} {js ls : List J2} {ps : List (Str × List Nat)} {bs : List Bool}
theorem Wi.apart (W : Wi n js ls ps bs) (g1 : Good n js) (g2 : Good n ls) {a : Nat} (ha : a < 2 * n) (hn : bs[a]? ≠ some true) {row : List Nat} (c : Cls (2 * n) (mt js) (mt ls) a row) :
    ∀ p ∈ ps, ∀ e, e ∈ p.2 → e ∉ row := by
  intro p hp e he he'
  obtain ⟨b, hb, cb, _⟩ := W.pcs p hp
  have := c.meet g1.mt g2.mt cb he' he a c.beg
  exact hn ((W.seen a ha).mpr ⟨p, hp, this⟩)
theorem Wi.add (W : Wi n js ls ps bs) {p : Str × List Nat} (hp : Wpc n js ls p) (hd : ∀ q ∈ ps, ∀ e, e ∈ q.2 → e ∉ p.2) {bs' : List Bool} (hl : bs'.length = 2 * n)
    (hs : ∀ e, e < 2 * n → (bs'[e]? = some true ↔ bs[e]? = some true ∨ e ∈ p.2)) : Wi n js ls (ps ++ [p]) bs' := by
  refine ⟨hl, fun e he => ?_, fun q hq => ?_, ?_⟩
  · rw [hs e he, W.seen e he]
    constructor
    · rintro (⟨q, hq, h⟩ | h)
      · exact ⟨q, List.mem_append_left _ hq, h⟩
      · exact ⟨p, List.mem_append_right _ List.mem_cons_self, h⟩
    · rintro ⟨q, hq, h⟩
      rcases List.mem_append.mp hq with hq | hq
      · exact .inl ⟨q, hq, h⟩
      · obtain rfl := List.mem_singleton.mp hq
        exact .inr h
  · rcases List.mem_append.mp hq with hq | hq
    · exact W.pcs q hq
    · obtain rfl := List.mem_singleton.mp hq
      exact hp
  · refine List.pairwise_append.mpr ⟨W.dis, List.pairwise_singleton _ _, fun q hq r hr => ?_⟩
    obtain rfl := List.mem_singleton.mp hr
    exact hd q hq
/-- a path begun at an unseen last end, all lesser last ends seen -/
theorem Wi.path (W : Wi n js ls ps bs) (g1 : Good n js) (g2 : Good n ls) {a : Nat} (ha : a < 2 * n) (hn : bs[a]? ≠ some true) (hl : Lst js ls a) (hi : ∀ e, e < a → Lst js ls e → bs[e]? = some true)
    {kd : Str} {row : List Nat} (h : Pth js ls a kd row) : Wpc n js ls (oddK row kd, row) ∧ ∀ p ∈ ps, ∀ e, e ∈ p.2 → e ∉ row := by
  have c := pth_cls g1 g2 ha h hl
  have ap := W.apart g1 g2 ha hn c
  refine ⟨⟨a, ha, c, .inl ⟨hl, ⟨kd, h, rfl⟩, fun e he le => ?_⟩⟩, ap⟩
  by_cases z : a ≤ e
  · exact z
  · obtain ⟨p, hp, hep⟩ := (W.seen e (by omega)).mp (hi e (by omega) le)
    exact absurd he (ap p hp e hep)
/-- a ring begun at an unseen end, all last ends and all lesser ends seen -/
theorem Wi.ring (W : Wi n js ls ps bs) (g1 : Good n js) (g2 : Good n ls) {a k : Nat} (ha : a < 2 * n) (hn : bs[a]? ≠ some true) (hl : ∀ e, e < 2 * n → Lst js ls e → bs[e]? = some true) (hi : ∀ e, e < a → bs[e]? = some true)
    (R : Rj (mt js) (mt ls) a k) : Wpc n js ls ("ring", rj (mt js) (mt ls) a k) ∧ ∀ p ∈ ps, ∀ e, e ∈ p.2 → e ∉ rj (mt js) (mt ls) a k := by
  have F := g1.mt
  have G := g2.mt
  -- no end that hangs together with a is a last end
  have nol : ∀ x, Cl (mt js) (mt ls) a x → x < 2 * n → ¬ Lst js ls x := by
    intro x hx hlt hlx
    obtain ⟨p, hp, hxp⟩ := (W.seen x hlt).mp (hl x hlt hlx)
    obtain ⟨b, hb, cb, _⟩ := W.pcs p hp
    have e2 := (cb.mem x).mp hxp
    exact hn ((W.seen a ha).mpr ⟨p, hp, (cb.mem a).mpr (cl_trans e2 (cl_symm F G hx))⟩)
  have fin : jt (mt js) (mt ls) a k = some a := by
    rcases R.fin with z | z
    · exfalso
      have pos := R.pos
      obtain ⟨y, hy⟩ := R.all (k - 1) (by omega)
      have hm : y ∈ rj (mt js) (mt ls) a k := (mem_rj R.toPj).mpr ⟨k - 1, by omega, hy⟩
      have hc := rj_cl R.toPj y hm
      have hlt := R.toPj.lt F G ha y hm
      have e := jt_next hy
      rw [show k - 1 + 1 = k by omega, z] at e
      refine nol y hc hlt ?_
      unfold hh at e
      split at e
      · exact .inl e.symm
      · exact .inr e.symm
    · exact z
  have c := cls_rj F G ha R (.inr fin)
  have ap := W.apart g1 g2 ha hn c
  refine ⟨⟨a, ha, c, .inr ⟨fun e he => nol e ((c.mem e).mp he) (c.lt e he), rfl, ⟨k, R, rfl⟩, fun e he => ?_⟩⟩, ap⟩
  by_cases z : a ≤ e
  · exact z
  · obtain ⟨p, hp, hep⟩ := (W.seen e (by omega)).mp (hi e (by omega))
    exact absurd he (ap p hp e hep)
end
end DC
-- K42d
set_option Elab.async false
set_option linter.all false
set_option maxRecDepth 100000
set_option maxHeartbeats 4000000
namespace K42
open PySem L2 DC
theorem oV_none {o : Option Nat} : decide (oV o = .non) = o.isNone := by
  cases o with
  | none => rfl
  | some x => rfl
section
variable {P : Program} {w : World} {K : PySem.W.Frag} {mg : Str → Option Value} {base : Heap}
def spPath : Sp := fun vs H Q _ => ∃ (m1 m2 : Addr) (n a : Nat) (js ls : List J2), vs = [.ref m1, .ref m2, .int a] ∧ H m1 = some (.lst (mV n js)) ∧ H m2 = some (.lst (mV n ls)) ∧ Good n js ∧ Good n ls ∧ a < 2 * n ∧
  ∀ (kd : Str) (row : List Nat) (r t : Addr) (H' : Hp), Pth js ls a kd row → Same H H' → H r = none → H t = none → H' r = some (.tup [.str (oddK row kd), .ref t]) → H' t = some (.tup (Vn row)) → Q (.ref r) H'
abbrev N21 : List Str := ["ones", "others", "end", "row", "kind"]
theorem sc21 : FnScope N21 ["ones", "others", "end"] (defScope (top 30)) := ⟨rfl, rfl, rfl, by decide +kernel, rfl, by decide +kernel, by decide +kernel⟩
theorem ok21 {f f20 : Addr} {fd fd20 : FuncData} (F : Fun K "path_from" "path_from" (top 30) f fd) (B : Bn mg)
    (D20 : Df K mg "row_along" f20 fd20 ["first", "second", "begun"]) (G20 : OkF P w K mg base 1 f20 fd20 ["first", "second", "begun"] spAlong) : OkF P w K mg base 2 f fd ["ones", "others", "end"] spPath := by
  refine ok0 F sc21 (fun vs H Q E h => ?_) (fun cdv A outer s H vs Q E hgd hr h => ?_)
  · obtain ⟨m1, m2, n, a, js, ls, rfl, _⟩ := h; rfl
  · obtain ⟨m1, m2, n, a, js, ls, rfl, hm1, hm2, g1, g2, ha, q⟩ := h
    have nd := sc21.nd
    refine ⟨_, Evl.pss_cut (ps_if (pt_cmp (pc_isN (pe_ix (r := rIxL K) ix_list (pv 0) (pv 2) (fun _ _ => rfl))) rfl)
        (pss_cons (ps_set (i := 3) nd rfl (.inl rfl) (cl D20 G20 hgd hr (pa_cons (pv 1) (pa_cons (pv 0) (pa_cons (pv 2) pa_nil))))) (pss_one (ps_set (i := 4) nd rfl (.inl rfl) pe_str)))
        (pss_cons (ps_set (i := 3) nd rfl (.inl rfl) (cl D20 G20 hgd hr (pa_cons (pv 0) (pa_cons (pv 1) (pa_cons (pv 2) pa_nil))))) (pss_one (ps_set (i := 4) nd rfl (.inl rfl) pe_str))))
      (pss_one (ps_ret (pe_tup (pa_cons (pe_ifExp (pt_cmpR op_eq (pe_op op_mod (pe_callB call_len_seq (by rfl) B.len PySem.boot_len (pa_cons (pv 3) pa_nil)) pe_int) pe_int (nomark _)) pe_str (pv 4))
        (pa_cons (pe_callTy call_tuple_of (by rfl) B.tuple (by decide +kernel) (pa_cons (pv 3) pa_nil)) pa_nil))))), ?_⟩
    refine ⟨fun σ' H' => ∃ (l : Addr) (kd : Str) (row : List Nat), σ' = [some (.ref m1), some (.ref m2), some (.int a), some (.ref l), some (.str kd)] ∧ Pth js ls a kd row ∧ Same H H' ∧ H' l = some (.lst (Vn row)), ?_, ?_⟩
    · refine ⟨_, rfl, _, rfl, m1, _, _, _, rfl, rfl, SqL.of hm1, atI_nat (mV_at ha), _, rfl, ?_⟩
      rw [oV_none]
      cases e : mt js a with
      | none =>
        refine iteT ⟨_, rfl, _, rfl, _, rfl, m2, m1, n, a, ls, js, rfl, hm2, hm1, g2, g1, ha, fun k r H1 R s1 _ h1 => gn ?_⟩
        exact ⟨r, _, _, rfl, ⟨k, .inl ⟨e, R, rfl, rfl⟩⟩, s1, h1⟩
      | some x =>
        refine iteF ⟨_, rfl, _, rfl, _, rfl, m1, m2, n, a, js, ls, rfl, hm1, hm2, g1, g2, ha, fun k r H1 R s1 _ h1 => gn ?_⟩
        exact ⟨r, _, _, rfl, ⟨k, .inr ⟨by rw [e]; exact (fun z => nomatch z), R, rfl, rfl⟩⟩, s1, h1⟩
    · rintro σ' H' ⟨l, kd, row, rfl, hP, sm, hL⟩
      have fin : ∀ z : Str, z = oddK row kd → ∀ t, H' t = none → ∀ T, upd H' t (.tup (Vn row)) T = none → Q (.ref T) (upd (upd H' t (.tup (Vn row))) T (.tup [.str z, .ref t])) := by
        intro z ez t ht T hT
        have nt : t ≠ T := ne_of_none upd_same hT
        exact q kd row T t _ hP (same_put (same_put sm (sm.free ht)) (sm.free ((Same.new ht).free hT))) (sm.free ((Same.new ht).free hT)) (sm.free ht) (by rw [upd_same, ez]) (by rw [upd_ne nt, upd_same])
      have em : (((Vn row).length : Nat) : Int) % 2 = ((row.length % 2 : Nat) : Int) := by rw [Vn_len]; omega
      refine ⟨_, rfl, l, _, rfl, .inl (SqL.of hL), _, 2, rfl, rfl, (by show (0 : Int) < 2; decide), rfl, _, rfl, ite2 (fun d => ?_) (fun d => ?_)⟩
      · have d2 : (((Vn row).length : Nat) : Int) % 2 = 1 := V.int.inj (of_decide_eq_true d)
        refine ⟨_, rfl, l, _, rfl, .inl ⟨SqL.of hL, fun t ht => ⟨by show 2 ≤ sizeLine; decide, fun T hT => fin _ ?_ t ht T hT⟩⟩⟩
        unfold oddK
        rw [if_pos (by omega)]
      · have d2 : ¬ (((Vn row).length : Nat) : Int) % 2 = 1 := fun z => d (decide_eq_true (by show V.int ((((Vn row).length : Nat) : Int) % 2) = V.int 1; rw [z]))
        refine ⟨_, rfl, _, rfl, l, _, rfl, .inl ⟨SqL.of hL, fun t ht => ⟨by show 2 ≤ sizeLine; decide, fun T hT => fin _ ?_ t ht T hT⟩⟩⟩
        unfold oddK
        rw [if_neg (by omega)]
end
end K42
-- DC0
set_option Elab.async false
set_option linter.all false
set_option maxRecDepth 100000
set_option maxHeartbeats 4000000
/-! DC0: a def of the text by its body, its code object told. -/
namespace DC
open PySem PySem.Spec PyProof.Rows L2 Evl
section
variable {P : Program} {w : World} {K : PySem.W.Frag} {mg : Str → Option Value} {base : Heap}
theorem okC {x qual : Str} {st : Stmt} {f : Addr} {N ps : List Str} {k : Nat} {sp : Sp} {oc : Value} {od an : Option Addr} {osl : Array (Option Value)} {kV doc pm cdv ct : Value}
    (lk : K.lookup f = some ⟨oc, od, .func (PySem.W.fnOf x qual (defArgs st) (defBody st) (defScope st) .none kV doc pm an cdv ct), osl⟩) (hcd : PySem.W.codeIn K cdv qual = true)
    (S : FnScope N ps (defScope st)) (cnt : ∀ vs H Q E, sp vs H Q E → vs.length = ps.length)
    (body : ∀ (A : Around) (outer : List Env) (s : Shared) (H : Hp) (vs : List V) (Q : VK) (E : XK),
      A.guards = some [] → Room k (A.deeper (envOfC qual (defScope st) s.heap.objs.size f cdv)) → sp vs H Q E →
      ∃ t, PSs (cxOf CX0 P w K mg base N qual (defScope st) f cdv A outer s H E).nox (defBody st) t ∧
        t { nx := fun _ H' => Q .non H', rt := Q } (start N vs) H) :
    OkG P w K mg base CX0 (k + 1) f (PySem.W.fnOf x qual (defArgs st) (defBody st) (defScope st) .none kV doc pm an cdv ct) ps sp := by
  refine ⟨cnt, fun A outer s H args us vs Q E hgd hr e0 hb r hsp => ?_⟩
  have len := cnt _ _ _ _ hsp
  have keeps : ∀ b o, base.get? b = some o → s.heap.get? b = some o := fun b o e => (e0.bs b o e).1
  have places : ∀ y ∈ ps.zip us, (defScope st).names.lookup y.1 = some .local ∨
      ((defScope st).names.lookup y.1 = some .cell ∧ ((cellsFrom (s.heap.objs.size + 1) (defScope st).names []).lookup y.1).isSome = true) := by
    rintro ⟨nm, v⟩ hy
    rcases S.par nm (List.of_mem_zip hy).1 with q | q
    · exact .inl q
    · exact .inr ⟨q, PySem.W.cellsFrom_some _ _ _ (.inl q)⟩
  have KX : K.In s.heap := e0.mod.kin.keeps keeps
  refine codeAny_call_function hr.depth (KX _ _ lk) rfl S.co S.gen rfl (PySem.W.codeRec_of KX hcd) (hb _ _ _ _ (wpAny_newFunctionEnv_cells S.kind places fun env he s1 x => ?_))
  subst he
  refine ⟨(e0.mod.nolimit.keeps keeps).keeps x.toInCall.keep, codeAny_func ?_⟩
  obtain ⟨t, ht, hq⟩ := body A outer s H vs Q E hgd (hr.deeper _) hsp
  have I := inv_start (E := E) (CX := CX0) (f := f) (qual := qual) (cd := cdv) S hr.hd e0 len r x
  have out : ∀ {σ' : L2.St} {H' : Hp} {s' : Shared} {v : V} {u : Value}, Inv (cxOf CX0 P w K mg base N qual (defScope st) f cdv A outer s H E) [] σ' H' s' → RelV v u → Q v H' → CE outer P w H s Q u s' :=
    fun J rv q => ⟨_, _, J.os, J.bare, J.base, J.hok, rv, q⟩
  refine wpAny_mono (ht.nox.run [] s1 (start N vs) H _ I hq) (fun fl s' hs => ?_) (fun _ _ hs => hs)
  cases fl with
  | ret u =>
    obtain ⟨v, σ', H', J, rv, q⟩ := hs
    exact out J rv q
  | next =>
    obtain ⟨σ', H', J, q⟩ := hs
    exact out (v := V.non) (u := Value.none) J rfl q
  | brk =>
    obtain ⟨_, _, _, q⟩ := hs
    exact q.elim
  | cont =>
    obtain ⟨_, _, _, q⟩ := hs
    exact q.elim
end
end DC
-- K42e
set_option Elab.async false
set_option linter.all false
set_option maxRecDepth 100000
set_option maxHeartbeats 4000000
namespace K42
open PySem L2 DC LamX
def nI (ys : List Nat) : List Int := ys.map fun y => ((y : Nat) : Int)
theorem vn_nI (ys : List Nat) : Vn ys = (nI ys).map V.int := by
  unfold Vn nI
  rw [List.map_map]
  rfl
def rowKey (p : Str × List Nat) : PyData := tupD (nI p.2)
/-- a piece in the heap -/
def Pce (K : PySem.W.Frag) (H : Hp) (v : V) (p : Str × List Nat) : Prop := ∃ r t, v = .ref r ∧ SqT K H r [.str p.1, .ref t] ∧ SqT K H t (Vn p.2)
theorem extN_t {K : PySem.W.Frag} {H H' : Hp} {a : Addr} {xs : List V} (e : ExtN H H') (h : SqT K H a xs) : SqT K H' a xs := by
  rcases h with (h | ⟨o, h⟩) | h
  · exact .inl (.inl (e _ _ h (fun _ z => nomatch z)))
  · exact .inl (.inr ⟨o, e _ _ h (fun _ z => nomatch z)⟩)
  · exact .inr h
theorem Pce.ext {K : PySem.W.Frag} {H H' : Hp} (e : ExtN H H') {v : V} {p : Str × List Nat} : Pce K H v p → Pce K H' v p
  | ⟨r, t, q, h1, h2⟩ => ⟨r, t, q, extN_t e h1, extN_t e h2⟩
theorem Pce.up {K : PySem.W.Frag} {H H' : Hp} (e : Same H H') {v : V} {p : Str × List Nat} : Pce K H v p → Pce K H' v p
  | ⟨r, t, q, h1, h2⟩ => ⟨r, t, q, Same.t e h1, Same.t e h2⟩
theorem Pce.put {K : PySem.W.Frag} {H : Hp} {l : Addr} {ys : List V} {o : HO} (hl : H l = some (.lst ys)) {v : V} {p : Str × List Nat} : Pce K H v p → Pce K (upd H l o) v p
  | ⟨r, t, q, h1, h2⟩ => ⟨r, t, q, sqT_put h1 hl, sqT_put h2 hl⟩
theorem paired_zip {α β : Type} {R : α → β → Prop} : ∀ {xs : List α} {ys : List β}, Paired R xs ys → ∀ p ∈ xs.zip ys, R p.1 p.2
  | _, _, .nil, p, h => by simp at h
  | _, _, .cons a t, p, h => by
    rw [List.zip_cons_cons] at h
    rcases List.mem_cons.mp h with rfl | h
    · exact a
    · exact paired_zip t p h
theorem paired_of {α β : Type} {R : α → β → Prop} : ∀ (zs : List (α × β)), (∀ p ∈ zs, R p.1 p.2) → Paired R (zs.map Prod.fst) (zs.map Prod.snd)
  | [], _ => .nil
  | z :: zs, h => .cons (h z List.mem_cons_self) (paired_of zs fun p hp => h p (List.mem_cons_of_mem _ hp))
theorem sort_paired {β : Type} {R : V → β → Prop} {vs : List V} {ps : List β} (key : β → List Int) (h : Paired R vs ps) :
    Paired R (((vs.zip (ps.map key)).mergeSort (PySem.W.dataLe false byKey)).map Prod.fst) (ps.mergeSort (PySem.W.dataLe false fun p => tupD (key p))) := by
  have len := Paired.length h
  have e1 : vs.zip (ps.map key) = (vs.zip ps).map fun z => (z.1, key z.2) := by
    rw [List.zip_map_right]
    rfl
  have e2 := List.map_mergeSort (r := PySem.W.dataLe false fun z : V × β => tupD (key z.2)) (s := PySem.W.dataLe false byKey) (f := fun z : V × β => (z.1, key z.2)) (l := vs.zip ps) (fun a _ b _ => rfl)
  have e3 := List.map_mergeSort (r := PySem.W.dataLe false fun z : V × β => tupD (key z.2)) (s := PySem.W.dataLe false fun p : β => tupD (key p)) (f := Prod.snd) (l := vs.zip ps) (fun a _ b _ => rfl)
  rw [List.map_snd_zip (by omega)] at e3
  rw [e1, ← e2, List.map_map, ← e3]
  exact paired_of _ fun p hp => paired_zip h p ((List.mergeSort_perm _ _).mem_iff.mp hp)
/-- the state of web_of's loops -/
structure WH (K : PySem.W.Frag) (n : Nat) (js ls : List J2) (Hb : Hp) (sA fo : Addr) (vs : List V) (ps : List (Str × List Nat)) (bs : List Bool) (H' : Hp) : Prop where
  sm : Same Hb H'
  sl : H' sA = some (.lst (bs.map V.bl))
  fl : H' fo = some (.lst vs)
  pr : Paired (Pce K H') vs ps
  wi : Wi n js ls ps bs
theorem map_set' {α β : Type} (g : α → β) : ∀ (l : List α) (i : Nat) (x : α), (l.map g).set i (g x) = (l.set i x).map g
  | [], _, _ => rfl
  | _ :: _, 0, _ => rfl
  | a :: l, i + 1, x => by
    show g a :: (l.map g).set i (g x) = g a :: (l.set i x).map g
    rw [map_set' g l i x]
theorem mark {K : PySem.W.Frag} {n : Nat} {js ls : List J2} {Hb H1 : Hp} {sA fo T t : Addr} {vs : List V} {ps : List (Str × List Nat)} {bs : List Bool} {p : Str × List Nat} {D : Ends} {x0 x1 x2 x3 x4 x7 x8 : Option V}
    (sm : Same Hb H1) (sl : H1 sA = some (.lst (bs.map V.bl))) (fl : H1 fo = some (.lst (vs ++ [.ref T]))) (pr : Paired (Pce K H1) vs ps) (hT : SqT K H1 T [.str p.1, .ref t]) (ht : SqT K H1 t (Vn p.2)) (wi : Wi n js ls ps bs)
    (hp : Wpc n js ls p) (hd : ∀ q ∈ ps, ∀ e, e ∈ q.2 → e ∉ p.2) (bA : Hb sA = none) (ne : sA ≠ fo)
    (nx : ∀ (y8 : Option V) (bs' : List Bool) (H' : Hp), WH K n js ls Hb sA fo (vs ++ [.ref T]) (ps ++ [p]) bs' H' → (∀ e, e < 2 * n → (bs'[e]? = some true ↔ bs[e]? = some true ∨ e ∈ p.2)) → D.nx [x0, x1, x2, x3, x4, some (.ref sA), some (.ref fo), x7, y8] H') :
    tFor (iTup K (tOp (rIxT K) (tOp (rIxL K) (tVar 6) (tUn (rU fun i => .int (-i)) (tC (.int 1)))) (tC (.int 1)))) (gName 8) (tAsg (tC (.bl true)) (gSub (tVar 5) (tVar 8) rSetL)) D [x0, x1, x2, x3, x4, some (.ref sA), some (.ref fo), x7, x8] H1 := by
  have a1 : atI [V.str p.1, V.ref t] 1 = some (.ref t) := at_of (j := 1) rfl rfl
  obtain ⟨a, ha, ca, _⟩ := id hp
  refine ⟨_, rfl, 1, rfl, fo, _, -1, .ref T, rfl, rfl, SqL.of fl, atI_last vs (.ref T), T, _, 1, .ref t, rfl, rfl, hT, a1, t, rfl, ⟨_, ht⟩, ?_⟩
  refine for_it (walk_tup (xs := Vn p.2)) (fun j σ H' => ∃ (y8 : Option V) (bs' : List Bool), σ = [x0, x1, x2, x3, x4, some (.ref sA), some (.ref fo), x7, y8] ∧ Same Hb H' ∧ H' sA = some (.lst (bs'.map V.bl)) ∧ H' fo = some (.lst (vs ++ [.ref T])) ∧
    Paired (Pce K H') vs ps ∧ SqT K H' T [.str p.1, .ref t] ∧ SqT K H' t (Vn p.2) ∧ bs'.length = 2 * n ∧ ∀ e, e < 2 * n → (bs'[e]? = some true ↔ bs[e]? = some true ∨ e ∈ p.2.take j)) ?_ ?_ ?_ ?_
  · exact ⟨x8, bs, rfl, sm, sl, fl, pr, hT, ht, wi.len, fun e he => by simp⟩
  · rintro j σ H' hj ⟨y8, bs', rfl, _, _, _, _, _, ht', _⟩
    exact ht'
  · rintro j x σ H2 H3 hj ⟨y8, bs', rfl, sm', sl', fl', pr', hT', ht', hl', hs'⟩ ⟨rfl, ex⟩
    rw [Vn_len] at hj
    have ev := Vn_at hj
    have eg : p.2[j]? = some (p.2.getD j 0) := by rw [List.getD_eq_getElem?_getD, List.getElem?_eq_getElem hj]; rfl
    generalize p.2.getD j 0 = e0 at ev eg
    obtain rfl : x = V.int (e0 : Nat) := Option.some.inj (Eq.trans (Eq.symm ex) ev)
    have hlt : e0 < 2 * n := ca.lt e0 (List.mem_of_getElem? eg)
    refine gn ?_
    refine ⟨_, rfl, _, rfl, sA, bs'.map V.bl, _, e0, rfl, rfl, sl', Evl.ixN_nat (by rw [List.length_map, hl']; exact hlt), ?_⟩
    refine ⟨_, bs'.set e0 true, rfl, same_put sm' bA, ?_, ?_, L2.Paired.mapP pr' fun _ _ z => z.put sl', sqT_put hT' sl', sqT_put ht' sl', by rw [List.length_set]; exact hl', fun e he => ?_⟩
    · rw [upd_same, map_set' V.bl]
    · rw [upd_ne (Ne.symm ne)]
      exact fl'
    · rw [take_next eg, List.mem_append, List.mem_singleton]
      by_cases c : e = e0
      · subst c
        rw [List.getElem?_set_self (by omega)]
        exact ⟨fun _ => .inr (.inr rfl), fun _ => rfl⟩
      · rw [List.getElem?_set_ne (Ne.symm c), hs' e he]
        constructor
        · rintro (h | h)
          · exact .inl h
          · exact .inr (.inl h)
        · rintro (h | h | h)
          · exact .inl h
          · exact .inr h
          · exact absurd h c
  · rintro σ H' ⟨y8, bs', rfl, sm', sl', fl', pr', hT', ht', hl', hs'⟩
    rw [List.take_of_length_le (by rw [Vn_len]; exact Nat.le_refl _)] at hs'
    exact nx y8 bs' H' ⟨sm', sl', fl', pair_snoc pr' ⟨T, t, rfl, hT', ht'⟩, wi.add hp hd hl' hs'⟩ hs'
theorem body1 {K : PySem.W.Frag} {n i : Nat} {js ls : List J2} {Hb H1 : Hp} {m1 m2 sA fo : Addr} {vs : List V} {ps : List (Str × List Nat)} {bs : List Bool} {D : Ends} {x0 x1 x4 x8 : Option V}
    (g1 : Good n js) (g2 : Good n ls) (W : WH K n js ls Hb sA fo vs ps bs H1) (b1 : Hb m1 = some (.lst (mV n js))) (b2 : Hb m2 = some (.lst (mV n ls))) (bA : Hb sA = none) (bF : Hb fo = none) (ne : sA ≠ fo) (hi : i < 2 * n) (hc : ps.length ≤ i)
    (hn : bs[i]? ≠ some true) (hl : Lst js ls i) (hs : ∀ a, a < i → Lst js ls a → bs[a]? = some true)
    (nx : ∀ (y8 : Option V) (vs' : List V) (ps' : List (Str × List Nat)) (bs' : List Bool) (H' : Hp), WH K n js ls Hb sA fo vs' ps' bs' H' → ps'.length ≤ i + 1 → (∀ a, a < i + 1 → Lst js ls a → bs'[a]? = some true) →
      D.nx [x0, x1, some (.ref m1), some (.ref m2), x4, some (.ref sA), some (.ref fo), some (.int (i : Nat)), y8] H') :
    tSeq (tDrop (tBM K "list" rAppend (tVar 6) (tCons (tCall spPath [] E0 (tCons (tVar 2) (tCons (tVar 3) (tCons (tVar 7) tNil)))) tNil)))
      (tFor (iTup K (tOp (rIxT K) (tOp (rIxL K) (tVar 6) (tUn (rU fun i => .int (-i)) (tC (.int 1)))) (tC (.int 1)))) (gName 8) (tAsg (tC (.bl true)) (gSub (tVar 5) (tVar 8) rSetL))) D
      [x0, x1, some (.ref m1), some (.ref m2), x4, some (.ref sA), some (.ref fo), some (.int (i : Nat)), x8] H1 := by
  have tp := g1.top
  have vl : vs.length = ps.length := Paired.length W.pr
  refine ⟨_, rfl, .inl ⟨rfl, _, SqL.of W.fl⟩, _, rfl, _, rfl, _, rfl, m1, m2, n, i, js, ls, rfl, W.sm _ _ b1, W.sm _ _ b2, g1, g2, hi, fun kd row r t H2 hP s2 hr0 ht0 hr ht => ?_⟩
  refine ⟨fo, _, _, rfl, rfl, s2 _ _ W.fl, Nat.lt_of_le_of_lt (show vs.length ≤ 1000 by omega) (by decide), ?_⟩
  have fl2 := s2 _ _ W.fl
  obtain ⟨wp, ap⟩ := W.wi.path g1 g2 hi hn hl hs hP
  refine mark (p := (oddK row kd, row)) (same_put (W.sm.trans s2) bF) (by rw [upd_ne ne]; exact s2 _ _ W.sl) upd_same (L2.Paired.mapP W.pr fun _ _ z => (z.up s2).put fl2) (sqT_put (SqT.of hr) fl2) (sqT_put (SqT.of ht) fl2) W.wi wp ap bA ne fun y8 bs' H' W' hs' => ?_
  refine nx y8 _ _ bs' H' W' (by rw [List.length_append]; exact Nat.succ_le_succ hc) fun a ha la => ?_
  obtain ⟨b, hb, cb, _⟩ := id wp
  by_cases c : a = i
  · subst c
    exact (hs' a hi).mpr (.inr ((pth_cls g1 g2 hi hP hl).beg))
  · exact (hs' a (by omega)).mpr (.inl (hs a (by omega) la))
theorem body2 {K : PySem.W.Frag} {n i : Nat} {js ls : List J2} {Hb H1 : Hp} {m1 m2 sA fo : Addr} {vs : List V} {ps : List (Str × List Nat)} {bs : List Bool} {D : Ends} {x0 x1 x4 x8 : Option V}
    (g1 : Good n js) (g2 : Good n ls) (W : WH K n js ls Hb sA fo vs ps bs H1) (b1 : Hb m1 = some (.lst (mV n js))) (b2 : Hb m2 = some (.lst (mV n ls))) (bA : Hb sA = none) (bF : Hb fo = none) (ne : sA ≠ fo) (hi : i < 2 * n) (hc : ps.length ≤ 2 * n + i)
    (hn : bs[i]? ≠ some true) (hl : ∀ a, a < 2 * n → Lst js ls a → bs[a]? = some true) (hs : ∀ a, a < i → bs[a]? = some true)
    (nx : ∀ (y8 : Option V) (vs' : List V) (ps' : List (Str × List Nat)) (bs' : List Bool) (H' : Hp), WH K n js ls Hb sA fo vs' ps' bs' H' → ps'.length ≤ 2 * n + (i + 1) → (∀ a, a < 2 * n → Lst js ls a → bs'[a]? = some true) → (∀ a, a < i + 1 → bs'[a]? = some true) →
      D.nx [x0, x1, some (.ref m1), some (.ref m2), x4, some (.ref sA), some (.ref fo), some (.int (i : Nat)), y8] H') :
    tSeq (tDrop (tBM K "list" rAppend (tVar 6) (tCons (tTup (tCons (tC (.str "ring")) (tCons (tCB (fun xs H_1 Q => ∃ p ys, xs = [V.ref p] ∧ (SqL K H_1 p ys ∧ (∀ (l : Addr), H_1 l = none → Q (V.ref l) (upd H_1 l (HO.tup ys))) ∨ SqT K H_1 p ys ∧ Q (V.ref p) H_1))
        (tCons (tCall spAlong [] E0 (tCons (tVar 2) (tCons (tVar 3) (tCons (tVar 7) tNil)))) tNil)) tNil))) tNil)))
      (tFor (iTup K (tOp (rIxT K) (tOp (rIxL K) (tVar 6) (tUn (rU fun i => .int (-i)) (tC (.int 1)))) (tC (.int 1)))) (gName 8) (tAsg (tC (.bl true)) (gSub (tVar 5) (tVar 8) rSetL))) D
      [x0, x1, some (.ref m1), some (.ref m2), x4, some (.ref sA), some (.ref fo), some (.int (i : Nat)), x8] H1 := by
  have tp := g1.top
  have vl : vs.length = ps.length := Paired.length W.pr
  refine ⟨_, rfl, .inl ⟨rfl, _, SqL.of W.fl⟩, _, rfl, _, rfl, _, rfl, m1, m2, n, i, js, ls, rfl, W.sm _ _ b1, W.sm _ _ b2, g1, g2, hi, fun k l H2 R s2 hl0 hll => ?_⟩
  refine ⟨l, _, rfl, .inl ⟨SqL.of hll, fun t ht => ⟨by show 2 ≤ sizeLine; decide, fun T hT => ?_⟩⟩⟩
  have st := s2.trans (Same.new (o := .tup (Vn (rj (mt js) (mt ls) i k))) ht)
  have sT := st.trans (Same.new (o := .tup [.str "ring", .ref t]) hT)
  have fl2 := sT _ _ W.fl
  have ht2 := Same.new (o := .tup [.str "ring", .ref t]) hT _ _ (upd_same (H := H2) (a := t) (o := .tup (Vn (rj (mt js) (mt ls) i k))))
  refine ⟨fo, _, _, rfl, rfl, fl2, Nat.lt_of_le_of_lt (show vs.length ≤ 1000 by omega) (by decide), ?_⟩
  obtain ⟨wp, ap⟩ := W.wi.ring g1 g2 hi hn hl hs R
  refine mark (p := ("ring", rj (mt js) (mt ls) i k)) (same_put (W.sm.trans sT) bF) (by rw [upd_ne ne]; exact sT _ _ W.sl) upd_same (L2.Paired.mapP W.pr fun _ _ z => (z.up sT).put fl2) (sqT_put (SqT.of upd_same) fl2) (sqT_put (SqT.of ht2) fl2) W.wi wp ap bA ne fun y8 bs' H' W' hs' => ?_
  refine nx y8 _ _ bs' H' W' (by rw [List.length_append]; show ps.length + 1 ≤ _; omega) (fun a ha la => (hs' a ha).mpr (.inl (hl a ha la))) fun a ha => ?_
  by_cases c : a = i
  · subst c
    exact (hs' a hi).mpr (.inr ((mem_rj R.toPj).mpr ⟨0, R.pos, rfl⟩))
  · exact (hs' a (by omega)).mpr (.inl (hs a (by omega)))
abbrev Tw (Pt : Addr) : List (Addr × Str) := [(Pt, (("web_of" : Str) ++ ".<locals>.") ++ "<lambda>")]
section
variable {P : Program} {w : World} {K : PySem.W.Frag} {mg : Str → Option Value} {base : Heap}
def spWeb (K : PySem.W.Frag) (Pt : Addr) : Sp := fun vs H Q _ => ∃ (v1 v2 : V) (n : Nat) (js ls : List J2), vs = [v1, v2] ∧ Ly K H v1 n js ∧ Ly K H v2 n ls ∧ Good n js ∧ Good n ls ∧ Tabs (Tw Pt) H ∧
  ∀ (ps : List (Str × List Nat)) (bs : List Bool) (r : Addr) (xs : List V) (H' : Hp), Wi n js ls ps bs → (∀ e, e < 2 * n → ∃ p ∈ ps, e ∈ p.2) → ExtN H H' → Tabs (Tw Pt) H' → (∀ o, H r = some o → ∃ ps, o = .tbl ps) → H' r = some (.lst xs) →
    Paired (Pce K H') xs (ps.mergeSort (PySem.W.dataLe false rowKey)) → Q (.ref r) H'
abbrev N22 : List Str := ["one", "other", "ones", "others", "ends", "seen", "found", "end", "met"]
theorem sc22 : FnScope N22 ["one", "other"] (defScope (top 31)) := ⟨rfl, rfl, rfl, by decide +kernel, rfl, by decide +kernel, by decide +kernel⟩
theorem ok22 {f f17 f20 f21 c Pt : Addr} {fd17 fd20 fd21 : FuncData} {oc : Value} {od an : Option Addr} {osl : Array (Option Value)} {kV doc pm ct : Value}
    (lk : K.lookup f = some ⟨oc, od, .func (PySem.W.fnOf "web_of" "web_of" (defArgs (top 31)) (defBody (top 31)) (defScope (top 31)) .none kV doc pm an (.ref c) ct), osl⟩) (hcd : PySem.W.codeIn K (.ref c) "web_of" = true)
    (TB : TabB base mg c Pt) (B : Bn mg)
    (D17 : Df K mg "mates" f17 fd17 ["lay"]) (G17 : OkF P w K mg base 1 f17 fd17 ["lay"] (spMates K))
    (D20 : Df K mg "row_along" f20 fd20 ["first", "second", "begun"]) (G20 : OkF P w K mg base 1 f20 fd20 ["first", "second", "begun"] spAlong)
    (D21 : Df K mg "path_from" f21 fd21 ["ones", "others", "end"]) (G21 : OkF P w K mg base 2 f21 fd21 ["ones", "others", "end"] spPath) :
    OkF P w K mg base 3 f (PySem.W.fnOf "web_of" "web_of" (defArgs (top 31)) (defBody (top 31)) (defScope (top 31)) .none kV doc pm an (.ref c) ct) ["one", "other"] (spWeb K Pt) := by
  refine okC lk hcd sc22 (fun vs H Q E h => ?_) (fun A outer s H vs Q E hgd hr h => ?_)
  · obtain ⟨v1, v2, n, js, ls, rfl, _⟩ := h; rfl
  · obtain ⟨v1, v2, n, js, ls, rfl, y1, y2, g1, g2, hT, q⟩ := h
    have nd := sc22.nd
    have hr1 : Room 1 _ := hr.mono (by decide)
    have tp := g1.top
    refine ⟨_, pss_cons (ps_par (i := 2) (j := 3) (by rfl) nd rfl rfl (by decide) rfl rfl (pa_cons (cl D17 G17 hgd hr1 (pa_cons (pv 0) pa_nil)) (pa_cons (cl D17 G17 hgd hr1 (pa_cons (pv 1) pa_nil)) pa_nil)) (by rfl))
      (pss_cons (ps_set (i := 4) nd rfl (.inl rfl) (pe_callTy cr_range1 (by rfl) B.range (by decide +kernel) (pa_cons (pe_callB call_len_seq (by rfl) B.len PySem.boot_len (pa_cons (pv 2) pa_nil)) pa_nil)))
      (pss_cons (ps_set (i := 5) nd rfl (.inl rfl) (pe_op op_rep (pe_lst (pa_cons pe_bl pa_nil)) (pe_callB call_len_seq (by rfl) B.len PySem.boot_len (pa_cons (pv 2) pa_nil))))
      (pss_cons (ps_set (i := 6) nd rfl (.inl rfl) (pe_lst pa_nil))
      (pss_cons (ps_for PassesOwn.never rfl (pi_rngV (pv 4)) (pg_name (i := 7) nd rfl (.inl rfl))
        (pss_one (ps_if (PW.pt (pw_and (pt_not (pt_val (pe_ix (r := rIxL K) ix_list (pv 5) (pv 7) (fun _ _ => rfl)))) (pw_and1 (PW.pt (pw_or (pt_cmp (pc_isN (pe_ix (r := rIxL K) ix_list (pv 2) (pv 7) (fun _ _ => rfl))) rfl) (pw_or1 (pt_cmp (pc_isN (pe_ix (r := rIxL K) ix_list (pv 3) (pv 7) (fun _ _ => rfl))) rfl)))))))
          (pss_cons (ps_expr (pe_bm PySem.F.plainAttrs_list PySem.F.slot_list_append PySem.F.type_list_append mt_append (pv 6) (pa_cons (cl D21 G21 hgd hr (pa_cons (pv 2) (pa_cons (pv 3) (pa_cons (pv 7) pa_nil)))) pa_nil)))
          (pss_one (ps_for PassesOwn.never rfl (pi_tup (pe_ix (r := rIxT K) ix_tup (pe_ix (r := rIxL K) ix_list (pv 6) (pe_un un_neg pe_int) (fun _ _ => rfl)) pe_int (fun _ _ => rfl))) (pg_name (i := 8) nd rfl (.inl rfl))
            (pss_one (ps_asg pe_bl (pg_sub (pv 5) (pv 8) set_list)))))) pss_nil)))
      (pss_cons (ps_for PassesOwn.never rfl (pi_rngV (pv 4)) (pg_name (i := 7) nd rfl (.inl rfl))
        (pss_one (ps_if (pt_not (pt_val (pe_ix (r := rIxL K) ix_list (pv 5) (pv 7) (fun _ _ => rfl))))
          (pss_cons (ps_expr (pe_bm PySem.F.plainAttrs_list PySem.F.slot_list_append PySem.F.type_list_append mt_append (pv 6) (pa_cons (pe_tup (pa_cons pe_str (pa_cons (pe_callTy call_tuple_of (by rfl) B.tuple (by decide +kernel) (pa_cons (cl D20 G20 hgd hr1 (pa_cons (pv 2) (pa_cons (pv 3) (pa_cons (pv 7) pa_nil)))) pa_nil)) pa_nil))) pa_nil)))
          (pss_one (ps_for PassesOwn.never rfl (pi_tup (pe_ix (r := rIxT K) ix_tup (pe_ix (r := rIxL K) ix_list (pv 6) (pe_un un_neg pe_int) (fun _ _ => rfl)) pe_int (fun _ _ => rfl))) (pg_name (i := 8) nd rfl (.inl rfl))
            (pss_one (ps_asg pe_bl (pg_sub (pv 5) (pv 8) set_list)))))) pss_nil)))
      (pss_one (ps_ret (pe_sortLam (T := Tw Pt) TB rfl List.mem_cons_self (fun p hp _ => by rw [List.mem_singleton.mp hp]; rfl) hr (by rfl) B.sorted (pv 6) (fun _ _ _ _ => rfl) rfl (by intro z hz e; exact absurd e (by revert z; decide +kernel)) rfl rfl rfl (by decide +kernel) rfl rfl (by decide))))))))), ?_⟩
    refine ⟨_, rfl, v1, n, js, rfl, y1, g1, fun m1 H1 s1 f1 h1 => ?_⟩
    refine ⟨_, rfl, v2, n, ls, rfl, y2.up s1, g2, fun m2 H2 s2 f2 h2 => ⟨_, _, rfl, ?_⟩⟩
    have h1' := s2 _ _ h1
    refine ⟨_, rfl, m1, _, rfl, .inl (SqL.of h1'), _, rfl, fun e he => gn ?_⟩
    rw [mV_len]
    have s3 : Same H2 (upd H2 e (.rng 0 ((2 * n : Nat) : Int))) := Same.new he
    refine ⟨by show 1 ≤ sizeLine; decide, fun l0 hl0 => ?_⟩
    have s4 := s3.trans (Same.new (o := .lst [.bl false]) hl0)
    refine ⟨_, rfl, m1, _, rfl, .inl (SqL.of (s4 _ _ h1')), ?_⟩
    rw [mV_len]
    have aE := Same.new (o := .lst [.bl false]) hl0 _ _ (upd_same (H := H2) (a := e) (o := .rng 0 ((2 * n : Nat) : Int)))
    have aL : upd (upd H2 e (.rng 0 ((2 * n : Nat) : Int))) l0 (.lst [.bl false]) l0 = some (.lst [.bl false]) := upd_same
    have b1 := s4 _ _ h1'
    have b2 := s4 _ _ h2
    have SH : Same H (upd (upd H2 e (.rng 0 ((2 * n : Nat) : Int))) l0 (.lst [.bl false])) := s1.trans (s2.trans s4)
    generalize upd (upd H2 e (.rng 0 ((2 * n : Nat) : Int))) l0 (.lst [.bl false]) = Hb at aE aL b1 b2 SH ⊢
    refine ⟨l0, ((2 * n : Nat) : Int), [.bl false], rfl, rfl, aL, by omega, by omega, ?_, fun sA hsA => gn ?_⟩
    · show 1 * ((2 * n : Nat) : Int).toNat ≤ sizeLine
      exact Nat.le_trans (show 1 * ((2 * n : Nat) : Int).toNat ≤ 24 by omega) (by decide)
    refine ⟨by show 0 ≤ sizeLine; decide, fun fo hfo => gn ?_⟩
    have s5 : Same Hb (upd Hb sA (.lst (List.replicate ((2 * n : Nat) : Int).toNat [V.bl false]).flatten)) := Same.new hsA
    have bfo : Hb fo = none := s5.free hfo
    have nsf : sA ≠ fo := ne_of_none upd_same hfo
    have s6 := s5.trans (Same.new (o := .lst []) hfo)
    have rep : ∀ k : Nat, (List.replicate k [V.bl false]).flatten = (List.replicate k false).map V.bl := by
      intro k
      induction k with
      | zero => rfl
      | succ k ih => rw [List.replicate_succ, List.flatten_cons, ih]; rfl
    have W0 : WH K n js ls Hb sA fo [] [] (List.replicate (2 * n) false) (upd (upd Hb sA (.lst (List.replicate ((2 * n : Nat) : Int).toNat [V.bl false]).flatten)) fo (.lst [])) := by
      refine ⟨s6, ?_, upd_same, .nil, List.length_replicate, fun a ha => ?_, fun p hp => absurd hp (List.not_mem_nil), .nil⟩
      · rw [upd_ne nsf, upd_same, Int.toNat_natCast, rep]
      · constructor
        · intro z
          rw [List.getElem?_replicate] at z
          split at z <;> cases z
        · rintro ⟨p, hp, _⟩
          exact absurd hp (List.not_mem_nil)
    have bAt : ∀ {bs : List Bool}, bs.length = 2 * n → ∀ {a : Nat}, a < 2 * n → ∃ b, (bs.map V.bl)[a]? = some (.bl b) ∧ (b = true ↔ bs[a]? = some true) := by
      intro bs hl a ha
      have hla : a < bs.length := by omega
      refine ⟨bs[a], by rw [List.getElem?_map, List.getElem?_eq_getElem hla]; rfl, ?_⟩
      rw [List.getElem?_eq_getElem hla]
      exact ⟨fun z => by rw [z], fun z => Option.some.inj z⟩
    refine ⟨_, rfl, e, 2 * n, rfl, s6 _ _ aE, by omega, ?_⟩
    refine for_it (walk_range (lo := 0) (n := 2 * n)) (fun i σ H' => ∃ (y7 y8 : Option V) (vs : List V) (ps : List (Str × List Nat)) (bs : List Bool), σ = [some v1, some v2, some (.ref m1), some (.ref m2), some (.ref e), some (.ref sA), some (.ref fo), y7, y8] ∧
      WH K n js ls Hb sA fo vs ps bs H' ∧ ps.length ≤ i ∧ ∀ a, a < i → Lst js ls a → bs[a]? = some true) ⟨none, none, _, _, _, rfl, W0, Nat.le_refl _, fun a ha => absurd ha (Nat.not_lt_zero _)⟩ (fun _ _ _ _ _ => trivial) ?_ ?_
    · rintro i x σ Ha Hb' hi ⟨y7, y8, vs, ps, bs, rfl, W, hc, hs⟩ ⟨rfl, ex⟩
      obtain rfl : x = V.int (i : Nat) := by
        rw [ex]
        show V.int (0 + (i : Int)) = _
        rw [Int.zero_add]
      refine gn ?_
      obtain ⟨b, eb, hb⟩ := bAt W.wi.len hi
      have skip : (∀ a, a < i + 1 → Lst js ls a → bs[a]? = some true) → ∃ (y7' y8' : Option V) (vs' : List V) (ps' : List (Str × List Nat)) (bs' : List Bool), [some v1, some v2, some (V.ref m1), some (.ref m2), some (.ref e), some (.ref sA), some (.ref fo), some (.int (i : Nat)), y8] = [some v1, some v2, some (.ref m1), some (.ref m2), some (.ref e), some (.ref sA), some (.ref fo), y7', y8'] ∧
          WH K n js ls Hb sA fo vs' ps' bs' Hb' ∧ ps'.length ≤ i + 1 ∧ ∀ a, a < i + 1 → Lst js ls a → bs'[a]? = some true := fun h => ⟨_, _, vs, ps, bs, rfl, W, Nat.le_succ_of_le hc, h⟩
      refine ⟨_, rfl, _, rfl, sA, _, _, _, rfl, rfl, SqL.of W.sl, atI_nat eb, b, rfl, ?_⟩
      cases b with
      | true =>
        refine iteF (iteF (skip fun a ha la => ?_))
        by_cases c : a = i
        · rw [c]; exact hb.mp rfl
        · exact hs a (by omega) la
      | false =>
        have hn : bs[i]? ≠ some true := fun z => by cases hb.mpr z
        refine iteT ⟨_, rfl, _, rfl, m1, _, _, _, rfl, rfl, SqL.of (W.sm _ _ b1), atI_nat (mV_at hi), _, rfl, ?_⟩
        rw [oV_none]
        cases ej : mt js i with
        | none =>
          refine iteT (iteT (body1 g1 g2 W b1 b2 hsA bfo nsf hi hc hn (.inl ej) hs fun y8' vs' ps' bs' H' W' c' h' => ?_))
          exact ⟨_, _, vs', ps', bs', rfl, W', c', h'⟩
        | some xj =>
          refine iteF ⟨_, rfl, _, rfl, m2, _, _, _, rfl, rfl, SqL.of (W.sm _ _ b2), atI_nat (mV_at hi), _, rfl, ?_⟩
          rw [oV_none]
          cases el : mt ls i with
          | none =>
            refine iteT (body1 g1 g2 W b1 b2 hsA bfo nsf hi hc hn (.inr el) hs fun y8' vs' ps' bs' H' W' c' h' => ?_)
            exact ⟨_, _, vs', ps', bs', rfl, W', c', h'⟩
          | some xl =>
            refine iteF (skip fun a ha la => ?_)
            by_cases c : a = i
            · subst c
              rcases la with z | z
              · rw [ej] at z; cases z
              · rw [el] at z; cases z
            · exact hs a (by omega) la
    · rintro σ H' ⟨y7, y8, vs, ps, bs, rfl, W, hc, hs⟩
      refine ⟨_, rfl, e, 2 * n, rfl, W.sm _ _ aE, by omega, ?_⟩
      refine for_it (walk_range (lo := 0) (n := 2 * n)) (fun i σ H' => ∃ (y7 y8 : Option V) (vs : List V) (ps : List (Str × List Nat)) (bs : List Bool), σ = [some v1, some v2, some (.ref m1), some (.ref m2), some (.ref e), some (.ref sA), some (.ref fo), y7, y8] ∧
        WH K n js ls Hb sA fo vs ps bs H' ∧ ps.length ≤ 2 * n + i ∧ (∀ a, a < 2 * n → Lst js ls a → bs[a]? = some true) ∧ ∀ a, a < i → bs[a]? = some true) ⟨y7, y8, vs, ps, bs, rfl, W, hc, hs, fun a ha => absurd ha (Nat.not_lt_zero _)⟩ (fun _ _ _ _ _ => trivial) ?_ ?_
      · rintro i x σ Ha Hb' hi ⟨y7, y8, vs, ps, bs, rfl, W, hc, hl, hs⟩ ⟨rfl, ex⟩
        obtain rfl : x = V.int (i : Nat) := by
          rw [ex]
          show V.int (0 + (i : Int)) = _
          rw [Int.zero_add]
        refine gn ?_
        obtain ⟨b, eb, hb⟩ := bAt W.wi.len hi
        refine ⟨_, rfl, _, rfl, sA, _, _, _, rfl, rfl, SqL.of W.sl, atI_nat eb, b, rfl, ?_⟩
        cases b with
        | true =>
          refine iteF ⟨_, _, vs, ps, bs, rfl, W, by omega, hl, fun a ha => ?_⟩
          by_cases c : a = i
          · rw [c]; exact hb.mp rfl
          · exact hs a (by omega)
        | false =>
          have hn : bs[i]? ≠ some true := fun z => by cases hb.mpr z
          refine iteT (body2 g1 g2 W b1 b2 hsA bfo nsf hi hc hn hl hs fun y8' vs' ps' bs' H' W' c' l' h' => ?_)
          exact ⟨_, _, vs', ps', bs', rfl, W', c', l', h'⟩
      · rintro σ H' ⟨y7, y8, vs, ps, bs, rfl, W, hc, hl, hs⟩
        have S : Same H H' := SH.trans W.sm
        refine ⟨_, rfl, hT.ext S, fun H2 eN T2 => ⟨fo, vs, ps.map fun p => nI p.2, rfl, SqL.of (eN _ _ W.fl (fun _ z => nomatch z)), by rw [List.length_map]; exact Paired.length W.pr, fun z hz => ?_, fun r hr0 => ?_⟩⟩
        · rw [List.zip_map_right] at hz
          obtain ⟨z2, hz2, rfl⟩ := List.mem_map.mp hz
          obtain ⟨r, t, e1, k1, k2⟩ := (paired_zip W.pr z2 hz2).ext eN
          have hp : z2.2 ∈ ps := (List.of_mem_zip hz2).2
          obtain ⟨a, _, ca, _⟩ := W.wi.pcs _ hp
          refine ⟨r, _, t, e1, k1, by rw [vn_nI] at k2; exact k2, fun z => ?_⟩
          have : z2.2.2 = [] := List.map_eq_nil_iff.mp z
          have hb := ca.beg
          rw [this] at hb
          exact absurd hb (List.not_mem_nil)
        · have sN := Same.new (o := .lst (((vs.zip (ps.map fun p => nI p.2)).mergeSort (PySem.W.dataLe false byKey)).map Prod.fst)) hr0
          have EN : ExtN H (upd H2 r (.lst (((vs.zip (ps.map fun p => nI p.2)).mergeSort (PySem.W.dataLe false byKey)).map Prod.fst))) := (ExtN.of S).trans (eN.trans (ExtN.of sN))
          refine q ps bs r _ _ W.wi (fun a ha => (W.wi.seen a ha).mp (hs a ha)) EN (T2.ext sN) (fun o ho => ?_) upd_same ?_
          · have ho' := S _ _ ho
            cases o with
            | tbl qs => exact ⟨qs, rfl⟩
            | _ =>
              exfalso
              have := eN _ _ ho' (fun _ z => nomatch z)
              rw [hr0] at this
              cases this
          · exact sort_paired (fun p => nI p.2) (L2.Paired.mapP W.pr fun _ _ z => (z.ext eN).up sN)
end
end K42
-- K42f
set_option Elab.async false
set_option linter.all false
set_option maxRecDepth 100000
set_option maxHeartbeats 4000000
namespace K42
open PySem L2 DC LamX
def szD (p : Str × List Nat) : PyData := .tuple [.str p.1, .int (p.2.length : Nat)]
def byRow (ps : List (Str × List Nat)) : List (Str × List Nat) := ps.mergeSort (PySem.W.dataLe false rowKey)
def sizesD (ps : List (Str × List Nat)) : List PyData := ((byRow ps).map szD).mergeSort (PySem.W.dataLe false id)
def FrT (H : Hp) (r : Addr) : Prop := ∀ o, H r = some o → ∃ ps, o = .tbl ps
theorem sz_alike (ps : List (Str × List Nat)) : PySem.W.AllAlike (ps.map szD) := by
  intro d hd d' hd'
  obtain ⟨p, _, rfl⟩ := List.mem_map.mp hd
  obtain ⟨p', _, rfl⟩ := List.mem_map.mp hd'
  unfold szD
  simp only [PySem.W.alike, PySem.W.alikeAll, Bool.and_self]
theorem sz_sortable (ps : List (Str × List Nat)) : PySem.W.Sortable (ps.map szD) := by
  refine .inl fun d hd => ?_
  obtain ⟨p, _, rfl⟩ := List.mem_map.mp hd
  exact ⟨_, _, rfl⟩
theorem sz_depth (ps : List (Str × List Nat)) : ∀ d ∈ ps.map szD, d.depth ≤ 60 := by
  intro d hd
  obtain ⟨p, _, rfl⟩ := List.mem_map.mp hd
  unfold szD
  simp only [PyData.depth, PyData.depthAll]
  decide
theorem dpAll_snoc {K : PySem.W.Frag} {H : Hp} : ∀ {xs : List V} {ds : List PyData} {x : V} {d : PyData}, DpAll K H xs ds → Dp K H x d → DpAll K H (xs ++ [x]) (ds ++ [d])
  | _, _, _, _, .nil, h => .cons h .nil
  | _, _, _, _, .cons a t, h => .cons a (dpAll_snoc t h)
theorem extN_dp {K : PySem.W.Frag} {H H' : Hp} (e : Same H H') {xs : List V} {ds : List PyData} (h : DpAll K H xs ds) : DpAll K H' xs ds := DpAll.up e h
theorem paired_at {α β : Type} {R : α → β → Prop} : ∀ {xs : List α} {ys : List β}, Paired R xs ys → ∀ {i : Nat} {x : α}, xs[i]? = some x → ∃ y, ys[i]? = some y ∧ R x y
  | _, _, .nil, i, x, h => by simp at h
  | _, _, .cons r t, 0, x, h => by
    obtain rfl := Option.some.inj h
    exact ⟨_, rfl, r⟩
  | _, _, .cons r t, i + 1, x, h => paired_at t (i := i) h
theorem wi_len {n : Nat} {js ls : List J2} {ps : List (Str × List Nat)} {bs : List Bool} (W : Wi n js ls ps bs) : ps.length ≤ 2 * n := by
  have gen : ∀ ps : List (Str × List Nat), (∀ p ∈ ps, Wpc n js ls p) → ps.Pairwise (fun p q => ∀ e, e ∈ p.2 → e ∉ q.2) → ∃ l : List Nat, l.Nodup ∧ l.length = ps.length ∧ (∀ x ∈ l, x < 2 * n) ∧ ∀ x ∈ l, ∃ p ∈ ps, x ∈ p.2 := by
    intro ps
    induction ps with
    | nil => intro _ _; exact ⟨[], .nil, rfl, fun x hx => absurd hx (List.not_mem_nil), fun x hx => absurd hx (List.not_mem_nil)⟩
    | cons p ps ih =>
      intro h d
      have d' := List.pairwise_cons.mp d
      obtain ⟨l, nd, len, lt, mem⟩ := ih (fun q hq => h q (List.mem_cons_of_mem _ hq)) d'.2
      obtain ⟨a, ha, ca, _⟩ := h p List.mem_cons_self
      refine ⟨a :: l, List.nodup_cons.mpr ⟨fun hm => ?_, nd⟩, by rw [List.length_cons, List.length_cons, len], fun x hx => ?_, fun x hx => ?_⟩
      · obtain ⟨q, hq, haq⟩ := mem a hm
        exact d'.1 q hq a ca.beg haq
      · rcases List.mem_cons.mp hx with rfl | hx
        · exact ha
        · exact lt x hx
      · rcases List.mem_cons.mp hx with rfl | hx
        · exact ⟨p, List.mem_cons_self, ca.beg⟩
        · obtain ⟨q, hq, hxq⟩ := mem x hx
          exact ⟨q, List.mem_cons_of_mem _ hq, hxq⟩
  obtain ⟨l, nd, len, lt, _⟩ := gen ps W.pcs W.dis
  have q := nodup_le (m := List.range (2 * n)) nd fun x hx => List.mem_range.mpr (lt x hx)
  rw [len, List.length_range] at q
  exact q
def rLen (K : PySem.W.Frag) : List V → Hp → VK → Prop := fun xs H Q => ∃ p ys, xs = [V.ref p] ∧ (SqL K H p ys ∨ SqT K H p ys) ∧ Q (V.int (ys.length : Nat)) H
def SzP (K : PySem.W.Frag) (H : Hp) (v : V) (p : Str × List Nat) : Prop := ∃ t, v = .ref t ∧ SqT K H t [.str p.1, .int (p.2.length : Nat)]
theorem szP_dp {K : PySem.W.Frag} {H : Hp} : ∀ {vs : List V} {ps : List (Str × List Nat)}, Paired (SzP K H) vs ps → DpAll K H vs (ps.map szD)
  | _, _, .nil => .nil
  | _, _, .cons ⟨t, e, h⟩ r => by
    subst e
    exact .cons (Dp.tup h (.cons (.str _) (.cons (.int _) .nil))) (szP_dp r)
section
variable {P : Program} {w : World} {K : PySem.W.Frag} {mg : Str → Option Value} {base : Heap}
def spSz (K : PySem.W.Frag) (Pt : Addr) : Sp := fun vs H Q _ => ∃ (v1 v2 : V) (n : Nat) (js ls : List J2), vs = [v1, v2] ∧ Ly K H v1 n js ∧ Ly K H v2 n ls ∧ Good n js ∧ Good n ls ∧ Tabs (Tw Pt) H ∧
  ∀ (ps : List (Str × List Nat)) (bs : List Bool) (r : Addr) (xs : List V) (H' : Hp), Wi n js ls ps bs → (∀ e, e < 2 * n → ∃ p ∈ ps, e ∈ p.2) → ExtN H H' → Tabs (Tw Pt) H' → H' r = some (.tup xs) → DpAll K H' xs (sizesD ps) → Q (.ref r) H'
abbrev N23 : List Str := ["one", "other", "kind", "row"]
theorem sc23 : FnScope N23 ["one", "other"] (defScope (top 33)) := ⟨rfl, rfl, rfl, by decide +kernel, rfl, by decide +kernel, by decide +kernel⟩
theorem ok23 {f f22 Pt : Addr} {fd fd22 : FuncData} (F : Fun K "sizes_of" "sizes_of" (top 33) f fd) (B : Bn mg)
    (D22 : Df K mg "web_of" f22 fd22 ["one", "other"]) (G22 : OkF P w K mg base 3 f22 fd22 ["one", "other"] (spWeb K Pt)) : OkF P w K mg base 4 f fd ["one", "other"] (spSz K Pt) := by
  refine ok0 F sc23 (fun vs H Q E h => ?_) (fun cdv A outer s H vs Q E hgd hr h => ?_)
  · obtain ⟨v1, v2, n, js, ls, rfl, _⟩ := h; rfl
  · obtain ⟨v1, v2, n, js, ls, rfl, y1, y2, g1, g2, hT, q⟩ := h
    have nd := sc23.nd
    have tp := g1.top
    refine ⟨_, pss_one (ps_ret (pe_callTy call_tuple_of (by rfl) B.tuple (by decide +kernel) (pa_cons (pe_callB (cr_sortD hr.units) (by rfl) B.sorted (by decide +kernel) (pa_cons
      (pe_lc (own := [("kind", 2), ("row", 3)]) (g := gTup K 2 (gCons (gName 2) (gCons (gName 3) gNil))) (tt := tYes) rfl nd (pi_list (cl D22 G22 hgd hr (pa_cons (pv 0) (pa_cons (pv 1) pa_nil)))) (blkOk_by (N := N23) (sc := defScope (top 33)) (by decide +kernel))
        (fun _ _ _ _ _ => pg_tup (by rfl) (pgs_cons (pg_name (i := 2) nd rfl (Or.inl rfl)) (pgs_cons (pg_name (i := 3) nd rfl (Or.inl rfl)) pgs_nil))) (fun _ _ _ _ _ => pts_nil)
        (fun _ _ _ _ _ => pe_tup (pa_cons (pv 2) (pa_cons (pe_callB (r := rLen K) call_len_seq (by rfl) B.len PySem.boot_len (pa_cons (pv 3) pa_nil)) pa_nil)))) pa_nil)) pa_nil))), ?_⟩
    refine ⟨_, rfl, _, rfl, v1, v2, n, js, ls, rfl, y1, y2, g1, g2, hT, fun ps bs r xs H1 W cov EN T1 fr hr1 hP => ?_⟩
    have len : xs.length = (byRow ps).length := Paired.length hP
    have len2 : (byRow ps).length ≤ 2 * n := by
      unfold byRow
      rw [List.length_mergeSort]
      exact wi_len W
    refine ⟨r, rfl, ⟨_, SqL.of hr1⟩, fun D hD => ?_⟩
    refine lc_it (walk_list (xs := xs)) (fun i H' => ∃ acc : List V, Same H1 H' ∧ H' D = some (.lst acc) ∧ Paired (SzP K H') acc ((byRow ps).take i) ∧ acc.length = i) ⟨[], Same.new hD, upd_same, .nil, rfl⟩ (fun i H' _ hp => by
      obtain ⟨acc, sm, _⟩ := hp
      exact SqL.of (sm _ _ hr1)) ?_ ?_
    · rintro i x Ha Hb hi ⟨acc, sm, hL, hd, hal⟩ ⟨rfl, ex⟩
      obtain ⟨p, ep, rr, t, rfl, k1, k2⟩ := paired_at hP ex
      refine ⟨rr, _, rfl, Same.t sm k1, rfl, _, _, rfl, _, _, rfl, rfl, rfl, ?_⟩
      refine yesT ?_
      refine ⟨_, rfl, _, rfl, t, _, rfl, .inr (Same.t sm k2), by show 2 ≤ sizeLine; decide, fun T hT2 => ?_⟩
      rw [Vn_len]
      have sT := Same.new (o := .tup [.str p.1, .int (p.2.length : Nat)]) hT2
      have hL2 := sT _ _ hL
      have hd2 : Paired (SzP K (upd (upd Hb T (.tup [.str p.1, .int (p.2.length : Nat)])) D (.lst (acc ++ [.ref T])))) (acc ++ [.ref T]) ((byRow ps).take i ++ [p]) :=
        pair_snoc (L2.Paired.mapP hd fun _ _ ⟨t, q, h⟩ => ⟨t, q, sqT_put (Same.t sT h) hL2⟩) ⟨T, rfl, sqT_put (SqT.of upd_same) hL2⟩
      refine ⟨acc, sT _ _ hL, Nat.lt_of_le_of_lt (show acc.length ≤ 1000 by omega) (by decide), acc ++ [.ref T], same_put (sm.trans sT) hD, upd_same, ?_, ?_⟩
      · rw [take_next (l := byRow ps) ep]
        exact hd2
      · rw [List.length_append, hal]
        rfl
    · rintro H' ⟨acc, sm, hL, hd, hal⟩
      rw [len, List.take_of_length_le (Nat.le_refl _)] at hd
      refine ⟨D, acc, _, rfl, SqL.of hL, szP_dp hd, sz_alike _, sz_sortable _, sz_depth _, fun ys pl pm hy hp => ?_⟩
      refine ⟨pl, ys, rfl, .inl ⟨SqL.of upd_same, fun t ht => ?_⟩⟩
      have s2 := (Same.new (o := .lst ys) hp).trans (Same.new (o := .tup ys) ht)
      exact q ps bs t ys _ W cov (EN.trans (ExtN.of (sm.trans s2))) (T1.ext (sm.trans s2)) upd_same (DpAll.up s2 hy)
end
end K42
-- K42g
set_option Elab.async false
set_option linter.all false
set_option maxRecDepth 100000
set_option maxHeartbeats 4000000
namespace K42
open PySem L2 DC LamX
def RwP (K : PySem.W.Frag) (H : Hp) (v : V) (p : Str × List Nat) : Prop := ∃ t, v = .ref t ∧ SqT K H t (Vn p.2)
theorem dp_intsN {K : PySem.W.Frag} {H : Hp} : ∀ cs : List Int, DpAll K H (cs.map V.int) (cs.map PyData.int)
  | [] => .nil
  | c :: cs => .cons (.int c) (dp_intsN cs)
theorem rwP_dp {K : PySem.W.Frag} {H : Hp} : ∀ {vs : List V} {ps : List (Str × List Nat)}, Paired (RwP K H) vs ps → DpAll K H vs (ps.map rowKey)
  | _, _, .nil => .nil
  | _, _, .cons ⟨t, e, h⟩ r => by
    subst e
    exact .cons (Dp.tup h (by rw [vn_nI]; exact dp_intsN _)) (rwP_dp r)
section
variable {P : Program} {w : World} {K : PySem.W.Frag} {mg : Str → Option Value} {base : Heap}
theorem in_row (a : Nat) : ∀ l : List Nat, inV (.int (a : Nat)) (Vn l) = decide (a ∈ l)
  | [] => by simp [inV, Vn]
  | b :: l => by
    have ih := in_row a l
    show (eqV (.int (b : Nat)) (.int (a : Nat)) || inV (.int (a : Nat)) (Vn l)) = _
    rw [ih]
    show ((((b : Nat) : Int) == ((a : Nat) : Int)) || decide (a ∈ l)) = decide (a ∈ b :: l)
    rw [Bool.eq_iff_iff]
    simp only [Bool.or_eq_true, beq_iff_eq, decide_eq_true_eq, List.mem_cons]
    exact or_congr (by omega) Iff.rfl
end
end K42
-- DU
set_option Elab.async false
set_option linter.all false
set_option maxRecDepth 100000
set_option maxHeartbeats 4000000
/-! DU: what is sorted comes out the same from any order of the same things. -/
namespace DC
open PySem PySem.Spec PyProof.Rows L2 Evl
theorem dl_trans (a b c : PyData) (h1 : PySem.W.dataLt a b = true) (h2 : PySem.W.dataLt b c = true) : PySem.W.dataLt a c = true := lex_trans (O := itemOrd) _ _ _ h1 h2
theorem dl_irr (a : PyData) : PySem.W.dataLt a a = false := lex_irrefl (O := itemOrd) _
theorem dl_neg (a b c : PyData) (h : PySem.W.dataLt a c = true) : PySem.W.dataLt a b = true ∨ PySem.W.dataLt b c = true := lex_negTrans (O := itemOrd) _ _ _ h
theorem le_def (a b : PyData) : PySem.W.dataLe false id a b = !PySem.W.dataLt b a := rfl
theorem dle_trans (a b c : PyData) (h1 : PySem.W.dataLe false id a b = true) (h2 : PySem.W.dataLe false id b c = true) : PySem.W.dataLe false id a c = true := by
  rw [le_def, Bool.not_eq_true'] at h1 h2 ⊢
  cases e : PySem.W.dataLt c a with
  | false => rfl
  | true =>
    rcases dl_neg c b a e with z | z
    · rw [h2] at z; cases z
    · rw [h1] at z; cases z
theorem dle_total (a b : PyData) : (PySem.W.dataLe false id a b || PySem.W.dataLe false id b a) = true := by
  rw [le_def, le_def]
  cases e : PySem.W.dataLt b a with
  | false => rfl
  | true =>
    cases e2 : PySem.W.dataLt a b with
    | false => rfl
    | true =>
      have := dl_trans a b a e2 e
      rw [dl_irr] at this
      cases this
theorem sort_same {ds es : List PyData} (p : ds.Perm es) (inj : ∀ a ∈ ds, ∀ b ∈ ds, PySem.W.keyToks a = PySem.W.keyToks b → a = b) : ds.mergeSort (PySem.W.dataLe false id) = es.mergeSort (PySem.W.dataLe false id) := by
  have p1 := List.mergeSort_perm ds (PySem.W.dataLe false id)
  have p2 := List.mergeSort_perm es (PySem.W.dataLe false id)
  refine List.Perm.eq_of_pairwise (le := fun a b => PySem.W.dataLe false id a b = true) (fun a b ha hb h1 h2 => ?_) (List.pairwise_mergeSort dle_trans dle_total ds) (List.pairwise_mergeSort dle_trans dle_total es) ((p1.trans p).trans p2.symm)
  rw [le_def, Bool.not_eq_true'] at h1 h2
  exact inj a (p1.mem_iff.mp ha) b (p.mem_iff.mpr (p2.mem_iff.mp hb)) (lex_total (O := itemOrd) _ _ h2 h1)
end DC
-- CG
set_option Elab.async false
set_option linter.all false
set_option maxRecDepth 100000
set_option maxHeartbeats 4000000
namespace DC
open PySem L2
theorem ends_nd : ∀ {js : List J2}, js.Pairwise DC.Apart → (∀ p ∈ js, p.1 ≠ p.2) → (js.flatMap fun p => [p.1, p.2]).Nodup
  | [], _, _ => List.nodup_nil
  | p :: js, h, n => by
    have h' := List.pairwise_cons.mp h
    have ih := ends_nd (js := js) h'.2 fun q hq => n q (List.mem_cons_of_mem _ hq)
    have no : ∀ e, (e = p.1 ∨ e = p.2) → e ∉ js.flatMap fun p => [p.1, p.2] := by
      intro e he hm
      obtain ⟨q, hq, hm⟩ := List.mem_flatMap.mp hm
      have a := h'.1 q hq
      simp only [List.mem_cons, List.not_mem_nil, or_false] at hm
      unfold DC.Apart at a
      rcases he with rfl | rfl <;> rcases hm with z | z <;> omega
    show (p.1 :: p.2 :: js.flatMap fun p => [p.1, p.2]).Nodup
    refine List.nodup_cons.mpr ⟨?_, List.nodup_cons.mpr ⟨no _ (.inr rfl), ih⟩⟩
    intro hm
    rcases List.mem_cons.mp hm with z | z
    · exact n p (List.mem_cons_self ..) z
    · exact no _ (.inl rfl) z
theorem Good.le {n : Nat} {js : List J2} (g : Good n js) : js.length ≤ n := by
  have h := nodup_le (m := List.range (2 * n)) (ends_nd g.dis fun p hp => Nat.ne_of_lt (g.rng p hp).1) (by
    intro e he
    obtain ⟨p, hp, hm⟩ := List.mem_flatMap.mp he
    have r := g.rng p hp
    simp only [List.mem_cons, List.not_mem_nil, or_false] at hm
    rw [List.mem_range]
    rcases hm with rfl | rfl <;> omega)
  have l : (js.flatMap fun p => [p.1, p.2]).length = 2 * js.length := by
    clear h
    induction js with
    | nil => rfl
    | cons p js ih =>
      have := ih ⟨g.one, g.top, fun q hq => g.rng q (List.mem_cons_of_mem _ hq), (List.pairwise_cons.mp g.asc).2, (List.pairwise_cons.mp g.dis).2⟩
      rw [List.flatMap_cons, List.length_append, this]
      simp only [List.length_cons, List.length_nil]
      omega
  rw [l, List.length_range] at h
  omega
end DC
-- K42h
set_option Elab.async false
set_option linter.all false
set_option maxRecDepth 100000
set_option maxHeartbeats 4000000
namespace K42
open PySem L2 DC LamX
section
variable {P : Program} {w : World} {K : PySem.W.Frag} {mg : Str → Option Value} {base : Heap}
def MtD (js : List J2) (kvs : List (Key × V)) : Prop := ∀ e : Nat, valV kvs (.inl ((e : Nat) : Int)) = (mt js e).map fun x => V.int (x : Nat)
def spLm (K : PySem.W.Frag) : Sp := fun vs H Q _ => ∃ (v : V) (n : Nat) (js : List J2), vs = [v] ∧ Ly K H v n js ∧ Good n js ∧ ∀ (d : Addr) (kvs : List (Key × V)) (H' : Hp), Same H H' → H d = none → H' d = some (.dK kvs) → MtD js kvs → Q (.ref d) H'
abbrev N34 : List Str := ["lay", "found", "near", "far"]
theorem sc34 : FnScope N34 ["lay"] (defScope (top 49)) := ⟨rfl, rfl, rfl, by decide +kernel, rfl, by decide +kernel, by decide +kernel⟩
theorem key_ne {a b : Nat} (h : ¬ a = b) : ¬ ((Sum.inl ((a : Nat) : Int) : Key) = Sum.inl ((b : Nat) : Int)) := fun e => h (by have := Sum.inl.inj e; omega)
theorem mtD_step {xs : List J2} {p : J2} {kvs : List (Key × V)} (h1 : ¬ Seen xs p.1) (h2 : ¬ Seen xs p.2) (hm : MtD xs kvs) :
    MtD (xs ++ [p]) (putK (putK kvs (.inl ((p.1 : Nat) : Int)) (.int (p.2 : Nat))) (.inl ((p.2 : Nat) : Int)) (.int (p.1 : Nat))) := by
  intro e
  rw [valV_put, valV_put, mt_app]
  by_cases c2 : e = p.2
  · subst c2
    rw [if_pos rfl, mt_none h2]
    by_cases c1 : p.2 = p.1
    · rw [if_pos c1, c1]; rfl
    · rw [if_neg c1, if_pos rfl]; rfl
  · rw [if_neg (key_ne c2)]
    by_cases c1 : e = p.1
    · subst c1
      rw [if_pos rfl, mt_none h1, if_pos rfl]; rfl
    · rw [if_neg (key_ne c1), if_neg c1, if_neg c2, Option.or_none]
      exact hm e
theorem ok34 {f : Addr} {fd : FuncData} (F : Fun K "_law_mates" "_law_mates" (top 49) f fd) (B : Bn mg) : OkF P w K mg base 1 f fd ["lay"] (spLm K) := by
  refine ok0 F sc34 (fun vs H Q E h => ?_) (fun cdv A outer s H vs Q E hgd hr h => ?_)
  · obtain ⟨v, n, js, rfl, _⟩ := h; rfl
  · obtain ⟨v, n, js, rfl, ⟨t, u, rfl, hS, tj, ws, rfl, hSj, hPj⟩, g, q⟩ := h
    have nd := sc34.nd
    have tp := g.top
    have hu := hu_of hr
    refine ⟨_, pss_cons (ps_set (i := 1) nd rfl (.inl rfl) pe_dnewK)
      (pss_cons (ps_for PassesOwn.never rfl (pi_tup (pe_ix (r := rIxT K) ix_tup (pv 0) pe_int (fun _ _ => rfl))) (pg_tup (by rfl) (pgs_cons (pg_name (i := 2) nd rfl (.inl rfl)) (pgs_cons (pg_name (i := 3) nd rfl (.inl rfl)) pgs_nil)))
        (pss_cons (ps_dput hu (pv 1) (pv 2) (pv 3) rfl) (pss_one (ps_dput hu (pv 1) (pv 3) (pv 2) rfl))))
      (pss_one (ps_ret (pv 1)))), ?_⟩
    have a1 : atI [V.int (n : Nat), V.ref tj] 1 = some (.ref tj) := at_of (j := 1) rfl rfl
    refine fun d hd => gn ?_
    have s0 : Same H (upd H d (.dK [])) := Same.new hd
    refine ⟨_, rfl, t, _, 1, .ref tj, rfl, rfl, Same.t s0 hS, a1, tj, rfl, ⟨ws, Same.t s0 hSj⟩, ?_⟩
    refine for_it (walk_tup (xs := ws)) (fun i σ H' => ∃ (y2 y3 : Option V) (kvs : List (Key × V)), σ = [some (.ref t), some (.ref d), y2, y3] ∧ Same H H' ∧ H' d = some (.dK kvs) ∧ MtD (js.take i) kvs ∧ kvs.length ≤ 2 * i) ⟨none, none, [], rfl, s0, upd_same, fun e => rfl, Nat.le_refl _⟩ ?_ ?_ ?_
    · rintro i σ H' hi ⟨y2, y3, kvs, rfl, sm, _⟩
      exact Same.t sm hSj
    · rintro i x σ H1 H2 hi ⟨y2, y3, kvs, rfl, sm, hD, hm, hl⟩ ⟨rfl, ex⟩
      obtain ⟨p, hp, j, rfl, hj⟩ := pair_at hPj ex
      obtain ⟨r1, r2, r3, r4, r5⟩ := good_at g hp
      have il : i < js.length := (List.getElem?_eq_some_iff.mp hp).1
      have jl := g.le
      refine ⟨j, _, rfl, Same.t sm hj, rfl, _, _, rfl, _, _, rfl, rfl, ?_⟩
      have z1 := length_putK kvs (Sum.inl ((p.1 : Nat) : Int) : Key) (V.int (p.2 : Nat))
      refine ⟨_, rfl, _, rfl, _, rfl, d, _, rfl, DPut.k (k := .inl ((p.1 : Nat) : Int)) (v := .int (p.2 : Nat)) hD (Nat.lt_of_le_of_lt (show kvs.length ≤ 1000 by omega) (by decide)), ?_⟩
      refine ⟨_, rfl, _, rfl, _, rfl, d, _, rfl, DPut.k (k := .inl ((p.2 : Nat) : Int)) (v := .int (p.1 : Nat)) upd_same (Nat.lt_of_le_of_lt (show (putK kvs (Sum.inl ((p.1 : Nat) : Int) : Key) (V.int (p.2 : Nat))).length ≤ 1000 by omega) (by decide)), ?_⟩
      have z2 := length_putK (putK kvs (Sum.inl ((p.1 : Nat) : Int) : Key) (V.int (p.2 : Nat))) (Sum.inl ((p.2 : Nat) : Int) : Key) (V.int (p.1 : Nat))
      refine ⟨_, _, _, rfl, same_put (same_put sm hd) hd, upd_same, ?_, by omega⟩
      rw [take_next hp]
      exact mtD_step r3 r4 hm
    · rintro σ H' ⟨y2, y3, kvs, rfl, sm, hD, hm, hl⟩
      rw [List.take_of_length_le (by rw [Paired.length hPj]; exact Nat.le_refl _)] at hm
      exact ⟨_, rfl, q d kvs H' sm hd hD hm⟩
end
end K42
-- K42i
set_option Elab.async false
set_option linter.all false
set_option maxRecDepth 100000
set_option maxHeartbeats 4000000
namespace K42
open PySem L2 DC LamX
theorem flat_Vn (l : List Nat) : (Vn l).all flatV = true := by
  unfold Vn
  rw [List.all_map]
  exact List.all_eq_true.mpr fun x _ => rfl
section
variable {P : Program} {w : World} {K : PySem.W.Frag} {mg : Str → Option Value} {base : Heap}
end
end K42
-- DN
set_option Elab.async false
set_option linter.all false
set_option maxRecDepth 100000
set_option maxHeartbeats 4000000
/-! DN: xs.count(y), y and the items numbers, texts, truth values, None. -/
namespace DC
open PySem PySem.Spec PyProof.Rows L2 Evl
section
variable {X : Cx}
theorem count_eqU {x : V} : ∀ {xs : List V} {us : List Value}, Vals xs us → xs.all flatV = true → us.countP (eqU x) = xs.countP fun y => eqV y x
  | _, _, .nil, _ => rfl
  | y :: xs, u :: us, .cons r t, f => by
    have f' := Bool.and_eq_true_iff.mp (List.all_cons.symm.trans f)
    have ih := count_eqU (x := x) t f'.2
    have e := eqU_of (x := x) r f'.1
    rw [List.countP_cons, List.countP_cons, ih, e]
def rCntF (K : PySem.W.Frag) : V → List V → Hp → VK → Prop := fun x xs H Q => ∃ (p : Addr) (ys : List V) (y : V), x = .ref p ∧ xs = [y] ∧ SqL K H p ys ∧ flatV y = true ∧ ys.all flatV = true ∧ Q (.int ((ys.countP fun z => eqV z y : Nat) : Int)) H
theorem mt_countF : MtR X "list.count" (rCntF X.K) := by
  intro pins s σ H x xs v us Q I rx rxs h
  obtain ⟨p, ys, y, rfl, rfl, hs, fy, fs, q⟩ := h
  cases rx
  obtain ⟨u, rfl, ru⟩ := rxs.one
  obtain ⟨its, rv, ⟨⟨cls, dd, data, sl⟩, n, ho, hc, hdn, hd⟩, hlen⟩ := I.list hs
  dsimp only at hc hd
  cases hc
  cases hd
  have body := SeqAt.list_countAt p its.toArray n dd sl u (eqU y)
  refine call_meets PySem.F.slot_list_count ⟨_, ho, rfl⟩ PySem.F.entry_list_count (PySem.F.args_list_count_2 _ _) body ⟨ho, fun z hz => mem_eqAt ru fy rv fs z (by simpa using hz), ?_⟩
  have ec := count_eqU (x := y) rv fs
  refine ⟨.int ((ys.countP fun z => eqV z y : Nat) : Int), H, I.tok _, ⟨s.toks, ?_⟩, q⟩
  rw [← ec]
end
end DC
-- DT
set_option Elab.async false
set_option linter.all false
set_option maxRecDepth 100000
set_option maxHeartbeats 4000000
/-! DT: a tuple written at the top, read by its items. -/
namespace DC
open PySem L2
def absI : Value → Option V
  | .int i _ => some (.int i)
  | .str x _ => some (.str x)
  | .bool b => some (.bl b)
  | .none => some .non
  | .ref a => some (.ref a)
  | _ => none
theorem absI_rel {u : Value} {x : V} (h : absI u = some x) : RelV x u := by
  cases u <;> simp only [absI, Option.some.injEq, reduceCtorEq] at h <;> subst h
  · exact rfl
  · exact rfl
  · exact ⟨_, rfl⟩
  · exact ⟨_, rfl⟩
  · exact rfl
def absAll : List Value → Option (List V)
  | [] => some []
  | u :: us => match absI u, absAll us with
    | some x, some xs => some (x :: xs)
    | _, _ => none
theorem absAll_rel : ∀ {us : List Value} {xs : List V}, absAll us = some xs → Vals xs us
  | [], xs, h => by
    cases (show some [] = some xs from h)
    exact .nil
  | u :: us, xs, h => by
    unfold absAll at h
    split at h
    · rename_i x ys e1 e2
      cases h
      exact .cons (absI_rel e1) (absAll_rel e2)
    · cases h
/-- what a tuple written at the top has -/
def tupIn (K : PySem.W.Frag) (a : Addr) : Option (List V) :=
  match K.lookup a with
  | some o => match o.cls, o.data with
    | .type c, .seq its _ => if c = "tuple" then absAll its.toList else none
    | _, _ => none
  | none => none
theorem tupIn_t {K : PySem.W.Frag} {H : Hp} {a : Addr} {xs : List V} (h : tupIn K a = some xs) (hz : xs.length ≤ sizeLine) : SqT K H a xs := by
  unfold tupIn at h
  split at h
  · rename_i o ho
    split at h
    · rename_i c its n hc hd
      split at h
      · rename_i e
        subst e
        have r := absAll_rel h
        refine .inr ⟨o, its, n, ho, hc, hd, ?_, r⟩
        have e1 : xs.length = its.toList.length := r.length
        have e2 : its.toList.length = its.size := Array.length_toList
        omega
      · cases h
    · cases h
  · cases h
section
open PySem.Spec PyProof.Rows Evl
variable {X : Cx}
/-- pe_bm in a comprehension's block: the written part told apart -/
theorem pe_bmK {K : PySem.W.Frag} {T : String} {name : Str} {id : String} {r : V → List V → Hp → VK → Prop} {o e : Expr} {es : List Expr} {apos cpos : Pos} {to : TE} {t : TA} (hK : X.K = K) (pa : PlainAttrs T) (slot : Slot T name id) (hty : typeOf (.builtin id) = pure (.type "method_descriptor")) (hm : MtR X id r) (ho : PE X o to) (ha : PA X (e :: es) t)
    (hbase : attributeBase o name X.env (eval o X.env) = eval o X.env := by rfl)
    (hfew : ((backTo cpos (starEach (e :: es) X.env)).all (fun x => !x.1) && (backToKw cpos (keywordEach [] X.env)).all (fun x => x.1.isSome)
      && decide ((e :: es).length + ([] : List Keyword).length + (if ([] : List Keyword).isEmpty then 0 else 1) < 30)) = true := by rfl)
    (hline : (apos.endLine == cpos.line) = true := by rfl) (hs : starEach (e :: es) X.env = (false, eval e X.env) :: starEach es X.env := by rfl) (hplain : (backTo cpos (starEach es X.env)).any (·.1) = false := by rfl) :
    PE X (.Call (.Attribute o name apos) (e :: es) [] cpos) (tBM K T r to t) := by
  subst hK
  exact pe_bm pa slot hty hm ho ha hbase hfew hline hs hplain
end
end DC
-- C12
set_option Elab.async false
set_option linter.all false
set_option maxRecDepth 100000
set_option maxHeartbeats 4000000
/-! C12: the web of two lays is one list of pieces, whatever its order; what its pieces lack. -/
namespace DC
open PySem L2
section
variable {f g : Nat → Option Nat} {N a k : Nat}
theorem rj_ex (F : Mt N f) (G : Mt N g) (ha : a < N) : ∃ k, Rj f g a k := by
  have gen : ∀ d k, Pj f g a k → N - k ≤ d → ∃ k, Rj f g a k := by
    intro d
    induction d with
    | zero =>
      intro k P h
      cases e : jt f g a k with
      | none => exact ⟨k, P, .inl e⟩
      | some x =>
        by_cases c : x = a
        · exact ⟨k, P, .inr (by rw [e, c])⟩
        · have := (P.next e c).le F G ha
          omega
    | succ d ih =>
      intro k P h
      cases e : jt f g a k with
      | none => exact ⟨k, P, .inl e⟩
      | some x =>
        by_cases c : x = a
        · exact ⟨k, P, .inr (by rw [e, c])⟩
        · exact ih (k + 1) (P.next e c) (by omega)
  exact gen N 1 .one (by omega)
theorem least_ex {S : Nat → Prop} {x : Nat} (h : S x) : ∃ m, S m ∧ ∀ y, S y → m ≤ y := by
  induction x using Nat.strongRecOn with
  | ind x ih =>
    by_cases c : ∃ y, S y ∧ y < x
    · obtain ⟨y, hy, l⟩ := c
      exact ih y l hy
    · exact ⟨x, h, fun y hy => Nat.le_of_not_lt fun l => c ⟨y, hy, l⟩⟩
theorem cl_lt (F : Mt N f) (G : Mt N g) {e : Nat} (he : e < N) : ∀ {x}, Cl f g e x → x < N :=
  cl_closed (S := fun x => x < N) he fun x y _ n => by
    rcases n with n | n
    · exact (F.lt n).2
    · exact (G.lt n).2
/-- a walk from an end that is free behind comes to no end that it began with -/
theorem path_fin (F : Mt N f) (G : Mt N g) (R : Rj f g a k) (h0 : g a = none) : jt f g a k = none := by
  rcases R.fin with z | z
  · exact z
  · exfalso
    have pos := R.pos
    have ev : k % 2 = 0 := by
      by_cases c : k % 2 = 0
      · exact c
      · rw [show k = 0 + (2 * (k / 2) + 1) by omega] at z
        exact (jt_odd F G (k / 2) 0 a rfl z).elim
    rw [show k = (k - 1) + 1 by omega] at z
    obtain ⟨w, hw, ew⟩ := jt_step z
    have ew' := hh_inv F G ew
    unfold hh at ew'
    rw [if_neg (show ¬ (k - 1) % 2 = 0 by omega), h0] at ew'
    cases ew'
/-- where a path lacks a mate -/
theorem path_lack (F : Mt N f) (G : Mt N g) (R : Rj f g a k) (h0 : g a = none) {i x : Nat} (hi : i < k) (h : jt f g a i = some x) :
    (f x = none ↔ i + 1 = k ∧ i % 2 = 0) ∧ (g x = none ↔ i = 0 ∨ (i + 1 = k ∧ i % 2 = 1)) := by
  have fin := path_fin F G R h0
  have e1 : hh f g i x = none ↔ i + 1 = k := by
    have z := jt_next h
    rw [← z]
    constructor
    · intro n
      by_cases c : i + 1 < k
      · obtain ⟨y, hy⟩ := R.all (i + 1) c
        rw [hy] at n
        cases n
      · omega
    · intro n
      rw [n]
      exact fin
  have e2 : hh f g (i + 1) x = none ↔ i = 0 := by
    cases i with
    | zero =>
      obtain rfl : a = x := Option.some.inj h
      exact ⟨fun _ => rfl, fun _ => h0⟩
    | succ j =>
      obtain ⟨y, hy, ey⟩ := jt_step h
      have b := hh_inv F G ey
      rw [hh_par (show j % 2 = (j + 1 + 1) % 2 by omega)] at b
      constructor
      · intro n
        rw [b] at n
        cases n
      · intro n
        omega
  by_cases c : i % 2 = 0
  · have h1 : hh f g i = f := by unfold hh; rw [if_pos c]
    have h2 : hh f g (i + 1) = g := by unfold hh; rw [if_neg (by omega)]
    rw [h1] at e1
    rw [h2] at e2
    exact ⟨by rw [e1]; omega, by rw [e2]; omega⟩
  · have h1 : hh f g i = g := by unfold hh; rw [if_neg c]
    have h2 : hh f g (i + 1) = f := by unfold hh; rw [if_pos (by omega)]
    rw [h1] at e1
    rw [h2] at e2
    exact ⟨by rw [e2]; omega, by rw [e1]; omega⟩
theorem countP_range_last (p : Nat → Bool) (m : Nat) (h : ∀ i, i < m → p i = false) : (List.range (m + 1)).countP p = if p m = true then 1 else 0 := by
  rw [List.range_succ, List.countP_append, List.countP_eq_zero.mpr fun i hi => by rw [h i (List.mem_range.mp hi)]; decide, List.countP_singleton, Nat.zero_add]
theorem rj_count (P : Pj f g a k) (q : Nat → Bool) : (rj f g a k).countP q = (List.range k).countP fun i => q ((jt f g a i).getD 0) := by
  unfold rj
  rw [List.countP_map]
  rfl
theorem path_cf (F : Mt N f) (G : Mt N g) (R : Rj f g a k) (h0 : g a = none) : (rj f g a k).countP (fun e => (f e).isNone) = if k % 2 = 1 then 1 else 0 := by
  have pos := R.pos
  rw [rj_count R.toPj]
  obtain ⟨m, rfl⟩ : ∃ m, k = m + 1 := ⟨k - 1, by omega⟩
  have key : ∀ i, i < m + 1 → (f ((jt f g a i).getD 0)).isNone = decide (i + 1 = m + 1 ∧ i % 2 = 0) := by
    intro i hi
    obtain ⟨x, hx⟩ := R.all i hi
    have z := (path_lack F G R h0 hi hx).1
    rw [hx, Option.getD_some, Bool.eq_iff_iff, Option.isNone_iff_eq_none, decide_eq_true_eq]
    exact z
  rw [countP_range_last _ m fun i hi => by rw [key i (by omega)]; exact decide_eq_false (by omega), key m (by omega)]
  by_cases c : m % 2 = 0
  · rw [if_pos (decide_eq_true ⟨rfl, c⟩), if_pos (by omega)]
  · rw [if_neg (by rw [decide_eq_true_eq]; omega), if_neg (by omega)]
theorem path_cg (F : Mt N f) (G : Mt N g) (R : Rj f g a k) (h0 : g a = none) : (rj f g a k).countP (fun e => (g e).isNone) = if k % 2 = 1 then 1 else 2 := by
  have pos := R.pos
  rw [rj_count R.toPj]
  have key : ∀ i, i < k → (g ((jt f g a i).getD 0)).isNone = decide (i = 0 ∨ (i + 1 = k ∧ i % 2 = 1)) := by
    intro i hi
    obtain ⟨x, hx⟩ := R.all i hi
    have z := (path_lack F G R h0 hi hx).2
    rw [hx, Option.getD_some, Bool.eq_iff_iff, Option.isNone_iff_eq_none, decide_eq_true_eq]
    exact z
  obtain ⟨m, rfl⟩ : ∃ m, k = m + 1 := ⟨k - 1, by omega⟩
  rw [List.range_succ_eq_map, List.countP_cons, List.countP_map, key 0 (by omega), if_pos (decide_eq_true (.inl rfl))]
  cases m with
  | zero => rfl
  | succ r =>
    have e : (List.range (r + 1)).countP ((fun i => (g ((jt f g a i).getD 0)).isNone) ∘ Nat.succ) = if (r + 1) % 2 = 1 then 1 else 0 := by
      rw [countP_range_last _ r fun i hi => by
        show (g ((jt f g a (i + 1)).getD 0)).isNone = false
        rw [key (i + 1) (by omega)]; exact decide_eq_false (by omega)]
      show (if (g ((jt f g a (r + 1)).getD 0)).isNone = true then 1 else 0) = _
      rw [key (r + 1) (by omega)]
      by_cases c : (r + 1) % 2 = 1
      · rw [if_pos (decide_eq_true (.inr ⟨rfl, c⟩)), if_pos c]
      · rw [if_neg (by rw [decide_eq_true_eq]; omega), if_neg c]
    rw [e]
    split <;> split <;> omega
end
section
variable {n : Nat} {js ls : List J2}
/-- how many ends of a row are free in a lay -/
def cn (js : List J2) (h : List Nat) : Nat := h.countP fun e => (mt js e).isNone
theorem cn_perm {h h' : List Nat} (p : h.Perm h') : cn js h = cn js h' := p.countP_eq _
/-- what kind of piece has these ends -/
def lk (js ls : List J2) (h : List Nat) : Str := if cn js h = 0 ∧ cn ls h = 0 then "ring" else if cn js h = 1 then "odd" else if cn js h = 2 then "open" else "shut"
theorem lk_perm {h h' : List Nat} (p : h.Perm h') : lk js ls h = lk js ls h' := by
  unfold lk
  rw [cn_perm p, cn_perm p]
theorem wpc_cnt (g1 : Good n js) (g2 : Good n ls) {p : Str × List Nat} (h : Wpc n js ls p) :
    (cn js p.2 = 0 ∧ cn ls p.2 = 0 ∧ p.1 = "ring") ∨ (cn js p.2 = 1 ∧ cn ls p.2 = 1 ∧ p.1 = "odd") ∨ (cn js p.2 = 2 ∧ cn ls p.2 = 0 ∧ p.1 = "open") ∨ (cn js p.2 = 0 ∧ cn ls p.2 = 2 ∧ p.1 = "shut") := by
  obtain ⟨a, ha, ca, ⟨la, ⟨kd, ⟨k, ⟨e, R, er, ek⟩ | ⟨e, R, er, ek⟩⟩, e1⟩, _⟩ | ⟨nl, e1, _⟩⟩ := h
  · have c1 := path_cf g2.mt g1.mt R e
    have c2 := path_cg g2.mt g1.mt R e
    rw [← er] at c1 c2
    have len : p.2.length = k := by rw [er, rj_len]
    unfold oddK at e1
    rw [len, ek] at e1
    unfold cn
    rw [c1, c2, e1]
    by_cases c : k % 2 = 1
    · rw [if_pos c, if_pos c, if_pos c]
      exact .inr (.inl ⟨rfl, rfl, rfl⟩)
    · rw [if_neg c, if_neg c, if_neg c]
      exact .inr (.inr (.inl ⟨rfl, rfl, rfl⟩))
  · have e0 := la.resolve_left e
    have c1 := path_cf g1.mt g2.mt R e0
    have c2 := path_cg g1.mt g2.mt R e0
    rw [← er] at c1 c2
    have len : p.2.length = k := by rw [er, rj_len]
    unfold oddK at e1
    rw [len, ek] at e1
    unfold cn
    rw [c1, c2, e1]
    by_cases c : k % 2 = 1
    · rw [if_pos c, if_pos c, if_pos c]
      exact .inr (.inl ⟨rfl, rfl, rfl⟩)
    · rw [if_neg c, if_neg c, if_neg c]
      exact .inr (.inr (.inr ⟨rfl, rfl, rfl⟩))
  · refine .inl ⟨?_, ?_, e1⟩
    · refine List.countP_eq_zero.mpr fun x hx z => nl x hx (.inl (Option.isNone_iff_eq_none.mp z))
    · refine List.countP_eq_zero.mpr fun x hx z => nl x hx (.inr (Option.isNone_iff_eq_none.mp z))
theorem lk_wpc (g1 : Good n js) (g2 : Good n ls) {p : Str × List Nat} (h : Wpc n js ls p) : lk js ls p.2 = p.1 := by
  unfold lk
  rcases wpc_cnt g1 g2 h with ⟨a, b, c⟩ | ⟨a, b, c⟩ | ⟨a, b, c⟩ | ⟨a, b, c⟩ <;> rw [a, b, c] <;> rfl
def swp (k : Str) : Str := if k = "open" then "shut" else if k = "shut" then "open" else k
theorem lk_swap (g1 : Good n js) (g2 : Good n ls) {p : Str × List Nat} (h : Wpc n js ls p) : lk ls js p.2 = swp p.1 := by
  unfold lk swp
  rcases wpc_cnt g1 g2 h with ⟨a, b, c⟩ | ⟨a, b, c⟩ | ⟨a, b, c⟩ | ⟨a, b, c⟩ <;> rw [a, b, c] <;> decide +kernel
theorem pth_eq {a : Nat} {kd kd' : Str} {row row' : List Nat} (h : Pth js ls a kd row) (h' : Pth js ls a kd' row') : kd = kd' ∧ row = row' := by
  obtain ⟨k, ⟨e, R, er, ek⟩ | ⟨e, R, er, ek⟩⟩ := h <;> obtain ⟨k', ⟨e', R', er', ek'⟩ | ⟨e', R', er', ek'⟩⟩ := h'
  · obtain rfl := rj_eq R R'
    exact ⟨ek.trans ek'.symm, er.trans er'.symm⟩
  · exact absurd e e'
  · exact absurd e' e
  · obtain rfl := rj_eq R R'
    exact ⟨ek.trans ek'.symm, er.trans er'.symm⟩
/-- pieces that have an end in common are one -/
theorem wpc_uniq (g1 : Good n js) (g2 : Good n ls) {p q : Str × List Nat} (hp : Wpc n js ls p) (hq : Wpc n js ls q) {e : Nat} (h1 : e ∈ p.2) (h2 : e ∈ q.2) : p = q := by
  obtain ⟨a, ha, ca, A⟩ := hp
  obtain ⟨b, hb, cb, B⟩ := hq
  have aq := ca.meet g1.mt g2.mt cb h1 h2 a ca.beg
  have bp := cb.meet g1.mt g2.mt ca h2 h1 b cb.beg
  rcases A with ⟨la, ⟨kd, P, ep⟩, am⟩ | ⟨nl, ep, ⟨k, R, er⟩, am⟩ <;> rcases B with ⟨lb, ⟨kd', P', eq⟩, bm⟩ | ⟨nl', eq, ⟨k', R', er'⟩, bm⟩
  · obtain rfl : a = b := Nat.le_antisymm (am b bp lb) (bm a aq la)
    obtain ⟨e1, e2⟩ := pth_eq P P'
    subst e1
    refine Prod.ext ?_ e2
    rw [ep, eq, e2]
  · exact absurd la (nl' a aq)
  · exact absurd lb (nl b bp)
  · obtain rfl : a = b := Nat.le_antisymm (am b bp) (bm a aq)
    obtain rfl := rj_eq R R'
    exact Prod.ext (ep.trans eq.symm) (er.trans er'.symm)
theorem wpc_ex (g1 : Good n js) (g2 : Good n ls) {e : Nat} (he : e < 2 * n) : ∃ p, Wpc n js ls p ∧ e ∈ p.2 := by
  have F := g1.mt
  have G := g2.mt
  by_cases c : ∃ x, Cl (mt js) (mt ls) e x ∧ Lst js ls x
  · obtain ⟨x, hx⟩ := c
    obtain ⟨a, ⟨ca, la⟩, least⟩ := least_ex (S := fun x => Cl (mt js) (mt ls) e x ∧ Lst js ls x) hx
    have ha := cl_lt F G he ca
    obtain ⟨kd, row, hP⟩ : ∃ kd row, Pth js ls a kd row := by
      cases ej : mt js a with
      | none =>
        obtain ⟨k, R⟩ := rj_ex G F ha
        exact ⟨_, _, k, .inl ⟨ej, R, rfl, rfl⟩⟩
      | some x =>
        obtain ⟨k, R⟩ := rj_ex F G ha
        exact ⟨_, _, k, .inr ⟨by rw [ej]; exact (fun z => nomatch z), R, rfl, rfl⟩⟩
    have cls := pth_cls g1 g2 ha hP la
    exact ⟨(oddK row kd, row), ⟨a, ha, cls, .inl ⟨la, ⟨kd, hP, rfl⟩, fun x hx lx => least x ⟨cl_trans ca ((cls.mem x).mp hx), lx⟩⟩⟩, (cls.mem e).mpr (cl_symm F G ca)⟩
  · obtain ⟨a, ca, least⟩ := least_ex (S := fun x => Cl (mt js) (mt ls) e x) Cl.base
    have ha := cl_lt F G he ca
    have nol : ∀ x, Cl (mt js) (mt ls) a x → ¬ Lst js ls x := fun x hx lx => c ⟨x, cl_trans ca hx, lx⟩
    obtain ⟨k, R⟩ := rj_ex F G ha
    have fin : jt (mt js) (mt ls) a k = some a := by
      rcases R.fin with z | z
      · exfalso
        have pos := R.pos
        obtain ⟨y, hy⟩ := R.all (k - 1) (by omega)
        have hm : y ∈ rj (mt js) (mt ls) a k := (mem_rj R.toPj).mpr ⟨k - 1, by omega, hy⟩
        have e := jt_next hy
        rw [show k - 1 + 1 = k by omega, z] at e
        refine nol y (rj_cl R.toPj y hm) ?_
        unfold hh at e
        split at e
        · exact .inl e.symm
        · exact .inr e.symm
      · exact z
    have cls := cls_rj F G ha R (.inr fin)
    exact ⟨("ring", rj (mt js) (mt ls) a k), ⟨a, ha, cls, .inr ⟨fun x hx => nol x ((cls.mem x).mp hx), rfl, ⟨k, R, rfl⟩, fun x hx => least x (cl_trans ca ((cls.mem x).mp hx))⟩⟩, (cls.mem e).mpr (cl_symm F G ca)⟩
theorem wpc_beg {p : Str × List Nat} (h : Wpc n js ls p) : ∃ a, a < 2 * n ∧ a ∈ p.2 := by
  obtain ⟨a, ha, ca, _⟩ := h
  exact ⟨a, ha, ca.beg⟩
theorem wpc_lt {p : Str × List Nat} (h : Wpc n js ls p) : ∀ e ∈ p.2, e < 2 * n := by
  obtain ⟨a, ha, ca, _⟩ := h
  exact ca.lt
theorem wpc_nd {p : Str × List Nat} (h : Wpc n js ls p) : p.2.Nodup := by
  obtain ⟨a, ha, ca, _⟩ := h
  exact ca.nd
/-- these are all pieces, each once -/
structure IsWeb (n : Nat) (js ls : List J2) (ps : List (Str × List Nat)) : Prop where
  mem : ∀ p, p ∈ ps ↔ Wpc n js ls p
  nd : ps.Nodup
theorem IsWeb.of (g1 : Good n js) (g2 : Good n ls) {ps : List (Str × List Nat)} (h : ∀ p ∈ ps, Wpc n js ls p) (nd : ps.Nodup) (cov : ∀ e, e < 2 * n → ∃ p ∈ ps, e ∈ p.2) : IsWeb n js ls ps := by
  refine ⟨fun p => ⟨h p, fun hp => ?_⟩, nd⟩
  obtain ⟨a, ha, hm⟩ := wpc_beg hp
  obtain ⟨q, hq, hm'⟩ := cov a ha
  rw [wpc_uniq g1 g2 hp (h q hq) hm hm']
  exact hq
theorem Wi.web {ps : List (Str × List Nat)} {bs : List Bool} (W : Wi n js ls ps bs) (g1 : Good n js) (g2 : Good n ls) (cov : ∀ e, e < 2 * n → ∃ p ∈ ps, e ∈ p.2) : IsWeb n js ls ps := by
  refine .of g1 g2 W.pcs ?_ cov
  refine List.Pairwise.imp_of_mem (fun {p q} hp hq h e => ?_) W.dis
  subst e
  obtain ⟨a, _, hm⟩ := wpc_beg (W.pcs p hp)
  exact h a hm hm
theorem IsWeb.perm {ps qs : List (Str × List Nat)} (A : IsWeb n js ls ps) (B : IsWeb n js ls qs) : ps.Perm qs :=
  (List.perm_ext_iff_of_nodup A.nd B.nd).mpr fun p => (A.mem p).trans (B.mem p).symm
theorem IsWeb.cov {ps : List (Str × List Nat)} (A : IsWeb n js ls ps) (g1 : Good n js) (g2 : Good n ls) : ∀ e, e < 2 * n → ∃ p ∈ ps, e ∈ p.2 := by
  intro e he
  obtain ⟨p, hp, hm⟩ := wpc_ex g1 g2 he
  exact ⟨p, (A.mem p).mpr hp, hm⟩
theorem web_ex (g1 : Good n js) (g2 : Good n ls) : ∃ ps, IsWeb n js ls ps := by
  have gen : ∀ m, m ≤ 2 * n → ∃ ps : List (Str × List Nat), (∀ p ∈ ps, Wpc n js ls p) ∧ ps.Nodup ∧ ∀ e, e < m → ∃ p ∈ ps, e ∈ p.2 := by
    intro m
    induction m with
    | zero => intro _; exact ⟨[], fun p hp => absurd hp (List.not_mem_nil), .nil, fun e he => absurd he (Nat.not_lt_zero _)⟩
    | succ m ih =>
      intro hm
      obtain ⟨ps, h1, h2, h3⟩ := ih (by omega)
      by_cases c : ∃ p ∈ ps, m ∈ p.2
      · refine ⟨ps, h1, h2, fun e he => ?_⟩
        by_cases z : e = m
        · rw [z]; exact c
        · exact h3 e (by omega)
      · obtain ⟨p, hp, hmp⟩ := wpc_ex g1 g2 (show m < 2 * n by omega)
        refine ⟨p :: ps, fun q hq => ?_, List.nodup_cons.mpr ⟨fun hq => c ⟨p, hq, hmp⟩, h2⟩, fun e he => ?_⟩
        · rcases List.mem_cons.mp hq with rfl | hq
          · exact hp
          · exact h1 q hq
        · by_cases z : e = m
          · rw [z]; exact ⟨p, List.mem_cons_self, hmp⟩
          · obtain ⟨q, hq, hm'⟩ := h3 e (by omega)
            exact ⟨q, List.mem_cons_of_mem _ hq, hm'⟩
  obtain ⟨ps, h1, h2, h3⟩ := gen (2 * n) (Nat.le_refl _)
  exact ⟨ps, .of g1 g2 h1 h2 h3⟩
/-! ascending rows -/
def asc (l : List Nat) : List Nat := l.mergeSort fun a b => decide (a ≤ b)
theorem asc_perm (l : List Nat) : (asc l).Perm l := List.mergeSort_perm _ _
theorem asc_pw (l : List Nat) : (asc l).Pairwise (· ≤ ·) := by
  have h := List.pairwise_mergeSort (le := fun a b : Nat => decide (a ≤ b)) (fun a b c h1 h2 => by rw [decide_eq_true_eq] at *; omega) (fun a b => by rw [Bool.or_eq_true, decide_eq_true_eq, decide_eq_true_eq]; omega) l
  exact h.imp fun z => of_decide_eq_true z
theorem asc_eq {l l' : List Nat} (p : l'.Perm l) (h : l'.Pairwise (· ≤ ·)) : l' = asc l :=
  List.Perm.eq_of_pairwise (le := (· ≤ ·)) (fun a b _ _ h1 h2 => Nat.le_antisymm h1 h2) h (asc_pw l) (p.trans (asc_perm l).symm)
theorem asc_same {l l' : List Nat} (p : l'.Perm l) : asc l' = asc l := asc_eq ((asc_perm l').trans p) (asc_pw l')
/-- the heaps of ends that hang together, ascending, each once -/
structure Hps (n : Nat) (js ls : List J2) (hs : List (List Nat)) : Prop where
  mem : ∀ h ∈ hs, ∃ p, Wpc n js ls p ∧ h = asc p.2
  dis : hs.Pairwise fun h h' => ∀ e, e ∈ h → e ∉ h'
  cov : ∀ e, e < 2 * n → ∃ h ∈ hs, e ∈ h
theorem Hps.perm {hs : List (List Nat)} {ps : List (Str × List Nat)} (A : Hps n js ls hs) (W : IsWeb n js ls ps) (g1 : Good n js) (g2 : Good n ls) : hs.Perm (ps.map fun p => asc p.2) := by
  have ne : ∀ p, Wpc n js ls p → ∃ a, a < 2 * n ∧ a ∈ asc p.2 := by
    intro p hp
    obtain ⟨a, ha, hm⟩ := wpc_beg hp
    exact ⟨a, ha, (asc_perm p.2).mem_iff.mpr hm⟩
  refine (List.perm_ext_iff_of_nodup ?_ ?_).mpr fun h => ?_
  · refine List.Pairwise.imp_of_mem (fun {x y} hx hy d e => ?_) A.dis
    subst e
    obtain ⟨p, hp, rfl⟩ := A.mem x hx
    obtain ⟨a, _, hm⟩ := ne p hp
    exact d a hm hm
  · rw [List.Nodup, List.pairwise_map]
    refine List.Pairwise.imp_of_mem (fun {p q} hp hq d e => ?_) W.nd
    obtain ⟨a, _, hm⟩ := ne p ((W.mem p).mp hp)
    have hm' := hm
    rw [e] at hm'
    exact d (wpc_uniq g1 g2 ((W.mem p).mp hp) ((W.mem q).mp hq) ((asc_perm p.2).mem_iff.mp hm) ((asc_perm q.2).mem_iff.mp hm'))
  · constructor
    · intro hh
      obtain ⟨p, hp, rfl⟩ := A.mem h hh
      exact List.mem_map.mpr ⟨p, (W.mem p).mpr hp, rfl⟩
    · intro hh
      obtain ⟨p, hp, rfl⟩ := List.mem_map.mp hh
      have wp := (W.mem p).mp hp
      obtain ⟨a, ha, hm⟩ := ne p wp
      obtain ⟨h', hh', hm'⟩ := A.cov a ha
      obtain ⟨q, hq, rfl⟩ := A.mem h' hh'
      rw [wpc_uniq g1 g2 wp hq ((asc_perm p.2).mem_iff.mp hm) ((asc_perm q.2).mem_iff.mp hm')]
      exact hh'
/-- the web the other way round has the same heaps -/
theorem IsWeb.swap {ps qs : List (Str × List Nat)} (A : IsWeb n js ls ps) (B : IsWeb n ls js qs) (g1 : Good n js) (g2 : Good n ls) : (qs.map fun p => asc p.2).Perm (ps.map fun p => asc p.2) := by
  refine Hps.perm (n := n) (js := js) (ls := ls) ⟨fun h hh => ?_, ?_, ?_⟩ A g1 g2
  · obtain ⟨q, hq, rfl⟩ := List.mem_map.mp hh
    have wq := (B.mem q).mp hq
    obtain ⟨a, ha, ca, _⟩ := id wq
    obtain ⟨p, hp, hm⟩ := wpc_ex g1 g2 ha
    refine ⟨p, hp, asc_same ?_⟩
    obtain ⟨b, hb, cb, _⟩ := id hp
    have e := (cb.mem a).mp hm
    refine (List.perm_ext_iff_of_nodup (wpc_nd wq) (wpc_nd hp)).mpr fun x => ?_
    rw [cb.mem x, ca.mem x]
    exact ⟨fun z => cl_trans e (cl_swap z), fun z => cl_swap (cl_trans (cl_symm g1.mt g2.mt e) z)⟩
  · rw [List.pairwise_map]
    refine List.Pairwise.imp_of_mem (fun {p q} hp hq d e h1 h2 => ?_) B.nd
    exact d (wpc_uniq g2 g1 ((B.mem p).mp hp) ((B.mem q).mp hq) ((asc_perm p.2).mem_iff.mp h1) ((asc_perm q.2).mem_iff.mp h2))
  · intro e he
    obtain ⟨q, hq, hm⟩ := B.cov g2 g1 e he
    exact ⟨asc q.2, List.mem_map.mpr ⟨q, hq, rfl⟩, (asc_perm q.2).mem_iff.mpr hm⟩
end
end DC
-- K42j
set_option Elab.async false
set_option linter.all false
set_option maxRecDepth 100000
set_option maxHeartbeats 4000000
namespace K42
open PySem L2 DC LamX
def cntK (ps : List (Str × List Nat)) (k : Str) : Nat := ps.countP fun p => p.1 == k
def KD : List Str := ["ring", "odd", "open", "shut"]
def kcnt (ps : List (Str × List Nat)) : List V := KD.map fun k => .int ((cntK ps k : Nat) : Int)
def szOrd (ps : List (Str × List Nat)) : List (Str × List Nat) := (byRow ps).mergeSort (PySem.W.dataLe false szD)
theorem sizesD_map (ps : List (Str × List Nat)) : sizesD ps = (szOrd ps).map szD := by
  unfold sizesD szOrd
  exact (List.map_mergeSort (r := PySem.W.dataLe false szD) (s := PySem.W.dataLe false id) (f := szD) (l := byRow ps) (fun a _ b _ => rfl)).symm
theorem szOrd_perm (ps : List (Str × List Nat)) : (szOrd ps).Perm ps := (List.mergeSort_perm _ _).trans (List.mergeSort_perm _ _)
theorem dp_sz {K : PySem.W.Frag} {H : Hp} {x : V} {p : Str × List Nat} (h : Dp K H x (szD p)) : ∃ t, x = .ref t ∧ SqT K H t [.str p.1, .int (p.2.length : Nat)] := by
  unfold szD at h
  cases h with
  | tup hS ha =>
    cases ha with
    | cons h1 t1 =>
      cases h1
      cases t1 with
      | cons h2 t2 =>
        cases h2
        cases t2
        exact ⟨_, rfl, hS⟩
theorem flat_str (l : List Str) : (l.map V.str).all flatV = true := by
  rw [List.all_map]
  exact List.all_eq_true.mpr fun x _ => rfl
theorem count_kd (qs : List (Str × List Nat)) (k : Str) : ((qs.map fun p => V.str p.1).countP fun z => eqV z (.str k)) = cntK qs k := by
  unfold cntK
  rw [List.countP_map]
  rfl
theorem cntK_perm {ps qs : List (Str × List Nat)} (h : ps.Perm qs) (k : Str) : cntK ps k = cntK qs k := h.countP_eq _
section
variable {P : Program} {w : World} {K : PySem.W.Frag} {mg : Str → Option Value} {base : Heap}
end
end K42
-- K42o
set_option Elab.async false
set_option linter.all false
set_option maxRecDepth 100000
set_option maxHeartbeats 4000000
namespace K42
open PySem L2 DC LamX
section
variable {K : PySem.W.Frag} {H H' : Hp}
theorem extN_l {a : Addr} {xs : List V} (e : ExtN H H') (h : SqL K H a xs) : SqL K H' a xs := by
  rcases h with (h | ⟨o, h⟩) | h
  · exact .inl (.inl (e _ _ h (fun _ z => nomatch z)))
  · exact .inl (.inr ⟨o, e _ _ h (fun _ z => nomatch z)⟩)
  · exact .inr h
mutual
theorem dpX (e : ExtN H H') : ∀ {d : PyData} {v : V}, Dp K H v d → Dp K H' v d
  | _, _, .non => .non
  | _, _, .bl b => .bl b
  | _, _, .int i => .int i
  | _, _, .str x => .str x
  | _, _, .lst h a => .lst (extN_l e h) (dpAllX e a)
  | _, _, .tup h a => .tup (extN_t e h) (dpAllX e a)
theorem dpAllX (e : ExtN H H') : ∀ {ds : List PyData} {vs : List V}, DpAll K H vs ds → DpAll K H' vs ds
  | _, _, .nil => .nil
  | _, _, .cons a b => .cons (dpX e a) (dpAllX e b)
end
theorem lyX (e : ExtN H H') {v : V} {n : Nat} {js : List J2} : Ly K H v n js → Ly K H' v n js
  | ⟨t, u, q, h, tj, ws, qj, hj, hp⟩ => ⟨t, u, q, extN_t e h, tj, ws, qj, extN_t e hj, L2.Paired.mapP hp fun _ _ ⟨t, q, h⟩ => ⟨t, q, extN_t e h⟩⟩
theorem lstX (e : ExtN H H') {a : Addr} {xs : List V} (h : H a = some (.lst xs)) : H' a = some (.lst xs) := e _ _ h (fun _ z => nomatch z)
theorem tupX (e : ExtN H H') {a : Addr} {xs : List V} (h : H a = some (.tup xs)) : H' a = some (.tup xs) := e _ _ h (fun _ z => nomatch z)
theorem dkX (e : ExtN H H') {a : Addr} {xs : List (Key × V)} (h : H a = some (.dK xs)) : H' a = some (.dK xs) := e _ _ h (fun _ z => nomatch z)
end
def layD (n : Nat) (js : List J2) : PyData := .tuple [.int (n : Nat), .tuple (js.map fun p => .tuple [.int (p.1 : Nat), .int (p.2 : Nat)])]
theorem js_dp {K : PySem.W.Frag} {H : Hp} : ∀ {vs : List V} {js : List J2}, Paired (Pr K H) vs js → DpAll K H vs (js.map fun p => .tuple [.int (p.1 : Nat), .int (p.2 : Nat)])
  | _, _, .nil => .nil
  | _, _, .cons ⟨t, e, h⟩ r => by
    subst e
    exact .cons (Dp.tup h (.cons (.int _) (.cons (.int _) .nil))) (js_dp r)
theorem ly_dp {K : PySem.W.Frag} {H : Hp} {v : V} {n : Nat} {js : List J2} (h : Ly K H v n js) : Dp K H v (layD n js) := by
  obtain ⟨t, u, rfl, hS, tj, ws, rfl, hj, hp⟩ := h
  exact Dp.tup hS (.cons (.int _) (.cons (Dp.tup hj (js_dp hp)) .nil))
theorem smAll_of : ∀ {ds : List PyData}, (∀ d ∈ ds, sm d = true) → smAll ds = true
  | [], _ => by simp only [smAll]
  | d :: ds, h => by
    simp only [smAll, h d List.mem_cons_self, smAll_of fun x hx => h x (List.mem_cons_of_mem _ hx), Bool.and_self]
theorem wtAll_le {B : Nat} : ∀ {ds : List PyData}, (∀ d ∈ ds, wt d ≤ B) → wtAll ds ≤ ds.length * (B + 2)
  | [], _ => by simp only [wtAll, List.length_nil, Nat.zero_mul, Nat.le_refl]
  | d :: ds, h => by
    have h1 := h d List.mem_cons_self
    have ih := wtAll_le (ds := ds) fun x hx => h x (List.mem_cons_of_mem _ hx)
    simp only [wtAll, List.length_cons]
    rw [Nat.add_mul]
    omega
theorem depthAll_le {B : Nat} : ∀ {ds : List PyData}, (∀ d ∈ ds, d.depth ≤ B) → PyData.depthAll ds ≤ B
  | [], _ => by simp only [PyData.depthAll, Nat.zero_le]
  | d :: ds, h => by
    have h1 := h d List.mem_cons_self
    have ih := depthAll_le (ds := ds) fun x hx => h x (List.mem_cons_of_mem _ hx)
    simp only [PyData.depthAll]
    omega
structure Short (d : PyData) (B D : Nat) : Prop where
  s : sm d = true
  w : wt d ≤ B
  p : d.depth ≤ D
theorem short_int {n : Nat} (h : n < 10 ^ 20) : Short (.int (n : Nat)) 21 0 := ⟨by simp only [sm, decide_eq_true_eq]; exact h, by simp only [wt, Nat.le_refl], by simp only [PyData.depth, Nat.le_refl]⟩
theorem short_tuple {ds : List PyData} {B D L : Nat} (h : ∀ d ∈ ds, Short d B D) (hl : ds.length ≤ L) : Short (.tuple ds) (L * (B + 2) + 4) (D + 1) := by
  refine ⟨by simp only [sm]; exact smAll_of fun d hd => (h d hd).s, ?_, ?_⟩
  · simp only [wt]
    have := wtAll_le (B := B) (ds := ds) fun d hd => (h d hd).w
    have := Nat.mul_le_mul_right (B + 2) hl
    omega
  · simp only [PyData.depth]
    have := depthAll_le (B := D) (ds := ds) fun d hd => (h d hd).p
    omega
theorem short_list {ds : List PyData} {B D L : Nat} (h : ∀ d ∈ ds, Short d B D) (hl : ds.length ≤ L) : Short (.list ds) (L * (B + 2) + 4) (D + 1) := by
  refine ⟨by simp only [sm]; exact smAll_of fun d hd => (h d hd).s, ?_, ?_⟩
  · simp only [wt]
    have := wtAll_le (B := B) (ds := ds) fun d hd => (h d hd).w
    have := Nat.mul_le_mul_right (B + 2) hl
    omega
  · simp only [PyData.depth]
    have := depthAll_le (B := D) (ds := ds) fun d hd => (h d hd).p
    omega
theorem Short.mono {d : PyData} {B D B' D' : Nat} (h : Short d B D) (hB : B ≤ B') (hD : D ≤ D') : Short d B' D' := ⟨h.s, Nat.le_trans h.w hB, Nat.le_trans h.p hD⟩
theorem short_lay {n : Nat} {js : List J2} (g : Good n js) : Short (layD n js) 2000 4 := by
  have tp := g.top
  have le := g.le
  unfold layD
  have h2 : Short (.tuple (js.map fun p => .tuple [.int (p.1 : Nat), .int (p.2 : Nat)])) (12 * (50 + 2) + 4) 2 := by
    refine short_tuple (B := 50) (D := 1) (fun d hd => ?_) (by rw [List.length_map]; omega)
    obtain ⟨p, hp, rfl⟩ := List.mem_map.mp hd
    have r := g.rng p hp
    refine (short_tuple (B := 21) (D := 0) (L := 2) (fun d hd => ?_) (Nat.le_refl _)).mono (by decide) (by decide)
    simp only [List.mem_cons, List.not_mem_nil, or_false] at hd
    rcases hd with rfl | rfl
    · exact short_int (by omega)
    · exact short_int (by omega)
  refine (short_tuple (B := 628) (D := 2) (L := 2) (fun d hd => ?_) (Nat.le_refl _)).mono (by decide) (by decide)
  simp only [List.mem_cons, List.not_mem_nil, or_false] at hd
  rcases hd with rfl | rfl
  · exact (short_int (by omega)).mono (by decide) (by decide)
  · exact h2
section
variable {n : Nat} {js ls : List J2} {ps : List (Str × List Nat)}
theorem short_str {k : Str} (h : k = "ring" ∨ k = "odd" ∨ k = "open" ∨ k = "shut") : Short (.str k) 1002 0 := by
  refine ⟨?_, by simp only [wt, Nat.le_refl], by simp only [PyData.depth, Nat.le_refl]⟩
  rcases h with rfl | rfl | rfl | rfl <;> decide +kernel
theorem wpc_kind (g1 : Good n js) (g2 : Good n ls) {p : Str × List Nat} (h : Wpc n js ls p) : p.1 = "ring" ∨ p.1 = "odd" ∨ p.1 = "open" ∨ p.1 = "shut" := by
  rcases wpc_cnt g1 g2 h with ⟨_, _, c⟩ | ⟨_, _, c⟩ | ⟨_, _, c⟩ | ⟨_, _, c⟩
  · exact .inl c
  · exact .inr (.inl c)
  · exact .inr (.inr (.inl c))
  · exact .inr (.inr (.inr c))
theorem wpc_len {p : Str × List Nat} (h : Wpc n js ls p) : p.2.length ≤ 2 * n := by
  have q := nodup_le (m := List.range (2 * n)) (wpc_nd h) fun x hx => List.mem_range.mpr (wpc_lt h x hx)
  rw [List.length_range] at q
  exact q
end
end K42
-- DD
set_option Elab.async false
set_option linter.all false
set_option maxRecDepth 100000
set_option maxHeartbeats 4000000
/-! DD: displays of data (tuples and lists of ints and texts), read as a whole. -/
namespace DC
open PySem L2
mutual
inductive Dsp : TE → PyData → Prop
  | int (i : Int) : Dsp (tC (.int i)) (.int i)
  | str (x : Str) : Dsp (tC (.str x)) (.str x)
  | tup {t : TA} {ds : List PyData} : DspA t ds → ds.length ≤ 1000 → Dsp (tTup t) (.tuple ds)
  | lst {t : TA} {ds : List PyData} : DspA t ds → ds.length ≤ 1000 → Dsp (tLst t) (.list ds)
inductive DspA : TA → List PyData → Prop
  | nil : DspA tNil []
  | cons {te : TE} {d : PyData} {t : TA} {ds : List PyData} : Dsp te d → DspA t ds → DspA (tCons te t) (d :: ds)
end
mutual
theorem dsp_ok {K : PySem.W.Frag} : ∀ {te : TE} {d : PyData}, Dsp te d → ∀ {σ : L2.St} {H : Hp} {Q : V → Hp → Prop}, (∀ v H', Same H H' → Dp K H' v d → Q v H') → te σ H Q
  | _, _, .int i, σ, H, Q, q => q _ _ (fun _ _ h => h) (.int i)
  | _, _, .str x, σ, H, Q, q => q _ _ (fun _ _ h => h) (.str x)
  | _, _, .tup (ds := ds) a hz, σ, H, Q, q => dspA_ok (K := K) a fun xs H1 s1 h1 => ⟨by rw [dpAll_len h1]; exact Nat.le_trans hz (by decide), fun p hp => q _ _ (s1.trans (Same.new hp)) (Dp.tup (SqT.of upd_same) (DpAll.up (Same.new hp) h1))⟩
  | _, _, .lst (ds := ds) a hz, σ, H, Q, q => dspA_ok (K := K) a fun xs H1 s1 h1 => ⟨by rw [dpAll_len h1]; exact Nat.le_trans hz (by decide), fun p hp => q _ _ (s1.trans (Same.new hp)) (Dp.lst (SqL.of upd_same) (DpAll.up (Same.new hp) h1))⟩
theorem dspA_ok {K : PySem.W.Frag} : ∀ {t : TA} {ds : List PyData}, DspA t ds → ∀ {σ : L2.St} {H : Hp} {Q : List V → Hp → Prop}, (∀ xs H', Same H H' → DpAll K H' xs ds → Q xs H') → t σ H Q
  | _, _, .nil, σ, H, Q, q => q [] H (fun _ _ h => h) .nil
  | _, _, .cons a b, σ, H, Q, q => dsp_ok (K := K) a fun v H1 s1 h1 => dspA_ok (K := K) b fun xs H2 s2 h2 => q (v :: xs) H2 (s1.trans s2) (.cons (Dp.up s2 h1) h2)
end
/-- the one thing of a call's arguments that is left -/
theorem dsp_one {K : PySem.W.Frag} {te : TE} {d : PyData} (a : Dsp te d) {σ : L2.St} {H : Hp} {Q : List V → Hp → Prop} (q : ∀ v H', Same H H' → Dp K H' v d → Q [v] H') : tCons te tNil σ H Q :=
  dspA_ok (K := K) (.cons a .nil) fun xs H' s h => by
    cases h with
    | cons h1 h2 =>
      cases h2
      exact q _ _ s h1
theorem dsp_set {K : PySem.W.Frag} {te : TE} {d : PyData} (a : Dsp te d) {i : Nat} {D : Ends} {σ : L2.St} {H : Hp} (q : ∀ v H', Same H H' → Dp K H' v d → D.nx (σ.set i (some v)) H') : tAsg te (gName i) D σ H :=
  dsp_ok (K := K) a fun v H' s h => q v H' s h
theorem dsp_cons {K : PySem.W.Frag} {te : TE} {d : PyData} (a : Dsp te d) {ta : TA} {σ : L2.St} {H : Hp} {Q : List V → Hp → Prop} (q : ∀ v H', Same H H' → Dp K H' v d → ta σ H' fun xs H2 => Q (v :: xs) H2) : tCons te ta σ H Q :=
  dsp_ok (K := K) a fun v H' s h => q v H' s h
theorem lst_i {t : TA} {σ : L2.St} {H : Hp} {Q : V → Hp → Prop} (h : t σ H fun xs H1 => xs.length ≤ sizeLine ∧ ∀ p, H1 p = none → Q (.ref p) (upd H1 p (.lst xs))) : tLst t σ H Q := h
theorem cons_i {te : TE} {ta : TA} {σ : L2.St} {H : Hp} {Q : List V → Hp → Prop} (h : te σ H fun x H1 => ta σ H1 fun xs H2 => Q (x :: xs) H2) : tCons te ta σ H Q := h
theorem call_i {sp : Sp} {dvs : List V} {E : XK} {t : TA} {σ : L2.St} {H : Hp} {Q : V → Hp → Prop} (h : t σ H fun vs H1 => sp (vs ++ dvs) H1 Q E) : tCall sp dvs E t σ H Q := h
theorem seq_i {a b : TS} {D : Ends} {σ : L2.St} {H : Hp} (h : a { D with nx := b D } σ H) : tSeq a b D σ H := h
theorem asg_i {te : TE} {g : TG} {D : Ends} {σ : L2.St} {H : Hp} (h : te σ H fun x H1 => g x σ H1 D.nx) : tAsg te g D σ H := h
theorem var_i {i : Nat} {v : V} {σ : L2.St} {H : Hp} {Q : V → Hp → Prop} (e : σ[i]? = some (some v)) (h : Q v H) : tVar i σ H Q := ⟨v, e, h⟩
abbrev tI (i : Int) : TE := tC (.int i)
abbrev tP (a b : Int) : TE := tTup (tCons (tI a) (tCons (tI b) tNil))
theorem dsP {a b : Nat} {x y : Int} (hx : x = (a : Nat)) (hy : y = (b : Nat)) : Dsp (tP x y) (.tuple [.int (a : Nat), .int (b : Nat)]) := by
  subst hx hy
  exact .tup (.cons (.int _) (.cons (.int _) .nil)) (show 2 ≤ 1000 by decide)
theorem dsI : ∀ is : List Int, DspA (is.foldr (fun i t => tCons (tI i) t) tNil) (is.map PyData.int)
  | [] => .nil
  | i :: is => .cons (.int i) (dsI is)
theorem dp_tup2 {K : PySem.W.Frag} {H : Hp} {v : V} {d e : PyData} (h : Dp K H v (.tuple [d, e])) : ∃ t x y, v = .ref t ∧ SqT K H t [x, y] ∧ Dp K H x d ∧ Dp K H y e := by
  cases h with
  | tup hS ha =>
    cases ha with
    | cons h1 t1 =>
      cases t1 with
      | cons h2 t2 =>
        cases t2
        exact ⟨_, _, _, rfl, hS, h1, h2⟩
end DC
-- DWT
set_option Elab.async false
set_option linter.all false
set_option maxRecDepth 100000
set_option maxHeartbeats 4000000
/-! DWT: a law's end over OkG where one lambda is made: its maker's table of code objects is written. -/
namespace DC
open PySem PySem.Spec PyProof.Rows L2 Evl LamX
/-- the main module as the top's name for the built-ins tells it -/
def BmAt (mg : Str → Option Value) (h : Heap) : Prop :=
  ∃ (bm : Addr) (ob : Obj), mg "__builtins__" = some (.ref bm) ∧ bm ≠ builtinsNs ∧ h.get? bm = some ob ∧ ob.cls = .type "module" ∧ ob.dict = some builtinsNs ∧ ob.data = .plain
/-- a maker's code object at c, its table at T, empty still -/
structure TabHd (K : PySem.W.Frag) (h : Heap) (c T : Addr) : Prop where
  emp : h.get? T = some { cls := .none, data := .fields #[] }
  out : K.lookup T = none
  hd : PySem.W.CodeHd h c T
/-- the heap that is looked at: the table, and what is told of the script -/
def HT0 (T a : Addr) (u : Option HO) : Hp := fun b => if b = T then some (.tbl #[]) else if b = a then u else none
theorem HT0.t {T a : Addr} {u : Option HO} : HT0 T a u T = some (.tbl #[]) := if_pos rfl
theorem HT0.a {T a : Addr} {u : Option HO} (h : a ≠ T) : HT0 T a u a = u := by
  unfold HT0
  rw [if_neg h, if_pos rfl]
theorem HT0.n {T a b : Addr} {u : Option HO} (h : b ≠ T) (h2 : b ≠ a) : HT0 T a u b = none := by
  unfold HT0
  rw [if_neg h, if_neg h2]
theorem endT {P : Program} {w : World} {K : PySem.W.Frag} {mg mb : Str → Option Value} {cx : CXT} {k : Nat} {fa a c T : Addr} {fd : FuncData} {x : Str} {sp : Sp}
    {s₁ : Shared} {vs : List Value} {ns : List Int} (KX : K.In s₁.heap) (hns : s₁.heap.Ns mainGlobals mg) (hb : s₁.heap.Ns builtinsNs mb)
    (hbb : ∀ x : Str, x ≠ "__name__" → mb x = bootBuiltins x) (hlim : s₁.heap.NoLimit) (hg : s₁.gens = #[]) (th : TabHd K s₁.heap c T) (hbm : BmAt mg s₁.heap)
    (ha : s₁.heap.get? a = some { cls := .type "list", data := .seq vs.toArray }) (hi : IntsAre vs ns) (hl : ns.length ≤ sizeLine) (hr : Room k callerA)
    (F : ∀ base : Heap, K.In base → base.Ns mainGlobals mg → TabB base mg c T → OkG P w K mg base cx k fa fd [x] sp)
    (hbind : ∀ (s : Shared) (u : Value), BindsTo s fd ⟨[u], []⟩ [(x, u)])
    (hsp : ∀ H : Hp, H T = some (.tbl #[]) → SqL K H a (ns.map V.int) → sp [.ref a] H (fun v _ => v = .bl true) fun _ _ _ => False)
    (hcx : ∀ H e s', cx [] H s₁ (fun _ _ _ => False) e s' → False) :
    codeAny (model P w) callerA (.call (.ref fa) ⟨[.ref a], []⟩)
      (fun r s' => r = .ok (.ret (.bool true)) ∧ OldK s₁.heap s'.heap ∧ s'.os = s₁.os ∧ AllBare s'.gens) s₁ := by
  have vals := vals_ints hi
  have vlen := hi.length
  have naT : a ≠ T := by
    rintro rfl
    have e := ha.symm.trans th.emp
    cases (show Data.seq vs.toArray _ = Data.fields #[] from congrArg Obj.data (Option.some.inj e))
  obtain ⟨u, hu, hS, hK⟩ : ∃ u : Option HO, (u = none ∨ u = some (.frz { cls := .type "list", data := .seq vs.toArray } (.lst (ns.map V.int)))) ∧ SqL K (HT0 T a u) a (ns.map V.int) ∧ (u ≠ none → K.lookup a = none) := by
    cases hk : K.lookup a with
    | some o =>
      have e := KX a o hk
      rw [ha] at e
      cases e
      exact ⟨none, .inl rfl, .inr ⟨_, vs.toArray, _, hk, rfl, rfl, rfl, by rw [List.size_toArray, vlen]; exact hl, by simpa using vals⟩, fun z => absurd rfl z⟩
    | none => exact ⟨_, .inr rfl, .inl (.inr ⟨_, HT0.a naT⟩), fun _ => rfl⟩
  have hok : HOk P w (HT0 T a u) s₁.heap := by
    intro b o z
    by_cases bT : b = T
    · subst bT
      cases HT0.t.symm.trans z
      exact th.emp
    · by_cases ba : b = a
      · subst ba
        rw [HT0.a naT] at z
        rcases hu with rfl | rfl
        · cases z
        · cases z
          exact ⟨ha, by rw [List.length_map]; exact hl, vs, _, vals, ha⟩
      · cases (HT0.n bT ba).symm.trans z
  -- what is neither a list nor an empty thing of fields is not looked at
  have off : ∀ {b : Addr} {o : Obj}, s₁.heap.get? b = some o → (∀ z m, o.data = .seq z m → False) → (o.data = .fields #[] → False) → HT0 T a u b = none := by
    intro b o e n1 n2
    refine HT0.n ?_ ?_
    · rintro rfl
      obtain rfl := Option.some.inj (th.emp.symm.trans e)
      exact n2 rfl
    · rintro rfl
      obtain rfl := Option.some.inj (ha.symm.trans e)
      exact n1 _ _ rfl
  have keepN : ∀ {b : Addr} {o : Obj}, s₁.heap.get? b = some o → HT0 T a u b = none → (hidT s₁.heap (HT0 T a u)).get? b = some o := fun e n => hidT_get e n
  have nsK : ∀ {b : Addr} {m : Str → Option Value}, s₁.heap.Ns b m → (hidT s₁.heap (HT0 T a u)).Ns b m := by
    rintro b m ⟨o, es, ep, e, d, r⟩
    exact ⟨o, es, ep, keepN e (off e (fun _ _ z => by rw [d] at z; cases z) fun z => by rw [d] at z; cases z), d, r⟩
  have hKb : K.In (hidT s₁.heap (HT0 T a u)) := by
    intro b o e
    refine keepN (KX b o e) ?_
    by_cases bT : b = T
    · subst bT
      rw [th.out] at e
      cases e
    · by_cases ba : b = a
      · subst ba
        rw [HT0.a naT]
        rcases hu with rfl | rfl
        · rfl
        · rw [hK (fun z => nomatch z)] at e
          cases e
      · exact HT0.n bT ba
  have nGT : mainGlobals ≠ T := by
    intro z
    obtain ⟨o, es, ep, e, d, _⟩ := hns
    rw [z] at e
    obtain rfl := Option.some.inj (th.emp.symm.trans e)
    cases d
  have tb : TabB (hidT s₁.heap (HT0 T a u)) mg c T := by
    refine ⟨?_, ?_, nGT⟩
    · obtain ⟨o, us, file, tf, flags, tg, inF, text, tt, e1, r1, r2, r3, rest⟩ := th.hd
      refine ⟨o, us, file, tf, flags, tg, inF, text, tt, keepN e1 (off e1 (fun _ _ z => ?_) fun z => ?_), r1, r2, r3, rest⟩
      · rw [r2] at z; cases z
      · rw [r2] at z
        cases z
        simp at r3
    · obtain ⟨bm, ob, b1, b2, b3, b4, b5, b6⟩ := hbm
      have kp := keepN b3 (off b3 (fun _ _ z => by rw [b6] at z; cases z) fun z => by rw [b6] at z; cases z)
      refine ⟨bm, ob, b1, b2, ?_, ?_, kp, b4, b5, b6⟩
      · rintro rfl
        obtain ⟨o, es, ep, e, d, _⟩ := hns
        obtain rfl := Option.some.inj (b3.symm.trans e)
        rw [b6] at d
        cases d
      · rintro rfl
        obtain rfl := Option.some.inj (th.emp.symm.trans b3)
        cases b6
  obtain ⟨mc, l1, l2⟩ := hlim
  have hM : Mod K mg (hidT s₁.heap (HT0 T a u)) := ⟨hKb, nsK hns, ⟨mb, nsK hb, hbb⟩, ⟨mc, nsK l1, l2⟩⟩
  have nil : ∀ b : Addr, b ∉ ([] : List Addr) := fun b z => nomatch z
  have e0 : Env0 P w K mg (hidT s₁.heap (HT0 T a u)) callerA [] s₁ (HT0 T a u) :=
    ⟨rfl, hM, fun b o e => of_hidT e, Nat.le_of_eq (hidT_size _ _), trivial, fun b hb => absurd (show b ∈ ([] : List Addr) from hb) (nil b), hok, .of_eq hg⟩
  have run := (F _ hKb (nsK hns) tb).go callerA [] s₁ (HT0 T a u) ⟨[.ref a], []⟩ [.ref a] [.ref a] _ _ rfl hr e0 (hbind s₁ (.ref a)) (.cons rfl .nil) (hsp _ HT0.t hS)
  refine codeAny_mono run ?_
  intro r s' h
  match r, h with
  | .error e, h => exact (hcx _ e s' h).elim
  | .ok (.ret z), ⟨v, H', os, bare, un, hok', r', q⟩ =>
    obtain rfl : v = .bl true := q
    obtain rfl : z = Value.bool true := r'
    -- the table may have grown, all else stands
    have rest : ∀ b o, b ≠ T → s₁.heap.get? b = some o → s'.heap.get? b = some o := by
      intro b o bT e
      by_cases ba : b = a
      · subst ba
        rcases hu with rfl | rfl
        · exact un.keep b o e (HT0.a naT) (fun z => absurd (show b ∈ ([] : List Addr) from z) (nil b)) (nil b)
        · obtain ⟨e2, _⟩ := hok' b _ (un.frzs b _ _ (HT0.a naT))
          rw [ha] at e
          obtain rfl := Option.some.inj e
          exact e2
      · exact un.keep b o e (HT0.n bT ba) (fun z => absurd (show b ∈ ([] : List Addr) from z) (nil b)) (nil b)
    obtain ⟨more, hmore⟩ := un.tbls T #[] HT0.t
    have grown := hok' T _ hmore
    refine ⟨rfl, ⟨fun b o e => ?_, fun b o e => ?_⟩, os, bare⟩
    · by_cases bT : b = T
      · subst bT
        obtain rfl := Option.some.inj (th.emp.symm.trans e)
        refine .inr (.inl ⟨(th.hd.tab th.emp).isCodeTable, rfl, #[], more, rfl, ?_⟩)
        rw [Array.empty_append]
        have g := grown
        rw [Array.empty_append] at g
        exact g
      · exact .inl (rest b o bT e)
    · by_cases bT : b = T
      · subst bT
        exact ⟨_, grown⟩
      · exact ⟨o, rest b o bT e⟩

theorem walkT {l : PySem.W.OpenLaw} {n k : Nat} {q : Program} {loose : List Str} {XP : (Str → Option Value) → Heap → Prop} {YP : World → Heap → Prop}
    {d : DefRec} {K : Params → PySem.W.Frag} {cx : World → CXT} {sp : World → Addr → Sp} {x : Str}
    (hn : l.most = some n) (hn2 : n ≤ sizeLine) (hdf : d.params.defaults = []) (hr : Room k callerA)
    (hY : ∀ (w : World) (h : Heap), YP w h → (K w.params).In h)
    (F : ∀ (w : World) (mg : Str → Option Value) (fa : Addr) (h : Heap), YP w h → (K w.params).In h → h.Ns mainGlobals mg → mg d.name = some (.ref fa) →
      ∃ (fd : FuncData) (c T : Addr), TabHd (K w.params) h c T ∧ (∀ (s : Shared) (u : Value), BindsTo s fd ⟨[u], []⟩ [(x, u)]) ∧
        ∀ base : Heap, (K w.params).In base → base.Ns mainGlobals mg → TabB base mg c T → OkG l.prog w (K w.params) mg base (cx w) k fa fd [x] (sp w T))
    (hsp : ∀ (w : World) (T : Addr) (H : Hp) (a : Addr) (ns : List Int), ns.length ≤ n → H T = some (.tbl #[]) → SqL (K w.params) H a (ns.map V.int) → sp w T [.ref a] H (fun v _ => v = .bl true) fun _ _ _ => False)
    (hcx : ∀ (w : World) (H : Hp) (s : Shared) (e : Value) (s' : Shared), cx w [] H s (fun _ _ _ => False) e s' → False) :
    PySem.W.WalkO q loose XP YP l.row.toRowW d [] (fun f vs => PySem.call f vs) := by
  refine Att.attach_callB hn hdf ?_
  intro w s₀ s₁ mg mb fa o pm cd doc a vs ns G Y ho hd hcd hmg hobj hints hlen hbits hg
  have KX := hY w _ Y
  obtain ⟨fd, c, T, th, hb, hF⟩ := F w mg fa _ Y KX G.T.g hmg
  exact endT KX G.T.g G.T.b G.T.builtins G.T.nolimit hg th G.T.bmain hobj hints (Nat.le_trans hlen hn2) hr hF hb (fun H hH hS => hsp w T H a ns hlen hH hS) (fun H e s' => hcx w H s₁ e s')
end DC
-- K42r
set_option Elab.async false
set_option linter.all false
set_option maxRecDepth 100000
set_option maxHeartbeats 4000000
namespace K42
open PySem L2 DC LamX
theorem dp_pr {K : PySem.W.Frag} {H : Hp} {v : V} {p : J2} (h : Dp K H v (.tuple [.int (p.1 : Nat), .int (p.2 : Nat)])) : Pr K H v p := by
  obtain ⟨t, x, y, rfl, hS, h1, h2⟩ := dp_tup2 h
  cases h1
  cases h2
  exact ⟨t, rfl, hS⟩
theorem dp_prs {K : PySem.W.Frag} {H : Hp} : ∀ {vs : List V} {js : List J2}, DpAll K H vs (js.map fun p => .tuple [.int (p.1 : Nat), .int (p.2 : Nat)]) → Paired (Pr K H) vs js
  | _, [], h => by
    cases h
    exact .nil
  | _, p :: js, h => by
    rw [List.map_cons] at h
    cases h with
    | cons a t => exact .cons (dp_pr a) (dp_prs t)
theorem dp_ly {K : PySem.W.Frag} {H : Hp} {v : V} {n : Nat} {js : List J2} (h : Dp K H v (layD n js)) : Ly K H v n js := by
  obtain ⟨t, x, y, rfl, hS, h1, h2⟩ := dp_tup2 h
  cases h1
  cases h2 with
  | tup hT ha => exact ⟨t, _, rfl, hS, _, _, rfl, hT, dp_prs ha⟩
theorem dsL {n : Nat} {zn : Int} (hn : zn = (n : Nat)) {t : TA} {js : List J2} (h : DspA t (js.map fun p => .tuple [.int (p.1 : Nat), .int (p.2 : Nat)])) (hl : js.length ≤ 1000) : Dsp (tTup (tCons (tI zn) (tCons (tTup t) tNil))) (layD n js) := by
  subst hn
  exact .tup (.cons (.int _) (.cons (.tup h (by rw [List.length_map]; exact hl)) .nil)) (by show 2 ≤ 1000; decide)
theorem lyM {K : PySem.W.Frag} {H H' : Hp} {m lm : Addr} (s : SameX m H H') (hm : MAt H m lm) {v : V} {n : Nat} {js : List J2} : Ly K H v n js → Ly K H' v n js
  | ⟨t, u, q, h, tj, ws, qj, hj, hp⟩ => ⟨t, u, q, sqT_m s hm h, tj, ws, qj, sqT_m s hm hj, L2.Paired.mapP hp fun _ _ ⟨t, q, h⟩ => ⟨t, q, sqT_m s hm h⟩⟩
theorem tabsM {H H' : Hp} {m lm : Addr} {T : List (Addr × Str)} (s : SameX m H H') (hm : MAt H m lm) (t : Tabs T H) : Tabs T H' := by
  obtain ⟨cs, b, x, hd, _⟩ := hm
  have ne : ∀ {a : Addr} {u : HO}, H a = some u → (∀ kvs, u ≠ .dK kvs) → a ≠ m := by
    rintro a u e hu rfl
    rw [hd] at e
    exact hu _ (Option.some.inj e).symm
  intro p hp
  obtain ⟨ps, h1, h2, h3⟩ := t p hp
  refine ⟨ps, s _ _ (ne h1 (fun _ z => nomatch z)) h1, h2, fun pos cv hc => ?_⟩
  obtain ⟨c, e1, e2⟩ := h3 pos cv hc
  exact ⟨c, e1, s _ _ (ne e2 (fun _ z => nomatch z)) e2⟩
theorem matX {H H' : Hp} {m l : Addr} (e : ExtN H H') : MAt H m l → MAt H' m l
  | ⟨cs, a, x, h1, h2, r⟩ => ⟨cs, a, x, dkX e h1, lstX e h2, r⟩
section
variable {n : Nat} {js ls : List J2} {a k : Nat} {row : List Nat} {kd : Str}
end
end K42
-- C13
set_option Elab.async false
set_option linter.all false
set_option maxRecDepth 100000
set_option maxHeartbeats 4000000
/-! C13: a heap grown along both pairings is all that hangs together. -/
namespace DC
open PySem L2
/-- the partner of an end, or itself -/
def ptn (f : Nat → Option Nat) (x : Nat) : Nat := (f x).getD x
def gr (hl : List Nat) (y : Nat) : List Nat := if y ∈ hl then hl else hl ++ [y]
theorem gr_pre (hl : List Nat) (y : Nat) : ∃ t, gr hl y = hl ++ t := by
  unfold gr
  split
  · exact ⟨[], (List.append_nil _).symm⟩
  · exact ⟨[y], rfl⟩
theorem gr_sub {hl : List Nat} {y x : Nat} (h : x ∈ hl) : x ∈ gr hl y := by
  obtain ⟨t, e⟩ := gr_pre hl y
  rw [e]
  exact List.mem_append_left _ h
theorem gr_at {hl : List Nat} {y i x : Nat} (h : hl[i]? = some x) : (gr hl y)[i]? = some x := by
  obtain ⟨t, e⟩ := gr_pre hl y
  rw [e, List.getElem?_append_left (List.getElem?_eq_some_iff.mp h).1]
  exact h
theorem gr_mem (hl : List Nat) (y : Nat) : y ∈ gr hl y := by
  unfold gr
  split
  · assumption
  · exact List.mem_append_right _ List.mem_cons_self
theorem gr_cases {hl : List Nat} {y x : Nat} (h : x ∈ gr hl y) : x ∈ hl ∨ x = y := by
  unfold gr at h
  split at h
  · exact .inl h
  · rcases List.mem_append.mp h with h | h
    · exact .inl h
    · exact .inr (List.mem_singleton.mp h)
theorem gr_nd {hl : List Nat} {y : Nat} (h : hl.Nodup) : (gr hl y).Nodup := by
  unfold gr
  split
  · exact h
  · rename_i c
    rw [List.nodup_append]
    exact ⟨h, List.nodup_cons.mpr ⟨List.not_mem_nil, .nil⟩, fun a ha b hb e => by
      obtain rfl := List.mem_singleton.mp hb
      subst e
      exact c ha⟩
theorem gr_len (hl : List Nat) (y : Nat) : hl.length ≤ (gr hl y).length := by
  obtain ⟨t, e⟩ := gr_pre hl y
  rw [e, List.length_append]
  omega
section
variable {f g : Nat → Option Nat} {N a : Nat}
theorem ptn_cl {h : Nat → Option Nat} (hh : h = f ∨ h = g) {x : Nat} (c : Cl f g a x) : Cl f g a (ptn h x) := by
  unfold ptn
  cases e : h x with
  | none => exact c
  | some y =>
    refine c.step ?_
    rcases hh with rfl | rfl
    · exact .inl e
    · exact .inr e
structure Hh (f g : Nat → Option Nat) (a : Nat) (hl : List Nat) (at_ j : Nat) : Prop where
  nd : hl.Nodup
  cl : ∀ x ∈ hl, Cl f g a x
  mem : a ∈ hl
  le : at_ ≤ hl.length
  clo : ∀ i x, i < at_ → hl[i]? = some x → ptn f x ∈ hl ∧ ptn g x ∈ hl
  cnt : at_ = j ∨ (at_ = hl.length ∧ at_ ≤ j)
theorem Hh.zero : Hh f g a [a] 0 0 := ⟨List.nodup_cons.mpr ⟨List.not_mem_nil, .nil⟩, fun x hx => by obtain rfl := List.mem_singleton.mp hx; exact .base, List.mem_cons_self, Nat.zero_le _, fun i x h => absurd h (Nat.not_lt_zero _), .inl rfl⟩
theorem Hh.stay {hl : List Nat} {at_ j : Nat} (h : Hh f g a hl at_ j) (c : ¬ at_ < hl.length) : Hh f g a hl at_ (j + 1) := by
  have e := Nat.le_antisymm h.le (Nat.le_of_not_lt c)
  exact ⟨h.nd, h.cl, h.mem, h.le, h.clo, .inr ⟨e, by rcases h.cnt with z | z <;> omega⟩⟩
theorem Hh.next {hl : List Nat} {at_ j x : Nat} (h : Hh f g a hl at_ j) (hx : hl[at_]? = some x) : Hh f g a (gr (gr hl (ptn f x)) (ptn g x)) (at_ + 1) (j + 1) := by
  have lt := (List.getElem?_eq_some_iff.mp hx).1
  have cx := h.cl x (List.mem_of_getElem? hx)
  refine ⟨gr_nd (gr_nd h.nd), fun y hy => ?_, gr_sub (gr_sub h.mem), ?_, fun i y hi hy => ?_, ?_⟩
  · rcases gr_cases hy with hy | rfl
    · rcases gr_cases hy with hy | rfl
      · exact h.cl y hy
      · exact ptn_cl (.inl rfl) cx
    · exact ptn_cl (.inr rfl) cx
  · have := gr_len hl (ptn f x)
    have := gr_len (gr hl (ptn f x)) (ptn g x)
    omega
  · by_cases c : i = at_
    · subst c
      obtain rfl : x = y := Option.some.inj ((gr_at (gr_at hx)).symm.trans hy)
      exact ⟨gr_sub (gr_mem _ _), gr_mem _ _⟩
    · obtain ⟨z, hz⟩ : ∃ z, hl[i]? = some z := ⟨_, List.getElem?_eq_getElem (by omega)⟩
      obtain rfl : z = y := Option.some.inj ((gr_at (gr_at hz)).symm.trans hy)
      obtain ⟨a1, a2⟩ := h.clo i z (by omega) hz
      exact ⟨gr_sub (gr_sub a1), gr_sub (gr_sub a2)⟩
  · rcases h.cnt with z | z
    · exact .inl (by omega)
    · omega
theorem Hh.lt {hl : List Nat} {at_ j : Nat} (h : Hh f g a hl at_ j) (F : Mt N f) (G : Mt N g) (ha : a < N) : ∀ x ∈ hl, x < N := fun x hx => cl_lt F G ha (h.cl x hx)
theorem Hh.len {hl : List Nat} {at_ j : Nat} (h : Hh f g a hl at_ j) (F : Mt N f) (G : Mt N g) (ha : a < N) : hl.length ≤ N := by
  have q := nodup_le (m := List.range N) h.nd fun x hx => List.mem_range.mpr (h.lt F G ha x hx)
  rw [List.length_range] at q
  exact q
theorem Hh.fin {hl : List Nat} {at_ : Nat} (h : Hh f g a hl at_ N) (F : Mt N f) (G : Mt N g) (ha : a < N) : Cls N f g a hl := by
  have len := h.len F G ha
  have full : at_ = hl.length := by
    rcases h.cnt with z | z
    · have := h.le
      omega
    · exact z.1
  refine ⟨fun x => ⟨h.cl x, fun c => ?_⟩, h.nd, h.lt F G ha⟩
  refine cl_closed (S := fun x => x ∈ hl) h.mem (fun x y hx n => ?_) c
  obtain ⟨i, hi, e⟩ := List.mem_iff_getElem.mp hx
  have hx' : hl[i]? = some x := by rw [List.getElem?_eq_getElem hi, e]
  obtain ⟨a1, a2⟩ := h.clo i x (by omega) hx'
  rcases n with n | n
  · unfold ptn at a1
    rw [n] at a1
    exact a1
  · unfold ptn at a2
    rw [n] at a2
    exact a2
end
section
variable {n : Nat} {js ls : List J2}
theorem cls_wpc (g1 : Good n js) (g2 : Good n ls) {a : Nat} (ha : a < 2 * n) {hl : List Nat} (c : Cls (2 * n) (mt js) (mt ls) a hl) : ∃ p, Wpc n js ls p ∧ hl.Perm p.2 := by
  obtain ⟨p, hp, hm⟩ := wpc_ex g1 g2 ha
  refine ⟨p, hp, ?_⟩
  obtain ⟨b, hb, cb, _⟩ := id hp
  have e := (cb.mem a).mp hm
  refine (List.perm_ext_iff_of_nodup c.nd (wpc_nd hp)).mpr fun x => ?_
  rw [cb.mem x, c.mem x]
  exact ⟨fun z => cl_trans e z, fun z => cl_trans (cl_symm g1.mt g2.mt e) z⟩
theorem Hps.of_perm {hs hs' : List (List Nat)} (A : Hps n js ls hs) (p : hs'.Perm hs) : Hps n js ls hs' :=
  ⟨fun h hh => A.mem h (p.mem_iff.mp hh), (p.pairwise_iff (fun {x y} d e h1 h2 => d e h2 h1)).mpr A.dis, fun e he => by
    obtain ⟨h, hh, hm⟩ := A.cov e he
    exact ⟨h, p.mem_iff.mpr hh, hm⟩⟩
theorem perm_map_ex {α β : Type} {g : α → β} {l m : List β} (h : l.Perm m) : ∀ ps0 : List α, m = ps0.map g → ∃ ps : List α, l = ps.map g ∧ ps.Perm ps0 := by
  induction h with
  | nil =>
    intro ps0 e
    exact ⟨[], rfl, by rw [List.map_eq_nil_iff.mp e.symm]⟩
  | cons x h ih =>
    intro ps0 e
    cases ps0 with
    | nil => cases e
    | cons p ps0 =>
      rw [List.map_cons, List.cons.injEq] at e
      obtain ⟨ps, e1, e2⟩ := ih ps0 e.2
      exact ⟨p :: ps, by rw [List.map_cons, e.1, e1], e2.cons _⟩
  | swap x y l =>
    intro ps0 e
    match ps0, e with
    | p :: q :: r, e =>
      rw [List.map_cons, List.map_cons, List.cons.injEq, List.cons.injEq] at e
      exact ⟨q :: p :: r, by rw [List.map_cons, List.map_cons, e.1, e.2.1, e.2.2], .swap ..⟩
  | trans h1 h2 ih1 ih2 =>
    intro ps0 e
    obtain ⟨ps1, e1, q1⟩ := ih2 ps0 e
    obtain ⟨ps2, e2, q2⟩ := ih1 ps1 e1
    exact ⟨ps2, e2, q2.trans q1⟩
theorem IsWeb.of_perm {ps qs : List (Str × List Nat)} (A : IsWeb n js ls ps) (p : qs.Perm ps) : IsWeb n js ls qs := ⟨fun x => p.mem_iff.trans (A.mem x), p.nodup_iff.mpr A.nd⟩
theorem Hps.web {hs : List (List Nat)} (A : Hps n js ls hs) (g1 : Good n js) (g2 : Good n ls) : ∃ ps : List (Str × List Nat), IsWeb n js ls ps ∧ hs = ps.map fun p => asc p.2 := by
  obtain ⟨ps0, W⟩ := web_ex g1 g2
  obtain ⟨ps, e, p⟩ := perm_map_ex (A.perm W g1 g2) ps0 rfl
  exact ⟨ps, W.of_perm p, e⟩
theorem IsWeb.len {ps : List (Str × List Nat)} (A : IsWeb n js ls ps) (g1 : Good n js) (g2 : Good n ls) : ps.length ≤ 2 * n := by
  have gen : ∀ ps : List (Str × List Nat), (∀ p ∈ ps, Wpc n js ls p) → ps.Nodup → ∃ l : List Nat, l.Nodup ∧ l.length = ps.length ∧ (∀ x ∈ l, x < 2 * n) ∧ ∀ x ∈ l, ∃ p ∈ ps, x ∈ p.2 := by
    intro ps
    induction ps with
    | nil => intro _ _; exact ⟨[], .nil, rfl, fun x hx => absurd hx (List.not_mem_nil), fun x hx => absurd hx (List.not_mem_nil)⟩
    | cons p ps ih =>
      intro h d
      have d' := List.nodup_cons.mp d
      obtain ⟨l, nd, len, lt, mem⟩ := ih (fun q hq => h q (List.mem_cons_of_mem _ hq)) d'.2
      obtain ⟨a, ha, hm⟩ := wpc_beg (h p List.mem_cons_self)
      refine ⟨a :: l, List.nodup_cons.mpr ⟨fun ml => ?_, nd⟩, by rw [List.length_cons, List.length_cons, len], fun x hx => ?_, fun x hx => ?_⟩
      · obtain ⟨q, hq, haq⟩ := mem a ml
        rw [wpc_uniq g1 g2 (h p List.mem_cons_self) (h q (List.mem_cons_of_mem _ hq)) hm haq] at d'
        exact d'.1 hq
      · rcases List.mem_cons.mp hx with rfl | hx
        · exact ha
        · exact lt x hx
      · rcases List.mem_cons.mp hx with rfl | hx
        · exact ⟨p, List.mem_cons_self, hm⟩
        · obtain ⟨q, hq, hxq⟩ := mem x hx
          exact ⟨q, List.mem_cons_of_mem _ hq, hxq⟩
  obtain ⟨l, nd, len, lt, _⟩ := gen ps (fun p hp => (A.mem p).mp hp) A.nd
  have q := nodup_le (m := List.range (2 * n)) nd fun x hx => List.mem_range.mpr (lt x hx)
  rw [len, List.length_range] at q
  exact q
/-- the heaps found so far, and the ends left -/
structure Ho (n : Nat) (js ls : List J2) (hs : List (List Nat)) (es : List Nat) (i : Nat) : Prop where
  mem : ∀ h ∈ hs, ∃ p, Wpc n js ls p ∧ h = asc p.2
  dis : hs.Pairwise fun h h' => ∀ e, e ∈ h → e ∉ h'
  lt : ∀ e ∈ es, e < 2 * n
  out : ∀ e ∈ es, ∀ h ∈ hs, e ∉ h
  cov : ∀ e, e < 2 * n → e ∈ es ∨ ∃ h ∈ hs, e ∈ h
  len : es.length ≤ 2 * n - i
  cnt : hs.length ≤ i
theorem Ho.zero : Ho n js ls [] (List.range (2 * n)) 0 :=
  ⟨fun h hh => absurd hh List.not_mem_nil, .nil, fun e he => List.mem_range.mp he, fun e he h hh => absurd hh List.not_mem_nil, fun e he => .inl (List.mem_range.mpr he), by rw [List.length_range]; omega, Nat.le_refl _⟩
theorem Ho.stay {hs : List (List Nat)} {i : Nat} (h : Ho n js ls hs [] i) : Ho n js ls hs [] (i + 1) := ⟨h.mem, h.dis, h.lt, h.out, h.cov, Nat.zero_le _, Nat.le_succ_of_le h.cnt⟩
theorem Ho.next {hs : List (List Nat)} {a : Nat} {er hl : List Nat} {i : Nat} (h : Ho n js ls hs (a :: er) i) (g1 : Good n js) (g2 : Good n ls) (c : Cls (2 * n) (mt js) (mt ls) a hl) :
    Ho n js ls (hs ++ [asc hl]) ((a :: er).filter fun e => !decide (e ∈ hl)) (i + 1) := by
  have ha := h.lt a List.mem_cons_self
  obtain ⟨p, hp, pp⟩ := cls_wpc g1 g2 ha c
  have ea : asc hl = asc p.2 := asc_same pp
  refine ⟨fun x hx => ?_, ?_, fun e he => h.lt e (List.mem_filter.mp he).1, fun e he x hx => ?_, fun e he => ?_, ?_, ?_⟩
  · rcases List.mem_append.mp hx with hx | hx
    · exact h.mem x hx
    · exact ⟨p, hp, (List.mem_singleton.mp hx).trans ea⟩
  · refine List.pairwise_append.mpr ⟨h.dis, List.pairwise_singleton _ _, fun x hx y hy e he he' => ?_⟩
    obtain rfl := List.mem_singleton.mp hy
    obtain ⟨q, hq, rfl⟩ := h.mem x hx
    rw [ea] at he'
    have e1 := (asc_perm q.2).mem_iff.mp he
    have e2 := (asc_perm p.2).mem_iff.mp he'
    obtain rfl := wpc_uniq g1 g2 hq hp e1 e2
    exact h.out a List.mem_cons_self _ hx ((asc_perm q.2).mem_iff.mpr (pp.mem_iff.mp c.beg))
  · obtain ⟨he, hn⟩ := List.mem_filter.mp he
    rcases List.mem_append.mp hx with hx | hx
    · exact h.out e he x hx
    · obtain rfl := List.mem_singleton.mp hx
      intro z
      have := (asc_perm hl).mem_iff.mp z
      rw [decide_eq_true this] at hn
      cases hn
  · rcases h.cov e he with z | ⟨x, hx, hm⟩
    · by_cases c : e ∈ hl
      · exact .inr ⟨asc hl, List.mem_append_right _ List.mem_cons_self, (asc_perm hl).mem_iff.mpr c⟩
      · exact .inl (List.mem_filter.mpr ⟨z, by rw [decide_eq_false c]; rfl⟩)
    · exact .inr ⟨x, List.mem_append_left _ hx, hm⟩
  · have e1 : ((a :: er).filter fun e => !decide (e ∈ hl)) = er.filter fun e => !decide (e ∈ hl) := List.filter_cons_of_neg (by rw [decide_eq_true c.beg]; decide)
    rw [e1]
    have := List.length_filter_le (fun e => !decide (e ∈ hl)) er
    have := h.len
    rw [List.length_cons] at this
    omega
  · rw [List.length_append]
    exact Nat.succ_le_succ h.cnt
theorem Ho.fin {hs : List (List Nat)} {es : List Nat} (h : Ho n js ls hs es (2 * n)) : Hps n js ls hs := by
  refine ⟨h.mem, h.dis, fun e he => ?_⟩
  have : es = [] := List.length_eq_zero_iff.mp (by have := h.len; omega)
  subst this
  rcases h.cov e he with z | z
  · exact absurd z List.not_mem_nil
  · exact z
end
end DC
-- K42ta
set_option Elab.async false
set_option linter.all false
set_option maxRecDepth 100000
set_option maxHeartbeats 4000000
namespace K42
open PySem L2 DC
abbrev Lot := List (Str × Nat)
def szs (ps : List (Str × List Nat)) : Lot := ps.map fun p => (p.1, p.2.length)
def PcOk (p : Str × Nat) : Prop := (p.1 = "odd" ∧ p.2 % 2 = 1) ∨ ((p.1 = "ring" ∨ p.1 = "open" ∨ p.1 = "shut") ∧ 2 ≤ p.2 ∧ p.2 % 2 = 0)
def szSum (l : Lot) : Nat := (l.map fun p => p.2).sum
theorem pc_pos {p : Str × Nat} (h : PcOk p) : 1 ≤ p.2 := by
  rcases h with ⟨_, h⟩ | ⟨_, h, _⟩ <;> omega
section
variable {P : Program} {w : World} {K : PySem.W.Frag} {mg : Str → Option Value} {base : Heap}
end
end K42

set_option Elab.async false
set_option linter.all false
set_option maxRecDepth 100000
set_option maxHeartbeats 4000000
namespace K42
open PySem L2 DC
def pcost (k : Str) (s : Nat) : Int := if k = "ring" then ((s / 2 : Nat) : Int) - 1 else ((s / 2 : Nat) : Int)
section
variable {P : Program} {w : World} {K : PySem.W.Frag} {mg : Str → Option Value} {base : Heap}
def spPco : Sp := fun vs H Q _ => ∃ (k : Str) (s : Nat), vs = [.str k, .int (s : Nat)] ∧ Q (.int (pcost k s)) H
theorem sc23' : FnScope ["kind", "size"] ["kind", "size"] (defScope (top 32)) := ⟨rfl, rfl, rfl, by decide +kernel, rfl, by decide +kernel, by decide +kernel⟩
theorem okPco {f : Addr} {fd : FuncData} (F : Fun K "piece_cost" "piece_cost" (top 32) f fd) : OkF P w K mg base 1 f fd ["kind", "size"] spPco := by
  refine ok0 F sc23' (fun vs H Q E h => ?_) (fun cdv A outer s H vs Q E hgd hr h => ?_)
  · obtain ⟨k, s, rfl, _⟩ := h; rfl
  · obtain ⟨k, s, rfl, q⟩ := h
    refine ⟨_, pss_one (ps_ret (pe_ifExp (pt_cmpR op_eq (pv 0) pe_str (nomark _)) (pe_op op_sub (pe_op op_fdiv (pv 1) pe_int) pe_int) (pe_op op_fdiv (pv 1) pe_int))), ?_⟩
    refine ⟨_, rfl, rfl, _, rfl, ?_⟩
    unfold pcost at q
    by_cases c : k = "ring"
    · rw [if_pos c] at q
      rw [decide_eq_true (show V.str k = V.str "ring" by rw [c])]
      exact iteT ⟨_, rfl, (s : Nat), 2, rfl, rfl, ⟨by decide, by decide⟩, _, 1, rfl, rfl, q⟩
    · rw [if_neg c] at q
      rw [decide_eq_false (show ¬ V.str k = V.str "ring" from fun z => c (V.str.inj z))]
      exact iteF ⟨_, rfl, (s : Nat), 2, rfl, rfl, ⟨by decide, by decide⟩, q⟩
end
end K42

set_option Elab.async false
set_option linter.all false
set_option maxRecDepth 100000
set_option maxHeartbeats 4000000
namespace K42
open PySem L2 DC LamX
theorem szSum_cons (p : Str × Nat) (l : Lot) : szSum (p :: l) = p.2 + szSum l := by
  unfold szSum
  rw [List.map_cons, List.sum_cons]
section
variable {f g : Nat → Option Nat} {b s : Nat}
end
section
variable {n b s : Nat} {js ls A : List J2}
end
section
variable {n : Nat} {js ls : List J2}
end
end K42

set_option Elab.async false
set_option linter.all false
set_option maxRecDepth 100000
set_option maxHeartbeats 4000000
namespace K42
open PySem L2 DC LamX
theorem flat_nd : ∀ {ps : List (Str × List Nat)}, (∀ p ∈ ps, p.2.Nodup) → ps.Pairwise (fun p q => ∀ e, e ∈ p.2 → e ∉ q.2) → (ps.flatMap fun p => p.2).Nodup
  | [], _, _ => List.nodup_nil
  | p :: ps, h, d => by
    have d' := List.pairwise_cons.mp d
    rw [List.flatMap_cons]
    refine List.nodup_append.mpr ⟨h p List.mem_cons_self, flat_nd (fun q hq => h q (List.mem_cons_of_mem _ hq)) d'.2, fun a ha b hb e => ?_⟩
    subst e
    obtain ⟨q, hq, hm⟩ := List.mem_flatMap.mp hb
    exact d'.1 q hq a ha hm
theorem flat_len : ∀ ps : List (Str × List Nat), (ps.flatMap fun p => p.2).length = szSum (szs ps)
  | [] => rfl
  | p :: ps => by
    rw [List.flatMap_cons, List.length_append, flat_len ps]
    show _ = szSum ((p.1, p.2.length) :: szs ps)
    rw [szSum_cons]
section
variable {n : Nat} {js ls : List J2} {ps qs : List (Str × List Nat)}
theorem web_sum (W : IsWeb n js ls ps) (g1 : Good n js) (g2 : Good n ls) : szSum (szs ps) = 2 * n := by
  have dis : ps.Pairwise (fun p q => ∀ e, e ∈ p.2 → e ∉ q.2) := by
    refine List.Pairwise.imp_of_mem (fun {p q} hp hq hne e h1 h2 => ?_) W.nd
    exact hne (wpc_uniq g1 g2 ((W.mem p).mp hp) ((W.mem q).mp hq) h1 h2)
  have nd := flat_nd (fun p hp => wpc_nd ((W.mem p).mp hp)) dis
  have pm : (ps.flatMap fun p => p.2).Perm (List.range (2 * n)) := by
    refine (List.perm_ext_iff_of_nodup nd List.nodup_range).mpr fun e => ?_
    rw [List.mem_flatMap, List.mem_range]
    constructor
    · rintro ⟨p, hp, he⟩
      exact wpc_lt ((W.mem p).mp hp) e he
    · intro he
      exact W.cov g1 g2 e he
  rw [← flat_len, pm.length_eq, List.length_range]
theorem pc_wpc (g1 : Good n js) (g2 : Good n ls) {p : Str × List Nat} (h : Wpc n js ls p) : PcOk (p.1, p.2.length) := by
  obtain ⟨a, ha, c, ⟨hl, ⟨kd, hP, ek⟩, _⟩ | ⟨hn, ek, ⟨k, R, er⟩, _⟩⟩ := h
  · have hk : kd = "open" ∨ kd = "shut" := by
      obtain ⟨_, ⟨_, _, _, e⟩ | ⟨_, _, _, e⟩⟩ := hP
      · exact .inl e
      · exact .inr e
    have pos : 0 < p.2.length := List.length_pos_of_mem c.beg
    unfold oddK at ek
    by_cases o : p.2.length % 2 = 1
    · rw [if_pos o] at ek
      exact .inl ⟨ek, o⟩
    · rw [if_neg o] at ek
      refine .inr ⟨?_, by show 2 ≤ p.2.length; omega, by show p.2.length % 2 = 0; omega⟩
      show p.1 = "ring" ∨ p.1 = "open" ∨ p.1 = "shut"
      rw [ek]
      exact .inr hk
  · have pos := R.pos
    have hlen : p.2.length = k := by rw [er, rj_len]
    have ev : k % 2 = 0 := by
      rcases R.fin with z | z
      · exfalso
        obtain ⟨y, hy⟩ := R.all (k - 1) (by omega)
        have hm : y ∈ p.2 := by
          rw [er]
          exact (mem_rj R.toPj).mpr ⟨k - 1, by omega, hy⟩
        have e := jt_next hy
        rw [show k - 1 + 1 = k by omega, z] at e
        refine hn y hm ?_
        unfold hh at e
        split at e
        · exact .inl e.symm
        · exact .inr e.symm
      · by_cases o : k % 2 = 0
        · exact o
        · rw [show k = 0 + (2 * (k / 2) + 1) by omega] at z
          exact (jt_odd g1.mt g2.mt (k / 2) 0 a rfl z).elim
    refine .inr ⟨.inl ek, ?_, ?_⟩
    · show 2 ≤ p.2.length
      omega
    · show p.2.length % 2 = 0
      omega
end
end K42
-- C16
set_option Elab.async false
set_option linter.all false
set_option maxRecDepth 100000
set_option maxHeartbeats 4000000
/-! C16: what a web costs, reckoned. -/
namespace DC
open PySem L2
def hpx (f g : Nat → Option Nat) : Nat → List Nat → Nat → List Nat
  | 0, hl, _ => hl
  | k + 1, hl, at_ => match hl[at_]? with
    | some x => hpx f g k (gr (gr hl (ptn f x)) (ptn g x)) (at_ + 1)
    | none => hl
theorem hpx_ok {f g : Nat → Option Nat} {a : Nat} : ∀ (k : Nat) {hl : List Nat} {at_ j : Nat}, Hh f g a hl at_ j → ∃ at', Hh f g a (hpx f g k hl at_) at' (j + k)
  | 0, hl, at_, j, h => ⟨at_, h⟩
  | k + 1, hl, at_, j, h => by
    unfold hpx
    cases e : hl[at_]? with
    | some x =>
      obtain ⟨at', h'⟩ := hpx_ok k (h.next e)
      exact ⟨at', by rw [show j + (k + 1) = j + 1 + k by omega]; exact h'⟩
    | none =>
      have c : ¬ at_ < hl.length := fun z => by
        rw [List.getElem?_eq_getElem z] at e
        cases e
      have gen : ∀ i, Hh f g a hl at_ (j + i) := by
        intro i
        induction i with
        | zero => exact h
        | succ i ih => exact ih.stay c
      exact ⟨at_, gen (k + 1)⟩
def hpsx (n : Nat) (js ls : List J2) : Nat → List Nat → List (List Nat) → List (List Nat)
  | 0, _, acc => acc
  | _ + 1, [], acc => acc
  | k + 1, a :: er, acc => hpsx n js ls k ((a :: er).filter fun e => !decide (e ∈ hpx (mt js) (mt ls) (2 * n) [a] 0)) (acc ++ [hpx (mt js) (mt ls) (2 * n) [a] 0])
section
variable {n : Nat} {js ls : List J2}
theorem hpsx_ok (g1 : Good n js) (g2 : Good n ls) : ∀ (k : Nat) {es : List Nat} {acc : List (List Nat)} {i : Nat}, Ho n js ls (acc.map asc) es i → i + k = 2 * n → Hps n js ls ((hpsx n js ls k es acc).map asc)
  | 0, es, acc, i, h, e => by
    obtain rfl : i = 2 * n := by omega
    exact h.fin
  | k + 1, [], acc, i, h, e => by
    unfold hpsx
    have gen : ∀ d, Ho n js ls (acc.map asc) [] (i + d) := by
      intro d
      induction d with
      | zero => exact h
      | succ d ih => exact ih.stay
    have := gen (k + 1)
    rw [e] at this
    exact this.fin
  | k + 1, a :: er, acc, i, h, e => by
    unfold hpsx
    have ha := h.lt a List.mem_cons_self
    obtain ⟨at', hh⟩ := hpx_ok (f := mt js) (g := mt ls) (2 * n) (Hh.zero (f := mt js) (g := mt ls) (a := a))
    rw [Nat.zero_add] at hh
    have c := hh.fin g1.mt g2.mt ha
    have h' := h.next g1 g2 c
    refine hpsx_ok g1 g2 k (i := i + 1) ?_ (by omega)
    rw [List.map_append]
    exact h'
def hset (n : Nat) (js ls : List J2) : List (List Nat) := hpsx n js ls (2 * n) (List.range (2 * n)) []
theorem hset_ok (g1 : Good n js) (g2 : Good n ls) : Hps n js ls ((hset n js ls).map asc) := hpsx_ok g1 g2 (2 * n) Ho.zero (Nat.zero_add _)
def isRg (js ls : List J2) (h : List Nat) : Bool := cn js h == 0 && cn ls h == 0
def isOd (js : List J2) (h : List Nat) : Bool := cn js h == 1
def rgs (n : Nat) (js ls : List J2) : Nat := (hset n js ls).countP (isRg js ls)
def ods (n : Nat) (js ls : List J2) : Nat := (hset n js ls).countP (isOd js)
def cst (n : Nat) (js ls : List J2) : Nat := n - rgs n js ls - ods n js ls / 2
theorem cnt_asc (q : List Nat → Bool) (hq : ∀ {h h' : List Nat}, h.Perm h' → q h = q h') {ps : List (Str × List Nat)} (g1 : Good n js) (g2 : Good n ls) (W : IsWeb n js ls ps) : (hset n js ls).countP q = ps.countP fun p => q p.2 := by
  have pm := (hset_ok g1 g2).perm W g1 g2
  have e := pm.countP_eq q
  rw [List.countP_map, List.countP_map] at e
  have c1 : (hset n js ls).countP (q ∘ asc) = (hset n js ls).countP q := List.countP_congr fun x _ => by
    show q (asc x) = true ↔ q x = true
    rw [hq (asc_perm x)]
  have c2 : ps.countP (q ∘ fun p => asc p.2) = ps.countP fun p => q p.2 := List.countP_congr fun x _ => by
    show q (asc x.2) = true ↔ q x.2 = true
    rw [hq (asc_perm x.2)]
  rw [← c1, e, c2]
theorem rgs_web {ps : List (Str × List Nat)} (g1 : Good n js) (g2 : Good n ls) (W : IsWeb n js ls ps) : rgs n js ls = ps.countP fun p => p.1 == (("ring" : Str)) := by
  unfold rgs
  rw [cnt_asc (isRg js ls) (fun p => by unfold isRg; rw [cn_perm p, cn_perm p]) g1 g2 W]
  refine List.countP_congr fun p hp => ?_
  have h := wpc_cnt g1 g2 ((W.mem p).mp hp)
  unfold isRg
  rcases h with ⟨a, b, c⟩ | ⟨a, b, c⟩ | ⟨a, b, c⟩ | ⟨a, b, c⟩ <;> rw [a, b, c] <;> decide +kernel
theorem ods_web {ps : List (Str × List Nat)} (g1 : Good n js) (g2 : Good n ls) (W : IsWeb n js ls ps) : ods n js ls = ps.countP fun p => p.1 == (("odd" : Str)) := by
  unfold ods
  rw [cnt_asc (isOd js) (fun p => by unfold isOd; rw [cn_perm p]) g1 g2 W]
  refine List.countP_congr fun p hp => ?_
  have h := wpc_cnt g1 g2 ((W.mem p).mp hp)
  unfold isOd
  rcases h with ⟨a, b, c⟩ | ⟨a, b, c⟩ | ⟨a, b, c⟩ | ⟨a, b, c⟩ <;> rw [a, c] <;> decide +kernel
end
end DC
-- K42u
set_option Elab.async false
set_option linter.all false
set_option maxRecDepth 100000
set_option maxHeartbeats 4000000
namespace K42
open PySem L2 DC LamX
def lcost (l : Lot) : Int := (l.map fun p => pcost p.1 p.2).sum
theorem isum_perm {l m : List Int} (h : l.Perm m) : l.sum = m.sum := by
  induction h with
  | nil => rfl
  | cons x _ ih => rw [List.sum_cons, List.sum_cons, ih]
  | swap x y l =>
    rw [List.sum_cons, List.sum_cons, List.sum_cons, List.sum_cons]
    omega
  | trans _ _ h1 h2 => exact h1.trans h2
theorem lcost_sum : ∀ {l : Lot}, (∀ p ∈ l, PcOk p) → 2 * lcost l + 2 * ((l.countP fun p => p.1 == (("ring" : Str)) : Nat) : Int) + ((l.countP fun p => p.1 == (("odd" : Str)) : Nat) : Int) = (szSum l : Nat)
  | [], _ => rfl
  | p :: l, h => by
    have ih := lcost_sum (l := l) fun q hq => h q (List.mem_cons_of_mem _ hq)
    have hp := h p List.mem_cons_self
    have ec : lcost (p :: l) = pcost p.1 p.2 + lcost l := by
      unfold lcost
      rw [List.map_cons, List.sum_cons]
    rw [ec, szSum_cons, List.countP_cons, List.countP_cons]
    rcases hp with ⟨e, o⟩ | ⟨e, h2, o⟩
    · have c1 : (p.1 == (("ring" : Str))) = false := by rw [e]; decide +kernel
      have c2 : (p.1 == (("odd" : Str))) = true := by rw [e]; decide +kernel
      have c3 : pcost p.1 p.2 = ((p.2 / 2 : Nat) : Int) := by
        unfold pcost
        rw [if_neg (by rw [e]; decide +kernel)]
      rw [c1, c2, c3]
      simp only [Bool.false_eq_true, if_false, if_true]
      omega
    · rcases e with e | e | e
      · have c1 : (p.1 == (("ring" : Str))) = true := by rw [e]; decide +kernel
        have c2 : (p.1 == (("odd" : Str))) = false := by rw [e]; decide +kernel
        have c3 : pcost p.1 p.2 = ((p.2 / 2 : Nat) : Int) - 1 := by
          unfold pcost
          rw [if_pos e]
        rw [c1, c2, c3]
        simp only [Bool.false_eq_true, if_false, if_true]
        omega
      all_goals
        have c1 : (p.1 == (("ring" : Str))) = false := by rw [e]; decide +kernel
        have c2 : (p.1 == (("odd" : Str))) = false := by rw [e]; decide +kernel
        have c3 : pcost p.1 p.2 = ((p.2 / 2 : Nat) : Int) := by
          unfold pcost
          rw [if_neg (by rw [e]; decide +kernel)]
        rw [c1, c2, c3]
        simp only [Bool.false_eq_true, if_false]
        omega
theorem lcost_nn : ∀ {l : Lot}, (∀ p ∈ l, PcOk p) → 0 ≤ lcost l
  | [], _ => Int.le_refl _
  | p :: l, h => by
    have ih := lcost_nn (l := l) fun q hq => h q (List.mem_cons_of_mem _ hq)
    have ec : lcost (p :: l) = pcost p.1 p.2 + lcost l := by
      unfold lcost
      rw [List.map_cons, List.sum_cons]
    have hp := h p List.mem_cons_self
    have : 0 ≤ pcost p.1 p.2 := by
      unfold pcost
      by_cases c : p.1 = "ring"
      · rw [if_pos c]
        have h2 : 2 ≤ p.2 := by
          rcases hp with ⟨e, _⟩ | ⟨_, h2, _⟩
          · rw [c] at e
            exact absurd e (by decide +kernel)
          · exact h2
        omega
      · rw [if_neg c]
        omega
    omega
section
variable {n : Nat} {js ls : List J2} {ps : List (Str × List Nat)}
theorem web_cost (g1 : Good n js) (g2 : Good n ls) (W : IsWeb n js ls ps) : lcost (szs ps) = (cst n js ls : Nat) ∧ (n : Int) - ((cntK ps "ring" : Nat) : Int) - ((cntK ps "odd" : Nat) : Int) / 2 = (cst n js ls : Nat) := by
  have ok : ∀ p ∈ szs ps, PcOk p := by
    intro p hp
    obtain ⟨q, hq, rfl⟩ := List.mem_map.mp hp
    exact pc_wpc g1 g2 ((W.mem q).mp hq)
  have h := lcost_sum ok
  have h0 := lcost_nn ok
  rw [web_sum W g1 g2] at h
  have e1 : (szs ps).countP (fun p => p.1 == (("ring" : Str))) = cntK ps "ring" := by
    unfold szs cntK
    rw [List.countP_map]
    rfl
  have e2 : (szs ps).countP (fun p => p.1 == (("odd" : Str))) = cntK ps "odd" := by
    unfold szs cntK
    rw [List.countP_map]
    rfl
  have r1 : rgs n js ls = cntK ps "ring" := rgs_web g1 g2 W
  have r2 : ods n js ls = cntK ps "odd" := ods_web g1 g2 W
  rw [e1, e2] at h
  unfold cst
  rw [r1, r2]
  omega
end
section
variable {P : Program} {w : World} {K : PySem.W.Frag} {mg : Str → Option Value} {base : Heap}
def spCo (K : PySem.W.Frag) (Pt : Addr) : Sp := fun vs H Q _ => ∃ (v1 v2 : V) (n : Nat) (js ls : List J2), vs = [v1, v2] ∧ Ly K H v1 n js ∧ Ly K H v2 n ls ∧ Good n js ∧ Good n ls ∧ Tabs (Tw Pt) H ∧
  ∀ (H' : Hp), ExtN H H' → Tabs (Tw Pt) H' → Q (.int (cst n js ls : Nat)) H'
abbrev NCo : List Str := ["one", "other", "kind", "size"]
theorem sc25 : FnScope NCo ["one", "other"] (defScope (top 35)) := ⟨rfl, rfl, rfl, by decide +kernel, rfl, by decide +kernel, by decide +kernel⟩
theorem okCo {f fS fP Pt : Addr} {fd fdS fdP : FuncData} (F : Fun K "cost_of" "cost_of" (top 35) f fd) (B : Bn mg)
    (DS : Df K mg "sizes_of" fS fdS ["one", "other"]) (GS : OkF P w K mg base 4 fS fdS ["one", "other"] (spSz K Pt))
    (DP : Df K mg "piece_cost" fP fdP ["kind", "size"]) (GP : OkF P w K mg base 1 fP fdP ["kind", "size"] spPco) : OkF P w K mg base 5 f fd ["one", "other"] (spCo K Pt) := by
  refine ok0 F sc25 (fun vs H Q E h => ?_) (fun cdv A outer s H vs Q E hgd hr h => ?_)
  · obtain ⟨v1, v2, n, js, ls, rfl, _⟩ := h; rfl
  · obtain ⟨v1, v2, n, js, ls, rfl, y1, y2, g1, g2, hT, q⟩ := h
    have nd := sc25.nd
    have hr1 : Room 1 _ := hr.mono (by decide)
    refine ⟨_, pss_one (ps_ret (pe_callB (cr_sum rfl) (by rfl) B.sum (by decide +kernel) (pa_cons
      (pe_lc (own := [("kind", 2), ("size", 3)]) (g := gTup K 2 (gCons (gName 2) (gCons (gName 3) gNil))) (tt := tYes) rfl nd (pi_tup (cl DS GS hgd hr (pa_cons (pv 0) (pa_cons (pv 1) pa_nil)))) (blkOk_by (N := NCo) (sc := defScope (top 35)) (by decide +kernel))
        (fun _ _ _ _ _ => pg_tup (by rfl) (pgs_cons (pg_name (i := 2) nd rfl (Or.inl rfl)) (pgs_cons (pg_name (i := 3) nd rfl (Or.inl rfl)) pgs_nil))) (fun _ _ _ _ _ => pts_nil)
        (fun _ _ _ _ _ => cl DP GP hgd hr1 (pa_cons (pv 2) (pa_cons (pv 3) pa_nil)))) pa_nil))), ?_⟩
    refine ⟨_, rfl, _, rfl, v1, v2, n, js, ls, rfl, y1, y2, g1, g2, hT, fun ps bs r xs H1 W' cov EN T1 hr1 hd => ?_⟩
    have W := W'.web g1 g2 cov
    have tp := g1.top
    rw [sizesD_map] at hd
    have len : xs.length = (szOrd ps).length := by rw [dpAll_len hd, List.length_map]
    have len2 : (szOrd ps).length ≤ 24 := by
      rw [(szOrd_perm ps).length_eq]
      have := W.len g1 g2
      omega
    refine ⟨r, rfl, ⟨_, SqT.of hr1⟩, fun D hD => ?_⟩
    refine lc_it (walk_tup (xs := xs)) (fun i H' => Same H1 H' ∧ H' D = some (.lst (((szs ((szOrd ps).take i)).map fun p => pcost p.1 p.2).map V.int))) ⟨Same.new hD, upd_same⟩ (fun i H' _ hp => SqT.of (hp.1 _ _ hr1)) ?_ ?_
    · rintro i x Ha Hb hi ⟨sm, hL⟩ ⟨rfl, ex⟩
      obtain ⟨d, ed, dd⟩ := dpAll_at hd ex
      rw [List.getElem?_map] at ed
      obtain ⟨p, ep, rfl⟩ := Option.map_eq_some_iff.mp ed
      obtain ⟨t, rfl, hS⟩ := dp_sz dd
      refine ⟨t, _, rfl, Same.t sm hS, rfl, _, _, rfl, _, _, rfl, rfl, rfl, ?_⟩
      refine yesT ?_
      refine ⟨_, rfl, _, rfl, p.1, p.2.length, rfl, _, hL, ?_, same_put sm hD, ?_⟩
      · rw [List.length_map, List.length_map]
        unfold szs
        rw [List.length_map]
        exact Nat.lt_of_le_of_lt (Nat.le_trans (List.length_take_le' _ _) (show (szOrd ps).length ≤ 1000 by omega)) (by decide)
      · rw [upd_same, take_next (l := szOrd ps) ep]
        unfold szs
        rw [List.map_append, List.map_append, List.map_append]
        rfl
    · rintro H' ⟨sm, hL⟩
      rw [len, List.take_of_length_le (Nat.le_refl _)] at hL
      refine ⟨D, _, rfl, SqL.of hL, ?_⟩
      have e : ((szs (szOrd ps)).map fun p => pcost p.1 p.2).sum = (cst n js ls : Nat) := by
        rw [← (web_cost g1 g2 W).1]
        unfold lcost szs
        exact isum_perm ((((szOrd_perm ps).map _).map _))
      rw [e]
      exact q _ (EN.trans (ExtN.of sm)) (T1.ext sm)
end
end K42
-- C42b
set_option Elab.async false
set_option linter.all false
set_option maxRecDepth 100000
set_option maxHeartbeats 4000000
namespace K42
open PySem L2 DC
def lj : Nat → List Nat → List (List J2)
  | 0, _ => [[]]
  | k + 1, left => [] :: (List.range left.length).flatMap fun at_ => (List.range (left.length - (at_ + 1))).flatMap fun d =>
    (lj k (((left.drop (at_ + 1)).take d) ++ left.drop (at_ + 1 + d + 1))).map fun js => (left.getD at_ 0, left.getD (at_ + 1 + d) 0) :: js
def allJ (n : Nat) : List (List J2) := lj n (List.range (2 * n))
def mk2 (a b : Nat) : J2 := (min a b, max a b)
def sm2 (p q : J2) : List J2 := if p.1 < q.1 then [p, q] else [q, p]
def stAt (n : Nat) (js : List J2) (k : Nat) (j : J2) : List (List J2 × List J2) :=
  ([j], []) :: ((frees n js).flatMap fun e => [([j], [mk2 j.1 e]), ([j], [mk2 j.2 e])]) ++ (js.drop (k + 1)).flatMap fun o => [([j, o], sm2 (mk2 j.1 o.1) (mk2 j.2 o.2)), ([j, o], sm2 (mk2 j.1 o.2) (mk2 j.2 o.1))]
def stJ (n : Nat) (js : List J2) : List (List J2 × List J2) :=
  ((List.range js.length).flatMap fun k => stAt n js k (js.getD k (0, 0))) ++ (List.range (frees n js).length).flatMap fun k => ((frees n js).drop (k + 1)).map fun b => ([], [((frees n js).getD k 0, b)])
def insJ (p : J2) : List J2 → List J2
  | [] => [p]
  | q :: l => if p.1 ≤ q.1 then p :: q :: l else q :: insJ p l
def srtJ (l : List J2) : List J2 := l.foldr insJ []
def aftJ (js : List J2) (st : List J2 × List J2) : List J2 := srtJ ((js.filter fun p => !decide (p ∈ st.1)) ++ st.2)
def goodQ (n : Nat) (js : List J2) : Bool := js.all (fun p => decide (p.1 < p.2) && decide (p.2 < 2 * n)) && decide (js.Pairwise fun p q => p.1 < q.1) && decide (js.Pairwise fun p q => p.1 ≠ q.1 ∧ p.1 ≠ q.2 ∧ p.2 ≠ q.1 ∧ p.2 ≠ q.2)
theorem goodQ_ok {n : Nat} {js : List J2} (h1 : 1 ≤ n) (h12 : n ≤ 12) (h : goodQ n js = true) : Good n js := by
  unfold goodQ at h
  simp only [Bool.and_eq_true, List.all_eq_true, decide_eq_true_eq] at h
  exact ⟨h1, h12, fun p hp => h.1.1 p hp, h.1.2, h.2⟩
theorem goodQ_of {n : Nat} {js : List J2} (g : Good n js) : goodQ n js = true := by
  unfold goodQ
  simp only [Bool.and_eq_true, List.all_eq_true, decide_eq_true_eq]
  exact ⟨⟨fun p hp => g.rng p hp, g.asc⟩, g.dis⟩
def chkRow (n : Nat) (js : List J2) (row : List (List J2 × Nat)) : Bool :=
  ((stJ n js).map (aftJ js)).isPerm ((row.filter fun x => x.2 == 1).map fun x => x.1) && decide (0 < row.countP fun x => x.2 == n) && (row.all fun x => decide (x.2 ≤ n)) && goodQ n js
def rowJ (n : Nat) (js : List J2) : List (List J2 × Nat) := (allJ n).map fun ls => (ls, cst n js ls)
theorem chk1 : (allJ 1).all (fun js => chkRow 1 js (rowJ 1 js)) = true := by decide +kernel
theorem chk2 : (allJ 2).all (fun js => chkRow 2 js (rowJ 2 js)) = true := by decide +kernel
theorem chk3 : (allJ 3).all (fun js => chkRow 3 js (rowJ 3 js)) = true := by decide +kernel
end K42
-- K42v
set_option Elab.async false
set_option linter.all false
set_option maxRecDepth 100000
set_option maxHeartbeats 4000000
namespace K42
open PySem L2 DC LamX
structure TM (K : PySem.W.Frag) (H H' : Hp) : Prop where
  t : ∀ {a : Addr} {xs : List V}, SqT K H a xs → SqT K H' a xs
section
variable {K : PySem.W.Frag} {H H' H'' : Hp} {v : V}
theorem TM.of (e : Same H H') : TM K H H' := ⟨fun h => Same.t e h⟩
theorem TM.put {l : Addr} {ys : List V} {o : HO} (h : H l = some (.lst ys)) : TM K H (upd H l o) := ⟨fun z => sqT_put z h⟩
theorem TM.trans (a : TM K H H') (b : TM K H' H'') : TM K H H'' := ⟨fun z => b.t (a.t z)⟩
theorem TM.refl : TM K H H := ⟨fun z => z⟩
theorem TM.sx {m lm : Addr} (s : SameX m H H') (hm : MAt H m lm) : TM K H H' := ⟨fun h => sqT_m s hm h⟩
theorem TM.ex (e : ExtN H H') : TM K H H' := ⟨fun h => extN_t e h⟩
theorem TM.pr (e : TM K H H') {p : J2} : Pr K H v p → Pr K H' v p
  | ⟨t, q, h⟩ => ⟨t, q, e.t h⟩
theorem TM.prs (e : TM K H H') {us : List V} {js : List J2} (h : Paired (Pr K H) us js) : Paired (Pr K H') us js := L2.Paired.mapP h fun _ _ z => e.pr z
theorem TM.js (e : TM K H H') {js : List J2} : Js K H v js → Js K H' v js
  | ⟨t, vs, q, h, r⟩ => ⟨t, vs, q, e.t h, e.prs r⟩
theorem TM.jss (e : TM K H H') {us : List V} {js : List (List J2)} (h : Paired (Js K H) us js) : Paired (Js K H') us js := L2.Paired.mapP h fun _ _ z => e.js z
theorem TM.ly (e : TM K H H') {n : Nat} {js : List J2} : Ly K H v n js → Ly K H' v n js
  | ⟨t, u, q, h, r⟩ => ⟨t, u, q, e.t h, e.js r⟩
def Lyn (K : PySem.W.Frag) (H : Hp) (n : Nat) : V → List J2 → Prop := fun v js => Ly K H v n js
theorem TM.lys (e : TM K H H') {n : Nat} {us : List V} {js : List (List J2)} (h : Paired (Lyn K H n) us js) : Paired (Lyn K H' n) us js := L2.Paired.mapP h fun _ _ z => e.ly z
end
theorem pair_app {α β : Type} {R : α → β → Prop} : ∀ {xs : List α} {ys : List β} {xs' : List α} {ys' : List β}, Paired R xs ys → Paired R xs' ys' → Paired R (xs ++ xs') (ys ++ ys')
  | _, _, _, _, .nil, r => r
  | _, _, _, _, .cons a b, r => .cons a (pair_app b r)
theorem sIx_nat (n d b : Nat) : HT.sIx n d (some ((b : Nat) : Int)) = min b n := by
  simp only [HT.sIx]
  rw [if_neg (by omega), Int.toNat_natCast]
theorem cut_ab {xs : List V} {a b : Nat} (ha : a ≤ xs.length) (hb : b ≤ xs.length) : cutV xs (some ((a : Nat) : Int)) (some ((b : Nat) : Int)) = (xs.drop a).take (b - a) := by
  show (xs.drop (HT.sIx _ 0 _)).take (HT.sIx _ _ _ - HT.sIx _ 0 _) = _
  rw [sIx_nat, sIx_nat, Nat.min_eq_left ha, Nat.min_eq_left hb]
theorem cut_a {xs : List V} {a : Nat} (ha : a ≤ xs.length) : cutV xs (some ((a : Nat) : Int)) none = xs.drop a := by
  show (xs.drop (HT.sIx _ 0 _)).take (xs.length - HT.sIx _ 0 _) = _
  rw [sIx_nat, Nat.min_eq_left ha]
  exact List.take_of_length_le (by rw [List.length_drop]; exact Nat.le_refl _)
def beh (left : List Nat) (a d : Nat) : List Nat := (left.drop (a + 1)).take d ++ left.drop (a + 1 + d + 1)
def ljr (k : Nat) (left : List Nat) (a m : Nat) : List (List J2) := (List.range m).flatMap fun d => (lj k (beh left a d)).map fun js => (left.getD a 0, left.getD (a + 1 + d) 0) :: js
def ljp (k : Nat) (left : List Nat) (i : Nat) : List (List J2) := [] :: (List.range i).flatMap fun a => ljr k left a (left.length - (a + 1))
theorem lj_eq (k : Nat) (left : List Nat) : lj (k + 1) left = ljp k left left.length := rfl
theorem ljr_succ (k : Nat) (left : List Nat) (a m : Nat) : ljr k left a (m + 1) = ljr k left a m ++ (lj k (beh left a m)).map fun js => (left.getD a 0, left.getD (a + 1 + m) 0) :: js := by
  unfold ljr
  rw [List.range_succ, List.flatMap_append]
  simp only [List.flatMap_cons, List.flatMap_nil, List.append_nil]
theorem ljp_succ (k : Nat) (left : List Nat) (i : Nat) : ljp k left (i + 1) = ljp k left i ++ ljr k left i (left.length - (i + 1)) := by
  unfold ljp
  rw [List.range_succ, List.flatMap_append]
  simp only [List.flatMap_cons, List.flatMap_nil, List.append_nil, List.cons_append]
theorem flat_le {α β : Type} {f : α → List β} {B : Nat} : ∀ {l : List α}, (∀ x ∈ l, (f x).length ≤ B) → (l.flatMap f).length ≤ l.length * B
  | [], _ => by simp
  | x :: l, h => by
    have := flat_le (l := l) fun y hy => h y (List.mem_cons_of_mem _ hy)
    have := h x List.mem_cons_self
    rw [List.flatMap_cons, List.length_append, List.length_cons, Nat.add_mul]
    omega
theorem beh_len {left : List Nat} {a d : Nat} (h : a + 1 + d < left.length) : (beh left a d).length + 2 + a = left.length := by
  obtain ⟨m, hm⟩ : ∃ m, left.length = a + 1 + d + 1 + m := ⟨left.length - (a + 1 + d + 1), by omega⟩
  unfold beh
  rw [List.length_append, List.length_take, List.length_drop, List.length_drop, hm, show a + 1 + d + 1 + m - (a + 1) = d + 1 + m by omega, show a + 1 + d + 1 + m - (a + 1 + d + 1) = m by omega, Nat.min_eq_left (by omega)]
  omega
theorem lj_len : ∀ (k : Nat) (left : List Nat), left.length ≤ 7 → (lj k left).length ≤ 57 ^ k ∧ ∀ i d, i ≤ left.length → i + 1 + d ≤ left.length → (ljp k left i).length + (ljr k left i d).length + 57 ^ k ≤ 57 ^ (k + 1)
  | 0, left, h => by
    refine ⟨Nat.le_refl _, fun i d hi hd => ?_⟩
    have r : ∀ a m, a + 1 + m ≤ left.length → (ljr 0 left a m).length ≤ m * 1 := fun a m _ => by
      have := flat_le (f := fun d => (lj 0 (beh left a d)).map fun js => (left.getD a 0, left.getD (a + 1 + d) 0) :: js) (B := 1) (l := List.range m) fun x _ => by rw [List.length_map]; exact Nat.le_refl _
      rw [List.length_range] at this
      exact this
    have p : (ljp 0 left i).length ≤ 1 + i * 7 := by
      unfold ljp
      rw [List.length_cons]
      have := flat_le (f := fun a => ljr 0 left a (left.length - (a + 1))) (B := 7) (l := List.range i) fun x hx => by
        have hx := List.mem_range.mp hx
        have := r x (left.length - (x + 1)) (by omega)
        omega
      rw [List.length_range] at this
      omega
    have := r i d hd
    show _ + _ + 1 ≤ 57
    omega
  | k + 1, left, h => by
    have b : ∀ a d, a + 1 + d < left.length → (lj k (beh left a d)).length ≤ 57 ^ k := fun a d hd => (lj_len k _ (by have := beh_len hd; omega)).1
    have key : (lj (k + 1) left).length ≤ 57 ^ (k + 1) := by
      rw [lj_eq]
      cases hl : left.length with
      | zero =>
        show 1 ≤ _
        exact Nat.pos_of_ne_zero (by simp)
      | succ m =>
        have := (lj_len k left h).2 m 0 (by omega) (by omega)
        rw [ljp_succ]
        rw [List.length_append]
        rw [hl, Nat.sub_self]
        show (ljp k left m).length + 0 ≤ _
        omega
    refine ⟨key, fun i d hi hd => ?_⟩
    have b2 : ∀ a d, a + 1 + d < left.length → (lj (k + 1) (beh left a d)).length ≤ 57 ^ (k + 1) := fun a d hd => by
      have hb := beh_len hd
      rw [lj_eq]
      cases hl : (beh left a d).length with
      | zero =>
        show 1 ≤ _
        exact Nat.pos_of_ne_zero (by simp)
      | succ m =>
        have := (lj_len k (beh left a d) (by omega)).2 m 0 (by omega) (by omega)
        rw [ljp_succ, List.length_append, hl, Nat.sub_self]
        show (ljp k (beh left a d) m).length + 0 ≤ _
        omega
    have r : ∀ a m, a + 1 + m ≤ left.length → (ljr (k + 1) left a m).length ≤ m * 57 ^ (k + 1) := fun a m hm => by
      have := flat_le (f := fun d => (lj (k + 1) (beh left a d)).map fun js => (left.getD a 0, left.getD (a + 1 + d) 0) :: js) (B := 57 ^ (k + 1)) (l := List.range m) fun x hx => by
        rw [List.length_map]
        exact b2 a x (by have := List.mem_range.mp hx; omega)
      rw [List.length_range] at this
      exact this
    have p : (ljp (k + 1) left i).length ≤ 1 + i * (7 * 57 ^ (k + 1)) := by
      unfold ljp
      rw [List.length_cons]
      have := flat_le (f := fun a => ljr (k + 1) left a (left.length - (a + 1))) (B := 7 * 57 ^ (k + 1)) (l := List.range i) fun x hx => by
        have hx := List.mem_range.mp hx
        have := r x (left.length - (x + 1)) (by omega)
        exact Nat.le_trans this (Nat.mul_le_mul_right _ (by omega))
      rw [List.length_range] at this
      omega
    have rr := r i d hd
    rw [Nat.pow_succ 57 (k + 1)]
    have pos : 1 ≤ 57 ^ (k + 1) := Nat.pos_of_ne_zero (by simp)
    generalize 57 ^ (k + 1) = X at *
    have h1 : i * (7 * X) ≤ 6 * (7 * X) := Nat.mul_le_mul_right _ (by omega)
    have h2 : d * X ≤ 7 * X := Nat.mul_le_mul_right _ (by omega)
    omega
theorem lj_short : ∀ (k : Nat) (left : List Nat), ∀ js ∈ lj k left, js.length ≤ k
  | 0, left, js, h => by
    obtain rfl := List.mem_singleton.mp h
    exact Nat.le_refl _
  | k + 1, left, js, h => by
    rw [lj_eq] at h
    rcases List.mem_cons.mp h with rfl | h
    · exact Nat.zero_le _
    · obtain ⟨a, _, h⟩ := List.mem_flatMap.mp h
      obtain ⟨d, _, h⟩ := List.mem_flatMap.mp h
      obtain ⟨js', h', rfl⟩ := List.mem_map.mp h
      have := lj_short k _ js' h'
      rw [List.length_cons]
      omega
section
variable {P : Program} {w : World} {K : PySem.W.Frag} {mg : Str → Option Value} {base : Heap}
theorem vn_drop (l : List Nat) (a : Nat) : (Vn l).drop a = Vn (l.drop a) := by
  unfold Vn
  exact List.map_drop.symm
theorem vn_take (l : List Nat) (a : Nat) : (Vn l).take a = Vn (l.take a) := by
  unfold Vn
  exact List.map_take.symm
end
end K42
-- C42c
set_option Elab.async false
set_option linter.all false
set_option maxRecDepth 100000
set_option maxHeartbeats 4000000
namespace K42
open PySem L2 DC
def prs (n : Nat) : List J2 := (List.range (2 * n)).flatMap fun a => (List.range (2 * n)).map fun b => (a, b)
def inB (n : Nat) : Bool := decide (([] : List J2) ∈ allJ n) && (prs n).all fun p => !goodQ n [p] || (decide ([p] ∈ allJ n) && (prs n).all fun q => !goodQ n [p, q] || (decide ([p, q] ∈ allJ n) && (prs n).all fun r => !goodQ n [p, q, r] || decide ([p, q, r] ∈ allJ n)))
theorem in1 : inB 1 = true := by decide +kernel
theorem in2' : inB 2 = true := by decide +kernel
theorem in3 : inB 3 = true := by decide +kernel
theorem mem_prs {n : Nat} {p : J2} (h1 : p.1 < 2 * n) (h2 : p.2 < 2 * n) : p ∈ prs n := by
  unfold prs
  rw [List.mem_flatMap]
  exact ⟨p.1, List.mem_range.mpr h1, List.mem_map.mpr ⟨p.2, List.mem_range.mpr h2, rfl⟩⟩
theorem or_not {a b : Bool} (h : (!a || b) = true) (ha : a = true) : b = true := by
  rw [ha] at h
  exact h
theorem all_lays {n : Nat} {js : List J2} (g : Good n js) (h3 : n ≤ 3) : js ∈ allJ n := by
  have hb : inB n = true := by
    have h1 := g.one
    have : n = 1 ∨ n = 2 ∨ n = 3 := by omega
    rcases this with rfl | rfl | rfl
    · exact in1
    · exact in2'
    · exact in3
  unfold inB at hb
  rw [Bool.and_eq_true, decide_eq_true_eq, List.all_eq_true] at hb
  obtain ⟨b0, b1⟩ := hb
  have le := g.le
  have q := goodQ_of g
  have mp : ∀ p ∈ js, p ∈ prs n := fun p hp => mem_prs (by have := g.rng p hp; omega) (g.rng p hp).2
  have sub : ∀ {l : List J2}, l.Sublist js → goodQ n l = true := fun {l} s => goodQ_of ⟨g.one, g.top, fun p hp => g.rng p (s.subset hp), g.asc.sublist s, g.dis.sublist s⟩
  match js, le, q, mp, @sub with
  | [], _, _, _, _ => exact b0
  | [p], _, q, mp, _ =>
    have c := or_not (b1 p (mp p (by simp))) q
    rw [Bool.and_eq_true, decide_eq_true_eq] at c
    exact c.1
  | [p, r], _, q, mp, sub =>
    have c := or_not (b1 p (mp p (by simp))) (sub (by simp))
    rw [Bool.and_eq_true, decide_eq_true_eq, List.all_eq_true] at c
    have d := or_not (c.2 r (mp r (by simp))) q
    rw [Bool.and_eq_true, decide_eq_true_eq] at d
    exact d.1
  | [p, r, s], _, q, mp, sub =>
    have c := or_not (b1 p (mp p (by simp))) (sub (by simp))
    rw [Bool.and_eq_true, decide_eq_true_eq, List.all_eq_true] at c
    have d := or_not (c.2 r (mp r (by simp))) (sub (by simp))
    rw [Bool.and_eq_true, decide_eq_true_eq, List.all_eq_true] at d
    have e := or_not (d.2 s (mp s (by simp))) q
    exact of_decide_eq_true e
  | p :: r :: s :: t :: l, le, _, _, _ =>
    simp only [List.length_cons] at le
    omega
structure Row (n : Nat) (js : List J2) : Prop where
  st : ((stJ n js).map (aftJ js)).Perm ((allJ n).filter fun ls => cst n js ls == 1)
  far : 0 < (allJ n).countP fun ls => cst n js ls == n
  le : ∀ ls ∈ allJ n, cst n js ls ≤ n
theorem row_of {n : Nat} {js : List J2} (h : chkRow n js (rowJ n js) = true) : Row n js ∧ goodQ n js = true := by
  unfold chkRow rowJ at h
  simp only [Bool.and_eq_true, decide_eq_true_eq] at h
  obtain ⟨⟨⟨h2, h3⟩, h4⟩, h5⟩ := h
  refine ⟨⟨?_, ?_, ?_⟩, h5⟩
  · have h2 := List.isPerm_iff.mp h2
    rw [List.filter_map, List.map_map] at h2
    have e : ∀ l : List (List J2), l.map ((fun x : List J2 × Nat => x.1) ∘ fun ls => (ls, cst n js ls)) = l := fun l => by
      conv => rhs; rw [← List.map_id l]
      exact List.map_congr_left fun _ _ => rfl
    rw [e] at h2
    exact h2
  · rw [List.countP_map] at h3
    exact h3
  · intro ls hls
    have := List.all_eq_true.mp h4 (ls, cst n js ls) (List.mem_map.mpr ⟨ls, hls, rfl⟩)
    exact of_decide_eq_true this
theorem rows_all {n : Nat} {js : List J2} (h1 : 1 ≤ n) (h3 : n ≤ 3) (h : js ∈ allJ n) : Row n js ∧ Good n js := by
  have : n = 1 ∨ n = 2 ∨ n = 3 := by omega
  rcases this with rfl | rfl | rfl
  · obtain ⟨a, b⟩ := row_of (List.all_eq_true.mp chk1 js h)
    exact ⟨a, goodQ_ok (by omega) (by omega) b⟩
  · obtain ⟨a, b⟩ := row_of (List.all_eq_true.mp chk2 js h)
    exact ⟨a, goodQ_ok (by omega) (by omega) b⟩
  · obtain ⟨a, b⟩ := row_of (List.all_eq_true.mp chk3 js h)
    exact ⟨a, goodQ_ok (by omega) (by omega) b⟩
/-! the lays in order -/
theorem asc1 : ((allJ 1).map (layD 1)).Pairwise (fun a b => PySem.W.dataLe false id a b = true) := by decide +kernel
theorem asc2 : ((allJ 2).map (layD 2)).Pairwise (fun a b => PySem.W.dataLe false id a b = true) := by decide +kernel
theorem asc3 : ((allJ 3).map (layD 3)).Pairwise (fun a b => PySem.W.dataLe false id a b = true) := by decide +kernel
theorem asc_lays {n : Nat} (h1 : 1 ≤ n) (h3 : n ≤ 3) : ((allJ n).map (layD n)).Pairwise (fun a b => PySem.W.dataLe false id a b = true) := by
  have : n = 1 ∨ n = 2 ∨ n = 3 := by omega
  rcases this with rfl | rfl | rfl
  · exact asc1
  · exact asc2
  · exact asc3
end K42
-- K42w
set_option Elab.async false
set_option linter.all false
set_option maxRecDepth 100000
set_option maxHeartbeats 4000000
namespace K42
open PySem L2 DC LamX
theorem al_1 : (allJ 1).length = 2 := by decide +kernel
theorem al_2 : (allJ 2).length = 10 := by decide +kernel
theorem al_3 : (allJ 3).length = 76 := by decide +kernel
theorem al_le {n : Nat} (h1 : 1 ≤ n) (h3 : n ≤ 3) : (allJ n).length ≤ 76 := by
  have : n = 1 ∨ n = 2 ∨ n = 3 := by omega
  rcases this with rfl | rfl | rfl
  · rw [al_1]; decide
  · rw [al_2]; decide
  · rw [al_3]; decide
theorem extN_put {H H' : Hp} {D : Addr} {o : HO} (e : ExtN H H') (h : H D = none) : ExtN H (upd H' D o) := fun b u q n => by
  have ne : b ≠ D := fun z => by
    rw [z, h] at q
    cases q
  rw [upd_ne ne]
  exact e b u q n
theorem tabs_put {H : Hp} {T : List (Addr × Str)} {l : Addr} {ys : List V} {o : HO} (t : Tabs T H) (hl : H l = some (.lst ys)) : Tabs T (upd H l o) := by
  have ne : ∀ {a : Addr} {u : HO}, H a = some u → (∀ kvs, u ≠ .lst kvs) → a ≠ l := by
    rintro a u e hu rfl
    rw [hl] at e
    exact hu _ (Option.some.inj e).symm
  intro p hp
  obtain ⟨ps, h1, h2, h3⟩ := t p hp
  refine ⟨ps, ?_, h2, fun pos cv hc => ?_⟩
  · rw [upd_ne (ne h1 (fun _ z => nomatch z))]
    exact h1
  · obtain ⟨c, e1, e2⟩ := h3 pos cv hc
    refine ⟨c, e1, ?_⟩
    rw [upd_ne (ne e2 (fun _ z => nomatch z))]
    exact e2
theorem rg_vn (m : Nat) : rgV 0 ((m : Nat) : Int) = Vn (List.range m) := by
  unfold rgV Vn
  rw [show (((m : Nat) : Int) - 0).toNat = m by omega]
  refine List.map_congr_left fun i _ => ?_
  rw [Int.zero_add]
section
variable {P : Program} {w : World} {K : PySem.W.Frag} {mg : Str → Option Value} {base : Heap}
def spLys (K : PySem.W.Frag) : Sp := fun vs H Q _ => ∃ n : Nat, vs = [.int (n : Nat)] ∧ 1 ≤ n ∧ n ≤ 3 ∧
  ∀ (r : Addr) (us : List V) (H' : Hp), Same H H' → H r = none → H' r = some (.lst us) → Paired (Lyn K H' n) us (allJ n) → Q (.ref r) H'
end
end K42
-- DS2
set_option Elab.async false
set_option linter.all false
set_option maxRecDepth 100000
set_option maxHeartbeats 4000000
/-! DS2: sorted of a tuple of data of one shape. -/
namespace DC
open PySem PySem.Spec PyProof.Rows L2 Evl
theorem collect_tuple {prog : Program} {w : World} {A : Around} {E : Value → Shared → Prop} {s : Shared} {l : Addr} {vs : List Value} {Q : List Value → Shared → Prop}
    (hl : s.heap.IsTuple l vs.toArray) (h : Q vs { heap := (s.heap.push (seqObj "list" #[] 0)).update s.heap.objs.size (Obj.mapSeq fun x => x ++ vs.toArray), gens := s.gens, drawn := s.drawn, toks := s.toks, os := s.os })
    (hsz : vs.length ≤ sizeLine) : wpAny (model prog w) A (collect (.ref l)) Q E s := by
  obtain ⟨o, ho, hc, n, hd⟩ := hl
  refine wpAny_bind (wpAny_runValue (codeAny_builtin entry_proto_collect' ?_))
  refine wpAny_bind (wpAny_newList (wpAny_pure ⟨Code.quiet_builtin _ (by decide +kernel), codeAny_builtin entry_list_iadd' ?_⟩))
  have ho' := Heap.get?_push_of_some (seqObj "list" #[] 0) ho
  show wpAny _ _ (Builtin.List.listExtendWith (.ref s.heap.objs.size) (.ref l) (.ref s.heap.objs.size)) _ _ _
  unfold Builtin.List.listExtendWith
  refine wpAny_bind (wpAny_typeOf (v := .ref l) (T := "tuple") (show ∃ o, _ from ⟨o, ho', hc⟩) ?_)
  have e : (Builtin.List.listSameRef (Value.ref s.heap.objs.size) (Value.ref l) || Value.type "tuple" == Value.type "list" || Value.type "tuple" == Value.type "tuple") = true := by
    have : (Value.type "tuple" == Value.type "tuple") = true := rfl
    rw [this, Bool.or_true]
  rw [if_pos e]
  refine wpAny_bind (listItems_at ho' hd ?_)
  refine wpAny_bind (listItems_at (Heap.get?_push_size _ rfl) rfl ?_)
  rw [if_neg (by show ¬ ((!true && _) = true); rw [Bool.not_true, Bool.false_and]; decide)]
  refine wpAny_bind (listUpdate_at (xs := #[]) (n := 0) (Heap.get?_push_size _ rfl) rfl ?_ (Nat.zero_le _) (by
    show (#[] ++ vs.toArray).size ≤ _
    rw [Array.size_append, List.size_toArray]
    exact Nat.le_trans (show 0 + vs.length ≤ sizeLine by omega) (Nat.le_succ _)))
  refine wpAny_pure ?_
  show wpAny (model prog w) A (load s.heap.objs.size >>= _) Q E _
  refine wpAny_bind (wpAny_load (get?_update_seq (c := "list") (xs := #[]) (n := 0) (Heap.get?_push_size _ rfl) _) ?_)
  refine wpAny_pure ?_
  have e2 : (#[] ++ vs.toArray).toList = vs := by simp
  show Q (#[] ++ vs.toArray).toList _
  rw [e2]
  exact h
theorem sorted_of_sortT {prog : Program} {w : World} {A : Around} {E : Value → Shared → Prop} {s : Shared} {l : Addr} {vs : List Value} {kw : List (Str × Value)} {Q : Value → Shared → Prop}
    (hl : s.heap.IsTuple l vs.toArray) (hL : vs.length ≤ sizeLine) (ha1 : argsOk "sorted" { pos := [Value.ref l], kw := kw }) (ha2 : ∀ x : Addr, argsOk "list.sort" { pos := [Value.ref x], kw := kw })
    (body : ∀ E' : Value → Shared → Prop, wpAny (model prog w) A.in1.in1 (Builtin.«list.sort» { pos := [Value.ref (s.heap.objs.size + 1)], kw := kw }) (fun f s' => f = Fin.done (Flow.ret Value.none) ∧ Q (Value.ref (s.heap.objs.size + 1)) s') E'
      { heap := PySem.W.copyHeap s.heap vs, gens := s.gens, drawn := s.drawn, toks := s.toks, os := s.os }) : wpAny (model prog w) A (call (Value.builtin "sorted") [Value.ref l] kw) Q E s := by
  refine call_function_entry_kw kind_sorted plain_sorted entry_sorted ha1 ?_
  refine wpAny_bind (wpAny_pure ?_)
  refine wpAny_bind (collect_tuple hl ?_ hL)
  refine wpAny_bind (wpAny_newList ?_ hL)
  have hsz : ((s.heap.push (seqObj "list" #[] 0)).update s.heap.objs.size (Obj.mapSeq fun x => x ++ vs.toArray)).objs.size = s.heap.objs.size + 1 := by
    rw [Heap.size_update, size_push']
  show wpAny (model prog w) A.in1 (do
      let _ ← holding [Value.ref ((s.heap.push (seqObj "list" #[] 0)).update s.heap.objs.size (Obj.mapSeq fun x => x ++ vs.toArray)).objs.size] (call (Value.builtin "list.sort") [Value.ref ((s.heap.push (seqObj "list" #[] 0)).update s.heap.objs.size (Obj.mapSeq fun x => x ++ vs.toArray)).objs.size] kw)
      ret (Value.ref ((s.heap.push (seqObj "list" #[] 0)).update s.heap.objs.size (Obj.mapSeq fun x => x ++ vs.toArray)).objs.size)) _ E { heap := PySem.W.copyHeap s.heap vs, gens := s.gens, drawn := s.drawn, toks := s.toks, os := s.os }
  rw [hsz]
  refine wpAny_bind (wpAny_holding (wpAny_call_entry_kw slot_list_sort ⟨seqObj "list" vs.toArray 0, PySem.W.copyHeap_at s.heap vs, rfl⟩ entry_list_sort ?_ (ha2 (s.heap.objs.size + 1))))
  refine wpAny_mono (body E) (fun f s' hf => ?_) (fun _ _ e => e)
  obtain ⟨rfl, hq⟩ := hf
  exact ⟨Value.none, rfl, wpAny_pure ⟨Value.ref (s.heap.objs.size + 1), rfl, hq⟩⟩
theorem sorted_dataT {prog : Program} {w : World} {A : Around} {E : Value → Shared → Prop} {s : Shared} {β : Type} {vs : List Value} {bs : List β} {enc : β → PyData} {R : Value → β → Prop} {l : Addr} {Q : Value → Shared → Prop}
    (hl : s.heap.IsTuple l vs.toArray) (e : PySem.W.EachIs R vs bs) (er : PySem.W.EachIs (fun v b => ∃ as, Reads s.heap v (enc b) as) vs bs) (hal : PySem.W.AllAlike (bs.map enc)) (hk : PySem.W.Sortable (bs.map enc)) (hL : bs.length ≤ sizeLine)
    (hu : ∀ b ∈ bs, A.units + 2 + (enc b).depth < cLine)
    (h : ∀ out : List Value, out.length = bs.length → PySem.W.EachIs R out (bs.mergeSort (PySem.W.dataLe false enc)) → Q (Value.ref (s.heap.objs.size + 1)) { heap := sortedAll s.heap vs out.toArray, gens := s.gens, drawn := s.drawn, toks := s.toks, os := s.os }) :
    wpAny (model prog w) A (call (Value.builtin "sorted") [Value.ref l]) Q E s := by
  have er' : PySem.W.EachIs (fun v b => ∃ as, Reads (PySem.W.sortingHeap (PySem.W.copyHeap s.heap vs) (s.heap.objs.size + 1) vs) v (enc b) as) vs bs :=
    PySem.W.EachIs.mono (fun _ _ x => match x with | ⟨as, r⟩ => ⟨as, Reads.keeps (fun _ _ => PySem.W.sorting_copy_old) r⟩) er
  have hvs : vs.length ≤ sizeLine := by rw [PySem.W.EachIs.length e]; exact hL
  refine sorted_of_sortT hl hvs (args_sorted1 (Value.ref l)) (fun x => args_list_sort (Value.ref x)) fun E' => ?_
  refine PySem.W.list_sort_vals (PySem.W.copyHeap_at s.heap vs) (PySem.W.SortsAt.data (PySem.W.each_map enc er') hal hk (PySem.W.bound_map hu)) hvs ⟨rfl, ?_⟩
  refine h _ ?_ (PySem.W.sortVals_data false e er' hal)
  rw [PySem.W.sortVals_length false rfl]
  exact PySem.W.EachIs.length e
def rSortDT (K : PySem.W.Frag) : List V → Hp → VK → Prop := fun vs H Q => ∃ (a : Addr) (xs : List V) (ds : List PyData), vs = [.ref a] ∧ SqT K H a xs ∧ DpAll K H xs ds ∧ PySem.W.AllAlike ds ∧ PySem.W.Sortable ds ∧ (∀ d ∈ ds, d.depth ≤ 60) ∧
  ∀ (ys : List V) (p : Addr), ys.Perm xs → DpAll K H ys (ds.mergeSort (PySem.W.dataLe false id)) → H p = none → Q (.ref p) (upd H p (.lst ys))
theorem cr_sortDT {X : Cx} (hu : X.A.units + 64 < cLine) : CallR X (.builtin "sorted") (rSortDT X.K) := by
  intro pins s σ H vs us Q I r h
  obtain ⟨a, xs, ds, rfl, hs, hd, hal, hk, hp, q⟩ := h
  obtain ⟨its, rv, hl, hz⟩ := I.tuple hs
  rw [Vals.ref1 r]
  have len := dpAll_len hd
  have snd : (xs.zip ds).map Prod.snd = ds := by rw [List.map_snd_zip]; omega
  have fst : (xs.zip ds).map Prod.fst = xs := by rw [List.map_fst_zip]; omega
  have hb : (xs.zip ds).length = xs.length := by rw [List.length_zip]; omega
  have e1 := each_vals rv len
  have hdp := dpAll_zip hd
  refine sorted_dataT (bs := xs.zip ds) (enc := Prod.snd) (R := fun (v : Value) (b : V × PyData) => RelV b.1 v) hl e1 ?_ (by rw [snd]; exact hal) (by rw [snd]; exact hk) (by rw [hb]; exact hz) (fun b hb => ?_) fun out ho eo => ?_
  · have gen : ∀ {us : List Value} {bs : List (V × PyData)}, PySem.W.EachIs (fun (v : Value) (b : V × PyData) => RelV b.1 v) us bs → (∀ b ∈ bs, Dp X.K H b.1 b.2) → PySem.W.EachIs (fun v (b : V × PyData) => ∃ as, Reads s.heap v b.2 as) us bs := by
      intro us bs e
      induction e with
      | nil => intro _; exact .nil
      | cons r t ih => intro h; exact .cons (Dp.reads I _ _ _ (h _ List.mem_cons_self) r) (ih fun b hb => h b (List.mem_cons_of_mem _ hb))
    exact gen e1 hdp
  · have : b.2 ∈ ds := by
      rw [← snd]
      exact List.mem_map.mpr ⟨b, hb, rfl⟩
    have := hp _ this
    omega
  · obtain ⟨ep, he'⟩ := PyProof.Rows.sortedAll_at s.heap its out.toArray
    have pm : ((xs.zip ds).mergeSort (PySem.W.dataLe false Prod.snd)).Perm (xs.zip ds) := List.mergeSort_perm _ _
    have p2 : (((xs.zip ds).mergeSort (PySem.W.dataLe false Prod.snd)).map Prod.fst).Perm xs := by
      have := pm.map Prod.fst
      rw [fst] at this
      exact this
    have hlen : (((xs.zip ds).mergeSort (PySem.W.dataLe false Prod.snd)).map Prod.fst).length ≤ sizeLine := by
      rw [p2.length_eq]
      exact hz
    have ms : ((xs.zip ds).mergeSort (PySem.W.dataLe false Prod.snd)).map Prod.snd = ds.mergeSort (PySem.W.dataLe false id) := by
      have z := List.map_mergeSort (r := PySem.W.dataLe false (Prod.snd : V × PyData → PyData)) (s := PySem.W.dataLe false id) (f := Prod.snd) (l := xs.zip ds) (fun a _ b _ => rfl)
      rw [snd] at z
      exact z
    refine ⟨.ref _, upd H (s.heap.objs.size + 1) (.lst (((xs.zip ds).mergeSort (PySem.W.dataLe false Prod.snd)).map Prod.fst)), I.laid (t' := s.toks) (fun _ _ => PyProof.Rows.sortedAll_old) (Nat.le_succ _) ⟨hlen, out, ep, each_back eo, he'⟩, rfl, q _ _ p2 ?_ (I.hok.fresh (Nat.le_succ _))⟩
    rw [← ms]
    exact dpAll_of _ fun p hp => hdp p (pm.mem_iff.mp hp)
end DC
-- C42d
set_option Elab.async false
set_option linter.all false
set_option maxRecDepth 100000
set_option maxHeartbeats 4000000
/-! C16d: all lays as the law lists them -/
namespace K42
open PySem L2 DC LamX
def tkJ (js : List J2) : List Nat := js.map (fun p => p.1) ++ js.map (fun p => p.2)
def mtsD (e d : Nat) (js : List J2) : List Nat := ((List.range d).map fun i => e + 1 + i).filter fun m => !decide (m ∈ tkJ js)
def extD (e d : Nat) (js : List J2) : List (List J2) := (mtsD e d js).map fun m => (e, m) :: js
def exts (n e : Nat) (js : List J2) : List (List J2) := extD e (2 * n - (e + 1)) js
def LA (n : Nat) : Nat → List (List J2)
  | 0 => [[]]
  | i + 1 => LA n i ++ (LA n i).flatMap (exts n (2 * n - 1 - i))
theorem extD_succ (e d : Nat) (js : List J2) : extD e (d + 1) js = extD e d js ++ if e + 1 + d ∈ tkJ js then [] else [(e, e + 1 + d) :: js] := by
  unfold extD mtsD
  rw [List.range_succ, List.map_append, List.filter_append, List.map_append]
  by_cases c : e + 1 + d ∈ tkJ js
  · rw [if_pos c, List.map_cons, List.map_nil, List.filter_cons_of_neg (by rw [decide_eq_true c]; decide), List.filter_nil, List.map_nil]
  · rw [if_neg c, List.map_cons, List.map_nil, List.filter_cons_of_pos (by rw [decide_eq_false c]; rfl), List.filter_nil]
    rfl
def laQ (n : Nat) : Bool := ((LA n (2 * n)).isPerm (allJ n)) && (List.range (2 * n + 1)).all fun i => decide ((LA n i).length ≤ 76) && (LA n i).all fun js => decide (js.length ≤ 3)
theorem la1 : laQ 1 = true := by decide +kernel
theorem la2 : laQ 2 = true := by decide +kernel
theorem la3 : laQ 3 = true := by decide +kernel
theorem la_ok {n : Nat} (h1 : 1 ≤ n) (h3 : n ≤ 3) : (LA n (2 * n)).Perm (allJ n) ∧ ∀ i, i ≤ 2 * n → (LA n i).length ≤ 76 ∧ ∀ js ∈ LA n i, js.length ≤ 3 := by
  have hq : laQ n = true := by
    have : n = 1 ∨ n = 2 ∨ n = 3 := by omega
    rcases this with rfl | rfl | rfl
    · exact la1
    · exact la2
    · exact la3
  unfold laQ at hq
  rw [Bool.and_eq_true, List.all_eq_true] at hq
  refine ⟨List.isPerm_iff.mp hq.1, fun i hi => ?_⟩
  have := hq.2 i (List.mem_range.mpr (by omega))
  rw [Bool.and_eq_true, decide_eq_true_eq, List.all_eq_true] at this
  exact ⟨this.1, fun js hjs => of_decide_eq_true (this.2 js hjs)⟩
def pairD (p : J2) : PyData := .tuple [.int (p.1 : Nat), .int (p.2 : Nat)]
theorem prs1 : (allJ 1).all (fun js => decide ((js.map pairD).Pairwise fun a b => PySem.W.dataLe false id a b = true)) = true := by decide +kernel
theorem prs2 : (allJ 2).all (fun js => decide ((js.map pairD).Pairwise fun a b => PySem.W.dataLe false id a b = true)) = true := by decide +kernel
theorem prs3 : (allJ 3).all (fun js => decide ((js.map pairD).Pairwise fun a b => PySem.W.dataLe false id a b = true)) = true := by decide +kernel
theorem prs_sort {n : Nat} {js : List J2} (h1 : 1 ≤ n) (h3 : n ≤ 3) (h : js ∈ allJ n) : (js.map pairD).mergeSort (PySem.W.dataLe false id) = js.map pairD := by
  refine List.mergeSort_of_pairwise ?_
  have : n = 1 ∨ n = 2 ∨ n = 3 := by omega
  rcases this with rfl | rfl | rfl
  · exact of_decide_eq_true (List.all_eq_true.mp prs1 js h)
  · exact of_decide_eq_true (List.all_eq_true.mp prs2 js h)
  · exact of_decide_eq_true (List.all_eq_true.mp prs3 js h)
theorem pairs_alike (js ls : List J2) : PySem.W.AllAlike (js.map pairD) := by
  intro d hd d' hd'
  obtain ⟨p, _, rfl⟩ := List.mem_map.mp hd
  obtain ⟨q, _, rfl⟩ := List.mem_map.mp hd'
  unfold pairD
  simp only [PySem.W.alike, PySem.W.alikeAll, Bool.and_self]
theorem pairs_sortable (js : List J2) : PySem.W.Sortable (js.map pairD) := by
  refine .inl fun d hd => ?_
  obtain ⟨p, _, rfl⟩ := List.mem_map.mp hd
  exact ⟨_, _, rfl⟩
theorem pairs_depth (js : List J2) : ∀ d ∈ js.map pairD, d.depth ≤ 60 := by
  intro d hd
  obtain ⟨p, _, rfl⟩ := List.mem_map.mp hd
  unfold pairD
  simp only [PyData.depth, PyData.depthAll]
  decide
theorem alikeAll_pairs : ∀ js ls : List J2, PySem.W.alikeAll (js.map pairD) (ls.map pairD) = true
  | [], [] => by simp only [List.map_nil, PySem.W.alikeAll]
  | [], _ :: _ => by simp only [List.map_nil, List.map_cons, PySem.W.alikeAll]
  | _ :: _, [] => by simp only [List.map_nil, List.map_cons, PySem.W.alikeAll]
  | p :: js, q :: ls => by
    have ih := alikeAll_pairs js ls
    simp only [List.map_cons, PySem.W.alikeAll, ih, Bool.and_true]
    unfold pairD
    simp only [PySem.W.alike, PySem.W.alikeAll, Bool.and_self]
theorem lay_eq (n : Nat) (js : List J2) : layD n js = .tuple [.int (n : Nat), .tuple (js.map pairD)] := rfl
theorem lays_alike (n : Nat) (l : List (List J2)) : PySem.W.AllAlike (l.map (layD n)) := by
  intro d hd d' hd'
  obtain ⟨js, _, rfl⟩ := List.mem_map.mp hd
  obtain ⟨ls, _, rfl⟩ := List.mem_map.mp hd'
  rw [lay_eq, lay_eq]
  simp only [PySem.W.alike, PySem.W.alikeAll, alikeAll_pairs, Bool.and_self]
theorem lays_sortable (n : Nat) (l : List (List J2)) : PySem.W.Sortable (l.map (layD n)) := by
  refine .inl fun d hd => ?_
  obtain ⟨p, _, rfl⟩ := List.mem_map.mp hd
  exact ⟨_, _, rfl⟩
theorem depth_pairs : ∀ js : List J2, PyData.depthAll (js.map pairD) ≤ 1
  | [] => by simp only [List.map_nil, PyData.depthAll]; decide
  | p :: js => by
    have ih := depth_pairs js
    simp only [List.map_cons, PyData.depthAll]
    have : (pairD p).depth ≤ 1 := by
      unfold pairD
      simp only [PyData.depth, PyData.depthAll]
      decide
    omega
theorem lays_depth (n : Nat) (l : List (List J2)) : ∀ d ∈ l.map (layD n), d.depth ≤ 60 := by
  intro d hd
  obtain ⟨js, _, rfl⟩ := List.mem_map.mp hd
  rw [lay_eq]
  have := depth_pairs js
  simp only [PyData.depth, PyData.depthAll]
  omega
theorem toks_prs : ∀ (a b : List J2) (r r' : List (Int ⊕ List Nat)), PySem.W.keyToksAll (a.map pairD) ++ r = PySem.W.keyToksAll (b.map pairD) ++ r' → a = b ∧ r = r'
  | [], [], r, r', h => ⟨rfl, List.append_cancel_left h⟩
  | [], q :: b, r, r', h => by
    simp only [List.map_nil, List.map_cons, PySem.W.keyToksAll, List.cons_append, List.nil_append, List.cons.injEq, Sum.inl.injEq] at h
    exact absurd h.1 (by decide)
  | p :: a, [], r, r', h => by
    simp only [List.map_nil, List.map_cons, PySem.W.keyToksAll, List.cons_append, List.nil_append, List.cons.injEq, Sum.inl.injEq] at h
    exact absurd h.1 (by decide)
  | p :: a, q :: b, r, r', h => by
    simp only [List.map_cons, PySem.W.keyToksAll, pairD, PySem.W.keyToks, List.cons_append, List.nil_append, List.append_assoc, List.cons.injEq, Sum.inl.injEq, true_and] at h
    obtain ⟨h1, h2, h3⟩ := h
    have ih := toks_prs a b r r' (by first | exact h3 | exact h3.2)
    refine ⟨?_, ih.2⟩
    rw [ih.1, show p = q from Prod.ext (by omega) (by omega)]
theorem lay_inj {n : Nat} (js ls : List J2) (h : PySem.W.keyToks (layD n js) = PySem.W.keyToks (layD n ls)) : layD n js = layD n ls := by
  rw [lay_eq, lay_eq] at h ⊢
  simp only [PySem.W.keyToks, PySem.W.keyToksAll, List.cons_append, List.nil_append, List.append_assoc, List.cons.injEq, Sum.inl.injEq, true_and] at h
  rw [(toks_prs js ls _ _ h).1]
theorem lays_sort {n : Nat} (h1 : 1 ≤ n) (h3 : n ≤ 3) {l : List (List J2)} (h : l.Perm (allJ n)) : (l.map (layD n)).mergeSort (PySem.W.dataLe false id) = (allJ n).map (layD n) := by
  have e := sort_same (h.map (layD n)) fun a ha b hb e => by
    obtain ⟨js, _, rfl⟩ := List.mem_map.mp ha
    obtain ⟨ls, _, rfl⟩ := List.mem_map.mp hb
    exact lay_inj js ls e
  rw [e]
  exact List.mergeSort_of_pairwise (asc_lays h1 h3)
end K42
-- K42x
set_option Elab.async false
set_option linter.all false
set_option maxRecDepth 100000
set_option maxHeartbeats 8000000
/-! K16x: _law_all -/
namespace K42
open PySem L2 DC LamX
theorem js_dpp {K : PySem.W.Frag} {H : Hp} {us : List V} {js : List J2} (h : Paired (Pr K H) us js) : DpAll K H us (js.map pairD) := js_dp h
theorem lys_dp {K : PySem.W.Frag} {H : Hp} {n : Nat} : ∀ {us : List V} {l : List (List J2)}, Paired (Lyn K H n) us l → DpAll K H us (l.map (layD n))
  | _, _, .nil => .nil
  | _, _, .cons a t => .cons (ly_dp a) (lys_dp t)
theorem dp_lys {K : PySem.W.Frag} {H : Hp} {n : Nat} : ∀ {us : List V} {l : List (List J2)}, DpAll K H us (l.map (layD n)) → Paired (Lyn K H n) us l
  | _, [], h => by
    cases h
    exact .nil
  | _, js :: l, h => by
    rw [List.map_cons] at h
    cases h with
    | cons a t => exact .cons (dp_ly a) (dp_lys t)
def rTupOf (K : PySem.W.Frag) : List V → Hp → VK → Prop := fun xs H Q => ∃ p ys, xs = [V.ref p] ∧ ((SqL K H p ys ∧ ∀ l : Addr, H l = none → Q (V.ref l) (upd H l (HO.tup ys))) ∨ SqT K H p ys ∧ Q (V.ref p) H)
theorem vn_snoc (l : List Nat) (x : Nat) : Vn (l ++ [x]) = Vn l ++ [.int (x : Nat)] := vn_app l [x]
section
variable {P : Program} {w : World} {K : PySem.W.Frag} {mg : Str → Option Value} {base : Heap}
abbrev NAl : List Str := ["links", "found", "end", "longer", "joints_so", "taken", "mate", "joint"]
theorem scAl : FnScope NAl ["links"] (defScope (top 52)) := ⟨rfl, rfl, rfl, by decide +kernel, rfl, by decide +kernel, by decide +kernel⟩
theorem okAl {f : Addr} {fd : FuncData} (F : Fun K "_law_all" "_law_all" (top 52) f fd) (B : Bn mg) : OkF P w K mg base 1 f fd ["links"] (spLys K) := by
  refine ok0 F scAl (fun vs H Q E h => ?_) (fun cdv A outer s H vs Q E hgd hr h => ?_)
  · obtain ⟨n, rfl, _⟩ := h; rfl
  · obtain ⟨n, rfl, h1, h3, q⟩ := h
    have nd := scAl.nd
    obtain ⟨hperm, hbd⟩ := la_ok h1 h3
    refine ⟨_, pss_cons (ps_set (i := 1) nd rfl (.inl rfl) (pe_lst (pa_cons (pe_tup pa_nil) pa_nil)))
      (pss_cons (ps_for PassesOwn.never rfl (pi_range3 (by rfl) B.range (pa_cons (pe_op op_sub (pe_op op_mul pe_int (pv 0)) pe_int) (pa_cons (pe_un un_neg pe_int) (pa_cons (pe_un un_neg pe_int) pa_nil)))) (pg_name (i := 2) nd rfl (.inl rfl))
        (pss_cons (ps_set (i := 3) nd rfl (.inl rfl) (pe_callTy call_list_of (by rfl) B.list (by decide +kernel) (pa_cons (pv 1) pa_nil)))
        (pss_cons (ps_for PassesOwn.never rfl (pi_list (pv 1)) (pg_name (i := 4) nd rfl (.inl rfl))
          (pss_cons (ps_set (i := 5) nd rfl (.inl rfl) (pe_op op_cat
              (pe_lc (own := [("joint", 7)]) (g := gName 7) (tt := tYes) rfl nd (pi_tup (pv 4)) (blkOk_by (N := NAl) (sc := defScope (top 52)) (by decide +kernel)) (fun _ _ _ _ _ => pg_name (i := 7) nd rfl (Or.inl rfl)) (fun _ _ _ _ _ => pts_nil) (fun _ _ _ _ _ => pe_ix (r := rIxT K) ix_tup (pv 7) pe_int (fun _ _ => rfl)))
              (pe_lc (own := [("joint", 7)]) (g := gName 7) (tt := tYes) rfl nd (pi_tup (pv 4)) (blkOk_by (N := NAl) (sc := defScope (top 52)) (by decide +kernel)) (fun _ _ _ _ _ => pg_name (i := 7) nd rfl (Or.inl rfl)) (fun _ _ _ _ _ => pts_nil) (fun _ _ _ _ _ => pe_ix (r := rIxT K) ix_tup (pv 7) pe_int (fun _ _ => rfl)))))
          (pss_one (ps_for PassesOwn.never rfl (pi_range2 (by rfl) B.range (pa_cons (pe_op op_add (pv 2) pe_int) (pa_cons (pe_op op_mul pe_int (pv 0)) pa_nil))) (pg_name (i := 6) nd rfl (.inl rfl))
            (pss_one (ps_if (pt_cmpR (r := rIn K true) op_notIn_seq (pv 6) (pv 5) (by rfl))
              (pss_one (ps_expr (pe_bm PySem.F.plainAttrs_list PySem.F.slot_list_append PySem.F.type_list_append mt_append (pv 3) (pa_cons (pe_op op_catT (pe_tup (pa_cons (pe_tup (pa_cons (pv 2) (pa_cons (pv 6) pa_nil))) pa_nil)) (pv 4)) pa_nil))))
              pss_nil))))))
        (pss_one (ps_set (i := 1) nd rfl (.inl rfl) (pv 3))))))
      (pss_one (ps_ret (pe_callB (cr_sortD hr.units) (by rfl) B.sorted (by decide +kernel) (pa_cons
        (pe_lc (own := [("joints_so", 4)]) (g := gName 4) (tt := tYes) rfl nd (pi_list (pv 1)) (blkOk_by (N := NAl) (sc := defScope (top 52)) (by decide +kernel)) (fun _ _ _ _ _ => pg_name (i := 4) nd rfl (Or.inl rfl)) (fun _ _ _ _ _ => pts_nil)
          (fun _ _ _ _ _ => pe_tup (pa_cons (pv 0) (pa_cons (pe_callTy (r := rTupOf K) (T := "tuple") call_tuple_of (by rfl) B.tuple (by decide +kernel) (pa_cons (pe_callB (r := rSortDT K) (cr_sortDT hr.units) (by rfl) B.sorted (by decide +kernel) (pa_cons (pv 4) pa_nil)) pa_nil)) pa_nil)))) pa_nil))))), ?_⟩
    refine ⟨by show 0 ≤ sizeLine; decide, fun p hp => ⟨by show 1 ≤ sizeLine; decide, fun Fo hF => gn ?_⟩⟩
    have s1 : Same H (upd H p (.tup [])) := Same.new hp
    have s2 := s1.trans (Same.new (o := .lst [.ref p]) hF)
    have hF0 : H Fo = none := s1.free hF
    refine ⟨_, rfl, 2, (n : Int), rfl, rfl, .inl ⟨by decide, by decide⟩, 2 * (n : Int), 1, rfl, rfl, 1, rfl, 1, rfl, 2 * (n : Int) - 1, -1, -1, _, rfl, RgC.neg (by omega) (by omega) (by decide) (by decide), ?_⟩
    rw [show (2 * (n : Int) - 1 - -1).toNat = 2 * n by omega]
    refine for_it (walk_rangeC (lo := 2 * (n : Int) - 1) (c := -1) (n := 2 * n)) (fun i σ H' => ∃ (y2 y3 y4 y5 y6 : Option V) (fa : Addr) (us : List V), σ = [some (.int (n : Nat)), some (.ref fa), y2, y3, y4, y5, y6, none] ∧ Same H H' ∧ H fa = none ∧ H' fa = some (.lst us) ∧ Paired (Js K H') us (LA n i)) ?_ (fun _ _ _ _ _ => trivial) ?_ ?_
    · exact ⟨none, none, none, none, none, Fo, [.ref p], rfl, s2, hF0, upd_same, .cons ⟨p, [], rfl, SqT.of (Same.new (o := .lst [.ref p]) hF _ _ upd_same), .nil⟩ .nil⟩
    · rintro i x σ Hz H2 hi ⟨y2, y3, y4, y5, y6, fa, us, rfl, sm, hfa, hfu, hP⟩ ⟨rfl, ex⟩
      obtain ⟨bl, bs⟩ := hbd i (by omega)
      have bl1 := (hbd (i + 1) (by omega)).1
      have ee : x = V.int ((2 * n - 1 - i : Nat) : Int) := by
        rw [ex]
        show V.int (2 * (n : Int) - 1 + ((i : Nat) : Int) * (-1)) = _
        rw [show 2 * (n : Int) - 1 + ((i : Nat) : Int) * (-1) = ((2 * n - 1 - i : Nat) : Int) by omega]
      have eLA : LA n (i + 1) = LA n i ++ (LA n i).flatMap (exts n (2 * n - 1 - i)) := rfl
      have e24 : 2 * n - 1 - i < 2 * n := by omega
      generalize 2 * n - 1 - i = e at ee eLA e24
      subst ee
      have lu : us.length = (LA n i).length := Paired.length hP
      refine gn ?_
      refine ⟨_, rfl, fa, us, rfl, .inl (SqL.of hfu), fun L hL => gn ?_⟩
      have sL := Same.new (o := .lst us) hL
      have hL0 : H L = none := sm.free hL
      have nLf : fa ≠ L := ne_of_none hfu hL
      refine ⟨_, rfl, fa, rfl, ⟨_, SqL.of (sL _ _ hfu)⟩, ?_⟩
      refine for_it (walk_list (xs := us)) (fun j σ H' => ∃ (y4 y5 y6 : Option V) (ls : List V), σ = [some (.int (n : Nat)), some (.ref fa), some (.int (e : Nat)), some (.ref L), y4, y5, y6, none] ∧ Same H H' ∧ H' fa = some (.lst us) ∧ H' L = some (.lst ls) ∧ Paired (Js K H') us (LA n i) ∧ Paired (Js K H') ls (LA n i ++ ((LA n i).take j).flatMap (exts n e))) ?_ ?_ ?_ ?_
      · refine ⟨y4, y5, y6, us, rfl, sm.trans sL, sL _ _ hfu, upd_same, (TM.of sL).jss hP, ?_⟩
        show Paired _ us (LA n i ++ [])
        rw [List.append_nil]
        exact (TM.of sL).jss hP
      · rintro j σ H' hj ⟨_, _, _, _, rfl, _, h, _⟩
        exact SqL.of h
      · rintro j x σ Hy H3 hj ⟨y4, y5, y6, ls, rfl, sm3, hfu3, hL3, hP3, hQ3⟩ ⟨rfl, ex⟩
        obtain ⟨js, ejs, hx⟩ := paired_at hP3 ex
        have jl : js.length ≤ 3 := bs js (List.mem_of_getElem? ejs)
        obtain ⟨t, ws, rfl, hS, hW⟩ := id hx
        have lw : ws.length = js.length := Paired.length hW
        have tk1 : (LA n i).take (j + 1) = (LA n i).take j ++ [js] := take_next ejs
        have bnd : (LA n i ++ ((LA n i).take j).flatMap (exts n e) ++ exts n e js).length ≤ 76 := by
          refine Nat.le_trans ?_ bl1
          rw [eLA, List.length_append, List.length_append, List.length_append]
          have : ((LA n i).flatMap (exts n e)).length = (((LA n i).take (j + 1)).flatMap (exts n e)).length + (((LA n i).drop (j + 1)).flatMap (exts n e)).length := by
            rw [← List.length_append, ← List.flatMap_append, List.take_append_drop]
          rw [this, tk1, List.flatMap_append, List.length_append]
          simp only [List.flatMap_cons, List.flatMap_nil, List.append_nil]
          omega
        refine gn ?_
        refine ⟨_, rfl, t, rfl, ⟨_, hS⟩, fun D1 hD1 => ?_⟩
        refine lc_it (walk_tup (xs := ws)) (fun k H' => Same H3 H' ∧ H' D1 = some (.lst (Vn ((js.take k).map fun p => p.1)))) ⟨Same.new hD1, upd_same⟩ (fun k H' _ hp => Same.t hp.1 hS) ?_ ?_
        · rintro k x Ha Hb hk ⟨sm4, hA⟩ ⟨rfl, exx⟩
          obtain ⟨p, ep, tp, rfl, htp⟩ := pair_at hW exx
          refine ⟨rfl, ?_⟩
          refine yesT ?_
          refine ⟨_, rfl, tp, _, 0, .int (p.1 : Nat), rfl, rfl, Same.t sm4 htp, at_of (j := 0) rfl rfl, _, hA, ?_, same_put sm4 hD1, ?_⟩
          · rw [Vn_len, List.length_map]
            exact Nat.lt_of_le_of_lt (Nat.le_trans (List.length_take_le' _ _) jl) (by decide)
          · rw [upd_same, take_next ep, List.map_append, List.map_cons, List.map_nil, vn_snoc]
        rintro H4 ⟨s4, hA4⟩
        rw [lw, List.take_of_length_le (Nat.le_refl _)] at hA4
        refine ⟨_, rfl, t, rfl, ⟨_, Same.t s4 hS⟩, fun D2 hD2 => ?_⟩
        refine lc_it (walk_tup (xs := ws)) (fun k H' => Same H4 H' ∧ H' D2 = some (.lst (Vn ((js.take k).map fun p => p.2)))) ⟨Same.new hD2, upd_same⟩ (fun k H' _ hp => Same.t (s4.trans hp.1) hS) ?_ ?_
        · rintro k x Ha Hb hk ⟨sm4, hA⟩ ⟨rfl, exx⟩
          obtain ⟨p, ep, tp, rfl, htp⟩ := pair_at hW exx
          refine ⟨rfl, ?_⟩
          refine yesT ?_
          refine ⟨_, rfl, tp, _, 1, .int (p.2 : Nat), rfl, rfl, Same.t (s4.trans sm4) htp, at_of (j := 1) rfl rfl, _, hA, ?_, same_put sm4 hD2, ?_⟩
          · rw [Vn_len, List.length_map]
            exact Nat.lt_of_le_of_lt (Nat.le_trans (List.length_take_le' _ _) jl) (by decide)
          · rw [upd_same, take_next ep, List.map_append, List.map_cons, List.map_nil, vn_snoc]
        rintro H5 ⟨s5, hA5⟩
        rw [lw, List.take_of_length_le (Nat.le_refl _)] at hA5
        refine ⟨D1, D2, _, _, rfl, rfl, s5 _ _ hA4, hA5, ?_, fun tk htk => gn ?_⟩
        · rw [Vn_len, Vn_len, List.length_map, List.length_map]
          exact Nat.le_trans (show js.length + js.length ≤ 6 by omega) (by decide)
        rw [← vn_app]
        have s6 := Same.new (o := .lst (Vn (js.map (fun p => p.1) ++ js.map (fun p => p.2)))) htk
        have s36 := s4.trans (s5.trans s6)
        have nLt : L ≠ tk := ne_of_none ((s4.trans s5) _ _ hL3) htk
        have hfu6 := s36 _ _ hfu3
        have hL6 := s36 _ _ hL3
        have hP6 := (TM.of s36).jss hP3
        have hQ6 := (TM.of s36).jss hQ3
        have hS6 := Same.t s36 hS
        have hW6 := (TM.of s36).prs hW
        have htk6 := upd_same (H := H5) (a := tk) (o := .lst (Vn (js.map (fun p => p.1) ++ js.map (fun p => p.2))))
        have sm6 := sm3.trans s36
        have htk0 : H tk = none := (sm3.trans (s4.trans s5)).free htk
        generalize upd H5 tk (.lst (Vn (js.map (fun p => p.1) ++ js.map (fun p => p.2)))) = H6 at hfu6 hL6 hP6 hQ6 hS6 hW6 htk6 sm6 ⊢
        have flat : (Vn (tkJ js)).all flatV = true := flat_Vn _
        refine ⟨_, rfl, ((e : Nat) : Int), 1, rfl, rfl, _, rfl, 2, (n : Int), rfl, rfl, .inl ⟨by decide, by decide⟩, _, _, rfl, ⟨by omega, by omega, by omega, by omega⟩, ?_⟩
        rw [show (2 * (n : Int) - (((e : Nat) : Int) + 1)).toNat = 2 * n - (e + 1) by omega]
        refine for_it (walk_range (lo := ((e : Nat) : Int) + 1) (n := 2 * n - (e + 1))) (fun d σ H' => ∃ (y6 : Option V) (ls : List V), σ = [some (.int (n : Nat)), some (.ref fa), some (.int (e : Nat)), some (.ref L), some (.ref t), some (.ref tk), y6, none] ∧ Same H H' ∧ H' fa = some (.lst us) ∧ H' L = some (.lst ls) ∧ H' tk = some (.lst (Vn (tkJ js))) ∧ SqT K H' t ws ∧ Paired (Pr K H') ws js ∧ Paired (Js K H') us (LA n i) ∧
          Paired (Js K H') ls (LA n i ++ ((LA n i).take j).flatMap (exts n e) ++ extD e d js)) ?_ (fun _ _ _ _ _ => trivial) ?_ ?_
        · refine ⟨y6, ls, rfl, sm6, hfu6, hL6, htk6, hS6, hW6, hP6, ?_⟩
          show Paired _ ls (_ ++ [])
          rw [List.append_nil]
          exact hQ6
        · rintro d x σ Hw H7 hd ⟨y6, ls, rfl, sm7, hfu7, hL7, htk7, hS7, hW7, hP7, hQ7⟩ ⟨rfl, ex⟩
          obtain rfl : x = V.int ((e + 1 + d : Nat) : Int) := by
            rw [ex]
            congr 1
          have ll : ls.length ≤ 76 := by
            have := Paired.length hQ7
            rw [this]
            refine Nat.le_trans ?_ bnd
            rw [List.length_append, List.length_append (as := LA n i ++ ((LA n i).take j).flatMap (exts n e))]
            have : (extD e d js).length ≤ (exts n e js).length := by
              unfold exts
              have gen : ∀ k, (extD e d js).length ≤ (extD e (d + k) js).length := by
                intro k
                induction k with
                | zero => exact Nat.le_refl _
                | succ k ih =>
                  rw [← Nat.add_assoc, extD_succ, List.length_append]
                  omega
              have := gen (2 * n - (e + 1) - d)
              rw [show d + (2 * n - (e + 1) - d) = 2 * n - (e + 1) by omega] at this
              exact this
            omega
          refine gn ?_
          refine ⟨_, rfl, _, rfl, tk, _, rfl, .inl (SqL.of htk7), rfl, flat, _, rfl, ?_⟩
          show if (!inV (V.int ((e + 1 + d : Nat) : Int)) (Vn (tkJ js))) = true then _ else _
          rw [in_row, extD_succ]
          by_cases c : e + 1 + d ∈ tkJ js
          · rw [decide_eq_true c, if_pos c, List.append_nil]
            exact iteF ⟨_, ls, rfl, sm7, hfu7, hL7, htk7, hS7, hW7, hP7, hQ7⟩
          · rw [decide_eq_false c, if_neg c]
            refine iteT ⟨_, rfl, .inl ⟨rfl, _, SqL.of hL7⟩, ?_⟩
            refine ⟨_, rfl, _, rfl, by show 2 ≤ sizeLine; decide, fun T1 hT1 => ⟨by show 1 ≤ sizeLine; decide, fun T2 hT2 => ?_⟩⟩
            have u1 := Same.new (o := .tup [.int (e : Nat), .int ((e + 1 + d : Nat) : Int)]) hT1
            have u2 := Same.new (o := .tup [.ref T1]) hT2
            have u12 := u1.trans u2
            have b1 : SqT K (upd (upd H7 T1 (.tup [.int (e : Nat), .int ((e + 1 + d : Nat) : Int)])) T2 (.tup [.ref T1])) T1 [.int (e : Nat), .int ((e + 1 + d : Nat) : Int)] := SqT.of (u2 _ _ upd_same)
            have b2 : SqT K (upd (upd H7 T1 (.tup [.int (e : Nat), .int ((e + 1 + d : Nat) : Int)])) T2 (.tup [.ref T1])) T2 [.ref T1] := SqT.of upd_same
            generalize upd (upd H7 T1 (.tup [.int (e : Nat), .int ((e + 1 + d : Nat) : Int)])) T2 (.tup [.ref T1]) = H8 at u12 b1 b2
            have fin : ∀ (T : Addr) (H9 : Hp), Same H8 H9 → SqT K H9 T (.ref T1 :: ws) → ∃ acc, H9 L = some (.lst acc) ∧ acc.length < sizeLine ∧ ∃ (y6 : Option V) (ls : List V), [some (V.int (n : Nat)), some (.ref fa), some (.int (e : Nat)), some (.ref L), some (.ref t), some (.ref tk), some (.int ((e + 1 + d : Nat) : Int)), none] = [some (V.int (n : Nat)), some (.ref fa), some (.int (e : Nat)), some (.ref L), some (.ref t), some (.ref tk), y6, none] ∧ Same H (upd H9 L (.lst (acc ++ [.ref T]))) ∧ upd H9 L (.lst (acc ++ [.ref T])) fa = some (.lst us) ∧ upd H9 L (.lst (acc ++ [.ref T])) L = some (.lst ls) ∧ upd H9 L (.lst (acc ++ [.ref T])) tk = some (.lst (Vn (tkJ js))) ∧ SqT K (upd H9 L (.lst (acc ++ [.ref T]))) t ws ∧ Paired (Pr K (upd H9 L (.lst (acc ++ [.ref T])))) ws js ∧ Paired (Js K (upd H9 L (.lst (acc ++ [.ref T])))) us (LA n i) ∧
                Paired (Js K (upd H9 L (.lst (acc ++ [.ref T])))) ls (LA n i ++ ((LA n i).take j).flatMap (exts n e) ++ (extD e d js ++ [(e, e + 1 + d) :: js])) := by
              intro T H9 s9 hT9
              have u9 := u12.trans s9
              have hL9 := u9 _ _ hL7
              have tm := (TM.of (K := K) u9).trans (TM.put (o := .lst (ls ++ [.ref T])) hL9)
              have tm8 := (TM.of (K := K) s9).trans (TM.put (o := .lst (ls ++ [.ref T])) hL9)
              refine ⟨ls, hL9, Nat.lt_of_le_of_lt ll (by decide), _, ls ++ [.ref T], rfl, same_put (sm7.trans u9) hL0, ?_, upd_same, ?_, tm.t hS7, tm.prs hW7, tm.jss hP7, ?_⟩
              · rw [upd_ne nLf]
                exact u9 _ _ hfu7
              · rw [upd_ne (Ne.symm nLt)]
                exact u9 _ _ htk7
              · rw [← List.append_assoc]
                exact pair_snoc (tm.jss hQ7) ⟨T, _, rfl, (TM.put hL9).t hT9, .cons ⟨T1, rfl, tm8.t b1⟩ (tm.prs hW7)⟩
            refine ⟨_, rfl, T2, t, [.ref T1], ws, rfl, rfl, b2, Same.t u12 hS7, by simp, ?_, fun he => ?_, fun _ T hT => ?_⟩
            · exact Nat.le_trans (show 1 + ws.length ≤ 4 by omega) (by decide)
            · subst he
              obtain ⟨acc, e1, e2, e3⟩ := fin T2 H8 (fun _ _ h => h) b2
              exact ⟨L, acc, _, rfl, rfl, e1, e2, e3⟩
            · have u3 := Same.new (o := .tup ([.ref T1] ++ ws)) hT
              obtain ⟨acc, e1, e2, e3⟩ := fin T _ u3 (SqT.of upd_same)
              exact ⟨L, acc, _, rfl, rfl, e1, e2, e3⟩
        · rintro σ H7 ⟨y6, ls, rfl, sm7, hfu7, hL7, htk7, hS7, hW7, hP7, hQ7⟩
          refine ⟨_, _, y6, ls, rfl, sm7, hfu7, hL7, hP7, ?_⟩
          rw [tk1, List.flatMap_append, ← List.append_assoc]
          simp only [List.flatMap_cons, List.flatMap_nil, List.append_nil]
          exact hQ7
      · rintro σ H7 ⟨y4, y5, y6, ls, rfl, sm7, hfu7, hL7, hP7, hQ7⟩
        rw [lu, List.take_of_length_le (Nat.le_refl _), ← eLA] at hQ7
        refine ⟨_, rfl, gn ?_⟩
        exact ⟨_, _, y4, y5, y6, L, ls, rfl, sm7, hL0, hL7, hQ7⟩
    · rintro σ H7 ⟨y2, y3, y4, y5, y6, fa, us, rfl, sm, hfa, hfu, hP⟩
      have lu : us.length = (LA n (2 * n)).length := Paired.length hP
      have bl := (hbd (2 * n) (Nat.le_refl _)).1
      refine ⟨_, rfl, fa, rfl, ⟨_, SqL.of hfu⟩, fun D hD => ?_⟩
      refine lc_it (walk_list (xs := us)) (fun j H' => ∃ acc : List V, Same H7 H' ∧ H' D = some (.lst acc) ∧ acc.length = j ∧ Paired (Lyn K H' n) acc ((LA n (2 * n)).take j)) ⟨[], Same.new hD, upd_same, rfl, .nil⟩ (fun j H' _ hp => ?_) ?_ ?_
      · obtain ⟨acc, s, _⟩ := hp
        exact SqL.of (s _ _ hfu)
      · rintro j x Ha Hb hj ⟨acc, s8, hA, al, hPA⟩ ⟨rfl, ex⟩
        obtain ⟨js, ejs, hx⟩ := paired_at hP ex
        have hjm := hperm.mem_iff.mp (List.mem_of_getElem? ejs)
        obtain ⟨t, ws, rfl, hS, hW⟩ := hx.up s8
        refine ⟨rfl, ?_⟩
        refine yesT ?_
        refine ⟨_, rfl, _, rfl, t, ws, js.map pairD, rfl, hS, js_dpp hW, pairs_alike js js, pairs_sortable js, pairs_depth js, fun ys p3 pm hy hp3 => ?_⟩
        rw [prs_sort h1 h3 hjm] at hy
        have u1 := Same.new (o := .lst ys) hp3
        refine ⟨p3, ys, rfl, .inl ⟨SqL.of upd_same, fun T1 hT1 => ?_⟩⟩
        have u2 := Same.new (o := .tup ys) hT1
        refine ⟨by show 2 ≤ sizeLine; decide, fun T2 hT2 => ?_⟩
        have u3 := Same.new (o := .tup [.int (n : Nat), .ref T1]) hT2
        have u := u1.trans (u2.trans u3)
        have hA2 := u _ _ hA
        refine ⟨acc, hA2, by rw [al]; show j < 16777216; omega, acc ++ [.ref T2], same_put (s8.trans u) hD, upd_same, by rw [List.length_append, al]; rfl, ?_⟩
        rw [take_next ejs]
        exact pair_snoc (((TM.of u).trans (TM.put hA2)).lys hPA) ⟨T2, .ref T1, rfl, (TM.put hA2).t (SqT.of upd_same), T1, ys, rfl, (TM.put hA2).t (SqT.of (u3 _ _ upd_same)), ((TM.of u).trans (TM.put hA2)).prs (dp_prs hy)⟩
      · rintro H8 ⟨acc, s8, hA, al, hPA⟩
        rw [lu, List.take_of_length_le (Nat.le_refl _)] at hPA
        refine ⟨D, acc, _, rfl, SqL.of hA, lys_dp hPA, lays_alike n _, lays_sortable n _, lays_depth n _, fun ys p9 pm hy hp9 => ?_⟩
        rw [lays_sort h1 h3 hperm] at hy
        have u := Same.new (o := .lst ys) hp9
        exact q p9 ys _ (sm.trans (s8.trans u)) ((sm.trans s8).free hp9) upd_same ((TM.of u).lys (dp_lys hy))
end
end K42
-- DRev
set_option Elab.async false
set_option linter.all false
set_option maxRecDepth 100000
set_option maxHeartbeats 4000000
/-! DRev: t[::-1] of a tuple of two. -/
namespace DC
open PySem PySem.Spec PyProof.Rows L2 Evl
theorem sliceApplied_rev2 {prog : Program} {w : World} {A : Around} {E : Value → Shared → Prop} {s : Shared} {sl : Addr} {vl vu vs : Value} {Q : Int × Int × Nat → Shared → Prop}
    (hs : s.heap.IsSliceOf sl vl vu vs) (pl : IsPart vl none) (pu : IsPart vu none) (ps : IsPart vs (some (-1))) (q : Q (1, -1, 2) s) :
    wpAny (model prog w) A (Builtin.Slice.sliceApplied (.ref sl) (pure ((2 : Nat) : Int))) Q E s := by
  obtain ⟨os, hos, hcs, hds⟩ := hs
  unfold Builtin.Slice.sliceApplied Builtin.Slice.sliceFields
  refine wpAny_bind (wpAny_bind (wpAny_field hos hds rfl (wpAny_bind (wpAny_field hos hds rfl (wpAny_bind (wpAny_field hos hds rfl (wpAny_pure ?_)))))))
  refine wpAny_bind (HT.slicePart_ ps ?_)
  dsimp only
  rw [if_neg (by decide)]
  refine wpAny_bind (HT.slicePart_ pl (wpAny_bind (HT.slicePart_ pu (wpAny_bind (wpAny_pure ?_)))))
  exact wpAny_pure q
theorem getItem_tuple_rev2 {prog : Program} {w : World} {A : Around} {E : Value → Shared → Prop} {s : Shared} {t sl : Addr} {x y : Value} {vl vu vs : Value} {Q : Value → Shared → Prop}
    (ht : IsTup s.heap t #[x, y]) (hs : s.heap.IsSliceOf sl vl vu vs) (pl : IsPart vl none) (pu : IsPart vu none) (ps : IsPart vs (some (-1)))
    (q : Q (Value.ref s.heap.objs.size) { heap := s.heap.push { cls := Value.type "tuple", data := Data.seq #[y, x] }, gens := s.gens, drawn := s.drawn, toks := s.toks, os := s.os }) :
    wpAny (model prog w) A (getItem (Value.ref t) (Value.ref sl)) Q E s := by
  obtain ⟨os, hos, hcs, hds⟩ := id hs
  refine wpAny_holding (wpAny_bind (wpAny_sequenceKey ht.typeIs (by decide) ?_))
  refine wpAny_bind (wpAny_callSpecial?_slot ht.typeIs slot_tuple_getitem (wpAny_call_entry slot_tuple_getitem ht.typeIs entry_tuple_getitem ?_ (args_tuple_getitem (Value.ref t) (Value.ref sl))))
  show wpAny _ _ (Builtin.Tuple.tupleItemsOf (.ref t) >>= _) _ _ _
  refine wpAny_bind (tupleItemsOf_ ht ?_)
  refine wpAny_bind (wpAny_typeOf (v := .ref sl) (T := "slice") (show ∃ o, _ from ⟨os, hos, hcs⟩) ?_)
  rw [if_pos (by decide)]
  refine wpAny_bind (sliceApplied_rev2 hs pl pu ps ?_)
  dsimp only
  rw [if_neg (by show ¬ (false = true); decide)]
  refine wpAny_bind (wpAny_newObj_type ?_ (by show 2 ≤ sizeLine; decide))
  exact wpAny_pure ⟨_, rfl, wpAny_pure q⟩
def tRevT (K : PySem.W.Frag) (te : TE) : TE := fun σ H Q => te σ H fun x H1 => ∃ (a : Addr) (u v : V), x = V.ref a ∧ SqT K H1 a [u, v] ∧ ∀ p : Addr, H1 p = none → Q (V.ref p) (upd H1 p (HO.tup [v, u]))
theorem pe_revT {X : Cx} {e : Expr} {te : TE} {k : Nat} {p1 p2 p3 pos : Pos} (he : PE X e te) : PE X (.Subscript e (.Slice none none (some (.UnaryOp .USub (.Constant (.int 1) k p1) p2)) p3) pos) (tRevT X.K te) := by
  constructor
  intro pins s σ H Q I h
  refine Subscript_ (thn (he.run pins s σ H _ I h) ?_)
  rintro v s1 ⟨x, H1, I1, r1, a, u, z, rfl, hx, q⟩
  cases r1
  refine wpAny_Slice (thn (po_none.run pins s1 σ H1 (fun o H2 => o = none ∧ H2 = H1) I1 ⟨rfl, rfl⟩) ?_)
  rintro vl s2 ⟨l, H2, I2, pl, rfl, rfl⟩
  refine thn (po_none.run pins s2 σ H2 (fun o H3 => o = none ∧ H3 = H2) I2 ⟨rfl, rfl⟩) ?_
  rintro vu s3 ⟨l', H3, I3, pu, rfl, rfl⟩
  refine thn ((po_some (pe_un un_neg pe_int)).run pins s3 σ H3 (fun o H4 => o = some (-1) ∧ H4 = H3) I3 ⟨1, rfl, -1, rfl, rfl, rfl⟩) ?_
  rintro vs s4 ⟨o, H4, I4, ps, rfl, rfl⟩
  have I5 := Inv.kept (t' := s4.toks) I4 (fun b ob q => Heap.get?_push_of_some { cls := Value.type "slice", data := Data.fields #[vl, vu, vs] } q)
  obtain ⟨its, r, ht, hz⟩ := I5.tuple hx
  cases r with
  | cons ra r =>
    cases r with
    | cons rb r =>
      cases r
      refine tail_any (T := "tuple") ht.typeIs slot_tuple_getitem.lookup (getItem_tuple_rev2 ht (Heap.IsSliceOf.new _ _ _ _) pl pu ps ?_) rfl
      exact ⟨V.ref _, upd H4 _ (.tup [z, u]), Inv.laid (t' := s4.toks) I5 (fun b ob q => Heap.get?_push_of_some _ q) (Nat.le_refl _) ⟨by show 2 ≤ sizeLine; decide, [_, _], .cons rb (.cons ra .nil), IsTup.new _ _⟩, rfl, q _ (HOk.fresh I5.hok (Nat.le_refl _))⟩
end DC
-- K42ya
set_option Elab.async false
set_option linter.all false
set_option maxRecDepth 100000
set_option maxHeartbeats 4000000
/-! K16ya: steps as data -/
namespace K42
open PySem L2 DC LamX
abbrev Stp2 := List J2 × List J2
def stD (s : Stp2) : PyData := .tuple [.tuple (s.1.map pairD), .tuple (s.2.map pairD)]
def Stp (K : PySem.W.Frag) (H : Hp) (v : V) (s : Stp2) : Prop := ∃ t a b, v = .ref t ∧ SqT K H t [a, b] ∧ Js K H a s.1 ∧ Js K H b s.2
section
variable {K : PySem.W.Frag} {H H' H0 : Hp} {v : V}
theorem TM.stp (e : TM K H H') {s : Stp2} : Stp K H v s → Stp K H' v s
  | ⟨t, a, b, q, h, h1, h2⟩ => ⟨t, a, b, q, e.t h, e.js h1, e.js h2⟩
theorem TM.stps (e : TM K H H') {us : List V} {l : List Stp2} (h : Paired (Stp K H) us l) : Paired (Stp K H') us l := L2.Paired.mapP h fun _ _ z => e.stp z
theorem jsD_dp {js : List J2} : Js K H v js → Dp K H v (.tuple (js.map pairD))
  | ⟨t, ws, q, h, r⟩ => by
    subst q
    exact Dp.tup h (js_dpp r)
theorem stp_dp {s : Stp2} : Stp K H v s → Dp K H v (stD s)
  | ⟨t, a, b, q, h, h1, h2⟩ => by
    subst q
    exact Dp.tup h (.cons (jsD_dp h1) (.cons (jsD_dp h2) .nil))
theorem stps_dp : ∀ {us : List V} {l : List Stp2}, Paired (Stp K H) us l → DpAll K H us (l.map stD)
  | _, _, .nil => .nil
  | _, _, .cons a t => .cons (stp_dp a) (stps_dp t)
theorem dp_jsD {js : List J2} (h : Dp K H v (.tuple (js.map pairD))) : Js K H v js := by
  cases h with
  | tup hS a => exact ⟨_, _, rfl, hS, dp_prs a⟩
theorem dp_stp {s : Stp2} (h : Dp K H v (stD s)) : Stp K H v s := by
  obtain ⟨t, x, y, rfl, hS, h1, h2⟩ := dp_tup2 h
  exact ⟨t, x, y, rfl, hS, dp_jsD h1, dp_jsD h2⟩
theorem dp_stps : ∀ {us : List V} {l : List Stp2}, DpAll K H us (l.map stD) → Paired (Stp K H) us l
  | _, [], h => by
    cases h
    exact .nil
  | _, s :: l, h => by
    rw [List.map_cons] at h
    cases h with
    | cons a t => exact .cons (dp_stp a) (dp_stps t)
/-- the list of steps made so far, at L -/
structure FI (K : PySem.W.Frag) (H0 H' : Hp) (L : Addr) (l : List Stp2) (B : Nat) : Prop where
  sm : Same H0 H'
  ex : ∃ us, H' L = some (.lst us) ∧ Paired (Stp K H') us l ∧ us.length ≤ B
theorem FI.up {L : Addr} {l : List Stp2} {B : Nat} (f : FI K H0 H L l B) (s : Same H H') : FI K H0 H' L l B := by
  obtain ⟨us, h, p, b⟩ := f.ex
  exact ⟨f.sm.trans s, us, s _ _ h, (TM.of s).stps p, b⟩
theorem FI.mono {L : Addr} {l : List Stp2} {B B' : Nat} (f : FI K H0 H L l B) (s : B ≤ B') : FI K H0 H L l B' := by
  obtain ⟨us, h, p, b⟩ := f.ex
  exact ⟨f.sm, us, h, p, Nat.le_trans b s⟩
theorem FI.put {L : Addr} {l : List Stp2} {B : Nat} {st : Stp2} {us : List V} (f : FI K H0 H L l B) (h0 : H0 L = none) (hL : H L = some (.lst us)) (hs : Stp K H v st) : FI K H0 (upd H L (.lst (us ++ [v]))) L (l ++ [st]) (B + 1) := by
  obtain ⟨us', h, p, b⟩ := f.ex
  rw [hL] at h
  obtain rfl : us = us' := by
    injection h with h
    injection h
  refine ⟨same_put f.sm h0, _, upd_same, pair_snoc ((TM.put hL).stps p) ((TM.put hL).stp hs), ?_⟩
  rw [List.length_append, List.length_singleton]
  omega
end
theorem st_alike (l : List Stp2) : PySem.W.AllAlike (l.map stD) := by
  intro d hd d' hd'
  obtain ⟨js, _, rfl⟩ := List.mem_map.mp hd
  obtain ⟨ls, _, rfl⟩ := List.mem_map.mp hd'
  unfold stD
  simp only [PySem.W.alike, PySem.W.alikeAll, alikeAll_pairs, Bool.and_self]
theorem st_sortable (l : List Stp2) : PySem.W.Sortable (l.map stD) := by
  refine .inl fun d hd => ?_
  obtain ⟨p, _, rfl⟩ := List.mem_map.mp hd
  exact ⟨_, _, rfl⟩
theorem st_depth (l : List Stp2) : ∀ d ∈ l.map stD, d.depth ≤ 60 := by
  intro d hd
  obtain ⟨s, _, rfl⟩ := List.mem_map.mp hd
  unfold stD
  have h1 := depth_pairs s.1
  have h2 := depth_pairs s.2
  simp only [PyData.depth, PyData.depthAll]
  omega
theorem st_sorted (l : List Stp2) : (l.map stD).mergeSort (PySem.W.dataLe false id) = (l.mergeSort (PySem.W.dataLe false stD)).map stD :=
  (List.map_mergeSort (r := PySem.W.dataLe false stD) (s := PySem.W.dataLe false id) (f := stD) (l := l) (fun a _ b _ => rfl)).symm
/-! two numbers, two pairs, sorted -/
theorem two_int {ns : List Int} {a c : Nat} (p : ns.Perm [((a : Nat) : Int), ((c : Nat) : Int)]) (h : ns.Pairwise (· ≤ ·)) : ns = [((min a c : Nat) : Int), ((max a c : Nat) : Int)] := by
  have q : ns.Perm [((min a c : Nat) : Int), ((max a c : Nat) : Int)] := by
    refine p.trans ?_
    by_cases z : a ≤ c
    · rw [Nat.min_eq_left z, Nat.max_eq_right z]
    · rw [Nat.min_eq_right (by omega), Nat.max_eq_left (by omega)]
      exact List.Perm.swap _ _ _
  refine List.Perm.eq_of_pairwise (le := (· ≤ ·)) (fun a b _ _ h1 h2 => Int.le_antisymm h1 h2) h ?_ q
  refine List.pairwise_cons.mpr ⟨fun x hx => ?_, List.pairwise_singleton _ _⟩
  obtain rfl := List.mem_singleton.mp hx
  omega
theorem le6 : ∀ a < 8, ∀ b < 8, ∀ c < 8, ∀ d < 8, a < c → PySem.W.dataLe false id (pairD (a, b)) (pairD (c, d)) = true := by decide +kernel
theorem pair_inj (p q : J2) (h : PySem.W.keyToks (pairD p) = PySem.W.keyToks (pairD q)) : pairD p = pairD q := by
  have := toks_prs [p] [q] [] [] (by
    simp only [List.map_cons, List.map_nil, PySem.W.keyToksAll, h])
  rw [(List.cons.inj this.1).1]
theorem two_sort {p q : J2} (h : p.1 ≠ q.1) (b1 : p.1 < 8 ∧ p.2 < 8) (b2 : q.1 < 8 ∧ q.2 < 8) : ([p, q].map pairD).mergeSort (PySem.W.dataLe false id) = (sm2 p q).map pairD := by
  have e : ([p, q].map pairD).Perm ((sm2 p q).map pairD) := by
    refine List.Perm.map _ ?_
    unfold sm2
    by_cases c : p.1 < q.1
    · rw [if_pos c]
    · rw [if_neg c]
      exact List.Perm.swap _ _ _
  rw [sort_same e fun a ha b hb e => by
    obtain ⟨js, _, rfl⟩ := List.mem_map.mp ha
    obtain ⟨ls, _, rfl⟩ := List.mem_map.mp hb
    exact pair_inj js ls e]
  refine List.mergeSort_of_pairwise ?_
  unfold sm2
  by_cases c : p.1 < q.1
  · rw [if_pos c]
    refine List.pairwise_cons.mpr ⟨fun x hx => ?_, List.pairwise_singleton _ _⟩
    obtain rfl := List.mem_singleton.mp hx
    exact le6 _ b1.1 _ b1.2 _ b2.1 _ b2.2 c
  · rw [if_neg c]
    refine List.pairwise_cons.mpr ⟨fun x hx => ?_, List.pairwise_singleton _ _⟩
    obtain rfl := List.mem_singleton.mp hx
    exact le6 _ b2.1 _ b2.2 _ b1.1 _ b1.2 (by omega)
end K42
-- K42y
set_option Elab.async false
set_option linter.all false
set_option maxRecDepth 100000
set_option maxHeartbeats 8000000
/-! K16y: _law_steps -/
namespace K42
open PySem L2 DC LamX
theorem val_none {js : List J2} {kvs : List (Key × V)} (m : MtD js kvs) (e : Nat) : (!(valV kvs (.inl ((e : Nat) : Int))).isSome) = (mt js e).isNone := by
  rw [m e]
  cases mt js e <;> rfl
def kdV (a : Nat) : Option V := if a = 1 then some (.str "odd") else if a = 2 then some (.str "open") else if a = 0 then some (.str "shut") else none
theorem imin (a b : Nat) : (if ((b : Nat) : Int) < ((a : Nat) : Int) then ((b : Nat) : Int) else ((a : Nat) : Int)) = ((min a b : Nat) : Int) := by
  split <;> omega
theorem imax (a b : Nat) : (if ((b : Nat) : Int) > ((a : Nat) : Int) then ((b : Nat) : Int) else ((a : Nat) : Int)) = ((max a b : Nat) : Int) := by
  split <;> omega
def pre1 (n : Nat) (js : List J2) (i : Nat) : List Stp2 := (List.range i).flatMap fun k => stAt n js k (js.getD k (0, 0))
def pre2 (fr : List Nat) (i : Nat) : List Stp2 := (List.range i).flatMap fun k => (fr.drop (k + 1)).map fun b => ([], [(fr.getD k 0, b)])
theorem pre1_succ (n : Nat) (js : List J2) (i : Nat) : pre1 n js (i + 1) = pre1 n js i ++ stAt n js i (js.getD i (0, 0)) := by
  unfold pre1
  rw [List.range_succ, List.flatMap_append]
  simp only [List.flatMap_cons, List.flatMap_nil, List.append_nil]
theorem pre2_succ (fr : List Nat) (i : Nat) : pre2 fr (i + 1) = pre2 fr i ++ (fr.drop (i + 1)).map fun b => ([], [(fr.getD i 0, b)]) := by
  unfold pre2
  rw [List.range_succ, List.flatMap_append]
  simp only [List.flatMap_cons, List.flatMap_nil, List.append_nil]
def sA (p : J2) (e : Nat) (near : Nat) : Stp2 := ([p], [mk2 near e])
def sB (p q : J2) (s : J2) : Stp2 := ([p, q], sm2 (mk2 p.1 s.1) (mk2 p.2 s.2))
theorem stAt_eq (n : Nat) (js : List J2) (k : Nat) (p : J2) : stAt n js k p = ([p], []) :: ((frees n js).flatMap fun e => [p.1, p.2].map (sA p e)) ++ (js.drop (k + 1)).flatMap fun q => [(q.1, q.2), (q.2, q.1)].map (sB p q) := rfl
section
variable {P : Program} {w : World} {K : PySem.W.Frag} {mg : Str → Option Value} {base : Heap}
def spSteps (K : PySem.W.Frag) : Sp := fun vs H Q _ => ∃ (v : V) (n : Nat) (js : List J2), vs = [v] ∧ Ly K H v n js ∧ Good n js ∧ n ≤ 4 ∧
  ∀ (r : Addr) (us : List V) (sts : List Stp2) (H' : Hp), Same H H' → H r = none → H' r = some (.lst us) → Paired (Stp K H') us sts → sts.Perm (stJ n js) → us.length ≤ 300 → Q (.ref r) H'
abbrev NSt : List Str := ["lay", "known", "end", "loose", "found", "k", "joint", "near", "other", "swap", "made", "far"]
theorem scSt : FnScope NSt ["lay"] (defScope (top 50)) := ⟨rfl, rfl, rfl, by decide +kernel, rfl, by decide +kernel, by decide +kernel⟩
theorem okSt {f fM : Addr} {fd fdM : FuncData} (F : Fun K "_law_steps" "_law_steps" (top 50) f fd) (B : Bn mg)
    (DM' : Df K mg "_law_mates" fM fdM ["lay"]) (GM : OkF P w K mg base 1 fM fdM ["lay"] (spLm K)) : OkF P w K mg base 2 f fd ["lay"] (spSteps K) := by
  refine ok0 F scSt (fun vs H Q E h => ?_) (fun cdv A outer s H vs Q E hgd hr h => ?_)
  · obtain ⟨v, n, js, rfl, _⟩ := h; rfl
  · obtain ⟨v, n, js, rfl, hL, g, h3, q⟩ := h
    have nd := scSt.nd
    have hu := hu_of hr
    have jle := g.le
    refine ⟨_, (pss_cons (ps_set (i := 1) nd rfl (.inr rfl) (cl DM' GM hgd hr (pa_cons (pv 0) pa_nil))) (pss_cons (ps_par (i := 3) (j := 4) (by rfl) nd rfl rfl (by decide) rfl rfl (pa_cons (pe_lc (own := [("end", 2)]) (g := gName 2) rfl nd (pi_range1 (by rfl) B.range (pa_cons (pe_op op_mul pe_int (pe_ix (r := rIxT K) ix_tup (pv 0) pe_int (fun _ _ => rfl))) pa_nil)) (blkOk_by (N := NSt) (sc := defScope (top 50)) (by decide +kernel)) (fun _ _ _ _ _ => pg_name (i := 2) nd rfl (Or.inl rfl)) (fun _ _ _ _ _ => pts_one (pt_cmp (pc_dnotin hu (pv 2) (pv 1)) rfl)) (fun _ _ _ _ _ => pv 2)) (pa_cons (pe_lst pa_nil) pa_nil)) (by rfl)) (pss_cons (ps_for PassesOwn.never rfl (pi_enumT (by rfl) B.enum (pa_cons (pe_ix (r := rIxT K) ix_tup (pv 0) pe_int (fun _ _ => rfl)) pa_nil)) (pg_tup (by rfl) (pgs_cons (pg_name (i := 5) nd rfl (.inl rfl)) (pgs_cons (pg_name (i := 6) nd rfl (.inl rfl)) pgs_nil))) (pss_cons (ps_expr (pe_bm PySem.F.plainAttrs_list PySem.F.slot_list_append PySem.F.type_list_append mt_append (pv 4) (pa_cons (pe_tup (pa_cons (pe_tup (pa_cons (pv 6) pa_nil)) (pa_cons (pe_tup pa_nil) pa_nil))) pa_nil))) (pss_cons (ps_for PassesOwn.never rfl (pi_list (pv 3)) (pg_name (i := 2) nd rfl (.inl rfl)) (pss_one (ps_for PassesOwn.never rfl (pi_tup (pv 6)) (pg_name (i := 7) nd rfl (.inl rfl)) (pss_one (ps_expr (pe_bm PySem.F.plainAttrs_list PySem.F.slot_list_append PySem.F.type_list_append mt_append (pv 4) (pa_cons (pe_tup (pa_cons (pe_tup (pa_cons (pv 6) pa_nil)) (pa_cons (pe_tup (pa_cons (pe_tup (pa_cons (pe_callB (call_min2 rfl) (by rfl) B.min (by decide +kernel) (pa_cons (pv 7) (pa_cons (pv 2) pa_nil))) (pa_cons (pe_callB (call_max2 rfl) (by rfl) B.max (by decide +kernel) (pa_cons (pv 7) (pa_cons (pv 2) pa_nil))) pa_nil))) pa_nil)) pa_nil))) pa_nil))))))) (pss_one (ps_for PassesOwn.never rfl (pi_tup (pe_slice sl_tup (pe_ix (r := rIxT K) ix_tup (pv 0) pe_int (fun _ _ => rfl)) (po_some (pe_op op_add (pv 5) pe_int)) po_none)) (pg_name (i := 8) nd rfl (.inl rfl)) (pss_one (ps_for PassesOwn.never rfl (pi_tup (pe_tup (pa_cons (pv 8) (pa_cons (pe_revT (pv 8)) pa_nil)))) (pg_name (i := 9) nd rfl (.inl rfl)) (pss_cons (ps_set (i := 10) nd rfl (.inl rfl) (pe_lst (pa_cons (pe_callTy call_tuple_of (by rfl) B.tuple (by decide +kernel) (pa_cons (pe_callB cr_sortedI (by rfl) B.sorted (by decide +kernel) (pa_cons (pe_lst (pa_cons (pe_ix (r := rIxT K) ix_tup (pv 6) pe_int (fun _ _ => rfl)) (pa_cons (pe_ix (r := rIxT K) ix_tup (pv 9) pe_int (fun _ _ => rfl)) pa_nil))) pa_nil)) pa_nil)) (pa_cons (pe_callTy call_tuple_of (by rfl) B.tuple (by decide +kernel) (pa_cons (pe_callB cr_sortedI (by rfl) B.sorted (by decide +kernel) (pa_cons (pe_lst (pa_cons (pe_ix (r := rIxT K) ix_tup (pv 6) pe_int (fun _ _ => rfl)) (pa_cons (pe_ix (r := rIxT K) ix_tup (pv 9) pe_int (fun _ _ => rfl)) pa_nil))) pa_nil)) pa_nil)) pa_nil)))) (pss_one (ps_expr (pe_bm PySem.F.plainAttrs_list PySem.F.slot_list_append PySem.F.type_list_append mt_append (pv 4) (pa_cons (pe_tup (pa_cons (pe_tup (pa_cons (pv 6) (pa_cons (pv 8) pa_nil))) (pa_cons (pe_callTy call_tuple_of (by rfl) B.tuple (by decide +kernel) (pa_cons (pe_callB (cr_sortD hr.units) (by rfl) B.sorted (by decide +kernel) (pa_cons (pv 10) pa_nil)) pa_nil)) pa_nil))) pa_nil)))))))))))) (pss_cons (ps_for PassesOwn.never rfl (pi_enum (by rfl) B.enum (pa_cons (pv 3) pa_nil)) (pg_tup (by rfl) (pgs_cons (pg_name (i := 5) nd rfl (.inl rfl)) (pgs_cons (pg_name (i := 7) nd rfl (.inl rfl)) pgs_nil))) (pss_one (ps_for PassesOwn.never rfl (pi_list (pe_slice sl_list (pv 3) (po_some (pe_op op_add (pv 5) pe_int)) po_none)) (pg_name (i := 11) nd rfl (.inl rfl)) (pss_one (ps_expr (pe_bm PySem.F.plainAttrs_list PySem.F.slot_list_append PySem.F.type_list_append mt_append (pv 4) (pa_cons (pe_tup (pa_cons (pe_tup pa_nil) (pa_cons (pe_tup (pa_cons (pe_tup (pa_cons (pv 7) (pa_cons (pv 11) pa_nil))) pa_nil)) pa_nil))) pa_nil))))))) (pss_one (ps_ret (pe_callB (cr_sortD hr.units) (by rfl) B.sorted (by decide +kernel) (pa_cons (pv 4) pa_nil)))))))), ?_⟩
    refine ⟨_, rfl, v, n, js, rfl, hL, g, fun d kv H1 s1 fd1 hd1 m1 => gn ?_⟩
    obtain ⟨t, u, rfl, hS, tj, ws, rfl, hSj, hPj⟩ := hL.up s1
    have a0 : atI [V.int (n : Nat), V.ref tj] 0 = some (.int (n : Nat)) := at_of (j := 0) rfl rfl
    have a1 : atI [V.int (n : Nat), V.ref tj] 1 = some (.ref tj) := at_of (j := 1) rfl rfl
    have lw : ws.length = js.length := Paired.length hPj
    refine ⟨_, rfl, t, _, 0, .int (n : Nat), rfl, rfl, hS, a0, ?_⟩
    refine ⟨2, (n : Int), rfl, rfl, .inl ⟨by decide, by decide⟩, _, rfl, by omega, by omega, fun D hD => ?_⟩
    rw [show (2 * (n : Int)).toNat = 2 * n by omega]
    refine lc_it (walk_range (lo := 0) (n := 2 * n)) (fun i H' => Same H1 H' ∧ H' D = some (.lst (Vn ((List.range i).filter fun e => (mt js e).isNone)))) ⟨Same.new hD, upd_same⟩ (fun _ _ _ _ => trivial) ?_ ?_
    · rintro i x Ha Hb hi ⟨sm, hA⟩ ⟨rfl, ex⟩
      obtain rfl : x = V.int ((i : Nat) : Int) := by
        rw [ex]
        show V.int (0 + ((i : Nat) : Int)) = _
        rw [Int.zero_add]
      refine ⟨rfl, _, rfl, _, rfl, _, _, rfl, DGet.k (k := .inl ((i : Nat) : Int)) (sm _ _ hd1), _, rfl, ?_⟩
      show if (!(valV kv (.inl ((i : Nat) : Int))).isSome) = true then _ else _
      rw [val_none m1, List.range_succ, List.filter_append]
      cases c : (mt js i).isNone with
      | true =>
        refine iteT ⟨_, rfl, _, hA, ?_, same_put sm hD, ?_⟩
        · rw [Vn_len]
          refine Nat.lt_of_le_of_lt (List.length_filter_le _ _) ?_
          rw [List.length_range]
          show i < 16777216
          omega
        · rw [upd_same]
          simp only [List.filter_cons, c, if_true, List.filter_nil]
          rw [vn_snoc]
      | false =>
        refine iteF ⟨sm, ?_⟩
        simp only [List.filter_cons, c, Bool.false_eq_true, if_false, List.filter_nil, List.append_nil]
        exact hA
    rintro H2 ⟨s2, hLO⟩
    have hLO : H2 D = some (.lst (Vn (frees n js))) := hLO
    have frl : (frees n js).length ≤ 8 := by
      unfold frees
      refine Nat.le_trans (List.length_filter_le _ _) ?_
      rw [List.length_range]
      omega
    refine ⟨by show 0 ≤ sizeLine; decide, fun L hL0 => ⟨_, _, rfl, ?_⟩⟩
    have s3 := Same.new (o := .lst []) hL0
    have S2 : Same H H2 := s1.trans s2
    have hS2 := Same.t s2 hS
    have hSj2 := Same.t s2 hSj
    have hPj2 := (TM.of s2).prs hPj
    have hLf : H L = none := S2.free hL0
    have F0 : FI K H2 (upd H2 L (.lst [])) L [] 0 := ⟨s3, [], upd_same, .nil, Nat.le_refl _⟩
    generalize upd H2 L (.lst []) = H3 at F0 ⊢
    clear s3
    refine ⟨_, rfl, t, _, 1, .ref tj, rfl, rfl, Same.t F0.sm hS2, a1, tj, ws, rfl, Same.t F0.sm hSj2, for_it (walk_enumT (xs := ws)) (fun i σ H' => ∃ (y2 y5 y6 y7 y8 y9 y10 y11 : Option V), σ = [some (.ref t), some (.ref d), y2, some (.ref D), some (.ref L), y5, y6, y7, y8, y9, y10, y11] ∧ FI K H2 H' L (pre1 n js i) (40 * i)) ?_ ?_ ?_ ?_⟩
    · exact ⟨none, none, none, none, none, none, none, none, rfl, F0⟩
    · rintro i σ H' hi ⟨_, _, _, _, _, _, _, _, rfl, f⟩
      exact Same.t f.sm hSj2
    · rintro i x σ Hz H4 hi ⟨y2, y5, y6, y7, y8, y9, y10, y11, rfl, f⟩ ⟨T, x1, y, rfl, nT, rfl, e1, e2⟩
      cases e1
      obtain ⟨p, hp, jt, rfl, hj⟩ := pair_at hPj2 e2
      have hi3 : i < 4 := by omega
      have sT := Same.new (o := .tup [.int (i : Nat), .ref jt]) nT
      have f1 := f.up sT
      have gd : js.getD i (0, 0) = p := by
        rw [List.getD_eq_getElem?_getD, hp]
        rfl
      have pr := g.rng p (List.mem_of_getElem? hp)
      rw [pre1_succ, gd, stAt_eq]
      refine ⟨T, _, rfl, SqT.of upd_same, rfl, _, _, rfl, _, _, rfl, rfl, ?_⟩
      generalize upd Hz T (.tup [.int (i : Nat), .ref jt]) = H4 at f1 ⊢
      obtain ⟨us, hL, hP, hb⟩ := f1.ex
      refine ⟨_, rfl, .inl ⟨rfl, _, SqL.of hL⟩, _, rfl, by show 1 ≤ sizeLine; decide, fun T1 hT1 => ⟨by show 0 ≤ sizeLine; decide, fun T2 hT2 => ⟨by show 2 ≤ sizeLine; decide, fun T3 hT3 => ?_⟩⟩⟩
      have u1 := Same.new (o := .tup [.ref jt]) hT1
      have u2 := Same.new (o := .tup []) hT2
      have u3 := Same.new (o := .tup [.ref T1, .ref T2]) hT3
      have u := u1.trans (u2.trans u3)
      have f2 := (f1.up u).put (v := .ref T3) (st := ([p], [])) hL0 (u _ _ hL) ⟨T3, .ref T1, .ref T2, rfl, SqT.of upd_same, ⟨T1, [.ref jt], rfl, SqT.of ((u2.trans u3) _ _ upd_same), .cons ⟨jt, rfl, Same.t (f1.up u).sm hj⟩ .nil⟩, ⟨T2, [], rfl, SqT.of (u3 _ _ upd_same), .nil⟩⟩
      refine ⟨L, us, _, rfl, rfl, u _ _ hL, Nat.lt_of_le_of_lt hb (Nat.lt_of_le_of_lt (show 40 * i ≤ 1000 by omega) (by decide)), ?_⟩
      clear u1 u2 u3 u hL hP
      -- a free end for one of its own
      refine ⟨_, rfl, D, rfl, ⟨_, SqL.of (f2.sm _ _ hLO)⟩, ?_⟩
      refine for_it (walk_list (xs := Vn (frees n js))) (fun m σ H' => ∃ (y2 y7 y8 y9 y10 y11 : Option V), σ = [some (.ref t), some (.ref d), y2, some (.ref D), some (.ref L), some (.int (i : Nat)), some (.ref jt), y7, y8, y9, y10, y11] ∧ FI K H2 H' L (pre1 n js i ++ ([p], []) :: ((frees n js).take m).flatMap fun e => [p.1, p.2].map (sA p e)) (40 * i + 1 + 2 * m)) ?_ ?_ ?_ ?_
      · exact ⟨_, _, _, _, _, _, rfl, f2⟩
      · rintro m σ H' hm ⟨_, _, _, _, _, _, rfl, f⟩
        exact SqL.of (f.sm _ _ hLO)
      · rintro m x σ Hy H5 hm ⟨y2, y7, y8, y9, y10, y11, rfl, f⟩ ⟨rfl, ex⟩
        rw [Vn_len] at hm
        have eg : (frees n js)[m]? = some ((frees n js).getD m 0) := by
          rw [List.getD_eq_getElem?_getD, List.getElem?_eq_getElem hm]
          rfl
        have ev := Vn_at hm
        have tk1 := take_next eg
        generalize (frees n js).getD m 0 = e at ev eg tk1
        obtain rfl : x = V.int (e : Nat) := Option.some.inj (ex.symm.trans ev)
        refine gn ?_
        refine ⟨_, rfl, jt, rfl, ⟨_, Same.t f.sm hj⟩, ?_⟩
        refine for_it (walk_tup (xs := Vn [p.1, p.2])) (fun k σ H' => ∃ y7 : Option V, σ = [some (.ref t), some (.ref d), some (.int (e : Nat)), some (.ref D), some (.ref L), some (.int (i : Nat)), some (.ref jt), y7, y8, y9, y10, y11] ∧ FI K H2 H' L ((pre1 n js i ++ ([p], []) :: ((frees n js).take m).flatMap fun e => [p.1, p.2].map (sA p e)) ++ ([p.1, p.2].take k).map (sA p e)) (40 * i + 1 + 2 * m + k)) ?_ ?_ ?_ ?_
        · refine ⟨_, rfl, ?_⟩
          show FI _ _ _ _ (_ ++ []) _
          rw [List.append_nil]
          exact f
        · rintro k σ H' hk ⟨_, rfl, f⟩
          exact Same.t f.sm hj
        · rintro k x σ Hx H6 hk ⟨y7, rfl, f⟩ ⟨rfl, ex⟩
          have hk : k < 2 := hk
          have eg : [p.1, p.2][k]? = some ([p.1, p.2].getD k 0) := by
            rw [List.getD_eq_getElem?_getD, List.getElem?_eq_getElem hk]
            rfl
          have ev := Vn_at (ys := [p.1, p.2]) hk
          have tk2 := take_next eg
          generalize [p.1, p.2].getD k 0 = r at ev eg tk2
          obtain rfl : x = V.int (r : Nat) := Option.some.inj (ex.symm.trans ev)
          refine gn ?_
          obtain ⟨us, hL, hP, hb⟩ := f.ex
          refine ⟨_, rfl, .inl ⟨rfl, _, SqL.of hL⟩, _, rfl, by show 1 ≤ sizeLine; decide, fun T1 hT1 => ⟨_, rfl, _, rfl, ((r : Nat) : Int), ((e : Nat) : Int), rfl, ?_⟩⟩
          rw [imin]
          refine ⟨_, rfl, _, rfl, ((r : Nat) : Int), ((e : Nat) : Int), rfl, ?_⟩
          rw [imax]
          refine ⟨by show 2 ≤ sizeLine; decide, fun T2 hT2 => ⟨by show 1 ≤ sizeLine; decide, fun T3 hT3 => ⟨by show 2 ≤ sizeLine; decide, fun T4 hT4 => ?_⟩⟩⟩
          have u1 := Same.new (o := .tup [.ref jt]) hT1
          have u2 := Same.new (o := .tup [.int ((min r e : Nat) : Int), .int ((max r e : Nat) : Int)]) hT2
          have u3 := Same.new (o := .tup [.ref T2]) hT3
          have u4 := Same.new (o := .tup [.ref T1, .ref T3]) hT4
          have u := u1.trans (u2.trans (u3.trans u4))
          have f' := (f.up u).put (v := .ref T4) (st := sA p e r) hL0 (u _ _ hL) ⟨T4, .ref T1, .ref T3, rfl, SqT.of upd_same, ⟨T1, [.ref jt], rfl, SqT.of ((u2.trans (u3.trans u4)) _ _ upd_same), .cons ⟨jt, rfl, Same.t (f.up u).sm hj⟩ .nil⟩, ⟨T3, [.ref T2], rfl, SqT.of (u4 _ _ upd_same), .cons ⟨T2, rfl, SqT.of ((u3.trans u4) _ _ upd_same)⟩ .nil⟩⟩
          refine ⟨L, us, _, rfl, rfl, u _ _ hL, Nat.lt_of_le_of_lt hb (Nat.lt_of_le_of_lt (show 40 * i + 1 + 2 * m + k ≤ 1000 by omega) (by decide)), _, rfl, ?_⟩
          rw [tk2, List.map_append, ← List.append_assoc]
          exact f'
        · rintro σ H' ⟨y7, rfl, f⟩
          refine ⟨_, y7, y8, y9, y10, y11, rfl, ?_⟩
          rw [tk1, List.flatMap_append, ← List.cons_append, ← List.append_assoc]
          exact f
      rintro σ H5 ⟨y2, y7, y8, y9, y10, y11, rfl, f⟩
      rw [Vn_len, List.take_of_length_le (Nat.le_refl _)] at f
      replace f := f.mono (show 40 * i + 1 + 2 * (frees n js).length ≤ 40 * i + 17 by omega)
      generalize hPF : (pre1 n js i ++ ([p], []) :: (frees n js).flatMap fun e => [p.1, p.2].map (sA p e)) = PF at f
      rw [← List.append_assoc, hPF]
      -- two of its own
      have ecut : cutV ws (some (((i : Nat) : Int) + 1)) none = ws.drop (i + 1) := cut_a (xs := ws) (a := i + 1) (by omega)
      refine ⟨_, rfl, t, _, 1, .ref tj, rfl, rfl, Same.t f.sm hS2, a1, _, rfl, ((i : Nat) : Int), 1, rfl, rfl, _, rfl, tj, ws, rfl, Same.t f.sm hSj2, ?_, fun S hSn => ?_⟩
      · rintro ⟨z, _⟩
        have := sIx_nat ws.length 0 (i + 1)
        rw [show ((i + 1 : Nat) : Int) = ((i : Nat) : Int) + 1 by omega] at this
        rw [this] at z
        omega
      rw [ecut]
      have uS := Same.new (o := .tup (ws.drop (i + 1))) hSn
      have fS := f.up uS
      have hSS : SqT K (upd H5 S (.tup (ws.drop (i + 1)))) S (ws.drop (i + 1)) := SqT.of upd_same
      generalize upd H5 S (.tup (ws.drop (i + 1))) = H6 at fS hSS ⊢
      refine ⟨S, rfl, ⟨_, hSS⟩, ?_⟩
      refine for_it (walk_tup (xs := ws.drop (i + 1))) (fun m σ H' => ∃ (y8 y9 y10 : Option V), σ = [some (.ref t), some (.ref d), y2, some (.ref D), some (.ref L), some (.int (i : Nat)), some (.ref jt), y7, y8, y9, y10, y11] ∧ SqT K H' S (ws.drop (i + 1)) ∧ FI K H2 H' L (PF ++ ((js.drop (i + 1)).take m).flatMap fun q => [(q.1, q.2), (q.2, q.1)].map (sB p q)) (40 * i + 17 + 2 * m)) ?_ ?_ ?_ ?_
      · refine ⟨_, _, _, rfl, hSS, ?_⟩
        show FI _ _ _ _ (_ ++ []) _
        rw [List.append_nil]
        exact fS
      · rintro m σ H' hm ⟨_, _, _, rfl, h, _⟩
        exact h
      · rintro m x σ Hy H7 hm ⟨y8, y9, y10, rfl, hSm, f⟩ ⟨rfl, ex⟩
        rw [List.length_drop] at hm
        rw [List.getElem?_drop] at ex
        obtain ⟨o, ho, ot, rfl, hot⟩ := pair_at hPj2 ex
        have om := g.rng o (List.mem_of_getElem? ho)
        have eg : (js.drop (i + 1))[m]? = some o := by
          rw [List.getElem?_drop]
          exact ho
        have tk1 := take_next eg
        have apr : p.1 ≠ o.1 ∧ p.1 ≠ o.2 ∧ p.2 ≠ o.1 ∧ p.2 ≠ o.2 := by
          obtain ⟨l1, q1⟩ := List.getElem?_eq_some_iff.mp hp
          obtain ⟨l2, q2⟩ := List.getElem?_eq_some_iff.mp ho
          have := List.pairwise_iff_getElem.mp g.dis i (i + 1 + m) l1 l2 (by omega)
          rw [q1, q2] at this
          exact this
        refine gn ?_
        refine ⟨_, rfl, _, rfl, ot, .int (o.1 : Nat), .int (o.2 : Nat), rfl, Same.t f.sm hot, fun R hR => ⟨by show 2 ≤ sizeLine; decide, fun W hW => ?_⟩⟩
        have v1 := Same.new (o := .tup [.int (o.2 : Nat), .int (o.1 : Nat)]) hR
        have v2 := Same.new (o := .tup [.ref ot, .ref R]) hW
        have fW := f.up (v1.trans v2)
        have hSW := Same.t (v1.trans v2) hSm
        have hWW : SqT K (upd (upd H7 R (.tup [.int (o.2 : Nat), .int (o.1 : Nat)])) W (.tup [.ref ot, .ref R])) W [.ref ot, .ref R] := SqT.of upd_same
        have hRR : SqT K (upd (upd H7 R (.tup [.int (o.2 : Nat), .int (o.1 : Nat)])) W (.tup [.ref ot, .ref R])) R [.int (o.2 : Nat), .int (o.1 : Nat)] := SqT.of (v2 _ _ upd_same)
        generalize upd (upd H7 R (.tup [.int (o.2 : Nat), .int (o.1 : Nat)])) W (.tup [.ref ot, .ref R]) = H8 at fW hSW hWW hRR ⊢
        refine ⟨W, rfl, ⟨_, hWW⟩, ?_⟩
        refine for_it (walk_tup (xs := [.ref ot, .ref R])) (fun k σ H' => ∃ (y9 y10 : Option V), σ = [some (.ref t), some (.ref d), y2, some (.ref D), some (.ref L), some (.int (i : Nat)), some (.ref jt), y7, some (.ref ot), y9, y10, y11] ∧ SqT K H' S (ws.drop (i + 1)) ∧ SqT K H' W [.ref ot, .ref R] ∧ SqT K H' R [.int (o.2 : Nat), .int (o.1 : Nat)] ∧
          FI K H2 H' L ((PF ++ ((js.drop (i + 1)).take m).flatMap fun q => [(q.1, q.2), (q.2, q.1)].map (sB p q)) ++ ([(o.1, o.2), (o.2, o.1)].take k).map (sB p o)) (40 * i + 17 + 2 * m + k)) ?_ ?_ ?_ ?_
        · refine ⟨_, _, rfl, hSW, hWW, hRR, ?_⟩
          show FI _ _ _ _ (_ ++ []) _
          rw [List.append_nil]
          exact fW
        · rintro k σ H' hk ⟨_, _, rfl, _, h, _⟩
          exact h
        · rintro k x σ Hx H9 hk ⟨y9, y10, rfl, hSk, hWk, hRk, f⟩ ⟨rfl, ex⟩
          have hk : k < 2 := hk
          have PP : Paired (Pr K H9) [.ref ot, .ref R] [(o.1, o.2), (o.2, o.1)] := .cons ⟨ot, rfl, Same.t f.sm hot⟩ (.cons ⟨R, rfl, hRk⟩ .nil)
          obtain ⟨sw, hsw, st, rfl, hst⟩ := pair_at PP ex
          have tk2 := take_next hsw
          have swm : sw = (o.1, o.2) ∨ sw = (o.2, o.1) := by
            have := List.mem_of_getElem? hsw
            simpa using this
          refine gn ?_
          have hjk := Same.t f.sm hj
          -- both new joints
          refine ⟨_, rfl, jt, _, 0, .int (p.1 : Nat), rfl, rfl, hjk, at_of (j := 0) rfl rfl, _, rfl, st, _, 0, .int (sw.1 : Nat), rfl, rfl, hst, at_of (j := 0) rfl rfl, by show 2 ≤ sizeLine; decide, fun l1 hl1 => ?_⟩
          refine ⟨l1, [((p.1 : Nat) : Int), ((sw.1 : Nat) : Int)], rfl, SqL.of upd_same, fun ns1 q1 pm1 pw1 hq1 => ⟨q1, _, rfl, .inl ⟨SqL.of upd_same, fun t1 ht1 => ?_⟩⟩⟩
          obtain rfl := two_int pm1 pw1
          have w1 := Same.new (o := .lst [.int (p.1 : Nat), .int (sw.1 : Nat)]) hl1
          have w2 := Same.new (o := .lst (List.map V.int [((min p.1 sw.1 : Nat) : Int), ((max p.1 sw.1 : Nat) : Int)])) hq1
          have w3 := Same.new (o := .tup (List.map V.int [((min p.1 sw.1 : Nat) : Int), ((max p.1 sw.1 : Nat) : Int)])) ht1
          have w13 := w1.trans (w2.trans w3)
          refine ⟨_, rfl, jt, _, 1, .int (p.2 : Nat), rfl, rfl, Same.t w13 hjk, at_of (j := 1) rfl rfl, _, rfl, st, _, 1, .int (sw.2 : Nat), rfl, rfl, Same.t w13 hst, at_of (j := 1) rfl rfl, by show 2 ≤ sizeLine; decide, fun l2 hl2 => ?_⟩
          refine ⟨l2, [((p.2 : Nat) : Int), ((sw.2 : Nat) : Int)], rfl, SqL.of upd_same, fun ns2 q2 pm2 pw2 hq2 => ⟨q2, _, rfl, .inl ⟨SqL.of upd_same, fun t2 ht2 => ⟨by show 2 ≤ sizeLine; decide, fun M hM => gn ?_⟩⟩⟩⟩
          obtain rfl := two_int pm2 pw2
          have w4 := Same.new (o := .lst [.int (p.2 : Nat), .int (sw.2 : Nat)]) hl2
          have w5 := Same.new (o := .lst (List.map V.int [((min p.2 sw.2 : Nat) : Int), ((max p.2 sw.2 : Nat) : Int)])) hq2
          have w6 := Same.new (o := .tup (List.map V.int [((min p.2 sw.2 : Nat) : Int), ((max p.2 sw.2 : Nat) : Int)])) ht2
          have w7 := Same.new (o := .lst [.ref t1, .ref t2]) hM
          have w46 := w4.trans (w5.trans (w6.trans w7))
          have w := w13.trans w46
          obtain ⟨us, hL, hP, hb⟩ := f.ex
          have hLw := w _ _ hL
          refine ⟨_, rfl, .inl ⟨rfl, _, SqL.of hLw⟩, _, rfl, _, rfl, by show 2 ≤ sizeLine; decide, fun A1 hA1 => ?_⟩
          have x1 := Same.new (o := .tup [.ref jt, .ref ot]) hA1
          have t1P : SqT K _ t1 [.int (min p.1 sw.1 : Nat), .int (max p.1 sw.1 : Nat)] := Same.t (w46.trans x1) (SqT.of upd_same)
          have t2P : SqT K _ t2 [.int (min p.2 sw.2 : Nat), .int (max p.2 sw.2 : Nat)] := Same.t (w7.trans x1) (SqT.of upd_same)
          have PM : Paired (Pr K _) [.ref t1, .ref t2] [mk2 p.1 sw.1, mk2 p.2 sw.2] := .cons ⟨t1, rfl, t1P⟩ (.cons ⟨t2, rfl, t2P⟩ .nil)
          refine ⟨_, rfl, M, [.ref t1, .ref t2], [mk2 p.1 sw.1, mk2 p.2 sw.2].map pairD, rfl, SqL.of (x1 _ _ upd_same), js_dpp PM, pairs_alike _ [], pairs_sortable _, pairs_depth _, fun ys p3 pm hy hp3 => ⟨p3, ys, rfl, .inl ⟨SqL.of upd_same, fun T1 hT1 => ⟨by show 2 ≤ sizeLine; decide, fun T2 hT2 => ?_⟩⟩⟩⟩
          have bb : (mk2 p.1 sw.1).1 ≠ (mk2 p.2 sw.2).1 ∧ ((mk2 p.1 sw.1).1 < 8 ∧ (mk2 p.1 sw.1).2 < 8) ∧ ((mk2 p.2 sw.2).1 < 8 ∧ (mk2 p.2 sw.2).2 < 8) := by
            unfold mk2
            rcases swm with rfl | rfl <;> dsimp only <;> omega
          rw [two_sort bb.1 bb.2.1 bb.2.2] at hy
          have x2 := Same.new (o := .lst ys) hp3
          have x3 := Same.new (o := .tup ys) hT1
          have x4 := Same.new (o := .tup [.ref A1, .ref T1]) hT2
          have x := x1.trans (x2.trans (x3.trans x4))
          have wx := w.trans x
          have f' := (f.up wx).put (v := .ref T2) (st := sB p o sw) hL0 (wx _ _ hL) ⟨T2, .ref A1, .ref T1, rfl, SqT.of upd_same, ⟨A1, [.ref jt, .ref ot], rfl, SqT.of ((x2.trans (x3.trans x4)) _ _ upd_same), .cons ⟨jt, rfl, Same.t (f.up wx).sm hj⟩ (.cons ⟨ot, rfl, Same.t (f.up wx).sm hot⟩ .nil)⟩, ⟨T1, ys, rfl, SqT.of (x4 _ _ upd_same), (TM.of (x2.trans (x3.trans x4))).prs (dp_prs hy)⟩⟩
          have tm := (TM.of (K := K) wx).trans (TM.put (o := .lst (us ++ [.ref T2])) (wx _ _ hL))
          refine ⟨L, us, _, rfl, rfl, x _ _ hLw, Nat.lt_of_le_of_lt hb (Nat.lt_of_le_of_lt (show 40 * i + 17 + 2 * m + k ≤ 1000 by omega) (by decide)), _, _, rfl, tm.t hSk, tm.t hWk, tm.t hRk, ?_⟩
          rw [tk2, List.map_append, ← List.append_assoc]
          exact f'
        · rintro σ H' ⟨y9, y10, rfl, hSk, hWk, hRk, f⟩
          refine ⟨_, y9, y10, rfl, hSk, ?_⟩
          rw [tk1, List.flatMap_append, ← List.append_assoc]
          exact f
      · rintro σ H' ⟨y8, y9, y10, rfl, hSk, f⟩
        rw [List.length_drop, List.take_of_length_le (by rw [List.length_drop]; omega)] at f
        exact ⟨_, _, _, _, _, _, _, _, rfl, f.mono (by omega)⟩
    rintro σ H4 ⟨y2, y5, y6, y7, y8, y9, y10, y11, rfl, f⟩
    rw [lw] at f
    replace f := f.mono (show 40 * js.length ≤ 160 by omega)
    -- two free ends
    refine ⟨_, rfl, D, Vn (frees n js), rfl, SqL.of (f.sm _ _ hLO), for_it (walk_enum (xs := Vn (frees n js))) (fun i σ H' => ∃ (y5 y7 y11 : Option V), σ = [some (.ref t), some (.ref d), y2, some (.ref D), some (.ref L), y5, y6, y7, y8, y9, y10, y11] ∧ FI K H2 H' L (pre1 n js js.length ++ pre2 (frees n js) i) (160 + 8 * i)) ?_ ?_ ?_ ?_⟩
    · refine ⟨_, _, _, rfl, ?_⟩
      show FI _ _ _ _ (_ ++ []) _
      rw [List.append_nil]
      exact f
    · rintro i σ H' hi ⟨_, _, _, rfl, f⟩
      exact SqL.of (f.sm _ _ hLO)
    · rintro i x σ Hz H5 hi ⟨y5, y7, y11, rfl, f⟩ ⟨T, e1, e2, rfl, nT, rfl, ee1, ee2⟩
      cases ee1
      rw [Vn_len] at hi
      obtain rfl : e2 = V.int ((frees n js).getD i 0 : Nat) := Option.some.inj (Eq.trans (Eq.symm ee2) (Vn_at hi))
      have sT := Same.new (o := .tup [.int (i : Nat), .int ((frees n js).getD i 0 : Nat)]) nT
      have f1 := f.up sT
      refine ⟨T, _, rfl, SqT.of upd_same, rfl, _, _, rfl, _, _, rfl, rfl, ?_⟩
      generalize upd Hz T (.tup [.int (i : Nat), .int ((frees n js).getD i 0 : Nat)]) = H5 at f1 ⊢
      rw [pre2_succ]
      generalize (frees n js).getD i 0 = a at *
      have ecut : cutV (Vn (frees n js)) (some (((i : Nat) : Int) + 1)) none = Vn ((frees n js).drop (i + 1)) := by
        have := cut_a (xs := Vn (frees n js)) (a := i + 1) (by rw [Vn_len]; omega)
        rw [vn_drop] at this
        exact this
      refine ⟨_, rfl, _, rfl, ((i : Nat) : Int), 1, rfl, rfl, _, rfl, D, _, rfl, SqL.of (f1.sm _ _ hLO), fun S hSn => ?_⟩
      rw [ecut]
      have nSL : S ≠ L := by
        obtain ⟨us, hL, _⟩ := f1.ex
        exact Ne.symm (ne_of_none hL hSn)
      have uS := Same.new (o := .lst (Vn ((frees n js).drop (i + 1)))) hSn
      have fS := f1.up uS
      have hSS : upd H5 S (.lst (Vn ((frees n js).drop (i + 1)))) S = some (.lst (Vn ((frees n js).drop (i + 1)))) := upd_same
      generalize upd H5 S (.lst (Vn ((frees n js).drop (i + 1)))) = H6 at fS hSS ⊢
      refine ⟨S, rfl, ⟨_, SqL.of hSS⟩, ?_⟩
      refine for_it (walk_list (xs := Vn ((frees n js).drop (i + 1)))) (fun m σ H' => ∃ y11 : Option V, σ = [some (.ref t), some (.ref d), y2, some (.ref D), some (.ref L), some (.int (i : Nat)), y6, some (.int (a : Nat)), y8, y9, y10, y11] ∧ H' S = some (.lst (Vn ((frees n js).drop (i + 1)))) ∧ FI K H2 H' L ((pre1 n js js.length ++ pre2 (frees n js) i) ++ (((frees n js).drop (i + 1)).take m).map fun b => ([], [(a, b)])) (160 + 8 * i + m)) ?_ ?_ ?_ ?_
      · refine ⟨_, rfl, hSS, ?_⟩
        show FI _ _ _ _ (_ ++ []) _
        rw [List.append_nil]
        exact fS
      · rintro m σ H' hm ⟨_, rfl, h, _⟩
        exact SqL.of h
      · rintro m x σ Hy H7 hm ⟨y11, rfl, hSm, f⟩ ⟨rfl, ex⟩
        rw [Vn_len] at hm
        have eg : ((frees n js).drop (i + 1))[m]? = some (((frees n js).drop (i + 1)).getD m 0) := by
          rw [List.getD_eq_getElem?_getD, List.getElem?_eq_getElem hm]
          rfl
        have ev := Vn_at hm
        have tk2 := take_next eg
        generalize ((frees n js).drop (i + 1)).getD m 0 = b at ev eg tk2
        obtain rfl : x = V.int (b : Nat) := Option.some.inj (ex.symm.trans ev)
        rw [List.length_drop] at hm
        refine gn ?_
        obtain ⟨us, hL, hP, hb⟩ := f.ex
        refine ⟨_, rfl, .inl ⟨rfl, _, SqL.of hL⟩, by show 0 ≤ sizeLine; decide, fun T1 hT1 => ⟨_, rfl, _, rfl, by show 2 ≤ sizeLine; decide, fun T2 hT2 => ⟨by show 1 ≤ sizeLine; decide, fun T3 hT3 => ⟨by show 2 ≤ sizeLine; decide, fun T4 hT4 => ?_⟩⟩⟩⟩
        have u1 := Same.new (o := .tup []) hT1
        have u2 := Same.new (o := .tup [.int (a : Nat), .int (b : Nat)]) hT2
        have u3 := Same.new (o := .tup [.ref T2]) hT3
        have u4 := Same.new (o := .tup [.ref T1, .ref T3]) hT4
        have u := u1.trans (u2.trans (u3.trans u4))
        have f' := (f.up u).put (v := .ref T4) (st := ([], [(a, b)])) hL0 (u _ _ hL) ⟨T4, .ref T1, .ref T3, rfl, SqT.of upd_same, ⟨T1, [], rfl, SqT.of ((u2.trans (u3.trans u4)) _ _ upd_same), .nil⟩, ⟨T3, [.ref T2], rfl, SqT.of (u4 _ _ upd_same), .cons ⟨T2, rfl, SqT.of ((u3.trans u4) _ _ upd_same)⟩ .nil⟩⟩
        refine ⟨L, us, _, rfl, rfl, u _ _ hL, Nat.lt_of_le_of_lt hb (Nat.lt_of_le_of_lt (show 160 + 8 * i + m ≤ 1000 by omega) (by decide)), _, rfl, ?_, ?_⟩
        · rw [upd_ne nSL]
          exact u _ _ hSm
        · rw [tk2, List.map_append, ← List.append_assoc]
          exact f'
      · rintro σ H' ⟨y11, rfl, hSm, f⟩
        rw [Vn_len, List.take_of_length_le (Nat.le_refl _)] at f
        refine ⟨_, _, y11, rfl, ?_⟩
        rw [← List.append_assoc]
        exact f.mono (by rw [List.length_drop]; omega)
    · rintro σ H5 ⟨y5, y7, y11, rfl, f⟩
      rw [Vn_len] at f
      have eJ : pre1 n js js.length ++ pre2 (frees n js) (frees n js).length = stJ n js := rfl
      rw [eJ] at f
      obtain ⟨us, hL, hP, hb⟩ := f.ex
      refine ⟨_, rfl, L, us, _, rfl, SqL.of hL, stps_dp hP, st_alike _, st_sortable _, st_depth _, fun ys p9 pm hy hp9 => ?_⟩
      rw [st_sorted] at hy
      have u := Same.new (o := .lst ys) hp9
      have SH := S2.trans f.sm
      exact q p9 ys _ _ (SH.trans u) (SH.free hp9) upd_same ((TM.of u).stps (dp_stps hy)) (List.mergeSort_perm _ _) (by rw [pm.length_eq]; omega)
end
end K42
-- K42za
set_option Elab.async false
set_option linter.all false
set_option maxRecDepth 100000
set_option maxHeartbeats 8000000
/-! K16za: _law_after -/
namespace DC
open PySem L2
def rNotInDT (K : PySem.W.Frag) : V → V → Hp → VK → Prop := fun x y H Q => ∃ d ds, Dp K H x d ∧ Dp K H y (.tuple ds) ∧ SeqAt.shaped d = true ∧ SeqAt.shaped (.tuple ds) = true ∧ Q (.bl (!ds.any fun z => PyData.eqv z d)) H
theorem op_notInDT {X : Cx} (hu : X.A.units + 65 < cLine) : OpR X (compareOp CmpOp.NotIn) (rNotInDT X.K) := by
  intro pins s σ H x y v u Q I rx ry h
  obtain ⟨d, ds, hd, he, sd, se, q⟩ := h
  obtain ⟨as, r1⟩ := Dp.reads I d x v hd rx
  obtain ⟨bs, r2⟩ := Dp.reads I (.tuple ds) y u he ry
  exact SeqAt.notIn_tuple_reads r2 r1 (SeqAt.canLay_of_shaped se) (SeqAt.canLay_of_shaped sd) (PyProof.Rows.room_in_shaped sd hu) ⟨V.bl _, H, I, rfl, q⟩
end DC
namespace K42
open PySem L2 DC LamX
theorem u65 {k : Nat} {A : Around} (r : Room k A) : A.units + 65 < cLine := by
  have := r.un
  omega
theorem lay_pairs : ∀ l : List J2, PyData.canLayAll0 (l.map pairD) = true
  | [] => by simp only [List.map_nil, PyData.canLayAll0]
  | p :: l => by
    simp only [List.map_cons, pairD, PyData.canLayAll0, PyData.canLay0, Bool.and_self, Bool.true_and]
    exact lay_pairs l
theorem shaped_pairs (l : List J2) : SeqAt.shaped (.tuple (l.map pairD)) = true := by
  unfold SeqAt.shaped
  have := depth_pairs l
  rw [Bool.and_eq_true]
  refine ⟨by simp only [PyData.canLay0]; exact lay_pairs l, decide_eq_true ?_⟩
  simp only [PyData.depth]
  omega
theorem shaped_pair (p : J2) : SeqAt.shaped (pairD p) = true := by
  unfold SeqAt.shaped pairD
  rw [Bool.and_eq_true]
  refine ⟨by simp only [PyData.canLay0, PyData.canLayAll0, Bool.and_self], decide_eq_true ?_⟩
  simp only [PyData.depth, PyData.depthAll]
  decide
theorem eqv_pair (p q : J2) : (pairD p).eqv (pairD q) = decide (p = q) := by
  unfold pairD
  simp only [PyData.eqv, PyData.eqvAll, Bool.and_true]
  rw [Bool.eq_iff_iff]
  simp only [Bool.and_eq_true, beq_iff_eq, decide_eq_true_eq]
  constructor
  · rintro ⟨a, b⟩
    exact Prod.ext (by omega) (by omega)
  · rintro rfl
    exact ⟨rfl, rfl⟩
theorem any_pair (l : List J2) (p : J2) : (l.map pairD).any (fun z => PyData.eqv z (pairD p)) = decide (p ∈ l) := by
  induction l with
  | nil => rfl
  | cons q l ih =>
    rw [List.map_cons, List.any_cons, ih, eqv_pair, Bool.eq_iff_iff]
    simp only [Bool.or_eq_true, decide_eq_true_eq, List.mem_cons]
    constructor
    · rintro (h | h)
      · exact .inl h.symm
      · exact .inr h
    · rintro (h | h)
      · exact .inl h.symm
      · exact .inr h
theorem insJ_perm (p : J2) : ∀ l : List J2, (insJ p l).Perm (p :: l)
  | [] => List.Perm.refl _
  | q :: l => by
    unfold insJ
    split
    · exact List.Perm.refl _
    · exact ((insJ_perm p l).cons q).trans (List.Perm.swap p q l)
theorem srtJ_perm : ∀ l : List J2, (srtJ l).Perm l
  | [] => List.Perm.refl _
  | p :: l => (insJ_perm p (srtJ l)).trans ((srtJ_perm l).cons p)
theorem aft_mem {n : Nat} {js : List J2} (h1 : 1 ≤ n) (h3 : n ≤ 3) (h : js ∈ allJ n) {st : Stp2} (hs : st ∈ stJ n js) : aftJ js st ∈ allJ n := by
  have r := (rows_all h1 h3 h).1.st
  have : aftJ js st ∈ (stJ n js).map (aftJ js) := List.mem_map.mpr ⟨st, hs, rfl⟩
  exact (List.mem_filter.mp (r.mem_iff.mp this)).1
theorem aft_sort {n : Nat} {js : List J2} (h1 : 1 ≤ n) (h3 : n ≤ 3) (h : js ∈ allJ n) {st : Stp2} (hs : st ∈ stJ n js) :
    (((js.filter fun p => !decide (p ∈ st.1)) ++ st.2).map pairD).mergeSort (PySem.W.dataLe false id) = (aftJ js st).map pairD := by
  rw [← prs_sort h1 h3 (aft_mem h1 h3 h hs)]
  refine sort_same ((srtJ_perm _).symm.map _) fun a ha b hb e => ?_
  obtain ⟨js, _, rfl⟩ := List.mem_map.mp ha
  obtain ⟨ls, _, rfl⟩ := List.mem_map.mp hb
  exact pair_inj js ls e
theorem aft_len {n : Nat} {js : List J2} (h1 : 1 ≤ n) (h3 : n ≤ 3) (h : js ∈ allJ n) {st : Stp2} (hs : st ∈ stJ n js) : ((js.filter fun p => !decide (p ∈ st.1)) ++ st.2).length ≤ 3 := by
  have := lj_short n _ _ (aft_mem h1 h3 h hs)
  rw [show aftJ js st = srtJ _ from rfl, (srtJ_perm _).length_eq] at this
  omega
section
variable {P : Program} {w : World} {K : PySem.W.Frag} {mg : Str → Option Value} {base : Heap}
def spAf (K : PySem.W.Frag) : Sp := fun vs H Q _ => ∃ (v1 v2 : V) (n : Nat) (js : List J2) (st : Stp2), vs = [v1, v2] ∧ Ly K H v1 n js ∧ Stp K H v2 st ∧ 1 ≤ n ∧ n ≤ 3 ∧ js ∈ allJ n ∧ st ∈ stJ n js ∧
  ∀ (v : V) (H' : Hp), Same H H' → Ly K H' v n (aftJ js st) → Q v H'
abbrev NAf : List Str := ["lay", "step_so", "stay", "joint"]
theorem scAf : FnScope NAf ["lay", "step_so"] (defScope (top 51)) := ⟨rfl, rfl, rfl, by decide +kernel, rfl, by decide +kernel, by decide +kernel⟩
theorem okAf {f : Addr} {fd : FuncData} (F : Fun K "_law_after" "_law_after" (top 51) f fd) (B : Bn mg) : OkF P w K mg base 1 f fd ["lay", "step_so"] (spAf K) := by
  refine ok0 F scAf (fun vs H Q E h => ?_) (fun cdv A outer s H vs Q E hgd hr h => ?_)
  · obtain ⟨v1, v2, n, js, st, rfl, _⟩ := h; rfl
  · obtain ⟨v1, v2, n, js, st, rfl, ⟨t, u, rfl, hS, tj, ws, rfl, hSj, hPj⟩, ⟨t2, ua, ub, rfl, hS2, ⟨ta, xa, rfl, hSa, hPa⟩, ⟨tb, xb, rfl, hSb, hPb⟩⟩, h1, h3, hm, hst, q⟩ := h
    have nd := scAf.nd
    refine ⟨_, (pss_cons (ps_setLc (i := 2) (own := [("joint", 3)]) (g := gName 3) rfl nd rfl rfl (sw_true rfl rfl rfl (by decide +kernel)) (pi_tup (pe_ix (r := rIxT K) ix_tup (pv 0) pe_int (fun _ _ => rfl))) (blkOk_by (N := NAf) (sc := defScope (top 51)) (by decide +kernel)) (fun _ _ _ _ _ => pg_name (i := 3) nd rfl (Or.inl rfl)) (fun _ _ _ _ _ => pts_one (pt_cmpR (r := rNotInDT K) (op_notInDT (u65 hr)) (pv 3) (pe_ix (r := rIxT K) ix_tup (pv 1) pe_int (fun _ _ => rfl)) (by rfl))) (fun _ _ _ _ _ => pv 3)) (pss_one (ps_ret (pe_tup (pa_cons (pe_ix (r := rIxT K) ix_tup (pv 0) pe_int (fun _ _ => rfl)) (pa_cons (pe_callTy call_tuple_of (by rfl) B.tuple (by decide +kernel) (pa_cons (pe_callB (cr_sortD hr.units) (by rfl) B.sorted (by decide +kernel) (pa_cons (pe_op op_cat (pv 2) (pe_callTy call_list_of (by rfl) B.list (by decide +kernel) (pa_cons (pe_ix (r := rIxT K) ix_tup (pv 1) pe_int (fun _ _ => rfl)) pa_nil))) pa_nil)) pa_nil)) pa_nil)))))), ?_⟩
    have a0 : atI [V.int (n : Nat), V.ref tj] 0 = some (.int (n : Nat)) := at_of (j := 0) rfl rfl
    have a1 : atI [V.int (n : Nat), V.ref tj] 1 = some (.ref tj) := at_of (j := 1) rfl rfl
    have b0 : atI [V.ref ta, V.ref tb] 0 = some (.ref ta) := at_of (j := 0) rfl rfl
    have b1 : atI [V.ref ta, V.ref tb] 1 = some (.ref tb) := at_of (j := 1) rfl rfl
    have len : ws.length = js.length := Paired.length hPj
    have jl := lj_short n _ _ hm
    have al := aft_len h1 h3 hm hst
    refine ⟨_, rfl, t, _, 1, .ref tj, rfl, rfl, hS, a1, tj, rfl, ⟨ws, hSj⟩, fun D hD => ?_⟩
    refine lc_it (walk_tup (xs := ws)) (fun i H' => ∃ acc : List V, Same H H' ∧ H' D = some (.lst acc) ∧ Paired (Pr K H') acc ((js.take i).filter fun p => !decide (p ∈ st.1)) ∧ acc.length ≤ i) ⟨[], Same.new hD, upd_same, .nil, Nat.le_refl _⟩ (fun i H' _ hp => by
      obtain ⟨acc, sm, _⟩ := hp
      exact Same.t sm hSj) ?_ ?_
    · rintro i x Ha Hb hi ⟨acc, sm, hL, hd, hal⟩ ⟨rfl, ex⟩
      obtain ⟨p, ep, hx⟩ := paired_at hPj ex
      have hx' := hx.up sm
      refine ⟨rfl, ?_⟩
      obtain ⟨px, rfl, hpx⟩ := hx'
      refine ⟨_, rfl, _, rfl, t2, _, 0, .ref ta, rfl, rfl, Same.t sm hS2, b0, pairD p, st.1.map pairD, .tup hpx (.cons (.int _) (.cons (.int _) .nil)), .tup (Same.t sm hSa) (js_dpp ((TM.of sm).prs hPa)), shaped_pair p, shaped_pairs st.1, _, rfl, ?_⟩
      rw [any_pair, take_next ep, List.filter_append]
      cases c : (!decide (p ∈ st.1)) with
      | true =>
        refine iteT ⟨_, rfl, acc, hL, Nat.lt_of_le_of_lt (show acc.length ≤ 1000 by omega) (by decide), acc ++ [.ref px], same_put sm hD, upd_same, ?_, by rw [List.length_append]; exact Nat.succ_le_succ hal⟩
        have e1 : ([p].filter fun p => !decide (p ∈ st.1)) = [p] := by simp only [List.filter_cons, c, if_true, List.filter_nil]
        rw [e1]
        exact pair_snoc ((TM.put hL).prs hd) ⟨px, rfl, sqT_put hpx hL⟩
      | false =>
        refine iteF ⟨acc, sm, hL, ?_, Nat.le_succ_of_le hal⟩
        have e1 : ([p].filter fun p => !decide (p ∈ st.1)) = [] := by simp only [List.filter_cons, c, Bool.false_eq_true, if_false, List.filter_nil]
        rw [e1, List.append_nil]
        exact hd
    · rintro H1 ⟨acc, s1, hL, hd, hal⟩
      rw [len, List.take_of_length_le (Nat.le_refl _)] at hd
      refine gn ?_
      have la : acc.length = (js.filter fun p => !decide (p ∈ st.1)).length := Paired.length hd
      have lb : xb.length = st.2.length := Paired.length hPb
      rw [List.length_append] at al
      refine ⟨_, rfl, t, _, 0, .int (n : Nat), rfl, rfl, Same.t s1 hS, a0, ?_⟩
      refine ⟨_, rfl, _, rfl, t2, _, 1, .ref tb, rfl, rfl, Same.t s1 hS2, b1, tb, xb, rfl, .inr (Same.t s1 hSb), fun l2 hl2 => ?_⟩
      have u1 := Same.new (o := .lst xb) hl2
      refine ⟨D, l2, acc, xb, rfl, rfl, u1 _ _ hL, upd_same, Nat.le_trans (show acc.length + xb.length ≤ 1000 by omega) (by decide), fun D3 hD3 => ?_⟩
      have u2 := Same.new (o := .lst (acc ++ xb)) hD3
      have S2 := s1.trans (u1.trans u2)
      have PP : Paired (Pr K (upd (upd H1 l2 (.lst xb)) D3 (.lst (acc ++ xb)))) (acc ++ xb) ((js.filter fun p => !decide (p ∈ st.1)) ++ st.2) := pair_app ((TM.of (u1.trans u2)).prs hd) ((TM.of S2).prs hPb)
      refine ⟨D3, acc ++ xb, _, rfl, SqL.of upd_same, js_dpp PP, pairs_alike _ [], pairs_sortable _, pairs_depth _, fun ys p3 pm hy hp3 => ⟨p3, ys, rfl, .inl ⟨SqL.of upd_same, fun T1 hT1 => ⟨by show 2 ≤ sizeLine; decide, fun T2 hT2 => ?_⟩⟩⟩⟩
      rw [aft_sort h1 h3 hm hst] at hy
      have x2 := Same.new (o := .lst ys) hp3
      have x3 := Same.new (o := .tup ys) hT1
      have x4 := Same.new (o := .tup [.int (n : Nat), .ref T1]) hT2
      have x := x2.trans (x3.trans x4)
      exact q (.ref T2) _ (S2.trans x) ⟨T2, .ref T1, rfl, SqT.of upd_same, T1, ys, rfl, SqT.of (x4 _ _ upd_same), (TM.of x).prs (dp_prs hy)⟩
end
end K42
-- K42fr
set_option Elab.async false
set_option linter.all false
set_option maxRecDepth 100000
set_option maxHeartbeats 4000000
namespace K42
open PySem L2 DC
section
variable {P : Program} {w : World} {K : PySem.W.Frag} {mg : Str → Option Value} {base : Heap}
def nm (p : J2) : J2 := if p.1 < p.2 then p else (p.2, p.1)
def spJt (K : PySem.W.Frag) : Sp := fun vs H Q _ => ∃ a b : Nat, vs = [.int a, .int b] ∧ ∀ t H', Same H H' → H t = none → H' t = some (.tup [.int ((nm (a, b)).1 : Nat), .int ((nm (a, b)).2 : Nat)]) → Q (.ref t) H'
theorem scJt : FnScope ["one", "other"] ["one", "other"] (defScope (top 17)) := ⟨rfl, rfl, rfl, by decide +kernel, rfl, by decide +kernel, by decide +kernel⟩
theorem okJt {f : Addr} {fd : FuncData} (F : Fun K "joint_of" "joint_of" (top 17) f fd) (B : Bn mg) : OkF P w K mg base 1 f fd ["one", "other"] (spJt K) := by
  refine ok0 F scJt (fun vs H Q E h => ?_) (fun cdv A outer s H vs Q E hgd hr h => ?_)
  · obtain ⟨a, b, rfl, _⟩ := h; rfl
  · obtain ⟨a, b, rfl, q⟩ := h
    refine ⟨_, pss_one (ps_ret (pe_ifExp (pt_cmpR op_lt (pv 0) (pv 1) (nomark _)) (pe_tup (pa_cons (pv 0) (pa_cons (pv 1) pa_nil))) (pe_tup (pa_cons (pv 1) (pa_cons (pv 0) pa_nil))))), ?_⟩
    refine ⟨_, rfl, _, rfl, (a : Int), (b : Int), rfl, rfl, _, rfl, ite2 (fun d => ?_) (fun d => ?_)⟩
    · have z : a < b := by
        have := of_decide_eq_true d
        omega
      refine ⟨_, rfl, _, rfl, by show 2 ≤ sizeLine; decide, fun T hT => q T _ (Same.new hT) hT ?_⟩
      rw [upd_same, show nm (a, b) = (a, b) from if_pos z]
    · have z : ¬ a < b := fun z => d (decide_eq_true (by omega))
      refine ⟨_, rfl, _, rfl, by show 2 ≤ sizeLine; decide, fun T hT => q T _ (Same.new hT) hT ?_⟩
      rw [upd_same, show nm (a, b) = (b, a) from if_neg z]
theorem frees_step (n : Nat) (js : List J2) (i : Nat) : ((List.range (i + 1)).filter fun e => (mt js e).isNone) = ((List.range i).filter fun e => (mt js e).isNone) ++ (if (mt js i).isNone = true then [i] else []) := by
  rw [List.range_succ, List.filter_append]
  congr 1
  by_cases c : (mt js i).isNone = true
  · rw [if_pos c]
    simp [List.filter_cons, c]
  · rw [if_neg c]
    simp only [List.filter_cons, List.filter_nil]
    rw [if_neg c]
def spFree (K : PySem.W.Frag) : Sp := fun vs H Q _ => ∃ (v : V) (n : Nat) (js : List J2), vs = [v] ∧ Ly K H v n js ∧ Good n js ∧ ∀ (r : Addr) (H' : Hp), Same H H' → H r = none → H' r = some (.lst (Vn (frees n js))) → Q (.ref r) H'
theorem scFree : FnScope ["lay", "end", "mate"] ["lay"] (defScope (top 19)) := ⟨rfl, rfl, rfl, by decide +kernel, rfl, by decide +kernel, by decide +kernel⟩
theorem okFree {f f17 : Addr} {fd fd17 : FuncData} (F : Fun K "free_of" "free_of" (top 19) f fd) (B : Bn mg)
    (D17 : Df K mg "mates" f17 fd17 ["lay"]) (G17 : OkF P w K mg base 1 f17 fd17 ["lay"] (spMates K)) : OkF P w K mg base 2 f fd ["lay"] (spFree K) := by
  refine ok0 F scFree (fun vs H Q E h => ?_) (fun cdv A outer s H vs Q E hgd hr h => ?_)
  · obtain ⟨v, n, js, rfl, _⟩ := h; rfl
  · obtain ⟨v, n, js, rfl, hLy, g, q⟩ := h
    have nd := scFree.nd
    have tp := g.top
    refine ⟨_, pss_one (ps_ret (pe_lc (own := [("end", 1), ("mate", 2)]) (g := gTup K 2 (gCons (gName 1) (gCons (gName 2) gNil))) rfl nd (pi_enum (by rfl) B.enum (pa_cons (cl D17 G17 hgd hr (pa_cons (pv 0) pa_nil)) pa_nil)) (blkOk_by (N := ["lay", "end", "mate"]) (sc := defScope (top 19)) (by decide +kernel))
      (fun _ _ _ _ _ => pg_tup (by rfl) (pgs_cons (pg_name (i := 1) nd rfl (Or.inl rfl)) (pgs_cons (pg_name (i := 2) nd rfl (Or.inl rfl)) pgs_nil))) (fun _ _ _ _ _ => pts_one (pt_cmp (pc_isN (pv 2)) rfl)) (fun _ _ _ _ _ => pv 1))), ?_⟩
    refine ⟨_, rfl, v, n, js, rfl, hLy, g, fun r H1 s1 hr0 h1 => ?_⟩
    refine ⟨r, _, rfl, SqL.of h1, fun D hD => ?_⟩
    refine lc_it (walk_enum (xs := mV n js)) (fun i H' => Same H1 H' ∧ H' D = some (.lst (Vn ((List.range i).filter fun e => (mt js e).isNone)))) ⟨Same.new hD, upd_same⟩ (fun i H' _ hp => SqL.of (hp.1 _ _ h1)) ?_ ?_
    · rintro i x Ha Hb hi ⟨sm, hL⟩ ⟨T, x1, x2, rfl, nT, rfl, e1, e2⟩
      cases e1
      rw [mV_len] at hi
      obtain rfl : x2 = oV (mt js i) := (Option.some.inj ((mV_at hi).symm.trans e2)).symm
      have sT := Same.new (o := .tup [.int (i : Nat), oV (mt js i)]) nT
      refine ⟨T, _, rfl, SqT.of upd_same, rfl, _, _, rfl, _, _, rfl, rfl, rfl, ?_⟩
      rw [frees_step n js i]
      cases hm : mt js i with
      | none =>
        rw [hm] at sT
        refine ⟨_, rfl, true, rfl, iteT ⟨_, rfl, _, sT _ _ hL, ?_, same_put (sm.trans sT) hD, ?_⟩⟩
        · rw [Vn_len]
          refine Nat.lt_of_le_of_lt (Nat.le_trans (List.length_filter_le _ _) (by rw [List.length_range]; exact (show i ≤ 1000 by omega))) (by decide)
        · rw [upd_same]
          unfold Vn
          rw [List.map_append]
          rfl
      | some x =>
        rw [hm] at sT
        refine ⟨_, rfl, false, rfl, iteF ⟨sm.trans sT, ?_⟩⟩
        rw [if_neg (by simp), List.append_nil]
        exact sT _ _ hL
    · rintro H' ⟨sm, hL⟩
      rw [mV_len] at hL
      exact q D H' (s1.trans sm) (s1.free hD) hL
end
end K42
-- K42n
set_option Elab.async false
set_option linter.all false
set_option maxRecDepth 100000
set_option maxHeartbeats 4000000
namespace K42
open PySem L2 DC LamX
section
variable {P : Program} {w : World} {K : PySem.W.Frag} {mg : Str → Option Value} {base : Heap}
def spAlike (K : PySem.W.Frag) : Sp := fun vs H Q _ => ∃ (l : Addr) (n : Nat) (xs : List V), vs = [.ref l] ∧ H l = some (.lst xs) ∧ (xs.length = 2 ∨ xs.length = 3) ∧ (∀ x ∈ xs, ∃ t u, x = .ref t ∧ SqT K H t [.int (n : Nat), u]) ∧ ∀ H', Same H H' → Q .non H'
theorem sc15 : FnScope ["lays", "lay"] ["lays"] (defScope (top 16)) := ⟨rfl, rfl, rfl, by decide +kernel, rfl, by decide +kernel, by decide +kernel⟩
theorem ok15 {f : Addr} {fd : FuncData} (F : Fun K "need_alike" "need_alike" (top 16) f fd) (hA : mg "any" = none) : OkF P w K mg base 1 f fd ["lays"] (spAlike K) := by
  refine ok0 F sc15 (fun vs H Q E h => ?_) (fun cdv A outer s H vs Q E hgd hr h => ?_)
  · obtain ⟨l, n, xs, rfl, _⟩ := h; rfl
  · obtain ⟨l, n, xs, rfl, hl, h23, hx, q⟩ := h
    have nd := sc15.nd
    refine ⟨_, pss_one (ps_if (pt_val (pe_callB (cr_any rfl) (by rfl) hA (by decide +kernel) (pa_cons
      (pe_lc (own := [("lay", 1)]) (g := gName 1) (tt := tYes) rfl nd (pi_list (pv 0)) (blkOk_by (N := ["lays", "lay"]) (sc := defScope (top 16)) (by decide +kernel)) (fun _ _ _ _ _ => pg_name (i := 1) nd rfl (Or.inl rfl)) (fun _ _ _ _ _ => pts_nil)
        (fun _ _ _ _ _ => pe_cmpR op_ne (pe_ix (r := rIxT K) ix_tup (pv 1) pe_int (fun _ _ => rfl)) (pe_ix (r := rIxT K) ix_tup (pe_ix (r := rIxL K) ix_list (pv 0) pe_int (fun _ _ => rfl)) pe_int (fun _ _ => rfl)) (nomark _))) pa_nil))) (pss_one ps_never) pss_nil), ?_⟩
    have a0 : ∀ u : V, atI [V.int (n : Nat), u] 0 = some (.int (n : Nat)) := fun u => at_of (j := 0) rfl rfl
    obtain ⟨x0, e0⟩ : ∃ x0, xs[0]? = some x0 := ⟨xs[0], List.getElem?_eq_getElem (by omega)⟩
    obtain ⟨t0, u0, rfl, h0⟩ := hx x0 (List.mem_of_getElem? e0)
    have al : atI xs 0 = some (.ref t0) := at_of (j := 0) rfl e0
    refine ⟨_, rfl, l, rfl, ⟨_, SqL.of hl⟩, fun D hD => ?_⟩
    refine lc_it (walk_list (xs := xs)) (fun i H' => Same H H' ∧ H' D = some (.lst ((List.replicate i false).map V.bl))) ⟨Same.new hD, upd_same⟩ (fun i H' _ hp => SqL.of (hp.1 _ _ hl)) ?_ ?_
    · rintro i x Ha Hb hi ⟨sm, hL⟩ ⟨rfl, ex⟩
      obtain ⟨t, u, rfl, hS⟩ := hx x (List.mem_of_getElem? ex)
      refine ⟨rfl, ?_⟩
      refine yesT ?_
      refine ⟨_, rfl, t, _, 0, .int (n : Nat), rfl, rfl, Same.t sm hS, a0 u, _, rfl, l, _, 0, .ref t0, rfl, rfl, SqL.of (sm _ _ hl), al, t0, _, 0, .int (n : Nat), rfl, rfl, Same.t sm h0, a0 u0, rfl, _, hL, ?_, same_put sm hD, ?_⟩
      · rw [List.length_map, List.length_replicate]
        exact Nat.lt_of_le_of_lt (show i ≤ 1000 by omega) (by decide)
      · rw [upd_same, decide_eq_true rfl, List.replicate_succ', List.map_append]
        rfl
    · rintro H' ⟨sm, hL⟩
      rcases h23 with z | z <;> rw [z] at hL
      · exact ⟨D, [false, false], rfl, SqL.of hL, false, rfl, iteF (q _ sm)⟩
      · exact ⟨D, [false, false, false], rfl, SqL.of hL, false, rfl, iteF (q _ sm)⟩
def spTwo (K : PySem.W.Frag) : Sp := fun vs H Q _ => ∃ (v1 v2 : V) (n : Nat) (js ls : List J2), vs = [v1, v2] ∧ Ly K H v1 n js ∧ Ly K H v2 n ls ∧ Good n js ∧ Good n ls ∧ ∀ v H', Same H H' → Q v H'
theorem sc14 : FnScope ["one", "other"] ["one", "other"] (defScope (top 15)) := ⟨rfl, rfl, rfl, by decide +kernel, rfl, by decide +kernel, by decide +kernel⟩
theorem ok14 {f f13 f15 : Addr} {fd fd13 fd15 : FuncData} (F : Fun K "need_two" "need_two" (top 15) f fd)
    (D13 : Df K mg "need_lay" f13 fd13 ["lay"]) (G13 : OkF P w K mg base 5 f13 fd13 ["lay"] (spLay K))
    (D15 : Df K mg "need_alike" f15 fd15 ["lays"]) (G15 : OkF P w K mg base 1 f15 fd15 ["lays"] (spAlike K)) : OkF P w K mg base 6 f fd ["one", "other"] (spTwo K) := by
  refine ok0 F sc14 (fun vs H Q E h => ?_) (fun cdv A outer s H vs Q E hgd hr h => ?_)
  · obtain ⟨v1, v2, n, js, ls, rfl, _⟩ := h; rfl
  · obtain ⟨v1, v2, n, js, ls, rfl, y1, y2, g1, g2, q⟩ := h
    have hr1 : Room 1 _ := hr.mono (by decide)
    refine ⟨_, pss_cons (ps_expr (cl D13 G13 hgd hr (pa_cons (pv 0) pa_nil))) (pss_cons (ps_expr (cl D13 G13 hgd hr (pa_cons (pv 1) pa_nil)))
      (pss_cons (ps_expr (cl D15 G15 hgd hr1 (pa_cons (pe_lst (pa_cons (pv 0) (pa_cons (pv 1) pa_nil))) pa_nil))) (pss_one (ps_ret (pe_tup (pa_cons (pv 0) (pa_cons (pv 1) pa_nil))))))), ?_⟩
    refine ⟨_, rfl, v1, n, js, rfl, y1, g1, fun H1 s1 => ?_⟩
    refine ⟨_, rfl, v2, n, ls, rfl, y2.up s1, g2, fun H2 s2 => ?_⟩
    have S2 := s1.trans s2
    obtain ⟨t1, u1, rfl, h1, _⟩ := y1
    obtain ⟨t2, u2, rfl, h2, _⟩ := y2
    refine ⟨_, rfl, _, rfl, by show 2 ≤ sizeLine; decide, fun l hl => ?_⟩
    have s3 := S2.trans (Same.new (o := .lst [.ref t1, .ref t2]) hl)
    refine ⟨l, n, _, rfl, upd_same, .inl rfl, fun x hx => ?_, fun H3 s4 => ?_⟩
    · simp only [List.mem_cons, List.not_mem_nil, or_false] at hx
      rcases hx with rfl | rfl
      · exact ⟨t1, u1, rfl, Same.t s3 h1⟩
      · exact ⟨t2, u2, rfl, Same.t s3 h2⟩
    exact ⟨_, rfl, _, rfl, by show 2 ≤ sizeLine; decide, fun T hT => q _ _ ((s3.trans s4).trans (Same.new hT))⟩
def spLst (K : PySem.W.Frag) (Pt : Addr) : Sp := fun vs H Q _ => ∃ (v1 v2 : V) (n : Nat) (js ls : List J2), vs = [v1, v2] ∧ Ly K H v1 n js ∧ Ly K H v2 n ls ∧ Good n js ∧ Good n ls ∧ Tabs (Tw Pt) H ∧
  ∀ (H' : Hp), ExtN H H' → Tabs (Tw Pt) H' → Q (.int (cst n js ls : Nat)) H'
theorem scLst : FnScope ["one", "other"] ["one", "other"] (defScope (top 36)) := ⟨rfl, rfl, rfl, by decide +kernel, rfl, by decide +kernel, by decide +kernel⟩
theorem okLst {f fT fC Pt : Addr} {fd fdT fdC : FuncData} (F : Fun K "least_steps" "least_steps" (top 36) f fd)
    (DT : Df K mg "need_two" fT fdT ["one", "other"]) (GT : OkF P w K mg base 6 fT fdT ["one", "other"] (spTwo K))
    (DCo : Df K mg "cost_of" fC fdC ["one", "other"]) (GCo : OkF P w K mg base 5 fC fdC ["one", "other"] (spCo K Pt)) : OkF P w K mg base 7 f fd ["one", "other"] (spLst K Pt) := by
  refine ok0 F scLst (fun vs H Q E h => ?_) (fun cdv A outer s H vs Q E hgd hr h => ?_)
  · obtain ⟨v1, v2, n, js, ls, rfl, _⟩ := h; rfl
  · obtain ⟨v1, v2, n, js, ls, rfl, y1, y2, g1, g2, hT, q⟩ := h
    have hr5 : Room 5 _ := hr.mono (by decide)
    refine ⟨_, (pss_cons (ps_expr (cl DT GT hgd hr (pa_cons (pv 0) (pa_cons (pv 1) pa_nil)))) (pss_one (ps_ret (cl DCo GCo hgd hr5 (pa_cons (pv 0) (pa_cons (pv 1) pa_nil)))))), ?_⟩
    refine ⟨_, rfl, _, rfl, v1, v2, n, js, ls, rfl, y1, y2, g1, g2, fun v H1 s1 => ?_⟩
    exact ⟨_, rfl, _, rfl, v1, v2, n, js, ls, rfl, y1.up s1, y2.up s1, g1, g2, hT.ext s1, fun H2 e2 T2 => q H2 ((ExtN.of s1).trans e2) T2⟩
end
end K42
-- K42p
set_option Elab.async false
set_option linter.all false
set_option maxRecDepth 100000
set_option maxHeartbeats 8000000
/-! K42p: cuts, joins, pairings, joints_without, are_joints -/
namespace DC
open PySem L2
/-- loops within comprehensions of two clauses -/
theorem it_gen {J : It} {n : Nat} {G : Hp → Prop} {Y : Nat → Hp → V → Hp → Prop} (w : Walk J n G Y) {H0 : Hp} {Qd : Hp → Prop} {body : V → Hp → (Hp → Prop) → Prop} (Pv : Nat → Hp → Prop) (h0 : Pv 0 H0) (hG : ∀ i H, i ≤ n → Pv i H → G H)
    (hs : ∀ i x H H', i < n → Pv i H → Y i H x H' → body x H' (Pv (i + 1))) (hd : ∀ H, Pv n H → Qd H) :
    ∃ W : Nat → Nat → Hp → Prop, (∃ m, W 0 m H0) ∧ ∀ i m H, W i m H →
      (J.stop i H ∧ Qd H) ∨ (J.go i H ∧ ∃ Nx : Hp → Prop, (∀ H', Nx H' → ∃ m', m' < m ∧ W (i + 1) m' H') ∧ ∀ x H', J.yld i H x H' → body x H' Nx) := by
  let Z : Nat → Nat → Hp → Prop := fun a b h => b + a = n ∧ Pv a h
  refine ⟨Z, ⟨n, Nat.add_zero n, h0⟩, fun a b h z => ?_⟩
  obtain ⟨e, p⟩ := z
  have c := hG a h (by omega) p
  rcases Nat.lt_or_ge a n with lt | ge
  · right
    exact ⟨w.goes a h lt c, Pv (a + 1), fun h2 p2 => ⟨b - 1, by omega, by show b - 1 + (a + 1) = n; omega, p2⟩, fun x h2 y => hs a x h h2 lt p (w.yields a h x h2 lt c y)⟩
  · left
    obtain rfl : a = n := by omega
    exact ⟨w.stops h c, hd h p⟩
theorem pi_listK {X : Cx} {K : PySem.W.Frag} {tg a : Expr} {t : TE} (h : PE X a t) (e : X.K = K := by rfl) : PI X tg a (iList K t) := by
  subst e
  exact pi_list h
end DC
namespace K42
open PySem L2 DC LamX
section
variable {P : Program} {w : World} {K : PySem.W.Frag} {mg : Str → Option Value} {base : Heap}
def cutS (p : J2) : Stp2 := ([p], [])
def spCuts (K : PySem.W.Frag) : Sp := fun vs H Q _ => ∃ (v : V) (js : List J2), vs = [v] ∧ Js K H v js ∧ js.length ≤ 24 ∧ ∀ (r : Addr) (us : List V) (H' : Hp), Same H H' → H r = none → H' r = some (.lst us) → Paired (Stp K H') us (js.map cutS) → Q (.ref r) H'
abbrev NCu : List Str := ["joints", "joint"]
theorem scCu : FnScope NCu ["joints"] (defScope (top 23)) := ⟨rfl, rfl, rfl, by decide +kernel, rfl, by decide +kernel, by decide +kernel⟩
theorem okCu {f : Addr} {fd : FuncData} (F : Fun K "cuts" "cuts" (top 23) f fd) : OkF P w K mg base 1 f fd ["joints"] (spCuts K) := by
  refine ok0 F scCu (fun vs H Q E h => ?_) (fun cdv A outer s H vs Q E hgd hr h => ?_)
  · obtain ⟨v, js, rfl, _⟩ := h; rfl
  · obtain ⟨v, js, rfl, ⟨t, ws, rfl, hS, hP⟩, hl, q⟩ := h
    have nd := scCu.nd
    have lw : ws.length = js.length := Paired.length hP
    refine ⟨_, (pss_one (ps_ret (pe_lc (own := [("joint", 1)]) (g := gName 1) (tt := tYes) rfl nd (pi_tup (pv 0)) (blkOk_by (N := NCu) (sc := defScope (top 23)) (by decide +kernel)) (fun _ _ _ _ _ => pg_name (i := 1) nd rfl (Or.inl rfl)) (fun _ _ _ _ _ => pts_nil) (fun _ _ _ _ _ => (pe_tup (pa_cons (pe_tup (pa_cons (pv 1) pa_nil)) (pa_cons (pe_tup pa_nil) pa_nil))))))), ?_⟩
    refine ⟨_, rfl, t, rfl, ⟨ws, hS⟩, fun D hD => ?_⟩
    refine lc_it (walk_tup (xs := ws)) (fun i H' => ∃ acc : List V, Same H H' ∧ H' D = some (.lst acc) ∧ Paired (Stp K H') acc ((js.take i).map cutS)) ⟨[], Same.new hD, upd_same, .nil⟩ (fun i H' _ hp => by
      obtain ⟨acc, sm, _⟩ := hp
      exact Same.t sm hS) ?_ ?_
    · rintro i x Ha Hb hi ⟨acc, sm, hL, hA⟩ ⟨rfl, ex⟩
      obtain ⟨p, ep, hx⟩ := paired_at hP ex
      have hx := hx.up sm
      have la := Paired.length hA
      refine ⟨rfl, ?_⟩
      refine yesT ?_
      refine ⟨_, rfl, by show 1 ≤ sizeLine; decide, fun T1 hT1 => ⟨by show 0 ≤ sizeLine; decide, fun T2 hT2 => ⟨by show 2 ≤ sizeLine; decide, fun T3 hT3 => ?_⟩⟩⟩
      have u1 := Same.new (o := .tup [x]) hT1
      have u2 := Same.new (o := .tup []) hT2
      have u3 := Same.new (o := .tup [.ref T1, .ref T2]) hT3
      have u := u1.trans (u2.trans u3)
      have hSt : Stp K (upd (upd (upd Hb T1 (.tup [x])) T2 (.tup [])) T3 (.tup [.ref T1, .ref T2])) (.ref T3) (cutS p) :=
        ⟨T3, _, _, rfl, SqT.of upd_same, ⟨T1, [x], rfl, SqT.of ((u2.trans u3) _ _ upd_same), .cons (hx.up u) .nil⟩, ⟨T2, [], rfl, SqT.of (u3 _ _ upd_same), .nil⟩⟩
      have tm := TM.put (K := K) (o := .lst (acc ++ [.ref T3])) (u _ _ hL)
      refine ⟨acc, u _ _ hL, ?_, acc ++ [.ref T3], same_put (sm.trans u) hD, upd_same, ?_⟩
      · rw [List.length_map, List.length_take] at la
        exact Nat.lt_of_le_of_lt (show acc.length ≤ 1000 by omega) (by decide)
      · rw [take_next ep, List.map_append]
        exact pair_snoc (tm.stps ((TM.of u).stps hA)) (tm.stp hSt)
    · rintro H' ⟨acc, sm, hL, hA⟩
      rw [List.take_of_length_le (by omega)] at hA
      exact q D acc H' sm hD hL hA
def spJoins (K : PySem.W.Frag) : Sp := fun vs H Q _ => ∃ (l : Addr) (fr : List Nat), vs = [.ref l] ∧ H l = some (.lst (Vn fr)) ∧ fr.length ≤ 24 ∧ ∀ (r : Addr) (us : List V) (H' : Hp), Same H H' → H r = none → H' r = some (.lst us) → Paired (Stp K H') us (pre2 fr fr.length) → us.length ≤ 600 → Q (.ref r) H'
abbrev NJn : List Str := ["free", "at", "low", "high"]
theorem scJn : FnScope NJn ["free"] (defScope (top 22)) := ⟨rfl, rfl, rfl, by decide +kernel, rfl, by decide +kernel, by decide +kernel⟩
theorem okJn {f : Addr} {fd : FuncData} (F : Fun K "joins" "joins" (top 22) f fd) (B : Bn mg) : OkF P w K mg base 1 f fd ["free"] (spJoins K) := by
  refine ok0 F scJn (fun vs H Q E h => ?_) (fun cdv A outer s H vs Q E hgd hr h => ?_)
  · obtain ⟨l, fr, rfl, _⟩ := h; rfl
  · obtain ⟨l, fr, rfl, hl, hf, q⟩ := h
    have nd := scJn.nd
    have lenV : (Vn fr).length = fr.length := Vn_len fr
    refine ⟨_, (pss_one (ps_ret (pe_lc2 (own := [("at", 1), ("low", 2), ("high", 3)]) (vs1 := [3]) (g := gTup K 2 (gCons (gName 1) (gCons (gName 2) gNil))) (g1 := gName 3) (tt := tYes) (tt1 := tYes) rfl nd (pi_enum (by rfl) B.enum (pa_cons (pv 0) pa_nil)) (blkOk_by (N := NJn) (sc := defScope (top 22)) (by decide +kernel)) (by decide) (fun _ _ _ _ _ => (pg_tup (by rfl) (pgs_cons (pg_name (i := 1) nd rfl (Or.inl rfl)) (pgs_cons (pg_name (i := 2) nd rfl (Or.inl rfl)) pgs_nil)))) (fun _ _ _ _ _ => pts_nil) (fun _ _ _ _ _ => pi_listK (K := K) (pe_slice (r := rSlL K) sl_list (pv 0) (po_some (pe_op op_add (pv 1) pe_int)) po_none)) (fun _ _ _ _ _ => pg_name (i := 3) nd rfl (Or.inl rfl)) (fun _ _ _ _ _ => pts_nil) (fun _ _ _ _ _ => (pe_tup (pa_cons (pe_tup pa_nil) (pa_cons (pe_tup (pa_cons (pe_tup (pa_cons (pv 2) (pa_cons (pv 3) pa_nil))) pa_nil)) pa_nil))))))), ?_⟩
    refine ⟨_, rfl, l, Vn fr, rfl, SqL.of hl, fun D hD => ?_⟩
    refine it_gen (walk_enum (xs := Vn fr)) (fun i H' => ∃ acc : List V, Same H H' ∧ H' D = some (.lst acc) ∧ Paired (Stp K H') acc (pre2 fr i) ∧ acc.length ≤ 24 * i) ⟨[], Same.new hD, upd_same, .nil, Nat.le_refl _⟩ (fun i H' _ hp => by
      obtain ⟨acc, sm, _⟩ := hp
      exact SqL.of (sm _ _ hl)) ?_ ?_
    · rintro i x Ha Hb hi ⟨acc, sm, hL, hA, hal⟩ ⟨T, x1, x2, rfl, nT, rfl, e1, e2⟩
      cases e1
      have hi' : i < fr.length := by omega
      obtain rfl : x2 = V.int (fr.getD i 0 : Nat) := Option.some.inj (Eq.trans (Eq.symm e2) (Vn_at hi'))
      have sT := Same.new (o := .tup [.int (i : Nat), .int (fr.getD i 0 : Nat)]) nT
      refine ⟨T, _, rfl, SqT.of upd_same, rfl, _, _, rfl, _, _, rfl, rfl, rfl, ?_⟩
      refine yesT ?_
      refine ⟨_, rfl, _, rfl, ((i : Nat) : Int), 1, rfl, rfl, _, rfl, l, _, rfl, SqL.of (sT _ _ (sm _ _ hl)), fun p hp => ?_⟩
      have ecut : cutV (Vn fr) (some (((i : Nat) : Int) + 1)) none = Vn (fr.drop (i + 1)) := by
        have := cut_a (xs := Vn fr) (a := i + 1) (by rw [Vn_len]; omega)
        rw [show ((i + 1 : Nat) : Int) = ((i : Nat) : Int) + 1 by omega] at this
        rw [this, vn_drop]
      rw [ecut]
      have sp := Same.new (o := .lst (Vn (fr.drop (i + 1)))) hp
      have hLp := sp _ _ (sT _ _ hL)
      have Dp : D ≠ p := ne_of_none (sT _ _ hL) hp
      have SS := sm.trans (sT.trans sp)
      have hAp := (TM.of (sT.trans sp)).stps hA
      have hpp := upd_same (H := upd Ha T (.tup [.int (i : Nat), .int (fr.getD i 0 : Nat)])) (a := p) (o := .lst (Vn (fr.drop (i + 1))))
      clear sT sp hp nT
      generalize upd (upd Ha T (.tup [.int (i : Nat), .int (fr.getD i 0 : Nat)])) p (.lst (Vn (fr.drop (i + 1)))) = Hc at hLp SS hAp hpp ⊢
      refine ⟨p, rfl, ⟨_, SqL.of hpp⟩, ?_⟩
      refine it_gen (walk_list (xs := Vn (fr.drop (i + 1)))) (fun d H' => ∃ acc : List V, Same H H' ∧ H' D = some (.lst acc) ∧ H' p = some (.lst (Vn (fr.drop (i + 1)))) ∧ Paired (Stp K H') acc (pre2 fr i ++ ((fr.drop (i + 1)).take d).map fun b => ([], [(fr.getD i 0, b)])) ∧ acc.length ≤ 24 * i + d) ⟨acc, SS, hLp, hpp, by rw [List.take_zero, List.map_nil, List.append_nil]; exact hAp, hal⟩ (fun d H' _ hp => by
        obtain ⟨acc, sm, _, h, _⟩ := hp
        exact SqL.of h) ?_ ?_
      · rintro d y Hd He hd ⟨acc, sm, hL, hp, hA, hal⟩ ⟨rfl, ey⟩
        rw [Vn_len] at hd
        have hd2 := hd
        rw [List.length_drop] at hd2
        obtain rfl : y = V.int ((fr.drop (i + 1)).getD d 0 : Nat) := Option.some.inj (Eq.trans (Eq.symm ey) (Vn_at hd))
        refine ⟨rfl, ?_⟩
        refine yesT ?_
        refine ⟨by show 0 ≤ sizeLine; decide, fun T1 hT1 => ⟨_, rfl, _, rfl, by show 2 ≤ sizeLine; decide, fun T2 hT2 => ⟨by show 1 ≤ sizeLine; decide, fun T3 hT3 => ⟨by show 2 ≤ sizeLine; decide, fun T4 hT4 => ?_⟩⟩⟩⟩
        have u1 := Same.new (o := .tup []) hT1
        have u2 := Same.new (o := .tup [.int (fr.getD i 0 : Nat), .int ((fr.drop (i + 1)).getD d 0 : Nat)]) hT2
        have u3 := Same.new (o := .tup [.ref T2]) hT3
        have u4 := Same.new (o := .tup [.ref T1, .ref T3]) hT4
        have u34 := u3.trans u4
        have u := u1.trans (u2.trans u34)
        have hSt : Stp K (upd (upd (upd (upd He T1 (.tup [])) T2 (.tup [.int (fr.getD i 0 : Nat), .int ((fr.drop (i + 1)).getD d 0 : Nat)])) T3 (.tup [.ref T2])) T4 (.tup [.ref T1, .ref T3])) (.ref T4) ([], [(fr.getD i 0, (fr.drop (i + 1)).getD d 0)]) :=
          ⟨T4, _, _, rfl, SqT.of upd_same, ⟨T1, [], rfl, SqT.of ((u2.trans u34) _ _ upd_same), .nil⟩, ⟨T3, [.ref T2], rfl, SqT.of (u4 _ _ upd_same), .cons ⟨T2, rfl, SqT.of (u34 _ _ upd_same)⟩ .nil⟩⟩
        have tm := TM.put (K := K) (o := .lst (acc ++ [.ref T4])) (u _ _ hL)
        refine ⟨acc, u _ _ hL, Nat.lt_of_le_of_lt (show acc.length ≤ 1000 by omega) (by decide), acc ++ [.ref T4], same_put (sm.trans u) hD, upd_same, by rw [upd_ne (Ne.symm Dp)]; exact u _ _ hp, ?_, by rw [List.length_append]; exact Nat.succ_le_succ hal⟩
        have en : (fr.drop (i + 1))[d]? = some ((fr.drop (i + 1)).getD d 0) := by
          rw [List.getD_eq_getElem?_getD, List.getElem?_eq_getElem hd]
          rfl
        rw [take_next en, List.map_append, ← List.append_assoc]
        exact pair_snoc (tm.stps ((TM.of u).stps hA)) (tm.stp hSt)
      · rintro H' ⟨acc, sm, hL, hp, hA, hal⟩
        rw [Vn_len, List.take_of_length_le (Nat.le_refl _), ← pre2_succ] at hA
        rw [Vn_len, List.length_drop] at hal
        exact ⟨acc, sm, hL, hA, by omega⟩
    · rintro H' ⟨acc, sm, hL, hA, hal⟩
      rw [lenV] at hA hal
      exact q D acc H' sm hD hL hA (by omega)
def spPg (K : PySem.W.Frag) : Sp := fun vs H Q _ => ∃ (v1 v2 : V) (p q : J2), vs = [v1, v2] ∧ Pr K H v1 p ∧ Pr K H v2 q ∧ ∀ (r : Addr) (us : List V) (H' : Hp), Same H H' → H' r = some (.lst us) → Paired (Js K H') us [[(p.1, q.1), nm (p.2, q.2)], [(p.1, q.2), nm (p.2, q.1)]] → Q (.ref r) H'
abbrev NPg : List Str := ["one", "other", "low", "high", "left", "right"]
theorem scPg : FnScope NPg ["one", "other"] (defScope (top 21)) := ⟨rfl, rfl, rfl, by decide +kernel, rfl, by decide +kernel, by decide +kernel⟩
theorem okPg {f fJ : Addr} {fd fdJ : FuncData} (F : Fun K "pairings" "pairings" (top 21) f fd)
    (DJ : Df K mg "joint_of" fJ fdJ ["one", "other"]) (GJ : OkF P w K mg base 1 fJ fdJ ["one", "other"] (spJt K)) : OkF P w K mg base 2 f fd ["one", "other"] (spPg K) := by
  refine ok0 F scPg (fun vs H Q E h => ?_) (fun cdv A outer s H vs Q E hgd hr h => ?_)
  · obtain ⟨v1, v2, p, q, rfl, _⟩ := h; rfl
  · obtain ⟨v1, v2, p, q, rfl, ⟨a, rfl, ha⟩, ⟨b, rfl, hb⟩, fin⟩ := h
    have nd := scPg.nd
    have hr1 : Room 1 _ := hr.mono (by decide)
    refine ⟨_, (pss_cons (ps_asg (pv 0) (pg_tup (by rfl) (pgs_cons (pg_name (i := 2) nd rfl (.inl rfl)) (pgs_cons (pg_name (i := 3) nd rfl (.inl rfl)) pgs_nil)))) (pss_cons (ps_asg (pv 1) (pg_tup (by rfl) (pgs_cons (pg_name (i := 4) nd rfl (.inl rfl)) (pgs_cons (pg_name (i := 5) nd rfl (.inl rfl)) pgs_nil)))) (pss_one (ps_ret (pe_lst (pa_cons (pe_tup (pa_cons (pe_tup (pa_cons (pv 2) (pa_cons (pv 4) pa_nil))) (pa_cons (cl DJ GJ hgd hr1 (pa_cons (pv 3) (pa_cons (pv 5) pa_nil))) pa_nil))) (pa_cons (pe_tup (pa_cons (pe_tup (pa_cons (pv 2) (pa_cons (pv 5) pa_nil))) (pa_cons (cl DJ GJ hgd hr1 (pa_cons (pv 3) (pa_cons (pv 4) pa_nil))) pa_nil))) pa_nil))))))), ?_⟩
    refine ⟨_, rfl, a, _, rfl, ha, rfl, _, _, rfl, _, _, rfl, rfl, ?_⟩
    refine ⟨_, rfl, b, _, rfl, hb, rfl, _, _, rfl, _, _, rfl, rfl, ?_⟩
    refine ⟨_, rfl, _, rfl, by show 2 ≤ sizeLine; decide, fun T1 hT1 => ?_⟩
    have u1 := Same.new (o := .tup [.int (p.1 : Nat), .int (q.1 : Nat)]) hT1
    refine ⟨_, rfl, _, rfl, p.2, q.2, rfl, fun T2 H2 s2 fr2 hT2 => ⟨by show 2 ≤ sizeLine; decide, fun T3 hT3 => ?_⟩⟩
    have u3 := Same.new (o := .tup [.ref T1, .ref T2]) hT3
    refine ⟨_, rfl, _, rfl, by show 2 ≤ sizeLine; decide, fun T4 hT4 => ?_⟩
    have u4 := Same.new (o := .tup [.int (p.1 : Nat), .int (q.2 : Nat)]) hT4
    refine ⟨_, rfl, _, rfl, p.2, q.1, rfl, fun T5 H5 s5 fr5 hT5 => ⟨by show 2 ≤ sizeLine; decide, fun T6 hT6 => ⟨by show 2 ≤ sizeLine; decide, fun L hL => ?_⟩⟩⟩
    have u6 := Same.new (o := .tup [.ref T4, .ref T5]) hT6
    have uL := Same.new (o := .lst [.ref T3, .ref T6]) hL
    have s3L := u4.trans (s5.trans (u6.trans uL))
    have s56 := u6.trans uL
    exact fin L _ _ (u1.trans (s2.trans (u3.trans s3L))) upd_same (.cons ⟨T3, _, rfl, SqT.of (s3L _ _ upd_same), .cons ⟨T1, rfl, SqT.of ((s2.trans (u3.trans s3L)) _ _ upd_same)⟩ (.cons ⟨T2, rfl, SqT.of ((u3.trans s3L) _ _ hT2)⟩ .nil)⟩
      (.cons ⟨T6, _, rfl, SqT.of (uL _ _ upd_same), .cons ⟨T4, rfl, SqT.of ((s5.trans s56) _ _ upd_same)⟩ (.cons ⟨T5, rfl, SqT.of (s56 _ _ hT5)⟩ .nil)⟩ .nil))
def outJ (js ls : List J2) : List J2 := js.filter fun p => !decide (p ∈ ls)
def spJw (K : PySem.W.Frag) : Sp := fun vs H Q _ => ∃ (v1 v2 : V) (n : Nat) (js ls : List J2), vs = [v1, v2] ∧ Ly K H v1 n js ∧ Ly K H v2 n ls ∧ js.length ≤ 24 ∧ ∀ (r : Addr) (us : List V) (H' : Hp), Same H H' → H' r = some (.tup us) → Paired (Pr K H') us (outJ js ls) → Q (.ref r) H'
abbrev NJw : List Str := ["one", "other", "joint"]
theorem scJw : FnScope NJw ["one", "other"] (defScope (top 27)) := ⟨rfl, rfl, rfl, by decide +kernel, rfl, by decide +kernel, by decide +kernel⟩
theorem okJw {f : Addr} {fd : FuncData} (F : Fun K "joints_without" "joints_without" (top 27) f fd) (B : Bn mg) : OkF P w K mg base 1 f fd ["one", "other"] (spJw K) := by
  refine ok0 F scJw (fun vs H Q E h => ?_) (fun cdv A outer s H vs Q E hgd hr h => ?_)
  · obtain ⟨v1, v2, n, js, ls, rfl, _⟩ := h; rfl
  · obtain ⟨v1, v2, n, js, ls, rfl, ⟨t, u, rfl, hS, tj, ws, rfl, hSj, hPj⟩, ⟨t2, u2, rfl, hS2, ta, xa, rfl, hSa, hPa⟩, hl, q⟩ := h
    have nd := scJw.nd
    refine ⟨_, (pss_one (ps_ret (pe_callTy call_tuple_of (by rfl) B.tuple (by decide +kernel) (pa_cons (pe_lc (own := [("joint", 2)]) (g := gName 2) rfl nd (pi_tup (pe_ix (r := rIxT K) ix_tup (pv 0) pe_int (fun _ _ => rfl))) (blkOk_by (N := NJw) (sc := defScope (top 27)) (by decide +kernel)) (fun _ _ _ _ _ => pg_name (i := 2) nd rfl (Or.inl rfl)) (fun _ _ _ _ _ => pts_one (pt_cmpR (r := rNotInDT K) (op_notInDT (u65 hr)) (pv 2) (pe_ix (r := rIxT K) ix_tup (pv 1) pe_int (fun _ _ => rfl)) (by rfl))) (fun _ _ _ _ _ => (pv 2))) pa_nil)))), ?_⟩
    have a1 : atI [V.int (n : Nat), V.ref tj] 1 = some (.ref tj) := at_of (j := 1) rfl rfl
    have b1 : atI [V.int (n : Nat), V.ref ta] 1 = some (.ref ta) := at_of (j := 1) rfl rfl
    have len : ws.length = js.length := Paired.length hPj
    refine ⟨_, rfl, t, _, 1, .ref tj, rfl, rfl, hS, a1, tj, rfl, ⟨ws, hSj⟩, fun D hD => ?_⟩
    refine lc_it (walk_tup (xs := ws)) (fun i H' => ∃ acc : List V, Same H H' ∧ H' D = some (.lst acc) ∧ Paired (Pr K H') acc (outJ (js.take i) ls) ∧ acc.length ≤ i) ⟨[], Same.new hD, upd_same, .nil, Nat.le_refl _⟩ (fun i H' _ hp => by
      obtain ⟨acc, sm, _⟩ := hp
      exact Same.t sm hSj) ?_ ?_
    · rintro i x Ha Hb hi ⟨acc, sm, hL, hd, hal⟩ ⟨rfl, ex⟩
      obtain ⟨p, ep, hx⟩ := paired_at hPj ex
      have hx' := hx.up sm
      refine ⟨rfl, ?_⟩
      obtain ⟨px, rfl, hpx⟩ := hx'
      refine ⟨_, rfl, _, rfl, t2, _, 1, .ref ta, rfl, rfl, Same.t sm hS2, b1, pairD p, ls.map pairD, .tup hpx (.cons (.int _) (.cons (.int _) .nil)), .tup (Same.t sm hSa) (js_dpp ((TM.of sm).prs hPa)), shaped_pair p, shaped_pairs ls, _, rfl, ?_⟩
      rw [any_pair, take_next ep]
      unfold outJ at hd ⊢
      rw [List.filter_append]
      cases c : (!decide (p ∈ ls)) with
      | true =>
        refine iteT ⟨_, rfl, acc, hL, Nat.lt_of_le_of_lt (show acc.length ≤ 1000 by omega) (by decide), acc ++ [.ref px], same_put sm hD, upd_same, ?_, by rw [List.length_append]; exact Nat.succ_le_succ hal⟩
        have e1 : ([p].filter fun p => !decide (p ∈ ls)) = [p] := by simp only [List.filter_cons, c, if_true, List.filter_nil]
        rw [e1]
        exact pair_snoc ((TM.put hL).prs hd) ⟨px, rfl, sqT_put hpx hL⟩
      | false =>
        refine iteF ⟨acc, sm, hL, ?_, Nat.le_succ_of_le hal⟩
        have e1 : ([p].filter fun p => !decide (p ∈ ls)) = [] := by simp only [List.filter_cons, c, Bool.false_eq_true, if_false, List.filter_nil]
        rw [e1, List.append_nil]
        exact hd
    · rintro H1 ⟨acc, s1, hL, hd, hal⟩
      rw [len, List.take_of_length_le (Nat.le_refl _)] at hd
      refine ⟨D, acc, rfl, .inl ⟨SqL.of hL, fun T hT => ?_⟩⟩
      have uT := Same.new (o := .tup acc) hT
      exact q T acc _ (s1.trans uT) upd_same ((TM.of uT).prs hd)
def spAre (K : PySem.W.Frag) : Sp := fun vs H Q _ => ∃ (v : V) (n : Nat) (js : List J2), vs = [v, .int n] ∧ Js K H v js ∧ Good n js ∧ ∀ H', Same H H' → Q (.bl true) H'
theorem scAre : FnScope ["value", "links"] ["value", "links"] (defScope (top 11)) := ⟨rfl, rfl, rfl, by decide +kernel, rfl, by decide +kernel, by decide +kernel⟩
theorem okAre {f f11 : Addr} {fd fd11 : FuncData} (F : Fun K "are_joints" "are_joints" (top 11) f fd) (B : Bn mg)
    (D11 : Df K mg "false_joint" f11 fd11 ["joints", "links"]) (G11 : OkF P w K mg base 4 f11 fd11 ["joints", "links"] (spNoFalse K)) : OkF P w K mg base 5 f fd ["value", "links"] (spAre K) := by
  refine ok0 F scAre (fun vs H Q E h => ?_) (fun cdv A outer s H vs Q E hgd hr h => ?_)
  · obtain ⟨v, n, js, rfl, _⟩ := h; rfl
  · obtain ⟨v, n, js, rfl, ⟨tj, ws, rfl, hSj, hPj⟩, g, q⟩ := h
    refine ⟨_, (pss_one (ps_ret (pe_and (isi (T := "tuple") B.isi B.tuple (pv 0) (by decide +kernel)) (pe_one (pe_cmp (pc_isN (cl D11 G11 hgd hr (pa_cons (pv 0) (pa_cons (pv 1) pa_nil))))))))), ?_⟩
    refine ⟨_, rfl, _, _, _, _, true, rfl, .ty _, tyT hSj, kit_ty (by decide +kernel), true, rfl, iteT ?_⟩
    exact ⟨_, rfl, _, rfl, .ref tj, n, js, rfl, ⟨tj, ws, rfl, hSj, hPj⟩, g, fun H' sm => q H' sm⟩
end
end K42
-- K42s
set_option Elab.async false
set_option linter.all false
set_option maxRecDepth 100000
set_option maxHeartbeats 8000000
/-! K42s: what a step is; the single ones; the difference -/
namespace K42
open PySem L2 DC LamX
inductive IsSt (n : Nat) (js : List J2) : Stp2 → Prop
  | cut (p : J2) (h : p ∈ js) : IsSt n js ([p], [])
  | shift (p : J2) (e near : Nat) (h : p ∈ js) (he : e ∈ frees n js) (hn : near = p.1 ∨ near = p.2) : IsSt n js ([p], [mk2 near e])
  | dbl (p q : J2) (h : p ∈ js) (h' : q ∈ js) (a : p.1 < q.1) (ap : Apart p q) : IsSt n js ([p, q], [(p.1, q.1), mk2 p.2 q.2])
  | dbl2 (p q : J2) (h : p ∈ js) (h' : q ∈ js) (a : p.1 < q.1) (ap : Apart p q) : IsSt n js ([p, q], [(p.1, q.2), mk2 p.2 q.1])
  | join (a b : Nat) (ha : a ∈ frees n js) (hb : b ∈ frees n js) (h : a < b) : IsSt n js ([], [(a, b)])
theorem frees_asc (n : Nat) (js : List J2) : (frees n js).Pairwise (· < ·) := by
  unfold frees
  exact List.pairwise_lt_range.filter _
theorem free_lt {n : Nat} {js : List J2} {e : Nat} (h : e ∈ frees n js) : e < 2 * n ∧ mt js e = none := by
  unfold frees at h
  obtain ⟨h1, h2⟩ := List.mem_filter.mp h
  exact ⟨List.mem_range.mp h1, Option.isNone_iff_eq_none.mp h2⟩
theorem mt_end {n : Nat} {js : List J2} (g : Good n js) {p : J2} (h : p ∈ js) {x : Nat} (hx : x = p.1 ∨ x = p.2) : mt js x ≠ none := by
  obtain ⟨h1, h2⟩ := mt_of g.dis (fun q hq => Nat.ne_of_lt (g.rng q hq).1) h
  rcases hx with rfl | rfl
  · rw [h1]; exact fun z => nomatch z
  · rw [h2]; exact fun z => nomatch z
theorem sm2_lt {p q : J2} (h : p.1 < q.1) : sm2 p q = [p, q] := if_pos h
theorem mk2_lt {a b : Nat} (h : a < b) : mk2 a b = (a, b) := by
  unfold mk2
  rw [Nat.min_eq_left (by omega), Nat.max_eq_right (by omega)]
theorem nm_mk2 (a b : Nat) : nm (a, b) = mk2 a b := by
  unfold nm mk2
  by_cases h : a < b
  · rw [if_pos h, Nat.min_eq_left (by omega), Nat.max_eq_right (by omega)]
  · rw [if_neg h, Nat.min_eq_right (by omega), Nat.max_eq_left (by omega)]
theorem isSt_of {n : Nat} {js : List J2} (g : Good n js) {st : Stp2} (h : st ∈ stJ n js) : IsSt n js st := by
  unfold stJ at h
  rcases List.mem_append.mp h with h | h
  · obtain ⟨k, hk, h⟩ := List.mem_flatMap.mp h
    have hk := List.mem_range.mp hk
    have ek : js.getD k (0, 0) = js[k] := by
      rw [List.getD_eq_getElem?_getD, List.getElem?_eq_getElem hk]
      rfl
    have pm : js[k] ∈ js := List.getElem_mem hk
    rw [ek] at h
    unfold stAt at h
    rcases List.mem_append.mp h with h | h
    · rcases List.mem_cons.mp h with rfl | h
      · exact .cut _ pm
      · obtain ⟨e, he, h⟩ := List.mem_flatMap.mp h
        simp only [List.mem_cons, List.not_mem_nil, or_false] at h
        rcases h with rfl | rfl
        · exact .shift _ e _ pm he (.inl rfl)
        · exact .shift _ e _ pm he (.inr rfl)
    · obtain ⟨o, ho, h⟩ := List.mem_flatMap.mp h
      obtain ⟨m, hm, rfl⟩ := List.getElem_of_mem ho
      rw [List.getElem_drop] at h
      rw [List.length_drop] at hm
      have l2 : k + 1 + m < js.length := by omega
      have qm : js[k + 1 + m] ∈ js := List.getElem_mem l2
      have lt := List.pairwise_iff_getElem.mp g.asc k (k + 1 + m) hk l2 (by omega)
      have ap := List.pairwise_iff_getElem.mp g.dis k (k + 1 + m) hk l2 (by omega)
      have rp := g.rng _ pm
      have rq := g.rng _ qm
      simp only [List.mem_cons, List.not_mem_nil, or_false] at h
      rcases h with rfl | rfl
      · rw [mk2_lt lt, sm2_lt (p := (js[k].1, js[k + 1 + m].1)) (q := mk2 js[k].2 js[k + 1 + m].2) (by unfold mk2; dsimp only; omega)]
        exact .dbl _ _ pm qm lt ap
      · rw [mk2_lt (show js[k].1 < js[k + 1 + m].2 by omega), sm2_lt (p := (js[k].1, js[k + 1 + m].2)) (q := mk2 js[k].2 js[k + 1 + m].1) (by unfold mk2; dsimp only; omega)]
        exact .dbl2 _ _ pm qm lt ap
  · obtain ⟨k, hk, h⟩ := List.mem_flatMap.mp h
    have hk := List.mem_range.mp hk
    have ek : (frees n js).getD k 0 = (frees n js)[k] := by
      rw [List.getD_eq_getElem?_getD, List.getElem?_eq_getElem hk]
      rfl
    obtain ⟨b, hb, rfl⟩ := List.mem_map.mp h
    rw [ek]
    obtain ⟨m, hm, rfl⟩ := List.getElem_of_mem hb
    rw [List.getElem_drop]
    rw [List.length_drop] at hm
    exact .join _ _ (List.getElem_mem hk) (List.getElem_mem (by omega)) (List.pairwise_iff_getElem.mp (frees_asc n js) k (k + 1 + m) hk (by omega) (by omega))
theorem good_nil {n : Nat} {js : List J2} (g : Good n js) : Good n [] := ⟨g.one, g.top, fun _ h => absurd h List.not_mem_nil, .nil, .nil⟩
theorem good_one {n : Nat} {js : List J2} (g : Good n js) {p : J2} (h : p.1 < p.2 ∧ p.2 < 2 * n) : Good n [p] := ⟨g.one, g.top, fun q hq => by obtain rfl := List.mem_singleton.mp hq; exact h, List.pairwise_singleton _ _, List.pairwise_singleton _ _⟩
theorem good_two {n : Nat} {js : List J2} (g : Good n js) {p q : J2} (h : p.1 < p.2 ∧ p.2 < 2 * n) (h' : q.1 < q.2 ∧ q.2 < 2 * n) (a : p.1 < q.1) (ap : Apart p q) : Good n [p, q] := by
  refine ⟨g.one, g.top, fun r hr => ?_, List.pairwise_cons.mpr ⟨fun r hr => ?_, List.pairwise_singleton _ _⟩, List.pairwise_cons.mpr ⟨fun r hr => ?_, List.pairwise_singleton _ _⟩⟩
  · simp only [List.mem_cons, List.not_mem_nil, or_false] at hr
    rcases hr with rfl | rfl
    · exact h
    · exact h'
  · obtain rfl := List.mem_singleton.mp hr; exact a
  · obtain rfl := List.mem_singleton.mp hr; exact ap
theorem isSt_good {n : Nat} {js : List J2} (g : Good n js) {st : Stp2} (s : IsSt n js st) : Good n st.1 ∧ Good n st.2 := by
  cases s with
  | cut p h => exact ⟨good_one g (g.rng p h), good_nil g⟩
  | shift p e near h he hn =>
    refine ⟨good_one g (g.rng p h), good_one g ?_⟩
    have r := g.rng p h
    obtain ⟨e1, e2⟩ := free_lt he
    have ne : near ≠ e := fun z => mt_end g h (by rw [← z]; exact hn) e2
    unfold mk2
    dsimp only
    rcases hn with rfl | rfl <;> omega
  | dbl p q h h' a ap =>
    have rp := g.rng p h
    have rq := g.rng q h'
    unfold DC.Apart at ap
    refine ⟨good_two g rp rq a ap, good_two g ⟨a, by omega⟩ ?_ ?_ ?_⟩
    · unfold mk2; dsimp only; omega
    · unfold mk2; dsimp only; omega
    · unfold mk2 DC.Apart; dsimp only; omega
  | dbl2 p q h h' a ap =>
    have rp := g.rng p h
    have rq := g.rng q h'
    unfold DC.Apart at ap
    refine ⟨good_two g rp rq a ap, good_two g ⟨by omega, by omega⟩ ?_ ?_ ?_⟩
    · unfold mk2; dsimp only; omega
    · unfold mk2; dsimp only; omega
    · unfold mk2 DC.Apart; dsimp only; omega
  | join a b ha hb h =>
    exact ⟨good_nil g, good_one g ⟨h, (free_lt hb).1⟩⟩
/-! the single ones -/
def sgJ (n : Nat) (js : List J2) : List Stp2 := js.map cutS ++ pre2 (frees n js) (frees n js).length
def sgS (n : Nat) (js : List J2) : List Stp2 := (sgJ n js).mergeSort (PySem.W.dataLe false stD)
theorem pre2_mem {fr : List Nat} {i : Nat} {st : Stp2} : st ∈ pre2 fr i → ∃ a b, st = ([], [(a, b)]) := by
  intro h
  unfold pre2 at h
  obtain ⟨k, _, h⟩ := List.mem_flatMap.mp h
  obtain ⟨b, _, rfl⟩ := List.mem_map.mp h
  exact ⟨_, _, rfl⟩
theorem pre2_in {fr : List Nat} (asc : fr.Pairwise (· < ·)) {a b : Nat} (ha : a ∈ fr) (hb : b ∈ fr) (h : a < b) : ([], [(a, b)]) ∈ pre2 fr fr.length := by
  obtain ⟨i, hi, rfl⟩ := List.getElem_of_mem ha
  obtain ⟨j, hj, rfl⟩ := List.getElem_of_mem hb
  have ij : i < j := by
    rcases Nat.lt_trichotomy i j with z | z | z
    · exact z
    · subst z
      omega
    · have := List.pairwise_iff_getElem.mp asc j i hj hi z
      omega
  unfold pre2
  refine List.mem_flatMap.mpr ⟨i, List.mem_range.mpr hi, List.mem_map.mpr ⟨fr[j], ?_, ?_⟩⟩
  · rw [show fr[j] = (fr.drop (i + 1))[j - (i + 1)]'(by rw [List.length_drop]; omega) from by rw [List.getElem_drop]; congr 1; omega]
    exact List.getElem_mem _
  · rw [List.getD_eq_getElem?_getD, List.getElem?_eq_getElem hi]
    rfl
def oneB (st : Stp2) : Bool := decide (st.1.length + st.2.length = 1)
theorem single_in {n : Nat} {js : List J2} {st : Stp2} (s : IsSt n js st) : decide (st ∈ sgS n js) = oneB st := by
  unfold oneB sgS
  rw [decide_eq_decide, List.mem_mergeSort]
  unfold sgJ
  rw [List.mem_append]
  constructor
  · rintro (h | h)
    · obtain ⟨p, _, rfl⟩ := List.mem_map.mp h
      rfl
    · obtain ⟨a, b, rfl⟩ := pre2_mem h
      rfl
  · intro h
    cases s with
    | cut p hp => exact .inl (List.mem_map.mpr ⟨p, hp, rfl⟩)
    | shift p e near hp he hn => exact absurd h (by simp)
    | dbl p q _ _ _ _ => exact absurd h (by simp)
    | dbl2 p q _ _ _ _ => exact absurd h (by simp)
    | join a b ha hb hh => exact .inr (pre2_in (frees_asc n js) ha hb hh)
theorem st_inj {a b : Stp2} (h : PySem.W.keyToks (stD a) = PySem.W.keyToks (stD b)) : a = b := by
  unfold stD at h
  simp only [PySem.W.keyToks, PySem.W.keyToksAll, List.cons_append, List.append_assoc, List.cons.injEq, Sum.inl.injEq, true_and] at h
  obtain ⟨h1, h2⟩ := toks_prs a.1 b.1 _ _ h
  simp only [List.cons_append, List.append_assoc, List.cons.injEq, Sum.inl.injEq, true_and] at h2
  obtain ⟨h3, _⟩ := toks_prs a.2 b.2 _ _ h2
  exact Prod.ext h1 h3
theorem sg_sort {n : Nat} {js : List J2} {l : List Stp2} (p : l.Perm (sgJ n js)) : (l.map stD).mergeSort (PySem.W.dataLe false id) = (sgS n js).map stD := by
  rw [sort_same (p.map stD) fun a ha b hb e => ?_, st_sorted]
  · rfl
  · obtain ⟨x, _, rfl⟩ := List.mem_map.mp ha
    obtain ⟨y, _, rfl⟩ := List.mem_map.mp hb
    rw [st_inj e]
theorem eqv_prs : ∀ l m : List J2, PyData.eqvAll (l.map pairD) (m.map pairD) = decide (l = m)
  | [], [] => by simp only [List.map_nil, PyData.eqvAll]; rfl
  | [], q :: m => by simp only [List.map_nil, List.map_cons, PyData.eqvAll]; rfl
  | p :: l, [] => by simp only [List.map_nil, List.map_cons, PyData.eqvAll]; rfl
  | p :: l, q :: m => by
    simp only [List.map_cons, PyData.eqvAll]
    rw [eqv_pair, eqv_prs l m, Bool.eq_iff_iff]
    simp only [Bool.and_eq_true, decide_eq_true_eq, List.cons.injEq]
theorem eqv_st (a b : Stp2) : (stD a).eqv (stD b) = decide (a = b) := by
  unfold stD
  simp only [PyData.eqv, PyData.eqvAll, Bool.and_true]
  rw [eqv_prs, eqv_prs, Bool.eq_iff_iff]
  simp only [Bool.and_eq_true, decide_eq_true_eq]
  exact ⟨fun h => Prod.ext h.1 h.2, fun h => by rw [h]; exact ⟨rfl, rfl⟩⟩
theorem any_st (l : List Stp2) (s : Stp2) : (l.map stD).any (fun z => PyData.eqv z (stD s)) = decide (s ∈ l) := by
  induction l with
  | nil => rfl
  | cons q l ih =>
    rw [List.map_cons, List.any_cons, ih, eqv_st, Bool.eq_iff_iff]
    simp only [Bool.or_eq_true, decide_eq_true_eq, List.mem_cons]
    exact or_congr_left eq_comm
theorem sg_len {n : Nat} {js : List J2} : (sgS n js).length = (sgJ n js).length := by
  unfold sgS
  rw [List.length_mergeSort]
/-! the difference -/
def gapJ (js ls : List J2) : Nat := (outJ js ls).length + (outJ ls js).length
def bothJ (js ls : List J2) : List J2 := js.filter fun p => decide (p ∈ ls)
theorem out_len (js ls : List J2) : (outJ js ls).length + (bothJ js ls).length = js.length := by
  unfold outJ bothJ
  induction js with
  | nil => rfl
  | cons p l ih =>
    simp only [List.filter_cons]
    cases decide (p ∈ ls) <;> simp <;> omega
theorem good_nodup {n : Nat} {js : List J2} (g : Good n js) : js.Nodup := by
  refine g.asc.imp ?_
  rintro a b h rfl
  omega
theorem both_comm {n : Nat} {js ls : List J2} (g : Good n js) (g' : Good n ls) : (bothJ js ls).length = (bothJ ls js).length := by
  refine List.Perm.length_eq ?_
  refine (List.perm_ext_iff_of_nodup ((good_nodup g).filter _) ((good_nodup g').filter _)).mpr fun p => ?_
  simp only [List.mem_filter, decide_eq_true_eq]
  exact and_comm
theorem gap_eq {n : Nat} {js ls : List J2} (g : Good n js) (g' : Good n ls) : ((js.length : Nat) : Int) + ((ls.length : Nat) : Int) - 2 * (((bothJ js ls).length : Nat) : Int) = ((gapJ js ls : Nat) : Int) := by
  have h1 := out_len js ls
  have h2 := out_len ls js
  have h3 := both_comm g g'
  unfold gapJ
  omega
theorem gap_symm (js ls : List J2) : gapJ ls js = gapJ js ls := Nat.add_comm _ _
end K42
-- K42q
set_option Elab.async false
set_option linter.all false
set_option maxRecDepth 100000
set_option maxHeartbeats 8000000
/-! K42q: word_of -/
namespace K42
open PySem L2 DC LamX
theorem any_rep (k : Nat) : (List.replicate k false).any id = false := by
  induction k with
  | zero => rfl
  | succ k ih => rw [List.replicate_succ, List.any_cons, ih]; rfl
theorem made_dp {K : PySem.W.Frag} {H : Hp} {us : List V} {A B : List J2} (h : Paired (Js K H) us [A, B]) : DpAll K H us [.tuple (A.map pairD), .tuple (B.map pairD)] := by
  cases h with
  | cons h1 r =>
  cases r with
  | cons h2 r =>
  cases r
  exact .cons (jsD_dp h1) (.cons (jsD_dp h2) .nil)
theorem shaped_made (a b : List J2) : SeqAt.shaped (.list [.tuple (a.map pairD), .tuple (b.map pairD)]) = true := by
  unfold SeqAt.shaped
  have h1 := depth_pairs a
  have h2 := depth_pairs b
  rw [Bool.and_eq_true]
  refine ⟨by simp only [PyData.canLay0, PyData.canLayAll0, lay_pairs, Bool.and_self], decide_eq_true ?_⟩
  simp only [PyData.depth, PyData.depthAll]
  omega
theorem take_filter {l : List Nat} {i e : Nat} {f : Nat → Bool} (h : l[i]? = some e) : (l.take (i + 1)).filter f = (l.take i).filter f ++ (if f e = true then [e] else []) := by
  rw [take_next h, List.filter_append]
  congr 1
  simp only [List.filter_cons, List.filter_nil]
theorem mk2_list (a b : Nat) : [(mk2 a b).1, (mk2 a b).2] = [a, b] ∨ [(mk2 a b).1, (mk2 a b).2] = [b, a] := by
  unfold mk2
  by_cases h : a < b
  · exact .inl (by rw [Nat.min_eq_left (by omega), Nat.max_eq_right (by omega)])
  · exact .inr (by rw [Nat.min_eq_right (by omega), Nat.max_eq_left (by omega)])
theorem cnt_mk {a b : Nat} {f : Nat → Bool} (h : f a = !f b) : ([(mk2 a b).1, (mk2 a b).2].filter f).length = 1 := by
  rcases mk2_list a b with e | e <;> rw [e] <;> simp only [List.filter_cons, List.filter_nil, h] <;> cases f b <;> rfl
theorem any_two (A B C : List J2) : ([PyData.tuple (A.map pairD), PyData.tuple (B.map pairD)].any fun z => PyData.eqv z (.tuple (C.map pairD))) = (decide (A = C) || decide (B = C)) := by
  simp only [List.any_cons, List.any_nil, PyData.eqv, eqv_prs, Bool.or_false]
section
variable {P : Program} {w : World} {K : PySem.W.Frag} {mg : Str → Option Value} {base : Heap}
def spWord (K : PySem.W.Frag) : Sp := fun vs H Q _ => ∃ (v1 v2 v3 : V) (n : Nat) (js : List J2) (st : Stp2), vs = [v1, v2, v3] ∧ Ly K H v1 n js ∧ Good n js ∧ Js K H v2 st.1 ∧ Js K H v3 st.2 ∧ IsSt n js st ∧ ∀ (s : Str) (H' : Hp), Same H H' → Q (.str s) H'
abbrev NWo : List Str := ["lay", "cut", "made", "free", "count", "kept", "joint", "end"]
theorem scWo : FnScope NWo ["lay", "cut", "made"] (defScope (top 24)) := ⟨rfl, rfl, rfl, by decide +kernel, rfl, by decide +kernel, by decide +kernel⟩
theorem okWo {f fF fP : Addr} {fd fdF fdP : FuncData} (F : Fun K "word_of" "word_of" (top 24) f fd) (B : Bn mg) (hA : mg "any" = none)
    (DF : Df K mg "free_of" fF fdF ["lay"]) (GF : OkF P w K mg base 2 fF fdF ["lay"] (spFree K))
    (DP : Df K mg "pairings" fP fdP ["one", "other"]) (GP : OkF P w K mg base 2 fP fdP ["one", "other"] (spPg K)) : OkF P w K mg base 3 f fd ["lay", "cut", "made"] (spWord K) := by
  refine ok0 F scWo (fun vs H Q E h => ?_) (fun cdv A outer s H vs Q E hgd hr h => ?_)
  · obtain ⟨v1, v2, v3, n, js, st, rfl, _⟩ := h; rfl
  · obtain ⟨v1, v2, v3, n, js, st, rfl, hLy, g, ⟨c, xs, rfl, hSc, hPc⟩, ⟨d, ys, rfl, hSd, hPd⟩, hst, q⟩ := h
    obtain ⟨t, u, rfl, hS, tj, ws, rfl, hSj, hPj⟩ := id hLy
    have nd := scWo.nd
    refine ⟨_, (pss_cons (ps_if (pt_val (pe_callB (cr_any rfl) (by rfl) hA (by decide +kernel) (pa_cons (pe_lc (own := [("joint", 6)]) (g := gName 6) (tt := tYes) rfl nd (pi_tup (pv 1)) (blkOk_by (N := NWo) (sc := defScope (top 24)) (by decide +kernel)) (fun _ _ _ _ _ => pg_name (i := 6) nd rfl (Or.inl rfl)) (fun _ _ _ _ _ => pts_nil) (fun _ _ _ _ _ => (pe_cmpR (r := rNotInDT K) (op_notInDT (u65 hr)) (pv 6) (pe_ix (r := rIxT K) ix_tup (pv 0) pe_int (fun _ _ => rfl)) (by rfl)))) pa_nil))) (pss_one (ps_ret pe_non)) pss_nil) (pss_cons (ps_set (i := 3) nd rfl (.inr rfl) (cl DF GF hgd hr (pa_cons (pv 0) pa_nil))) (pss_cons (ps_if (PW.pt (pw_and (pt_cmpR op_eq (pe_callB call_len_seq (by rfl) B.len PySem.boot_len (pa_cons (pv 1) pa_nil)) pe_int (nomark _)) (pw_and1 (pt_cmpR (r := rInD K) (op_inD (u65 hr)) (pv 2) (cl DP GP hgd hr (pa_cons (pe_ix (r := rIxT K) ix_tup (pv 1) pe_int (fun _ _ => rfl)) (pa_cons (pe_ix (r := rIxT K) ix_tup (pv 1) pe_int (fun _ _ => rfl)) pa_nil))) (by rfl))))) (pss_one (ps_ret pe_str)) pss_nil) (pss_cons (ps_if (PW.pt (pw_and (pt_cmpR op_eq (pe_callB call_len_seq (by rfl) B.len PySem.boot_len (pa_cons (pv 1) pa_nil)) pe_int (nomark _)) (pw_and1 (pt_cmpR (op_eqD hr.units) (pv 2) (pe_tup pa_nil) (nomark _))))) (pss_one (ps_ret pe_str)) pss_nil) (pss_cons (ps_if (PW.pt (pw_or (pt_cmpR op_ne (pe_callB call_len_seq (by rfl) B.len PySem.boot_len (pa_cons (pv 2) pa_nil)) pe_int (nomark _)) (pw_or1 (pt_cmpR op_gt (pe_callB call_len_seq (by rfl) B.len PySem.boot_len (pa_cons (pv 1) pa_nil)) pe_int (nomark _))))) (pss_one (ps_ret pe_non)) pss_nil) (pss_cons (ps_set (i := 4) nd rfl (.inl rfl) (pe_callB call_len_seq (by rfl) B.len PySem.boot_len (pa_cons (pe_lc (own := [("end", 7)]) (g := gName 7) rfl nd (pi_tup (pe_ix (r := rIxT K) ix_tup (pv 2) pe_int (fun _ _ => rfl))) (blkOk_by (N := NWo) (sc := defScope (top 24)) (by decide +kernel)) (fun _ _ _ _ _ => pg_name (i := 7) nd rfl (Or.inl rfl)) (fun _ _ _ _ _ => pts_one (pt_cmpR (r := rIn K false) op_in_seq (pv 7) (pv 3) (by rfl))) (fun _ _ _ _ _ => (pv 7))) pa_nil))) (pss_cons (ps_if (pt_cmpR (op_eqD hr.units) (pv 1) (pe_tup pa_nil) (nomark _)) (pss_one (ps_ret (pe_ifExp (pt_cmpR op_eq (pv 4) pe_int (nomark _)) pe_str pe_non))) pss_nil) (pss_cons (ps_setLc (i := 5) (own := [("end", 7)]) (g := gName 7) rfl nd rfl rfl (sw_true rfl rfl rfl (by decide +kernel)) (pi_tup (pe_ix (r := rIxT K) ix_tup (pv 2) pe_int (fun _ _ => rfl))) (blkOk_by (N := NWo) (sc := defScope (top 24)) (by decide +kernel)) (fun _ _ _ _ _ => pg_name (i := 7) nd rfl (Or.inl rfl)) (fun _ _ _ _ _ => pts_one (pt_cmpR (r := rIn K false) op_in_seq (pv 7) (pe_ix (r := rIxT K) ix_tup (pv 1) pe_int (fun _ _ => rfl)) (by rfl))) (fun _ _ _ _ _ => (pv 7))) (pss_one (ps_ret (pe_ifExp (PW.pt (pw_and (pt_cmpR op_eq (pv 4) pe_int (nomark _)) (pw_and1 (pt_cmpR op_eq (pe_callB call_len_seq (by rfl) B.len PySem.boot_len (pa_cons (pv 5) pa_nil)) pe_int (nomark _))))) pe_str pe_non))))))))))), ?_⟩
    have a1 : atI [V.int (n : Nat), V.ref tj] 1 = some (.ref tj) := at_of (j := 1) rfl rfl
    have lx : xs.length = st.1.length := Paired.length hPc
    have l2 : st.1.length ≤ 2 := by cases hst <;> simp
    have sub : ∀ p ∈ st.1, p ∈ js := by
      cases hst with
      | cut p h => intro q hq; obtain rfl := List.mem_singleton.mp hq; exact h
      | shift p e near h _ _ => intro q hq; obtain rfl := List.mem_singleton.mp hq; exact h
      | dbl p q h h' _ _ =>
        intro r hr
        rcases List.mem_cons.mp hr with rfl | hr
        · exact h
        · obtain rfl := List.mem_singleton.mp hr; exact h'
      | dbl2 p q h h' _ _ =>
        intro r hr
        rcases List.mem_cons.mp hr with rfl | hr
        · exact h
        · obtain rfl := List.mem_singleton.mp hr; exact h'
      | join => exact fun q hq => absurd hq List.not_mem_nil
    refine ⟨_, rfl, c, rfl, ⟨xs, hSc⟩, fun D hD => ?_⟩
    refine lc_it (walk_tup (xs := xs)) (fun i H' => Same H H' ∧ H' D = some (.lst ((List.replicate i false).map V.bl))) ⟨Same.new hD, upd_same⟩ (fun i H' _ hp => Same.t hp.1 hSc) ?_ ?_
    · rintro i x Ha Hb hi ⟨sm, hL⟩ ⟨rfl, ex⟩
      obtain ⟨p, ep, hx⟩ := paired_at hPc ex
      obtain ⟨px, rfl, hpx⟩ := hx.up sm
      refine ⟨rfl, ?_⟩
      refine yesT ?_
      refine ⟨_, rfl, _, rfl, t, _, 1, .ref tj, rfl, rfl, Same.t sm hS, a1, pairD p, js.map pairD, .tup hpx (.cons (.int _) (.cons (.int _) .nil)), .tup (Same.t sm hSj) (js_dpp ((TM.of sm).prs hPj)), shaped_pair p, shaped_pairs js, ?_⟩
      rw [any_pair, decide_eq_true (sub p (List.mem_of_getElem? ep))]
      refine ⟨_, hL, ?_, same_put sm hD, ?_⟩
      · rw [List.length_map, List.length_replicate]
        exact Nat.lt_of_le_of_lt (show i ≤ 1000 by omega) (by decide)
      · rw [upd_same, List.replicate_succ', List.map_append]
        rfl
    rintro H1 ⟨s1, hL1⟩
    refine ⟨D, List.replicate xs.length false, rfl, SqL.of hL1, _, rfl, ?_⟩
    rw [any_rep]
    refine iteF ?_
    refine ⟨_, rfl, .ref t, n, js, rfl, hLy.up s1, g, fun fr H2 s2 fr0 hfr => gn ?_⟩
    have s12 := s1.trans s2
    have hc2 := Same.t s12 hSc
    have hd2 := Same.t s12 hSd
    have pc2 := (TM.of s12).prs hPc
    have pd2 := (TM.of s12).prs hPd
    clear hL1 hD s2 fr0
    cases hst with
    | cut p h =>
      cases pc2 with
      | cons hx r =>
      cases r
      cases pd2
      refine ⟨_, rfl, c, _, rfl, .inr hc2, rfl, _, rfl, iteF (iteF ?_)⟩
      refine ⟨_, rfl, c, _, rfl, .inr hc2, rfl, _, rfl, iteT ?_⟩
      refine ⟨_, rfl, by show 0 ≤ sizeLine; decide, fun T hT => ?_⟩
      have u := Same.new (o := .tup []) hT
      refine ⟨.tuple [], .tuple [], .tup (Same.t u hd2) .nil, .tup (SqT.of upd_same) .nil, by decide +kernel, by decide +kernel, _, rfl, iteT ?_⟩
      exact q _ _ (s12.trans u)
    | shift p e near h he hn =>
      cases pc2 with
      | cons hx r =>
      cases r
      cases pd2 with
      | cons hy r =>
      cases r
      obtain ⟨px, rfl, hpx⟩ := hx
      obtain ⟨dy, rfl, hy⟩ := hy
      refine ⟨_, rfl, c, _, rfl, .inr hc2, rfl, _, rfl, iteF (iteF ?_)⟩
      refine ⟨_, rfl, c, _, rfl, .inr hc2, rfl, _, rfl, iteT ?_⟩
      refine ⟨_, rfl, by show 0 ≤ sizeLine; decide, fun T hT => ?_⟩
      have u := Same.new (o := .tup []) hT
      have s13 := s12.trans u
      have hc3 := Same.t u hc2
      have hd3 := Same.t u hd2
      have hy3 := Same.t u hy
      have hf3 := u _ _ hfr
      refine ⟨.tuple [pairD (mk2 near e)], .tuple [], .tup hd3 (.cons (.tup hy3 (.cons (.int _) (.cons (.int _) .nil))) .nil), .tup (SqT.of upd_same) .nil, shaped_pairs [mk2 near e], by decide +kernel, _, rfl, iteF ?_⟩
      generalize upd H2 T (.tup []) = H3 at u hc3 hd3 hy3 hf3 s13 ⊢
      refine ⟨_, rfl, d, _, rfl, .inr hd3, rfl, _, rfl, iteF ?_⟩
      refine ⟨_, rfl, c, _, rfl, .inr hc3, _, _, rfl, rfl, _, rfl, iteF ?_⟩
      refine ⟨_, rfl, d, _, 0, .ref dy, rfl, rfl, hd3, at_of (j := 0) rfl rfl, dy, rfl, ⟨_, hy3⟩, fun D2 hD2 => ?_⟩
      refine lc_it (walk_tup (xs := Vn [(mk2 near e).1, (mk2 near e).2])) (fun i H' => Same H3 H' ∧ H' D2 = some (.lst (Vn (([(mk2 near e).1, (mk2 near e).2].take i).filter fun x => decide (x ∈ frees n js))))) ⟨Same.new hD2, upd_same⟩ (fun i H' _ hp => Same.t hp.1 hy3) ?_ ?_
      · rintro i x Ha Hb hi ⟨sm, hL⟩ ⟨rfl, ex⟩
        rw [Vn_len] at hi
        obtain rfl := Option.some.inj ((Vn_at hi).symm.trans ex)
        have en : [(mk2 near e).1, (mk2 near e).2][i]? = some ([(mk2 near e).1, (mk2 near e).2].getD i 0) := by
          rw [List.getD_eq_getElem?_getD, List.getElem?_eq_getElem hi]
          rfl
        generalize [(mk2 near e).1, (mk2 near e).2].getD i 0 = z at en ⊢
        refine ⟨rfl, _, rfl, _, rfl, fr, _, rfl, .inl (SqL.of (sm _ _ hf3)), rfl, flat_Vn _, _, rfl, ?_⟩
        show if inV (V.int (z : Nat)) (Vn (frees n js)) = true then _ else _
        rw [in_row, take_filter en]
        cases cc : decide (z ∈ frees n js) with
        | true =>
          refine iteT ⟨_, rfl, _, hL, ?_, same_put sm hD2, ?_⟩
          · rw [Vn_len]
            exact Nat.lt_of_le_of_lt (Nat.le_trans (List.length_filter_le _ _) (by rw [List.length_take]; have : [(mk2 near e).1, (mk2 near e).2].length = 2 := rfl; exact (show min i [(mk2 near e).1, (mk2 near e).2].length ≤ 1000 by omega))) (by decide)
          · rw [upd_same, if_pos rfl]
            unfold Vn
            rw [List.map_append]
            rfl
        | false =>
          refine iteF ⟨sm, ?_⟩
          rw [if_neg (by decide), List.append_nil]
          exact hL
      rintro H4 ⟨s4, hL4⟩
      have cnt1 : (([(mk2 near e).1, (mk2 near e).2].take (Vn [(mk2 near e).1, (mk2 near e).2]).length).filter fun x => decide (x ∈ frees n js)).length = 1 := by
        rw [Vn_len, List.take_of_length_le (Nat.le_refl _)]
        refine cnt_mk ?_
        rw [decide_eq_true he, decide_eq_false fun z => mt_end g h hn (free_lt z).2]
        rfl
      refine ⟨D2, _, rfl, .inl (SqL.of hL4), gn ?_⟩
      rw [Vn_len, cnt1]
      have hc4 := Same.t s4 hc3
      have hd4 := Same.t s4 hd3
      have hy4 := Same.t s4 hy3
      have hpx4 := Same.t (u.trans s4) hpx
      refine ⟨_, rfl, by show 0 ≤ sizeLine; decide, fun T2 hT2 => ?_⟩
      have u2 := Same.new (o := .tup []) hT2
      have hc5 := Same.t u2 hc4
      have hd5 := Same.t u2 hd4
      have hy5 := Same.t u2 hy4
      have hpx5 := Same.t u2 hpx4
      refine ⟨.tuple [pairD p], .tuple [], .tup hc5 (.cons (.tup hpx5 (.cons (.int _) (.cons (.int _) .nil))) .nil), .tup (SqT.of upd_same) .nil, shaped_pairs [p], by decide +kernel, _, rfl, iteF ?_⟩
      have s15 := s13.trans (s4.trans u2)
      generalize upd H4 T2 (.tup []) = H5 at u2 hc5 hd5 hy5 hpx5 s15 ⊢
      refine ⟨_, rfl, d, _, 0, .ref dy, rfl, rfl, hd5, at_of (j := 0) rfl rfl, dy, rfl, ⟨_, hy5⟩, fun D3 hD3 => ?_⟩
      refine lc_it (walk_tup (xs := Vn [(mk2 near e).1, (mk2 near e).2])) (fun i H' => Same H5 H' ∧ H' D3 = some (.lst (Vn (([(mk2 near e).1, (mk2 near e).2].take i).filter fun x => decide (x ∈ [p.1, p.2]))))) ⟨Same.new hD3, upd_same⟩ (fun i H' _ hp => Same.t hp.1 hy5) ?_ ?_
      · rintro i x Ha Hb hi ⟨sm, hL⟩ ⟨rfl, ex⟩
        rw [Vn_len] at hi
        obtain rfl := Option.some.inj ((Vn_at hi).symm.trans ex)
        have en : [(mk2 near e).1, (mk2 near e).2][i]? = some ([(mk2 near e).1, (mk2 near e).2].getD i 0) := by
          rw [List.getD_eq_getElem?_getD, List.getElem?_eq_getElem hi]
          rfl
        generalize [(mk2 near e).1, (mk2 near e).2].getD i 0 = z at en ⊢
        refine ⟨rfl, _, rfl, _, rfl, c, _, 0, .ref px, rfl, rfl, Same.t sm hc5, at_of (j := 0) rfl rfl, px, Vn [p.1, p.2], rfl, .inr (Same.t sm hpx5), rfl, flat_Vn _, _, rfl, ?_⟩
        show if inV (V.int (z : Nat)) (Vn [p.1, p.2]) = true then _ else _
        rw [in_row, take_filter en]
        cases cc : decide (z ∈ [p.1, p.2]) with
        | true =>
          refine iteT ⟨_, rfl, _, hL, ?_, same_put sm hD3, ?_⟩
          · rw [Vn_len]
            exact Nat.lt_of_le_of_lt (Nat.le_trans (List.length_filter_le _ _) (by rw [List.length_take]; have : [(mk2 near e).1, (mk2 near e).2].length = 2 := rfl; exact (show min i [(mk2 near e).1, (mk2 near e).2].length ≤ 1000 by omega))) (by decide)
          · rw [upd_same, if_pos rfl]
            unfold Vn
            rw [List.map_append]
            rfl
        | false =>
          refine iteF ⟨sm, ?_⟩
          rw [if_neg (by decide), List.append_nil]
          exact hL
      rintro H6 ⟨s6, hL6⟩
      refine gn ?_
      have cnt2 : (([(mk2 near e).1, (mk2 near e).2].take (Vn [(mk2 near e).1, (mk2 near e).2]).length).filter fun x => decide (x ∈ [p.1, p.2])).length = 1 := by
        rw [Vn_len, List.take_of_length_le (Nat.le_refl _)]
        refine cnt_mk ?_
        have e1 : e ∉ [p.1, p.2] := fun z => by
          simp only [List.mem_cons, List.not_mem_nil, or_false] at z
          exact mt_end g h z (free_lt he).2
        have e2 : near ∈ [p.1, p.2] := by
          simp only [List.mem_cons, List.not_mem_nil, or_false]
          exact hn
        rw [decide_eq_true e2, decide_eq_false e1]
        rfl
      refine ⟨_, rfl, rfl, _, rfl, iteT ?_⟩
      refine ⟨_, rfl, D3, _, rfl, .inl (SqL.of hL6), ?_⟩
      rw [Vn_len, cnt2]
      refine ⟨rfl, _, rfl, iteT ?_⟩
      exact q _ _ (s15.trans s6)
    | dbl p p' h h' a ap =>
      cases pc2 with
      | cons hx r =>
      cases r with
      | cons hx' r =>
      cases r
      obtain ⟨px, rfl, hpx⟩ := id hx
      obtain ⟨py, rfl, hpy⟩ := id hx'
      refine ⟨_, rfl, c, _, rfl, .inr hc2, rfl, _, rfl, iteT ?_⟩
      refine ⟨_, rfl, _, rfl, c, _, 0, .ref px, rfl, rfl, hc2, at_of (j := 0) rfl rfl, _, rfl, c, _, 1, .ref py, rfl, rfl, hc2, at_of (j := 1) rfl rfl, .ref px, .ref py, p, p', rfl, hx, hx', fun r us H3 s3 hr3 hP3 => ?_⟩
      rw [nm_mk2, nm_mk2] at hP3
      refine ⟨.tuple (([(p.1, p'.1), mk2 p.2 p'.2] : List J2).map pairD), _, .tup (Same.t s3 hd2) (js_dpp ((TM.of s3).prs pd2)), .lst (SqL.of hr3) (made_dp hP3), shaped_pairs _, shaped_made _ _, _, rfl, ?_⟩
      rw [any_two, decide_eq_true rfl, Bool.true_or]
      refine iteT ?_
      exact q _ _ (s12.trans s3)
    | dbl2 p p' h h' a ap =>
      cases pc2 with
      | cons hx r =>
      cases r with
      | cons hx' r =>
      cases r
      obtain ⟨px, rfl, hpx⟩ := id hx
      obtain ⟨py, rfl, hpy⟩ := id hx'
      refine ⟨_, rfl, c, _, rfl, .inr hc2, rfl, _, rfl, iteT ?_⟩
      refine ⟨_, rfl, _, rfl, c, _, 0, .ref px, rfl, rfl, hc2, at_of (j := 0) rfl rfl, _, rfl, c, _, 1, .ref py, rfl, rfl, hc2, at_of (j := 1) rfl rfl, .ref px, .ref py, p, p', rfl, hx, hx', fun r us H3 s3 hr3 hP3 => ?_⟩
      rw [nm_mk2, nm_mk2] at hP3
      refine ⟨.tuple (([(p.1, p'.2), mk2 p.2 p'.1] : List J2).map pairD), _, .tup (Same.t s3 hd2) (js_dpp ((TM.of s3).prs pd2)), .lst (SqL.of hr3) (made_dp hP3), shaped_pairs _, shaped_made _ _, _, rfl, ?_⟩
      rw [any_two, decide_eq_true (p := [(p.1, p'.2), mk2 p.2 p'.1] = [(p.1, p'.2), mk2 p.2 p'.1]) rfl, Bool.or_true]
      refine iteT ?_
      exact q _ _ (s12.trans s3)
    | join a b ha hb h =>
      cases pc2
      cases pd2 with
      | cons hy r =>
      cases r
      obtain ⟨dy, rfl, hy⟩ := hy
      refine ⟨_, rfl, c, _, rfl, .inr hc2, rfl, _, rfl, iteF (iteF ?_)⟩
      refine ⟨_, rfl, c, _, rfl, .inr hc2, rfl, _, rfl, iteF (iteF ?_)⟩
      have hc3 := hc2
      have hd3 := hd2
      have hy3 := hy
      have hf3 := hfr
      refine ⟨_, rfl, d, _, rfl, .inr hd3, rfl, _, rfl, iteF ?_⟩
      refine ⟨_, rfl, c, _, rfl, .inr hc3, _, _, rfl, rfl, _, rfl, iteF ?_⟩
      refine ⟨_, rfl, d, _, 0, .ref dy, rfl, rfl, hd3, at_of (j := 0) rfl rfl, dy, rfl, ⟨_, hy3⟩, fun D2 hD2 => ?_⟩
      refine lc_it (walk_tup (xs := Vn [((a, b) : J2).1, ((a, b) : J2).2])) (fun i H' => Same H2 H' ∧ H' D2 = some (.lst (Vn (([((a, b) : J2).1, ((a, b) : J2).2].take i).filter fun x => decide (x ∈ frees n js))))) ⟨Same.new hD2, upd_same⟩ (fun i H' _ hp => Same.t hp.1 hy3) ?_ ?_
      · rintro i x Ha Hb hi ⟨sm, hL⟩ ⟨rfl, ex⟩
        rw [Vn_len] at hi
        obtain rfl := Option.some.inj ((Vn_at hi).symm.trans ex)
        have en : [((a, b) : J2).1, ((a, b) : J2).2][i]? = some ([((a, b) : J2).1, ((a, b) : J2).2].getD i 0) := by
          rw [List.getD_eq_getElem?_getD, List.getElem?_eq_getElem hi]
          rfl
        generalize [((a, b) : J2).1, ((a, b) : J2).2].getD i 0 = z at en ⊢
        refine ⟨rfl, _, rfl, _, rfl, fr, _, rfl, .inl (SqL.of (sm _ _ hf3)), rfl, flat_Vn _, _, rfl, ?_⟩
        show if inV (V.int (z : Nat)) (Vn (frees n js)) = true then _ else _
        rw [in_row, take_filter en]
        cases cc : decide (z ∈ frees n js) with
        | true =>
          refine iteT ⟨_, rfl, _, hL, ?_, same_put sm hD2, ?_⟩
          · rw [Vn_len]
            exact Nat.lt_of_le_of_lt (Nat.le_trans (List.length_filter_le _ _) (by rw [List.length_take]; have : [((a, b) : J2).1, ((a, b) : J2).2].length = 2 := rfl; exact (show min i [((a, b) : J2).1, ((a, b) : J2).2].length ≤ 1000 by omega))) (by decide)
          · rw [upd_same, if_pos rfl]
            unfold Vn
            rw [List.map_append]
            rfl
        | false =>
          refine iteF ⟨sm, ?_⟩
          rw [if_neg (by decide), List.append_nil]
          exact hL
      rintro H4 ⟨s4, hL4⟩
      have cnt1 : (([((a, b) : J2).1, ((a, b) : J2).2].take (Vn [((a, b) : J2).1, ((a, b) : J2).2]).length).filter fun x => decide (x ∈ frees n js)).length = 2 := by
        rw [Vn_len, List.take_of_length_le (Nat.le_refl _)]
        simp only [List.filter_cons, List.filter_nil, decide_eq_true ha, decide_eq_true hb, if_true, List.length_cons, List.length_nil]
      refine ⟨D2, _, rfl, .inl (SqL.of hL4), gn ?_⟩
      rw [Vn_len, cnt1]
      refine ⟨_, rfl, by show 0 ≤ sizeLine; decide, fun T2 hT2 => ?_⟩
      have u2 := Same.new (o := .tup []) hT2
      refine ⟨.tuple [], .tuple [], .tup (Same.t (s4.trans u2) hc3) .nil, .tup (SqT.of upd_same) .nil, by decide +kernel, by decide +kernel, _, rfl, iteT ?_⟩
      refine ⟨_, rfl, rfl, _, rfl, iteT ?_⟩
      exact q _ _ (s12.trans (s4.trans u2))
end
end K42
-- K42t
set_option Elab.async false
set_option linter.all false
set_option maxRecDepth 100000
set_option maxHeartbeats 8000000
/-! K42t: is_step_of .. single_number -/
namespace K42
open PySem L2 DC LamX
section
variable {P : Program} {w : World} {K : PySem.W.Frag} {mg : Str → Option Value} {base : Heap}
def spIs (K : PySem.W.Frag) : Sp := fun vs H Q _ => ∃ (v1 v2 : V) (n : Nat) (js : List J2) (st : Stp2), vs = [v1, v2] ∧ Ly K H v1 n js ∧ Good n js ∧ Stp K H v2 st ∧ IsSt n js st ∧ ∀ (H' : Hp), Same H H' → Q (.bl true) H'
abbrev NIs : List Str := ["lay", "value", "cut", "made"]
theorem scIs : FnScope NIs ["lay", "value"] (defScope (top 25)) := ⟨rfl, rfl, rfl, by decide +kernel, rfl, by decide +kernel, by decide +kernel⟩
theorem okIs {f fP fA fW : Addr} {fd fdP fdA fdW : FuncData} (F : Fun K "is_step_of" "is_step_of" (top 25) f fd)
    (DPa : Df K mg "is_pair" fP fdP ["value"]) (GPa : OkF P w K mg base 1 fP fdP ["value"] (spPair K))
    (DA : Df K mg "are_joints" fA fdA ["value", "links"]) (GA : OkF P w K mg base 5 fA fdA ["value", "links"] (spAre K))
    (DW : Df K mg "word_of" fW fdW ["lay", "cut", "made"]) (GW : OkF P w K mg base 3 fW fdW ["lay", "cut", "made"] (spWord K)) : OkF P w K mg base 6 f fd ["lay", "value"] (spIs K) := by
  refine ok0 F scIs (fun vs H Q E h => ?_) (fun cdv A outer s H vs Q E hgd hr h => ?_)
  · obtain ⟨v1, v2, n, js, st, rfl, _⟩ := h; rfl
  · obtain ⟨v1, v2, n, js, st, rfl, hLy, g, ⟨b, va, vb, rfl, hSb, ja, jb⟩, hst, q⟩ := h
    have nd := scIs.nd
    have hr1 : Room 1 _ := hr.mono (by decide)
    have hr3 : Room 3 _ := hr.mono (by decide)
    obtain ⟨ga, gb⟩ := isSt_good g hst
    obtain ⟨t, u, rfl, hS, _⟩ := id hLy
    have a0 : atI [V.int (n : Nat), u] 0 = some (.int (n : Nat)) := at_of (j := 0) rfl rfl
    refine ⟨_, (pss_cons (ps_if (pt_not (pt_val (cl DPa GPa hgd hr1 (pa_cons (pv 1) pa_nil)))) (pss_one (ps_ret pe_bl)) pss_nil) (pss_cons (ps_asg (pv 1) (pg_tup (by rfl) (pgs_cons (pg_name (i := 2) nd rfl (.inl rfl)) (pgs_cons (pg_name (i := 3) nd rfl (.inl rfl)) pgs_nil)))) (pss_cons (ps_if (PW.pt (pw_or (pt_not (pt_val (cl DA GA hgd hr (pa_cons (pv 2) (pa_cons (pe_ix (r := rIxT K) ix_tup (pv 0) pe_int (fun _ _ => rfl)) pa_nil))))) (pw_or1 (pt_not (pt_val (cl DA GA hgd hr (pa_cons (pv 3) (pa_cons (pe_ix (r := rIxT K) ix_tup (pv 0) pe_int (fun _ _ => rfl)) pa_nil)))))))) (pss_one (ps_ret pe_bl)) pss_nil) (pss_one (ps_ret (pe_cmp (pc_notN (cl DW GW hgd hr3 (pa_cons (pv 0) (pa_cons (pv 2) (pa_cons (pv 3) pa_nil))))))))))), ?_⟩
    refine ⟨_, rfl, b, _, _, rfl, hSb, true, rfl, iteF ?_⟩
    refine ⟨_, rfl, b, _, rfl, hSb, rfl, _, _, rfl, _, _, rfl, rfl, ?_⟩
    refine ⟨_, rfl, _, rfl, t, _, 0, .int (n : Nat), rfl, rfl, hS, a0, va, n, st.1, rfl, ja, ga, fun H1 s1 => ⟨true, rfl, iteF ?_⟩⟩
    refine ⟨_, rfl, _, rfl, t, _, 0, .int (n : Nat), rfl, rfl, Same.t s1 hS, a0, vb, n, st.2, rfl, (TM.of s1).js jb, gb, fun H2 s2 => ⟨true, rfl, iteF ?_⟩⟩
    have s12 := s1.trans s2
    exact ⟨_, rfl, _, rfl, _, rfl, .ref t, va, vb, n, js, st, rfl, hLy.up s12, g, (TM.of s12).js ja, (TM.of s12).js jb, hst, fun s H3 s3 => q H3 (s12.trans s3)⟩
def spNs (K : PySem.W.Frag) : Sp := fun vs H Q _ => ∃ (v1 v2 : V) (n : Nat) (js : List J2) (st : Stp2), vs = [v1, v2] ∧ Ly K H v1 n js ∧ Good n js ∧ Stp K H v2 st ∧ IsSt n js st ∧ ∀ (H' : Hp), Same H H' → Q v2 H'
theorem scNs : FnScope ["lay", "step"] ["lay", "step"] (defScope (top 26)) := ⟨rfl, rfl, rfl, by decide +kernel, rfl, by decide +kernel, by decide +kernel⟩
theorem okNs {f fI : Addr} {fd fdI : FuncData} (F : Fun K "need_step_of" "need_step_of" (top 26) f fd)
    (DI : Df K mg "is_step_of" fI fdI ["lay", "value"]) (GI : OkF P w K mg base 6 fI fdI ["lay", "value"] (spIs K)) : OkF P w K mg base 7 f fd ["lay", "step"] (spNs K) := by
  refine ok0 F scNs (fun vs H Q E h => ?_) (fun cdv A outer s H vs Q E hgd hr h => ?_)
  · obtain ⟨v1, v2, n, js, st, rfl, _⟩ := h; rfl
  · obtain ⟨v1, v2, n, js, st, rfl, hLy, g, hs, hst, q⟩ := h
    refine ⟨_, (pss_cons (ps_if (pt_not (pt_val (cl DI GI hgd hr (pa_cons (pv 0) (pa_cons (pv 1) pa_nil))))) (pss_one ps_never) pss_nil) (pss_one (ps_ret (pv 1)))), ?_⟩
    exact ⟨_, rfl, _, rfl, v1, v2, n, js, st, rfl, hLy, g, hs, hst, fun H1 s1 => ⟨true, rfl, iteF ⟨_, rfl, q H1 s1⟩⟩⟩
def spHo (K : PySem.W.Frag) : Sp := fun vs H Q _ => ∃ (v : V) (st : Stp2), vs = [v] ∧ Stp K H v st ∧ Q (.bl (oneB st)) H
theorem scHo : FnScope ["step", "cut", "made"] ["step"] (defScope (top 38)) := ⟨rfl, rfl, rfl, by decide +kernel, rfl, by decide +kernel, by decide +kernel⟩
theorem okHo {f : Addr} {fd : FuncData} (F : Fun K "has_one_joint" "has_one_joint" (top 38) f fd) (B : Bn mg) : OkF P w K mg base 1 f fd ["step"] (spHo K) := by
  refine ok0 F scHo (fun vs H Q E h => ?_) (fun cdv A outer s H vs Q E hgd hr h => ?_)
  · obtain ⟨v, st, rfl, _⟩ := h; rfl
  · obtain ⟨v, st, rfl, ⟨b, va, vb, rfl, hSb, ⟨a, xs, rfl, ha, pa⟩, ⟨c, ys, rfl, hc, pc⟩⟩, q⟩ := h
    have nd := scHo.nd
    refine ⟨_, (pss_cons (ps_asg (pv 0) (pg_tup (by rfl) (pgs_cons (pg_name (i := 1) nd rfl (.inl rfl)) (pgs_cons (pg_name (i := 2) nd rfl (.inl rfl)) pgs_nil)))) (pss_one (ps_ret (pe_cmpR op_eq (pe_op op_add (pe_callB call_len_seq (by rfl) B.len PySem.boot_len (pa_cons (pv 1) pa_nil)) (pe_callB call_len_seq (by rfl) B.len PySem.boot_len (pa_cons (pv 2) pa_nil))) pe_int (nomark _))))), ?_⟩
    refine ⟨_, rfl, b, _, rfl, hSb, rfl, _, _, rfl, _, _, rfl, rfl, ?_⟩
    refine ⟨_, rfl, a, _, rfl, .inr ha, _, rfl, c, _, rfl, .inr hc, _, _, rfl, rfl, rfl, ?_⟩
    have e : decide (V.int (((xs.length : Nat) : Int) + ((ys.length : Nat) : Int)) = V.int 1) = oneB st := by
      unfold oneB
      have h1 := Paired.length pa
      have h2 := Paired.length pc
      rw [decide_eq_decide, ← h1, ← h2]
      exact ⟨fun z => by have := V.int.inj z; omega, fun z => congrArg V.int (by omega)⟩
    rw [e]
    exact q
def spSi (K : PySem.W.Frag) : Sp := fun vs H Q _ => ∃ (v1 v2 : V) (n : Nat) (js : List J2) (st : Stp2), vs = [v1, v2] ∧ Ly K H v1 n js ∧ Good n js ∧ Stp K H v2 st ∧ IsSt n js st ∧ ∀ (H' : Hp), Same H H' → Q (.bl (oneB st)) H'
theorem scSi : FnScope ["lay", "step"] ["lay", "step"] (defScope (top 39)) := ⟨rfl, rfl, rfl, by decide +kernel, rfl, by decide +kernel, by decide +kernel⟩
theorem okSi {f fL fH fN : Addr} {fd fdL fdH fdN : FuncData} (F : Fun K "is_single" "is_single" (top 39) f fd)
    (DL : Df K mg "need_lay" fL fdL ["lay"]) (GL : OkF P w K mg base 5 fL fdL ["lay"] (spLay K))
    (DN : Df K mg "need_step_of" fN fdN ["lay", "step"]) (GN : OkF P w K mg base 7 fN fdN ["lay", "step"] (spNs K))
    (DH : Df K mg "has_one_joint" fH fdH ["step"]) (GH : OkF P w K mg base 1 fH fdH ["step"] (spHo K)) : OkF P w K mg base 8 f fd ["lay", "step"] (spSi K) := by
  refine ok0 F scSi (fun vs H Q E h => ?_) (fun cdv A outer s H vs Q E hgd hr h => ?_)
  · obtain ⟨v1, v2, n, js, st, rfl, _⟩ := h; rfl
  · obtain ⟨v1, v2, n, js, st, rfl, hLy, g, hs, hst, q⟩ := h
    have hr1 : Room 1 _ := hr.mono (by decide)
    have hr5 : Room 5 _ := hr.mono (by decide)
    refine ⟨_, (pss_cons (ps_expr (cl DL GL hgd hr5 (pa_cons (pv 0) pa_nil))) (pss_one (ps_ret (cl DH GH hgd hr1 (pa_cons (cl DN GN hgd hr (pa_cons (pv 0) (pa_cons (pv 1) pa_nil))) pa_nil))))), ?_⟩
    refine ⟨_, rfl, v1, n, js, rfl, hLy, g, fun H1 s1 => ?_⟩
    refine ⟨_, rfl, _, rfl, v1, v2, n, js, st, rfl, hLy.up s1, g, (TM.of s1).stp hs, hst, fun H2 s2 => ?_⟩
    exact ⟨v2, st, rfl, (TM.of (s1.trans s2)).stp hs, q H2 (s1.trans s2)⟩
def spSs (K : PySem.W.Frag) : Sp := fun vs H Q _ => ∃ (v : V) (n : Nat) (js : List J2), vs = [v] ∧ Ly K H v n js ∧ Good n js ∧ ∀ (r : Addr) (us : List V) (H' : Hp), Same H H' → H r = none → H' r = some (.tup us) → Paired (Stp K H') us (sgS n js) → us.length ≤ 700 → Q (.ref r) H'
theorem frees_len (n : Nat) (js : List J2) : (frees n js).length ≤ 2 * n := by
  unfold frees
  exact Nat.le_trans (List.length_filter_le _ _) (by rw [List.length_range]; exact Nat.le_refl _)
theorem scSs : FnScope ["lay"] ["lay"] (defScope (top 40)) := ⟨rfl, rfl, rfl, by decide +kernel, rfl, by decide +kernel, by decide +kernel⟩
theorem okSs {f fL fJ fF fC : Addr} {fd fdL fdJ fdF fdC : FuncData} (F : Fun K "single_steps" "single_steps" (top 40) f fd) (B : Bn mg)
    (DL : Df K mg "need_lay" fL fdL ["lay"]) (GL : OkF P w K mg base 5 fL fdL ["lay"] (spLay K))
    (DJ : Df K mg "joins" fJ fdJ ["free"]) (GJ : OkF P w K mg base 1 fJ fdJ ["free"] (spJoins K))
    (DF : Df K mg "free_of" fF fdF ["lay"]) (GF : OkF P w K mg base 2 fF fdF ["lay"] (spFree K))
    (DC : Df K mg "cuts" fC fdC ["joints"]) (GC : OkF P w K mg base 1 fC fdC ["joints"] (spCuts K)) : OkF P w K mg base 6 f fd ["lay"] (spSs K) := by
  refine ok0 F scSs (fun vs H Q E h => ?_) (fun cdv A outer s H vs Q E hgd hr h => ?_)
  · obtain ⟨v, n, js, rfl, _⟩ := h; rfl
  · obtain ⟨v, n, js, rfl, hLy, g, q⟩ := h
    have hr1 : Room 1 _ := hr.mono (by decide)
    have hr2 : Room 2 _ := hr.mono (by decide)
    have tp := g.top
    have jle := g.le
    have fle := frees_len n js
    refine ⟨_, (pss_cons (ps_expr (cl DL GL hgd hr (pa_cons (pv 0) pa_nil))) (pss_one (ps_ret (pe_callTy call_tuple_of (by rfl) B.tuple (by decide +kernel) (pa_cons (pe_callB (cr_sortD hr.units) (by rfl) B.sorted (by decide +kernel) (pa_cons (pe_op op_cat (cl DJ GJ hgd hr1 (pa_cons (cl DF GF hgd hr2 (pa_cons (pv 0) pa_nil)) pa_nil)) (cl DC GC hgd hr1 (pa_cons (pe_ix (r := rIxT K) ix_tup (pv 0) pe_int (fun _ _ => rfl)) pa_nil))) pa_nil)) pa_nil))))), ?_⟩
    refine ⟨_, rfl, v, n, js, rfl, hLy, g, fun H1 s1 => ?_⟩
    refine ⟨_, rfl, v, n, js, rfl, hLy.up s1, g, fun fr H2 s2 fr0 hfr => ?_⟩
    refine ⟨fr, frees n js, rfl, hfr, by omega, fun r H3us H3 s3 r0 hr3 hP3 l3 => ?_⟩
    have s13 := s1.trans (s2.trans s3)
    obtain ⟨t, u, rfl, hS, jsv⟩ := hLy.up s13
    have a1 : atI [V.int (n : Nat), u] 1 = some u := at_of (j := 1) rfl rfl
    refine ⟨_, rfl, t, _, 1, u, rfl, rfl, hS, a1, u, js, rfl, jsv, by omega, fun c cus H4 s4 c0 hc4 hP4 => ?_⟩
    have lc : cus.length = js.length := by rw [Paired.length hP4, List.length_map]
    refine ⟨r, c, H3us, cus, rfl, rfl, s4 _ _ hr3, hc4, Nat.le_trans (show H3us.length + cus.length ≤ 1000 by omega) (by decide), fun D hD => ?_⟩
    have u5 := Same.new (o := .lst (H3us ++ cus)) hD
    have PP : Paired (Stp K (upd H4 D (.lst (H3us ++ cus)))) (H3us ++ cus) (pre2 (frees n js) (frees n js).length ++ js.map cutS) := pair_app ((TM.of (s4.trans u5)).stps hP3) ((TM.of u5).stps hP4)
    have S5 := s13.trans (s4.trans u5)
    refine ⟨D, H3us ++ cus, _, rfl, SqL.of upd_same, stps_dp PP, st_alike _, st_sortable _, st_depth _, fun ys p9 pm hy hp9 => ⟨p9, ys, rfl, .inl ⟨SqL.of upd_same, fun T hT => ?_⟩⟩⟩
    rw [sg_sort (n := n) (js := js) List.perm_append_comm] at hy
    have u6 := Same.new (o := .lst ys) hp9
    have u7 := Same.new (o := .tup ys) hT
    have SS := S5.trans (u6.trans u7)
    exact q T ys _ SS ((S5.trans u6).free hT) upd_same ((TM.of u7).stps (dp_stps (DpAll.up u6 hy))) (by rw [pm.length_eq, List.length_append]; omega)
def spDf (K : PySem.W.Frag) : Sp := fun vs H Q _ => ∃ (v1 v2 : V) (n : Nat) (js ls : List J2), vs = [v1, v2] ∧ Ly K H v1 n js ∧ Ly K H v2 n ls ∧ Good n js ∧ Good n ls ∧ ∀ (H' : Hp), Same H H' → Q (.int (gapJ js ls : Nat)) H'
theorem scDf : FnScope ["one", "other"] ["one", "other"] (defScope (top 41)) := ⟨rfl, rfl, rfl, by decide +kernel, rfl, by decide +kernel, by decide +kernel⟩
theorem okDf {f fW : Addr} {fd fdW : FuncData} (F : Fun K "difference" "difference" (top 41) f fd) (B : Bn mg)
    (DW : Df K mg "joints_without" fW fdW ["one", "other"]) (GW : OkF P w K mg base 1 fW fdW ["one", "other"] (spJw K)) : OkF P w K mg base 2 f fd ["one", "other"] (spDf K) := by
  refine ok0 F scDf (fun vs H Q E h => ?_) (fun cdv A outer s H vs Q E hgd hr h => ?_)
  · obtain ⟨v1, v2, n, js, ls, rfl, _⟩ := h; rfl
  · obtain ⟨v1, v2, n, js, ls, rfl, y1, y2, g1, g2, q⟩ := h
    have t1 := g1.top
    have l1 := g1.le
    have l2 := g2.le
    refine ⟨_, (pss_one (ps_ret (pe_op op_add (pe_callB call_len_seq (by rfl) B.len PySem.boot_len (pa_cons (cl DW GW hgd hr (pa_cons (pv 0) (pa_cons (pv 1) pa_nil))) pa_nil)) (pe_callB call_len_seq (by rfl) B.len PySem.boot_len (pa_cons (cl DW GW hgd hr (pa_cons (pv 1) (pa_cons (pv 0) pa_nil))) pa_nil))))), ?_⟩
    refine ⟨_, rfl, _, rfl, v1, v2, n, js, ls, rfl, y1, y2, by omega, fun r1 us1 H1 s1 h1 p1 => ?_⟩
    refine ⟨r1, us1, rfl, .inr (SqT.of h1), ?_⟩
    refine ⟨_, rfl, _, rfl, v2, v1, n, ls, js, rfl, y2.up s1, y1.up s1, by omega, fun r2 us2 H2 s2 h2 p2 => ?_⟩
    refine ⟨r2, us2, rfl, .inr (SqT.of h2), _, _, rfl, rfl, ?_⟩
    rw [Paired.length p1, Paired.length p2]
    exact q H2 (s1.trans s2)
theorem scSn : FnScope ["one", "other"] ["one", "other"] (defScope (top 42)) := ⟨rfl, rfl, rfl, by decide +kernel, rfl, by decide +kernel, by decide +kernel⟩
theorem okSn {f fT fD : Addr} {fd fdT fdD : FuncData} (F : Fun K "single_number" "single_number" (top 42) f fd)
    (DT : Df K mg "need_two" fT fdT ["one", "other"]) (GT : OkF P w K mg base 6 fT fdT ["one", "other"] (spTwo K))
    (DD : Df K mg "difference" fD fdD ["one", "other"]) (GD : OkF P w K mg base 2 fD fdD ["one", "other"] (spDf K)) : OkF P w K mg base 7 f fd ["one", "other"] (spDf K) := by
  refine ok0 F scSn (fun vs H Q E h => ?_) (fun cdv A outer s H vs Q E hgd hr h => ?_)
  · obtain ⟨v1, v2, n, js, ls, rfl, _⟩ := h; rfl
  · obtain ⟨v1, v2, n, js, ls, rfl, y1, y2, g1, g2, q⟩ := h
    have hr2 : Room 2 _ := hr.mono (by decide)
    refine ⟨_, (pss_cons (ps_expr (cl DT GT hgd hr (pa_cons (pv 0) (pa_cons (pv 1) pa_nil)))) (pss_one (ps_ret (cl DD GD hgd hr2 (pa_cons (pv 0) (pa_cons (pv 1) pa_nil)))))), ?_⟩
    refine ⟨_, rfl, _, rfl, v1, v2, n, js, ls, rfl, y1, y2, g1, g2, fun v H1 s1 => ?_⟩
    exact ⟨_, rfl, _, rfl, v1, v2, n, js, ls, rfl, y1.up s1, y2.up s1, g1, g2, fun H2 s2 => q H2 (s1.trans s2)⟩
end
end K42
-- K42m
set_option Elab.async false
set_option linter.all false
set_option maxRecDepth 100000
set_option maxHeartbeats 8000000
/-! K42m: the least number of steps is at most the difference, this at most four times that -/
namespace K42
open PySem L2 DC LamX
def chg (js ls : List J2) (e : Nat) : Bool := decide (mt js e ≠ mt ls e)
section
variable {n : Nat} {js ls : List J2}
theorem pc_chg (g1 : Good n js) (g2 : Good n ls) {p : Str × List Nat} (h : Wpc n js ls p) :
    2 * pcost p.1 p.2.length ≤ ((p.2.countP (chg js ls) : Nat) : Int) ∧ ((p.2.countP (chg js ls) : Nat) : Int) ≤ 4 * pcost p.1 p.2.length := by
  have ok := pc_wpc g1 g2 h
  have cnt := wpc_cnt g1 g2 h
  have nd := wpc_nd h
  have F := g1.mt
  have G := g2.mt
  obtain ⟨a, ha, c, _⟩ := h
  have cls : ∀ {x y : Nat}, x ∈ p.2 → Nb (mt js) (mt ls) x y → y ∈ p.2 := fun {x y} hx hn => (c.mem y).mpr (.step ((c.mem x).mp hx) hn)
  by_cases ex : ∃ e ∈ p.2, mt js e = mt ls e
  · obtain ⟨e, he, eq⟩ := ex
    have all : ∀ x ∈ p.2, x = e ∨ mt js e = some x := by
      intro x hx
      have k : Cl (mt js) (mt ls) e x := cl_trans (cl_symm F G ((c.mem e).mp he)) ((c.mem x).mp hx)
      refine cl_closed (S := fun x => x = e ∨ mt js e = some x) (.inl rfl) (fun x y sx hn => ?_) k
      rcases sx with rfl | sx
      · rcases hn with hn | hn
        · exact .inr hn
        · exact .inr (eq.trans hn)
      · refine .inl ?_
        rcases hn with hn | hn
        · exact Option.some.inj (hn.symm.trans (F.inv sx))
        · exact Option.some.inj (hn.symm.trans (G.inv (eq.symm.trans sx)))
    have z : p.2.countP (chg js ls) = 0 := by
      rw [List.countP_eq_zero]
      intro x hx
      unfold chg
      rw [decide_eq_true_eq, Classical.not_not]
      rcases all x hx with rfl | sx
      · exact eq
      · rw [F.inv sx, G.inv (eq.symm.trans sx)]
    rw [z]
    cases hm : mt js e with
    | none =>
      have l1 : p.2.length ≤ 1 := by
        refine nodup_le (l := p.2) (m := [e]) nd fun x hx => ?_
        rcases all x hx with rfl | sx
        · exact List.mem_cons_self
        · rw [hm] at sx
          exact nomatch sx
      rcases ok with ⟨k, o⟩ | ⟨_, h2, _⟩
      · have e1 : pcost p.1 p.2.length = 0 := by
          unfold pcost
          dsimp only at k o
          rw [k, if_neg (by decide +kernel)]
          omega
        rw [e1]
        omega
      · dsimp only at h2
        omega
    | some x =>
      have l2 : p.2.length ≤ 2 := by
        refine nodup_le (l := p.2) (m := [e, x]) nd fun y hy => ?_
        rcases all y hy with rfl | sx
        · exact List.mem_cons_self
        · rw [hm] at sx
          cases sx
          exact List.mem_cons_of_mem _ List.mem_cons_self
      have c0 : cn js p.2 = 0 := by
        unfold cn
        rw [List.countP_eq_zero]
        intro y hy
        rcases all y hy with rfl | sx
        · rw [hm]; exact fun z => nomatch z
        · rw [F.inv sx]; exact fun z => nomatch z
      have c1 : cn ls p.2 = 0 := by
        unfold cn
        rw [List.countP_eq_zero]
        intro y hy
        rcases all y hy with rfl | sx
        · rw [← eq, hm]; exact fun z => nomatch z
        · rw [G.inv (eq.symm.trans sx)]; exact fun z => nomatch z
      have kr : p.1 = "ring" := by
        rcases cnt with ⟨_, _, k⟩ | ⟨k, _⟩ | ⟨k, _⟩ | ⟨_, k, _⟩
        · exact k
        all_goals omega
      have e1 : pcost p.1 p.2.length = 0 := by
        rcases ok with ⟨k, o⟩ | ⟨_, h2, _⟩
        · rw [kr] at k
          exact absurd k (by decide +kernel)
        · dsimp only at h2
          unfold pcost
          rw [if_pos kr]
          omega
      rw [e1]
      omega
  · have z : p.2.countP (chg js ls) = p.2.length := by
      rw [List.countP_eq_length]
      intro x hx
      unfold chg
      rw [decide_eq_true_eq]
      exact fun eq => ex ⟨x, hx, eq⟩
    rw [z]
    rcases ok with ⟨k, o⟩ | ⟨k, h2, o⟩
    · dsimp only at k o
      have n1 : p.2.length ≠ 1 := fun l1 => by
        obtain ⟨e, he⟩ := List.length_eq_one_iff.mp l1
        have hm : e ∈ p.2 := by rw [he]; exact List.mem_singleton.mpr rfl
        refine ex ⟨e, hm, ?_⟩
        have h1 : mt js e = none := by
          cases hx : mt js e with
          | none => rfl
          | some x =>
            have := cls hm (.inl hx)
            rw [he] at this
            obtain rfl := List.mem_singleton.mp this
            exact absurd hx (hh_irr (i := 0) F G)
        have h2 : mt ls e = none := by
          cases hx : mt ls e with
          | none => rfl
          | some x =>
            have := cls hm (.inr hx)
            rw [he] at this
            obtain rfl := List.mem_singleton.mp this
            exact absurd hx (hh_irr (i := 1) F G)
        rw [h1, h2]
      have e1 : pcost p.1 p.2.length = ((p.2.length / 2 : Nat) : Int) := by
        unfold pcost
        rw [k, if_neg (by decide +kernel)]
      rw [e1]
      omega
    · dsimp only at k h2 o
      by_cases kr : p.1 = "ring"
      · have e1 : pcost p.1 p.2.length = ((p.2.length / 2 : Nat) : Int) - 1 := by
          unfold pcost
          rw [if_pos kr]
        have n2 : p.2.length ≠ 2 := fun l2 => by
          obtain ⟨e, x, he⟩ : ∃ e x, p.2 = [e, x] := by
            match h : p.2, l2 with
            | [e, x], _ => exact ⟨e, x, rfl⟩
          have hm : e ∈ p.2 := by rw [he]; exact List.mem_cons_self
          rcases cnt with ⟨c0, c1, _⟩ | ⟨_, _, k'⟩ | ⟨_, _, k'⟩ | ⟨_, _, k'⟩
          · unfold cn at c0 c1
            rw [List.countP_eq_zero] at c0 c1
            refine ex ⟨e, hm, ?_⟩
            have h1 : mt js e = some x := by
              cases hy : mt js e with
              | none =>
                have := c0 e hm
                rw [hy] at this
                exact absurd rfl this
              | some y =>
                have := cls hm (.inl hy)
                rw [he] at this
                rcases List.mem_cons.mp this with rfl | this
                · exact absurd hy (hh_irr (i := 0) F G)
                · rw [List.mem_singleton.mp this]
            have h2 : mt ls e = some x := by
              cases hy : mt ls e with
              | none =>
                have := c1 e hm
                rw [hy] at this
                exact absurd rfl this
              | some y =>
                have := cls hm (.inr hy)
                rw [he] at this
                rcases List.mem_cons.mp this with rfl | this
                · exact absurd hy (hh_irr (i := 1) F G)
                · rw [List.mem_singleton.mp this]
            rw [h1, h2]
          all_goals
            rw [kr] at k'
            exact absurd k' (by decide +kernel)
        rw [e1]
        omega
      · have e1 : pcost p.1 p.2.length = ((p.2.length / 2 : Nat) : Int) := by
          unfold pcost
          rw [if_neg kr]
        rw [e1]
        omega
theorem sum_chg (g1 : Good n js) (g2 : Good n ls) : ∀ {ps : List (Str × List Nat)}, (∀ p ∈ ps, Wpc n js ls p) →
    2 * lcost (szs ps) ≤ (((ps.flatMap fun p => p.2).countP (chg js ls) : Nat) : Int) ∧ (((ps.flatMap fun p => p.2).countP (chg js ls) : Nat) : Int) ≤ 4 * lcost (szs ps)
  | [], _ => ⟨Int.le_refl _, Int.le_refl _⟩
  | p :: ps, h => by
    have ih := sum_chg g1 g2 (ps := ps) fun q hq => h q (List.mem_cons_of_mem _ hq)
    have hp := pc_chg g1 g2 (h p List.mem_cons_self)
    have ec : lcost (szs (p :: ps)) = pcost p.1 p.2.length + lcost (szs ps) := by
      unfold lcost szs
      rw [List.map_cons, List.map_cons, List.sum_cons]
    rw [ec, List.flatMap_cons, List.countP_append]
    omega
theorem web_flat {ps : List (Str × List Nat)} (W : IsWeb n js ls ps) (g1 : Good n js) (g2 : Good n ls) : (ps.flatMap fun p => p.2).Perm (List.range (2 * n)) := by
  have dis : ps.Pairwise (fun p q => ∀ e, e ∈ p.2 → e ∉ q.2) := by
    refine List.Pairwise.imp_of_mem (fun {p q} hp hq hne e h1 h2 => ?_) W.nd
    exact hne (wpc_uniq g1 g2 ((W.mem p).mp hp) ((W.mem q).mp hq) h1 h2)
  have nd := flat_nd (fun p hp => wpc_nd ((W.mem p).mp hp)) dis
  refine (List.perm_ext_iff_of_nodup nd List.nodup_range).mpr fun e => ?_
  rw [List.mem_flatMap, List.mem_range]
  constructor
  · rintro ⟨p, hp, he⟩
    exact wpc_lt ((W.mem p).mp hp) e he
  · intro he
    exact W.cov g1 g2 e he
/-! ends of joints -/
def endsJ (l : List J2) : List Nat := l.flatMap fun p => [p.1, p.2]
theorem ends_len : ∀ l : List J2, (endsJ l).length = 2 * l.length
  | [] => rfl
  | p :: l => by
    unfold endsJ
    rw [List.flatMap_cons, List.length_append, List.length_cons]
    have := ends_len l
    unfold endsJ at this
    rw [this]
    show 2 + 2 * l.length = 2 * (l.length + 1)
    omega
theorem ends_nd : ∀ {l : List J2}, (∀ p ∈ l, p.1 < p.2) → l.Pairwise DC.Apart → (endsJ l).Nodup
  | [], _, _ => List.nodup_nil
  | p :: l, h, a => by
    have a' := List.pairwise_cons.mp a
    unfold endsJ
    rw [List.flatMap_cons]
    refine List.nodup_append.mpr ⟨?_, ends_nd (fun q hq => h q (List.mem_cons_of_mem _ hq)) a'.2, ?_⟩
    · have := h p List.mem_cons_self
      refine List.nodup_cons.mpr ⟨fun z => ?_, List.nodup_cons.mpr ⟨List.not_mem_nil, List.nodup_nil⟩⟩
      have := List.mem_singleton.mp z
      omega
    · intro x hx y hy e
      subst e
      obtain ⟨q, hq, hm⟩ := List.mem_flatMap.mp hy
      obtain ⟨a1, a2, a3, a4⟩ := a'.1 q hq
      simp only [List.mem_cons, List.not_mem_nil, or_false] at hx hm
      rcases hx with rfl | rfl <;> rcases hm with z | z
      · exact a1 z
      · exact a2 z
      · exact a3 z
      · exact a4 z
theorem out_cnt (g1 : Good n js) (g2 : Good n ls) : 2 * (outJ js ls).length = (List.range (2 * n)).countP fun e => (mt js e).isSome && chg js ls e := by
  rw [← ends_len, List.countP_eq_length_filter]
  refine List.Perm.length_eq ?_
  have ne : ∀ p ∈ js, p.1 ≠ p.2 := fun q hq => Nat.ne_of_lt (g1.rng q hq).1
  refine (List.perm_ext_iff_of_nodup (ends_nd (fun p hp => (g1.rng p (List.mem_filter.mp hp).1).1) (g1.dis.filter _)) (List.nodup_range.filter _)).mpr fun e => ?_
  have F := g1.mt
  unfold endsJ
  rw [List.mem_flatMap, List.mem_filter, List.mem_range, Bool.and_eq_true]
  have key : ∀ p ∈ js, p ∉ ls → mt ls p.1 ≠ some p.2 := by
    intro p hp hn hm
    obtain ⟨q, hq, h | h⟩ := mt_some hm
    · exact hn (by rw [show p = q from Prod.ext h.1 h.2]; exact hq)
    · have r1 := g1.rng p hp
      have r2 := g2.rng q hq
      omega
  constructor
  · rintro ⟨p, hp, he⟩
    obtain ⟨hp, hn⟩ := List.mem_filter.mp hp
    have hn : p ∉ ls := by
      rw [Bool.not_eq_true', decide_eq_false_iff_not] at hn
      exact hn
    obtain ⟨m1, m2⟩ := mt_of g1.dis ne hp
    have r1 := g1.rng p hp
    have k := key p hp hn
    unfold chg
    rw [decide_eq_true_eq]
    simp only [List.mem_cons, List.not_mem_nil, or_false] at he
    rcases he with rfl | rfl
    · rw [m1]
      exact ⟨by omega, rfl, fun z => k z.symm⟩
    · rw [m2]
      exact ⟨by omega, rfl, fun z => k (g2.mt.inv z.symm)⟩
  · rintro ⟨he, hs, hc⟩
    unfold chg at hc
    rw [decide_eq_true_eq] at hc
    obtain ⟨x, hx⟩ := Option.isSome_iff_exists.mp hs
    obtain ⟨p, hp, h⟩ := mt_some hx
    have hn : p ∉ ls := by
      intro hl
      obtain ⟨m1, m2⟩ := mt_of g2.dis (fun q hq => Nat.ne_of_lt (g2.rng q hq).1) hl
      refine hc (hx.trans ?_)
      rcases h with ⟨rfl, rfl⟩ | ⟨rfl, rfl⟩
      · exact m1.symm
      · exact m2.symm
    refine ⟨p, ?_, ?_⟩
    · exact List.mem_filter.mpr ⟨hp, by rw [decide_eq_false hn]; rfl⟩
    · simp only [List.mem_cons, List.not_mem_nil, or_false]
      rcases h with ⟨h, _⟩ | ⟨h, _⟩
      · exact .inl h
      · exact .inr h
theorem chg_comm (e : Nat) : chg ls js e = chg js ls e := by
  unfold chg
  rw [decide_eq_decide]
  exact ⟨fun h z => h z.symm, fun h z => h z.symm⟩
theorem cnt_or {l : List Nat} {p q r : Nat → Bool} (h : ∀ x, p x = true → q x = true ∨ r x = true) : l.countP p ≤ l.countP q + l.countP r := by
  induction l with
  | nil => exact Nat.zero_le _
  | cons x l ih =>
    rw [List.countP_cons, List.countP_cons, List.countP_cons]
    by_cases c : p x = true
    · rcases h x c with z | z <;> rw [if_pos c, if_pos z] <;> omega
    · rw [if_neg c]
      omega
theorem gap_cst (g1 : Good n js) (g2 : Good n ls) : cst n js ls ≤ gapJ js ls ∧ gapJ js ls ≤ 4 * cst n js ls := by
  obtain ⟨ps, W⟩ := web_ex g1 g2
  have s := sum_chg g1 g2 (ps := ps) fun p hp => (W.mem p).mp hp
  rw [(web_flat W g1 g2).countP_eq, (web_cost g1 g2 W).1] at s
  have a := out_cnt g1 g2
  have b := out_cnt g2 g1
  have u : (List.range (2 * n)).countP (chg js ls) ≤ ((List.range (2 * n)).countP fun e => (mt js e).isSome && chg js ls e) + ((List.range (2 * n)).countP fun e => (mt ls e).isSome && chg ls js e) := by
    refine cnt_or fun e he => ?_
    rw [show chg ls js e = true from (chg_comm e).trans he, he, Bool.and_true, Bool.and_true]
    cases h1 : mt js e with
    | some x => exact .inl rfl
    | none =>
      cases h2 : mt ls e with
      | some x => exact .inr rfl
      | none =>
        unfold chg at he
        rw [h1, h2] at he
        exact absurd he (by decide)
  have v1 : ((List.range (2 * n)).countP fun e => (mt js e).isSome && chg js ls e) ≤ (List.range (2 * n)).countP (chg js ls) := List.countP_mono_left fun x _ h => by
    rw [Bool.and_eq_true] at h
    exact h.2
  have v2 : ((List.range (2 * n)).countP fun e => (mt ls e).isSome && chg ls js e) ≤ (List.range (2 * n)).countP (chg js ls) := List.countP_mono_left fun x _ h => by
    rw [Bool.and_eq_true, chg_comm] at h
    exact h.2
  unfold gapJ
  omega
end
end K42
-- K42g1
set_option Elab.async false
set_option linter.all false
set_option maxRecDepth 100000
set_option maxHeartbeats 8000000
/-! K42g1: _law_singles, _law_gap -/
namespace DC
open PySem L2
def rInDT (K : PySem.W.Frag) : V → V → Hp → VK → Prop := fun x y H Q => ∃ d ds, Dp K H x d ∧ Dp K H y (.tuple ds) ∧ SeqAt.shaped d = true ∧ SeqAt.shaped (.tuple ds) = true ∧ Q (.bl (ds.any fun z => PyData.eqv z d)) H
theorem op_inDT {X : Cx} (hu : X.A.units + 65 < cLine) : OpR X (compareOp CmpOp.In) (rInDT X.K) := by
  intro pins s σ H x y v u Q I rx ry h
  obtain ⟨d, ds, hd, he, sd, se, q⟩ := h
  obtain ⟨as, r1⟩ := Dp.reads I d x v hd rx
  obtain ⟨bs, r2⟩ := Dp.reads I (.tuple ds) y u he ry
  exact SeqAt.in_tuple_reads r2 r1 (SeqAt.canLay_of_shaped se) (SeqAt.canLay_of_shaped sd) (PyProof.Rows.room_in_shaped sd hu) ⟨V.bl _, H, I, rfl, q⟩
end DC
namespace K42
open PySem L2 DC LamX
section
variable {P : Program} {w : World} {K : PySem.W.Frag} {mg : Str → Option Value} {base : Heap}
def spSg (K : PySem.W.Frag) : Sp := fun vs H Q _ => ∃ (v : V) (n : Nat) (js : List J2), vs = [v] ∧ Ly K H v n js ∧ Good n js ∧ ∀ (r : Addr) (us : List V) (H' : Hp), Same H H' → H r = none → H' r = some (.lst us) → Paired (Stp K H') us (sgS n js) → us.length ≤ 700 → Q (.ref r) H'
abbrev NSg : List Str := ["lay", "known", "loose", "found", "k", "near", "end", "joint", "far"]
theorem scSg : FnScope NSg ["lay"] (defScope (top 53)) := ⟨rfl, rfl, rfl, by decide +kernel, rfl, by decide +kernel, by decide +kernel⟩
theorem okSg {f fM : Addr} {fd fdM : FuncData} (F : Fun K "_law_singles" "_law_singles" (top 53) f fd) (B : Bn mg)
    (DM' : Df K mg "_law_mates" fM fdM ["lay"]) (GM : OkF P w K mg base 1 fM fdM ["lay"] (spLm K)) : OkF P w K mg base 2 f fd ["lay"] (spSg K) := by
  refine ok0 F scSg (fun vs H Q E h => ?_) (fun cdv A outer s H vs Q E hgd hr h => ?_)
  · obtain ⟨v, n, js, rfl, _⟩ := h; rfl
  · obtain ⟨v, n, js, rfl, hL, g, q⟩ := h
    have nd := scSg.nd
    have hu := hu_of hr
    have jle := g.le
    have tp := g.top
    have fle := frees_len n js
    refine ⟨_, (pss_cons (ps_set (i := 1) nd rfl (.inr rfl) (cl DM' GM hgd hr (pa_cons (pv 0) pa_nil))) (pss_cons (ps_setLc (i := 2) (own := [("end", 6)]) (g := gName 6) rfl nd rfl rfl (sw_true rfl rfl rfl (by decide +kernel)) (pi_range1 (by rfl) B.range (pa_cons (pe_op op_mul pe_int (pe_ix (r := rIxT K) ix_tup (pv 0) pe_int (fun _ _ => rfl))) pa_nil)) (blkOk_by (N := NSg) (sc := defScope (top 53)) (by decide +kernel)) (fun _ _ _ _ _ => pg_name (i := 6) nd rfl (Or.inl rfl)) (fun _ _ _ _ _ => pts_one (pt_cmp (pc_dnotin hu (pv 6) (pv 1)) rfl)) (fun _ _ _ _ _ => (pv 6))) (pss_cons (ps_setLc (i := 3) (own := [("joint", 7)]) (g := gName 7) (tt := tYes) rfl nd rfl rfl (sw_true rfl rfl rfl (by decide +kernel)) (pi_tup (pe_ix (r := rIxT K) ix_tup (pv 0) pe_int (fun _ _ => rfl))) (blkOk_by (N := NSg) (sc := defScope (top 53)) (by decide +kernel)) (fun _ _ _ _ _ => pg_name (i := 7) nd rfl (Or.inl rfl)) (fun _ _ _ _ _ => pts_nil) (fun _ _ _ _ _ => (pe_tup (pa_cons (pe_tup (pa_cons (pv 7) pa_nil)) (pa_cons (pe_tup pa_nil) pa_nil))))) (pss_cons (ps_for PassesOwn.never rfl (pi_enum (by rfl) B.enum (pa_cons (pv 2) pa_nil)) (pg_tup (by rfl) (pgs_cons (pg_name (i := 4) nd rfl (.inl rfl)) (pgs_cons (pg_name (i := 5) nd rfl (.inr rfl)) pgs_nil))) (pss_one (ps_set (i := 3) nd rfl (.inl rfl) (pe_op op_cat (pv 3) (pe_lc (own := [("far", 8)]) (g := gName 8) (tt := tYes) rfl nd (pi_list (pe_slice sl_list (pv 2) (po_some (pe_op op_add (pv 4) pe_int)) po_none)) (blkOk_by (N := NSg) (sc := defScope (top 53)) (by decide +kernel)) (fun _ _ _ _ _ => pg_name (i := 8) nd rfl (Or.inl rfl)) (fun _ _ _ _ _ => pts_nil) (fun _ _ _ _ _ => (pe_tup (pa_cons (pe_tup pa_nil) (pa_cons (pe_tup (pa_cons (pe_tup (pa_cons (pv 5) (pa_cons (pv 8) pa_nil))) pa_nil)) pa_nil))))))))) (pss_one (ps_ret (pe_callB (cr_sortD hr.units) (by rfl) B.sorted (by decide +kernel) (pa_cons (pv 3) pa_nil)))))))), ?_⟩
    refine ⟨_, rfl, v, n, js, rfl, hL, g, fun d kv H1 s1 fd1 hd1 m1 => gn ?_⟩
    obtain ⟨t, u, rfl, hS, tj, ws, rfl, hSj, hPj⟩ := hL.up s1
    have a0 : atI [V.int (n : Nat), V.ref tj] 0 = some (.int (n : Nat)) := at_of (j := 0) rfl rfl
    have a1 : atI [V.int (n : Nat), V.ref tj] 1 = some (.ref tj) := at_of (j := 1) rfl rfl
    have lw : ws.length = js.length := Paired.length hPj
    refine ⟨_, rfl, t, _, 0, .int (n : Nat), rfl, rfl, hS, a0, ?_⟩
    refine ⟨2, (n : Int), rfl, rfl, .inl ⟨by decide, by decide⟩, _, rfl, by omega, by omega, fun D hD => ?_⟩
    rw [show (2 * (n : Int)).toNat = 2 * n by omega]
    refine lc_it (walk_range (lo := 0) (n := 2 * n)) (fun i H' => Same H1 H' ∧ H' D = some (.lst (Vn ((List.range i).filter fun e => (mt js e).isNone)))) ⟨Same.new hD, upd_same⟩ (fun _ _ _ _ => trivial) ?_ ?_
    · rintro i x Ha Hb hi ⟨sm, hA⟩ ⟨rfl, ex⟩
      obtain rfl : x = V.int ((i : Nat) : Int) := by
        rw [ex]
        show V.int (0 + ((i : Nat) : Int)) = _
        rw [Int.zero_add]
      refine ⟨rfl, _, rfl, _, rfl, _, _, rfl, DGet.k (k := .inl ((i : Nat) : Int)) (sm _ _ hd1), _, rfl, ?_⟩
      show if (!(valV kv (.inl ((i : Nat) : Int))).isSome) = true then _ else _
      rw [val_none m1, List.range_succ, List.filter_append]
      cases c : (mt js i).isNone with
      | true =>
        refine iteT ⟨_, rfl, _, hA, ?_, same_put sm hD, ?_⟩
        · rw [Vn_len]
          refine Nat.lt_of_le_of_lt (List.length_filter_le _ _) ?_
          rw [List.length_range]
          show i < 16777216
          omega
        · rw [upd_same]
          simp only [List.filter_cons, c, if_true, List.filter_nil]
          rw [vn_snoc]
      | false =>
        refine iteF ⟨sm, ?_⟩
        simp only [List.filter_cons, c, Bool.false_eq_true, if_false, List.filter_nil, List.append_nil]
        exact hA
    rintro H2 ⟨s2, hLO⟩
    refine gn ?_
    change H2 D = some (.lst (Vn (frees n js))) at hLO
    -- the cuts
    refine ⟨_, rfl, t, _, 1, .ref tj, rfl, rfl, Same.t s2 hS, a1, tj, rfl, ⟨ws, Same.t s2 hSj⟩, fun C hC => ?_⟩
    refine lc_it (walk_tup (xs := ws)) (fun i H' => ∃ acc : List V, Same H2 H' ∧ H' C = some (.lst acc) ∧ Paired (Stp K H') acc ((js.take i).map cutS)) ⟨[], Same.new hC, upd_same, .nil⟩ (fun i H' _ hp => by
      obtain ⟨acc, sm, _⟩ := hp
      exact Same.t (s2.trans sm) hSj) ?_ ?_
    · rintro i x Ha Hb hi ⟨acc, sm, hA, hP⟩ ⟨rfl, ex⟩
      obtain ⟨p, ep, hx⟩ := paired_at hPj ex
      have hx := hx.up (s2.trans sm)
      have la := Paired.length hP
      refine ⟨rfl, ?_⟩
      refine yesT ?_
      refine ⟨_, rfl, by show 1 ≤ sizeLine; decide, fun T1 hT1 => ⟨by show 0 ≤ sizeLine; decide, fun T2 hT2 => ⟨by show 2 ≤ sizeLine; decide, fun T3 hT3 => ?_⟩⟩⟩
      have u1 := Same.new (o := .tup [x]) hT1
      have u2 := Same.new (o := .tup []) hT2
      have u3 := Same.new (o := .tup [.ref T1, .ref T2]) hT3
      have u := u1.trans (u2.trans u3)
      have hSt : Stp K (upd (upd (upd Hb T1 (.tup [x])) T2 (.tup [])) T3 (.tup [.ref T1, .ref T2])) (.ref T3) (cutS p) :=
        ⟨T3, _, _, rfl, SqT.of upd_same, ⟨T1, [x], rfl, SqT.of ((u2.trans u3) _ _ upd_same), .cons (hx.up u) .nil⟩, ⟨T2, [], rfl, SqT.of (u3 _ _ upd_same), .nil⟩⟩
      have tm := TM.put (K := K) (o := .lst (acc ++ [.ref T3])) (u _ _ hA)
      refine ⟨acc, u _ _ hA, ?_, acc ++ [.ref T3], same_put (sm.trans u) hC, upd_same, ?_⟩
      · rw [List.length_map, List.length_take] at la
        exact Nat.lt_of_le_of_lt (show acc.length ≤ 1000 by omega) (by decide)
      · rw [take_next ep, List.map_append]
        exact pair_snoc (tm.stps ((TM.of u).stps hP)) (tm.stp hSt)
    rintro H3 ⟨cs, s3, hC3, hP3⟩
    rw [List.take_of_length_le (by omega)] at hP3
    have lcs : cs.length = js.length := by rw [Paired.length hP3, List.length_map]
    refine gn ?_
    -- the joins
    refine ⟨_, rfl, D, Vn (frees n js), rfl, SqL.of (s3 _ _ hLO), for_it (walk_enum (xs := Vn (frees n js))) (fun i σ H' => ∃ (y4 y5 : Option V) (Fo : Addr) (us : List V), σ = [some (.ref t), some (.ref d), some (.ref D), some (.ref Fo), y4, y5, none, none, none] ∧ Same H2 H' ∧ H' Fo = some (.lst us) ∧ Paired (Stp K H') us (js.map cutS ++ pre2 (frees n js) i) ∧ us.length ≤ 24 + 24 * i) ?_ ?_ ?_ ?_⟩
    · refine ⟨_, _, C, cs, rfl, s3, hC3, ?_, by omega⟩
      show Paired _ cs (_ ++ [])
      rw [List.append_nil]
      exact hP3
    · rintro i σ H' hi ⟨_, _, _, _, rfl, sm, _⟩
      exact SqL.of (sm _ _ hLO)
    · rintro i x σ Hz H5 hi ⟨y4, y5, Fo, us, rfl, sm, hFo, hP, hus⟩ ⟨T, e1, e2, rfl, nT, rfl, ee1, ee2⟩
      cases ee1
      rw [Vn_len] at hi
      obtain rfl : e2 = V.int ((frees n js).getD i 0 : Nat) := Option.some.inj (Eq.trans (Eq.symm ee2) (Vn_at hi))
      have sT := Same.new (o := .tup [.int (i : Nat), .int ((frees n js).getD i 0 : Nat)]) nT
      refine ⟨T, _, rfl, SqT.of upd_same, rfl, _, _, rfl, _, _, rfl, rfl, ?_⟩
      rw [pre2_succ]
      have ecut : cutV (Vn (frees n js)) (some (((i : Nat) : Int) + 1)) none = Vn ((frees n js).drop (i + 1)) := by
        have := cut_a (xs := Vn (frees n js)) (a := i + 1) (by rw [Vn_len]; omega)
        rw [vn_drop] at this
        exact this
      have s5 := sm.trans sT
      have hFo5 := sT _ _ hFo
      have hP5 := (TM.of sT).stps hP
      clear sm hFo hP
      generalize upd Hz T (.tup [.int (i : Nat), .int ((frees n js).getD i 0 : Nat)]) = H5 at s5 hFo5 hP5 ⊢
      generalize (frees n js).getD i 0 = a at *
      refine ⟨_, rfl, _, rfl, _, rfl, ((i : Nat) : Int), 1, rfl, rfl, _, rfl, D, _, rfl, SqL.of (s5 _ _ hLO), fun S hSn => ?_⟩
      rw [ecut]
      have uS := Same.new (o := .lst (Vn ((frees n js).drop (i + 1)))) hSn
      have hSS : upd H5 S (.lst (Vn ((frees n js).drop (i + 1)))) S = some (.lst (Vn ((frees n js).drop (i + 1)))) := upd_same
      generalize upd H5 S (.lst (Vn ((frees n js).drop (i + 1)))) = H6 at uS hSS ⊢
      refine ⟨S, rfl, ⟨_, SqL.of hSS⟩, fun G hG => ?_⟩
      refine lc_it (walk_list (xs := Vn ((frees n js).drop (i + 1)))) (fun m H' => ∃ acc : List V, Same H6 H' ∧ H' G = some (.lst acc) ∧ Paired (Stp K H') acc ((((frees n js).drop (i + 1)).take m).map fun b => ([], [(a, b)])) ∧ acc.length = m) ⟨[], Same.new hG, upd_same, .nil, rfl⟩ (fun m H' _ hp => by
        obtain ⟨acc, sm, _⟩ := hp
        exact SqL.of (sm _ _ hSS)) ?_ ?_
      · rintro m x Hy H7 hm ⟨acc, sm, hA, hPA, hal⟩ ⟨rfl, ex⟩
        rw [Vn_len] at hm
        have eg : ((frees n js).drop (i + 1))[m]? = some (((frees n js).drop (i + 1)).getD m 0) := by
          rw [List.getD_eq_getElem?_getD, List.getElem?_eq_getElem hm]
          rfl
        have ev := Vn_at hm
        have tk2 := take_next eg
        generalize ((frees n js).drop (i + 1)).getD m 0 = b at ev eg tk2
        obtain rfl : x = V.int (b : Nat) := Option.some.inj (ex.symm.trans ev)
        rw [List.length_drop] at hm
        refine ⟨rfl, ?_⟩
        refine yesT ?_
        refine ⟨by show 0 ≤ sizeLine; decide, fun T1 hT1 => ⟨_, rfl, _, rfl, by show 2 ≤ sizeLine; decide, fun T2 hT2 => ⟨by show 1 ≤ sizeLine; decide, fun T3 hT3 => ⟨by show 2 ≤ sizeLine; decide, fun T4 hT4 => ?_⟩⟩⟩⟩
        have u1 := Same.new (o := .tup []) hT1
        have u2 := Same.new (o := .tup [.int (a : Nat), .int (b : Nat)]) hT2
        have u3 := Same.new (o := .tup [.ref T2]) hT3
        have u4 := Same.new (o := .tup [.ref T1, .ref T3]) hT4
        have u34 := u3.trans u4
        have u := u1.trans (u2.trans u34)
        have hSt : Stp K (upd (upd (upd (upd H7 T1 (.tup [])) T2 (.tup [.int (a : Nat), .int (b : Nat)])) T3 (.tup [.ref T2])) T4 (.tup [.ref T1, .ref T3])) (.ref T4) ([], [(a, b)]) :=
          ⟨T4, _, _, rfl, SqT.of upd_same, ⟨T1, [], rfl, SqT.of ((u2.trans u34) _ _ upd_same), .nil⟩, ⟨T3, [.ref T2], rfl, SqT.of (u4 _ _ upd_same), .cons ⟨T2, rfl, SqT.of (u34 _ _ upd_same)⟩ .nil⟩⟩
        have tm := TM.put (K := K) (o := .lst (acc ++ [.ref T4])) (u _ _ hA)
        refine ⟨acc, u _ _ hA, Nat.lt_of_le_of_lt (show acc.length ≤ 1000 by omega) (by decide), acc ++ [.ref T4], same_put (sm.trans u) hG, upd_same, ?_, by rw [List.length_append, hal]; rfl⟩
        rw [tk2, List.map_append]
        exact pair_snoc (tm.stps ((TM.of u).stps hPA)) (tm.stp hSt)
      · rintro H7 ⟨acc, sm, hA, hPA, hal⟩
        rw [Vn_len, List.take_of_length_le (Nat.le_refl _)] at hPA
        rw [Vn_len, List.length_drop] at hal
        have s7 := uS.trans sm
        refine ⟨Fo, G, us, acc, rfl, rfl, s7 _ _ hFo5, hA, Nat.le_trans (show us.length + acc.length ≤ 1000 by omega) (by decide), fun N hN => gn ?_⟩
        have u8 := Same.new (o := .lst (us ++ acc)) hN
        refine ⟨_, _, N, us ++ acc, rfl, s5.trans (s7.trans u8), upd_same, ?_, by rw [List.length_append]; omega⟩
        rw [← List.append_assoc]
        exact pair_app ((TM.of (s7.trans u8)).stps hP5) ((TM.of u8).stps hPA)
    · rintro σ H5 ⟨y4, y5, Fo, us, rfl, sm, hFo, hP, hus⟩
      rw [Vn_len] at hP hus
      refine ⟨_, rfl, Fo, us, _, rfl, SqL.of hFo, stps_dp hP, st_alike _, st_sortable _, st_depth _, fun ys p9 pm hy hp9 => ?_⟩
      rw [sg_sort (n := n) (js := js) (show (js.map cutS ++ pre2 (frees n js) (frees n js).length).Perm (sgJ n js) from List.Perm.refl _)] at hy
      have u := Same.new (o := .lst ys) hp9
      have SH := s1.trans (s2.trans sm)
      exact q p9 ys _ (SH.trans u) (SH.free hp9) upd_same ((TM.of u).stps (dp_stps hy)) (by rw [pm.length_eq]; omega)
abbrev NGp : List Str := ["one", "other", "both", "joint"]
theorem scGp : FnScope NGp ["one", "other"] (defScope (top 54)) := ⟨rfl, rfl, rfl, by decide +kernel, rfl, by decide +kernel, by decide +kernel⟩
theorem okGp {f : Addr} {fd : FuncData} (F : Fun K "_law_gap" "_law_gap" (top 54) f fd) (B : Bn mg) : OkF P w K mg base 1 f fd ["one", "other"] (spDf K) := by
  refine ok0 F scGp (fun vs H Q E h => ?_) (fun cdv A outer s H vs Q E hgd hr h => ?_)
  · obtain ⟨v1, v2, n, js, ls, rfl, _⟩ := h; rfl
  · obtain ⟨v1, v2, n, js, ls, rfl, ⟨t, u, rfl, hS, tj, ws, rfl, hSj, hPj⟩, ⟨t2, u2, rfl, hS2, ta, xa, rfl, hSa, hPa⟩, g1, g2, q⟩ := h
    have nd := scGp.nd
    have jle := g1.le
    have tp := g1.top
    refine ⟨_, (pss_cons (ps_set (i := 2) nd rfl (.inl rfl) (pe_callB call_len_seq (by rfl) B.len PySem.boot_len (pa_cons (pe_lc (own := [("joint", 3)]) (g := gName 3) rfl nd (pi_tup (pe_ix (r := rIxT K) ix_tup (pv 0) pe_int (fun _ _ => rfl))) (blkOk_by (N := NGp) (sc := defScope (top 54)) (by decide +kernel)) (fun _ _ _ _ _ => pg_name (i := 3) nd rfl (Or.inl rfl)) (fun _ _ _ _ _ => pts_one (pt_cmpR (r := rInDT K) (op_inDT (u65 hr)) (pv 3) (pe_ix (r := rIxT K) ix_tup (pv 1) pe_int (fun _ _ => rfl)) (by rfl))) (fun _ _ _ _ _ => (pv 3))) pa_nil))) (pss_one (ps_ret (pe_op op_sub (pe_op op_add (pe_callB call_len_seq (by rfl) B.len PySem.boot_len (pa_cons (pe_ix (r := rIxT K) ix_tup (pv 0) pe_int (fun _ _ => rfl)) pa_nil)) (pe_callB call_len_seq (by rfl) B.len PySem.boot_len (pa_cons (pe_ix (r := rIxT K) ix_tup (pv 1) pe_int (fun _ _ => rfl)) pa_nil))) (pe_op op_mul pe_int (pv 2)))))), ?_⟩
    have a1 : atI [V.int (n : Nat), V.ref tj] 1 = some (.ref tj) := at_of (j := 1) rfl rfl
    have b1 : atI [V.int (n : Nat), V.ref ta] 1 = some (.ref ta) := at_of (j := 1) rfl rfl
    have len : ws.length = js.length := Paired.length hPj
    have len2 : xa.length = ls.length := Paired.length hPa
    refine ⟨_, rfl, t, _, 1, .ref tj, rfl, rfl, hS, a1, tj, rfl, ⟨ws, hSj⟩, fun D hD => ?_⟩
    refine lc_it (walk_tup (xs := ws)) (fun i H' => ∃ acc : List V, Same H H' ∧ H' D = some (.lst acc) ∧ acc.length = (bothJ (js.take i) ls).length ∧ acc.length ≤ i) ⟨[], Same.new hD, upd_same, rfl, Nat.le_refl _⟩ (fun i H' _ hp => by
      obtain ⟨acc, sm, _⟩ := hp
      exact Same.t sm hSj) ?_ ?_
    · rintro i x Ha Hb hi ⟨acc, sm, hL, hd, hal⟩ ⟨rfl, ex⟩
      obtain ⟨p, ep, hx⟩ := paired_at hPj ex
      have hx' := hx.up sm
      refine ⟨rfl, ?_⟩
      obtain ⟨px, rfl, hpx⟩ := hx'
      refine ⟨_, rfl, _, rfl, t2, _, 1, .ref ta, rfl, rfl, Same.t sm hS2, b1, pairD p, ls.map pairD, .tup hpx (.cons (.int _) (.cons (.int _) .nil)), .tup (Same.t sm hSa) (js_dpp ((TM.of sm).prs hPa)), shaped_pair p, shaped_pairs ls, _, rfl, ?_⟩
      rw [any_pair, take_next ep]
      unfold bothJ at hd ⊢
      rw [List.filter_append]
      cases c : (decide (p ∈ ls)) with
      | true =>
        refine iteT ⟨_, rfl, acc, hL, Nat.lt_of_le_of_lt (show acc.length ≤ 1000 by omega) (by decide), acc ++ [.ref px], same_put sm hD, upd_same, ?_, by rw [List.length_append]; exact Nat.succ_le_succ hal⟩
        have e1 : ([p].filter fun p => decide (p ∈ ls)) = [p] := by simp only [List.filter_cons, c, if_true, List.filter_nil]
        rw [e1, List.length_append, List.length_append, hd]
        rfl
      | false =>
        refine iteF ⟨acc, sm, hL, ?_, Nat.le_succ_of_le hal⟩
        have e1 : ([p].filter fun p => decide (p ∈ ls)) = [] := by simp only [List.filter_cons, c, Bool.false_eq_true, if_false, List.filter_nil]
        rw [e1, List.append_nil]
        exact hd
    · rintro H1 ⟨acc, s1, hL, hd, hal⟩
      rw [len, List.take_of_length_le (Nat.le_refl _)] at hd
      refine ⟨D, acc, rfl, .inl (SqL.of hL), gn ?_⟩
      refine ⟨_, rfl, t, _, 1, .ref tj, rfl, rfl, Same.t s1 hS, a1, tj, ws, rfl, .inr (Same.t s1 hSj), ?_⟩
      refine ⟨_, rfl, t2, _, 1, .ref ta, rfl, rfl, Same.t s1 hS2, b1, ta, xa, rfl, .inr (Same.t s1 hSa), _, _, rfl, rfl, ?_⟩
      refine ⟨_, rfl, 2, _, rfl, rfl, .inl ⟨by decide, by decide⟩, _, _, rfl, rfl, ?_⟩
      rw [hd, len, len2]
      show Q (V.int (((js.length : Nat) : Int) + ((ls.length : Nat) : Int) - 2 * (((bothJ js ls).length : Nat) : Int))) H1
      rw [gap_eq g1 g2]
      exact q H1 s1
end
end K42
-- K42r1
set_option Elab.async false
set_option linter.all false
set_option maxRecDepth 100000
set_option maxHeartbeats 8000000
/-! K42r1: _law_right -/
namespace K42
open PySem L2 DC LamX
theorem pre2_mem2 {fr : List Nat} {st : Stp2} : st ∈ pre2 fr fr.length → ∃ a ∈ fr, ∃ b ∈ fr, st = ([], [(a, b)]) := by
  intro h
  unfold pre2 at h
  obtain ⟨k, hk, h⟩ := List.mem_flatMap.mp h
  have hk := List.mem_range.mp hk
  obtain ⟨b, hb, rfl⟩ := List.mem_map.mp h
  refine ⟨fr.getD k 0, ?_, b, List.mem_of_mem_drop hb, rfl⟩
  rw [List.getD_eq_getElem?_getD, List.getElem?_eq_getElem hk]
  exact List.getElem_mem hk
theorem short_pair {p : J2} (h1 : p.1 < 1000) (h2 : p.2 < 1000) : Short (pairD p) 50 1 := by
  unfold pairD
  refine short_tuple (B := 21) (D := 0) (L := 2) (fun d hd => ?_) (Nat.le_refl _)
  simp only [List.mem_cons, List.not_mem_nil, or_false] at hd
  rcases hd with rfl | rfl
  · exact short_int (by omega)
  · exact short_int (by omega)
theorem short_sg {n : Nat} {js : List J2} (g : Good n js) : ∀ st ∈ sgS n js, Short (stD st) 120 3 := by
  intro st h
  have tp := g.top
  have two : ∀ l : List J2, l.length ≤ 1 → (∀ p ∈ l, p.1 < 1000 ∧ p.2 < 1000) → Short (.tuple (l.map pairD)) 56 2 := fun l hl hp => by
    refine short_tuple (B := 50) (D := 1) (L := 1) (fun d hd => ?_) (by rw [List.length_map]; exact hl)
    obtain ⟨p, hp', rfl⟩ := List.mem_map.mp hd
    exact short_pair (hp p hp').1 (hp p hp').2
  have key : st.1.length ≤ 1 ∧ st.2.length ≤ 1 ∧ (∀ p ∈ st.1, p.1 < 1000 ∧ p.2 < 1000) ∧ (∀ p ∈ st.2, p.1 < 1000 ∧ p.2 < 1000) := by
    unfold sgS at h
    rw [List.mem_mergeSort] at h
    unfold sgJ at h
    rcases List.mem_append.mp h with h | h
    · obtain ⟨p, hp, rfl⟩ := List.mem_map.mp h
      have r := g.rng p hp
      refine ⟨Nat.le_refl _, Nat.zero_le _, fun q hq => ?_, fun q hq => absurd hq List.not_mem_nil⟩
      obtain rfl := List.mem_singleton.mp hq
      omega
    · obtain ⟨a, ha, b, hb, rfl⟩ := pre2_mem2 h
      have h1 := (free_lt ha).1
      have h2 := (free_lt hb).1
      refine ⟨Nat.zero_le _, Nat.le_refl _, fun q hq => absurd hq List.not_mem_nil, fun q hq => ?_⟩
      obtain rfl := List.mem_singleton.mp hq
      dsimp only
      omega
  unfold stD
  refine short_tuple (B := 56) (D := 2) (L := 2) (fun d hd => ?_) (Nat.le_refl _)
  simp only [List.mem_cons, List.not_mem_nil, or_false] at hd
  rcases hd with rfl | rfl
  · exact two _ key.1 key.2.2.1
  · exact two _ key.2.1 key.2.2.2
theorem can_st (st : Stp2) : PyData.canLay0 (stD st) = true := by
  unfold stD
  simp only [PyData.canLay0, PyData.canLayAll0, lay_pairs, Bool.and_self]
theorem dep_st (st : Stp2) : (stD st).depth ≤ 4 := by
  have h1 := depth_pairs st.1
  have h2 := depth_pairs st.2
  unfold stD
  simp only [PyData.depth, PyData.depthAll]
  omega
theorem shaped_st (st : Stp2) : SeqAt.shaped (stD st) = true := by
  unfold SeqAt.shaped
  have := dep_st st
  rw [can_st, Bool.true_and]
  exact decide_eq_true (by omega)
theorem can_sts : ∀ l : List Stp2, PyData.canLayAll0 (l.map stD) = true
  | [] => by simp only [List.map_nil, PyData.canLayAll0]
  | s :: l => by
    simp only [List.map_cons, PyData.canLayAll0, can_st, Bool.true_and]
    exact can_sts l
theorem dep_sts : ∀ l : List Stp2, PyData.depthAll (l.map stD) ≤ 4
  | [] => by simp only [List.map_nil, PyData.depthAll]; omega
  | s :: l => by
    have := dep_st s
    have := dep_sts l
    simp only [List.map_cons, PyData.depthAll]
    omega
theorem shaped_sts (l : List Stp2) : SeqAt.shaped (.list (l.map stD)) = true := by
  unfold SeqAt.shaped
  have := dep_sts l
  rw [Bool.and_eq_true]
  refine ⟨by simp only [PyData.canLay0]; exact can_sts l, decide_eq_true ?_⟩
  simp only [PyData.depth]
  omega
theorem stJ_pos {n : Nat} {js : List J2} (g : Good n js) : 0 < (stJ n js).length := by
  have e : pre1 n js js.length ++ pre2 (frees n js) (frees n js).length = stJ n js := rfl
  rw [← e]
  have one := g.one
  cases js with
  | nil =>
    have fr : ∀ x, x < 2 * n → x ∈ frees n [] := fun x hx => by
      unfold frees
      exact List.mem_filter.mpr ⟨List.mem_range.mpr hx, rfl⟩
    have := pre2_in (frees_asc n []) (fr 0 (by omega)) (fr 1 (by omega)) (by decide)
    have := List.length_pos_of_mem this
    rw [List.length_append]
    omega
  | cons p l =>
    have : ([p], []) ∈ pre1 n (p :: l) (p :: l).length := by
      unfold pre1
      refine List.mem_flatMap.mpr ⟨0, List.mem_range.mpr (Nat.succ_pos _), ?_⟩
      exact List.mem_append.mpr (.inl List.mem_cons_self)
    have := List.length_pos_of_mem this
    rw [List.length_append]
    omega
section
variable {P : Program} {w : World} {K : PySem.W.Frag} {mg : Str → Option Value} {base : Heap}
theorem lst_m {H H' : Hp} {m lm a : Addr} {xs : List V} (s : SameX m H H') (hm : MAt H m lm) (h : H a = some (.lst xs)) : H' a = some (.lst xs) := by
  obtain ⟨cs, b, x, hd, _⟩ := hm
  refine s _ _ ?_ h
  rintro rfl
  rw [hd] at h
  exact nomatch h
def spRg (K : PySem.W.Frag) (Pt : Addr) : Sp := fun vs H Q _ => ∃ (m lm : Addr) (v1 v2 : V) (n : Nat) (js ls : List J2), vs = [.ref m, v1, v2] ∧ MAt H m lm ∧ Ly K H v1 n js ∧ Ly K H v2 n ls ∧ Good n js ∧ Good n ls ∧ n ≤ 4 ∧ Tabs (Tw Pt) H ∧ ∀ (H' : Hp) (l' : Addr), MAt H' m l' → Tabs (Tw Pt) H' → Q (.bl true) H'
abbrev NRg : List Str := ["m", "one", "other", "kept_so", "some", "gap", "turn", "every", "deed", "few"]
theorem scRg : FnScope NRg ["m", "one", "other"] (defScope (top 55)) := ⟨rfl, rfl, rfl, by decide +kernel, rfl, by decide +kernel, by decide +kernel⟩
theorem okRg {f fSg fGp fSs fSn fSt fOf fSi fLs fLk Pt : Addr} {fd fdSg fdGp fdSs fdSn fdSt fdOf fdSi fdLs fdLk : FuncData} (F : Fun K "_law_right" "_law_right" (top 55) f fd) (B : Bn mg)
    (DSg : Df K mg "_law_singles" fSg fdSg ["lay"]) (GSg : OkF P w K mg base 2 fSg fdSg ["lay"] (spSg K))
    (DGp : Df K mg "_law_gap" fGp fdGp ["one", "other"]) (GGp : OkF P w K mg base 1 fGp fdGp ["one", "other"] (spDf K))
    (DSs : Df K mg "single_steps" fSs fdSs ["lay"]) (GSs : OkF P w K mg base 6 fSs fdSs ["lay"] (spSs K))
    (DSn : Df K mg "single_number" fSn fdSn ["one", "other"]) (GSn : OkF P w K mg base 7 fSn fdSn ["one", "other"] (spDf K))
    (DSt : Df K mg "_law_steps" fSt fdSt ["lay"]) (GSt : OkF P w K mg base 2 fSt fdSt ["lay"] (spSteps K))
    (DOf : Df K mg "_law_of" fOf fdOf ["m", "some"]) (GOf : OkF P w K mg base 2 fOf fdOf ["m", "some"] (spOf K))
    (DSi : Df K mg "is_single" fSi fdSi ["lay", "step"]) (GSi : OkF P w K mg base 8 fSi fdSi ["lay", "step"] (spSi K))
    (DLs : Df K mg "least_steps" fLs fdLs ["one", "other"]) (GLs : OkF P w K mg base 7 fLs fdLs ["one", "other"] (spLst K Pt))
    (DLk : Df K mg "_law_like" fLk fdLk ["told", "due"]) (GLk : OkF P w K mg base 1 fLk fdLk ["told", "due"] (spLike K)) : OkF P w K mg base 9 f fd ["m", "one", "other"] (spRg K Pt) := by
  refine ok0 F scRg (fun vs H Q E h => ?_) (fun cdv A outer s H vs Q E hgd hr h => ?_)
  · obtain ⟨m, lm, v1, v2, n, js, ls, rfl, _⟩ := h; rfl
  · obtain ⟨m, lm, v1, v2, n, js, ls, rfl, hM, y1, y2, g1, g2, h4, hT, q⟩ := h
    have nd := scRg.nd
    have hr1 : Room 1 _ := hr.mono (by decide)
    have hr2 : Room 2 _ := hr.mono (by decide)
    have hr6 : Room 6 _ := hr.mono (by decide)
    have hr7 : Room 7 _ := hr.mono (by decide)
    refine ⟨_, (pss_cons (ps_par3 (i := 3) (j := 4) (l := 5) (by rfl) nd rfl rfl rfl (by decide) (by decide) (by decide) rfl rfl rfl (pa_cons (pe_callB (cr_repr hgd hr.units) (by rfl) B.repr (by decide +kernel) (pa_cons (pe_lst (pa_cons (pv 1) (pa_cons (pv 2) pa_nil))) pa_nil)) (pa_cons (cl DSg GSg hgd hr2 (pa_cons (pv 1) pa_nil)) (pa_cons (cl DGp GGp hgd hr1 (pa_cons (pv 1) (pa_cons (pv 2) pa_nil))) pa_nil))) (by rfl)) (pss_cons (ps_for PassesOwn.never rfl (pi_range1 (by rfl) B.range (pa_cons pe_int pa_nil)) (pg_name (i := 6) nd rfl (.inl rfl)) (pss_one (ps_if (pt_not (pt_val (cl DLk GLk hgd hr1 (pa_cons (pe_lst (pa_cons (cl DSs GSs hgd hr6 (pa_cons (pv 1) pa_nil)) (pa_cons (cl DSn GSn hgd hr7 (pa_cons (pv 1) (pa_cons (pv 2) pa_nil))) pa_nil))) (pa_cons (pe_lst (pa_cons (pe_callTy call_tuple_of (by rfl) B.tuple (by decide +kernel) (pa_cons (pv 4) pa_nil)) (pa_cons (pv 5) pa_nil))) pa_nil))))) (pss_one (ps_ret pe_bl)) pss_nil))) (pss_cons (ps_set (i := 7) nd rfl (.inl rfl) (cl DSt GSt hgd hr2 (pa_cons (pv 1) pa_nil))) (pss_cons (ps_for PassesOwn.never rfl (pi_range1 (by rfl) B.range (pa_cons pe_int pa_nil)) (pg_name (i := 6) nd rfl (.inl rfl)) (pss_cons (ps_set (i := 8) nd rfl (.inl rfl) (cl DOf GOf hgd hr2 (pa_cons (pv 0) (pa_cons (pv 7) pa_nil)))) (pss_one (ps_if (pt_not (pt_val (cl DLk GLk hgd hr1 (pa_cons (cl DSi GSi hgd hr (pa_cons (pv 1) (pa_cons (pv 8) pa_nil))) (pa_cons (pe_cmpR (r := rInD K) (op_inD (u65 hr)) (pv 8) (pv 4) (by rfl)) pa_nil))))) (pss_one (ps_ret pe_bl)) pss_nil)))) (pss_cons (ps_set (i := 9) nd rfl (.inl rfl) (cl DLs GLs hgd hr7 (pa_cons (pv 1) (pa_cons (pv 2) pa_nil)))) (pss_one (ps_ret (pe_and (pe_cmpR op_eq (cl DSn GSn hgd hr7 (pa_cons (pv 2) (pa_cons (pv 1) pa_nil))) (pv 5) (nomark _)) (pe_and (pe_chain op_le op_le (pv 9) (pv 5) (pe_op op_mul pe_int (pv 9))) (pe_one (pe_cmpR op_eq (pe_callB (cr_repr hgd hr.units) (by rfl) B.repr (by decide +kernel) (pa_cons (pe_lst (pa_cons (pv 1) (pa_cons (pv 2) pa_nil))) pa_nil)) (pv 3) (nomark _)))))))))))), ?_⟩
    have szl : 1000000 ≤ sizeLine := by decide
    have dk : Short (.list [layD n js, layD n ls]) 4008 5 := by
      refine short_list (B := 2000) (D := 4) (L := 2) (fun d hd => ?_) (Nat.le_refl _)
      simp only [List.mem_cons, List.not_mem_nil, or_false] at hd
      rcases hd with rfl | rfl
      · exact short_lay g1
      · exact short_lay g2
    obtain ⟨r1, r2, r3⟩ := sm_show _ dk.s
    have dw := dk.w
    have dp := dk.p
    have ler := gap_cst g1 g2
    have jle := g1.le
    have gle : gapJ js ls < 1000 := by
      have := out_len js ls
      have := out_len ls js
      have := g2.le
      unfold gapJ
      omega
    -- the text, the single ones, the difference
    refine ⟨_, rfl, _, rfl, by show 2 ≤ sizeLine; decide, fun R hR => ?_⟩
    have u1 := Same.new (o := .lst [v1, v2]) hR
    refine ⟨.ref R, _, rfl, .lst (SqL.of upd_same) (.cons (ly_dp (y1.up u1)) (.cons (ly_dp (y2.up u1)) .nil)), r1, r2, by omega, by omega, ?_⟩
    refine ⟨_, rfl, v1, n, js, rfl, y1.up u1, g1, fun S us H1 s1 S0 hS hP hl => ?_⟩
    have s01 := u1.trans s1
    refine ⟨_, rfl, _, rfl, v1, v2, n, js, ls, rfl, y1.up s01, y2.up s01, g1, g2, fun H2 s2 => ?_⟩
    have s02 := s01.trans s2
    have hS2 := s2 _ _ hS
    have hP2 := (TM.of s2).stps hP
    have M2 := hM.up s02
    have T2 := hT.ext s02
    have z1 := y1.up s02
    have z2 := y2.up s02
    have ds : Short (.list [.tuple ((sgS n js).map stD), .int (gapJ js ls : Nat)]) 1000000 6 := by
      have hl2 : (sgS n js).length ≤ 700 := by rw [← Paired.length hP]; exact hl
      refine (short_list (B := 85404) (D := 4) (L := 2) (fun d hd => ?_) (Nat.le_refl _)).mono (by decide) (by decide)
      simp only [List.mem_cons, List.not_mem_nil, or_false] at hd
      rcases hd with rfl | rfl
      · refine short_tuple (B := 120) (D := 3) (L := 700) (fun d hd => ?_) (by rw [List.length_map]; exact hl2)
        obtain ⟨st, hst, rfl⟩ := List.mem_map.mp hd
        exact short_sg g1 st hst
      · exact (short_int (by omega)).mono (by decide) (by decide)
    clear hP hS s01 s1 s2 u1 hR S0
    refine ⟨_, _, _, rfl, ?_⟩
    -- twice
    refine ⟨_, rfl, by decide, by decide, for_it (walk_range (lo := 0)) (fun i σ H' => ∃ (y6 : Option V), σ = [some (.ref m), some v1, some v2, some (.str (PyData.list [layD n js, layD n ls]).shown), some (.ref S), some (.int (gapJ js ls : Nat)), y6, none, none, none] ∧ Same H2 H') ⟨none, rfl, Same.refl _⟩ (fun _ _ _ _ _ => trivial) ?_ ?_⟩
    · rintro i x σ Hz Ha hi ⟨y6, rfl, sm⟩ ⟨rfl, ex⟩
      refine gn ?_
      refine ⟨_, rfl, v1, n, js, rfl, z1.up sm, g1, fun r rs Hb sb r0 hr' hPr lr => ?_⟩
      have smb := sm.trans sb
      refine ⟨_, rfl, _, rfl, v1, v2, n, js, ls, rfl, z1.up smb, z2.up smb, g1, g2, fun Hc sc => ⟨by show 2 ≤ sizeLine; decide, fun A' hA => ?_⟩⟩
      have uA := Same.new (o := .lst [.ref r, .int (gapJ js ls : Nat)]) hA
      have sA := smb.trans (sc.trans uA)
      refine ⟨_, rfl, S, us, rfl, .inl ⟨SqL.of (sA _ _ hS2), fun T hT' => ?_⟩⟩
      have uT := Same.new (o := .tup us) hT'
      refine ⟨_, rfl, by show 2 ≤ sizeLine; decide, fun B' hB => ?_⟩
      have uB := Same.new (o := .lst [.ref T, .int (gapJ js ls : Nat)]) hB
      have uTB := uT.trans uB
      refine ⟨.ref A', .ref B', _, rfl, .lst (SqL.of (uTB _ _ upd_same)) (.cons (.tup (SqT.of ((sc.trans (uA.trans uTB)) _ _ hr')) (stps_dp ((TM.of (sc.trans (uA.trans uTB))).stps hPr))) (.cons (.int _) .nil)),
        .lst (SqL.of upd_same) (.cons (.tup (SqT.of (uB _ _ upd_same)) (stps_dp ((TM.of (sA.trans uTB)).stps hP2))) (.cons (.int _) .nil)), ds.s, Nat.le_trans ds.p (by decide), Nat.le_trans ds.w (by decide), true, rfl, iteF ?_⟩
      exact ⟨_, rfl, sA.trans uTB⟩
    rintro σ H3 ⟨y6, rfl, s23⟩
    have hS3 := s23 _ _ hS2
    have hP3 := (TM.of s23).stps hP2
    have M3 := M2.up s23
    have T3 := T2.ext s23
    have x1 := z1.up s23
    have x2 := z2.up s23
    clear hS2 hP2 M2 T2 z1 z2 s23
    -- six steps
    refine ⟨_, rfl, v1, n, js, rfl, x1, g1, h4, fun E' eus sts H4 s4 E0 hE hPE pe le => gn ?_⟩
    have lp : 0 < eus.length := by
      rw [Paired.length hPE, pe.length_eq]
      exact stJ_pos g1
    refine ⟨_, rfl, by decide, by decide, for_it (walk_range (lo := 0)) (fun i σ H' => ∃ (y6 y8 : Option V) (l' : Addr), σ = [some (.ref m), some v1, some v2, some (.str (PyData.list [layD n js, layD n ls]).shown), some (.ref S), some (.int (gapJ js ls : Nat)), y6, some (.ref E'), y8, none] ∧ MAt H' m l' ∧ Tabs (Tw Pt) H' ∧ H' S = some (.lst us) ∧ Paired (Stp K H') us (sgS n js) ∧ H' E' = some (.lst eus) ∧ Paired (Stp K H') eus sts ∧ Ly K H' v1 n js ∧ Ly K H' v2 n ls)
      ⟨_, none, _, rfl, M3.up s4, T3.ext s4, s4 _ _ hS3, (TM.of s4).stps hP3, hE, hPE, x1.up s4, x2.up s4⟩ (fun _ _ _ _ _ => trivial) ?_ ?_⟩
    · rintro i x σ Hz Ha hi ⟨y6, y8, l', rfl, Ma, Ta, hSa, hPa, hEa, hPEa, xa, xb⟩ ⟨rfl, ex⟩
      refine gn ?_
      refine ⟨_, rfl, _, rfl, m, l', E', eus, rfl, Ma, SqL.of hEa, lp, by omega, fun k v Hk lk hv sx hMk hlk => gn ?_⟩
      obtain ⟨st, est, hst⟩ := paired_at hPEa hv
      have sj : st ∈ stJ n js := pe.mem_iff.mp (List.mem_of_getElem? est)
      have iss := isSt_of g1 sj
      have tk := TM.sx (K := K) sx Ma
      have hSk := lst_m sx Ma hSa
      have hEk := lst_m sx Ma hEa
      have Tk := tabsM sx Ma Ta
      refine ⟨_, rfl, _, rfl, v1, v, n, js, st, rfl, tk.ly xa, g1, tk.stp hst, iss, fun Hl sl => ?_⟩
      have tl := tk.trans (TM.of sl)
      refine ⟨_, rfl, _, rfl, stD st, (sgS n js).map stD, stp_dp (tl.stp hst), .lst (SqL.of (sl _ _ hSk)) (stps_dp (tl.stps hPa)), shaped_st st, shaped_sts _, ?_⟩
      rw [any_st, single_in iss]
      refine ⟨.bl (oneB st), .bl (oneB st), .bool (oneB st), rfl, .bl _, .bl _, by simp only [sm], by simp only [PyData.depth]; decide, by simp only [wt]; decide, true, rfl, iteF ?_⟩
      exact ⟨_, _, lk, rfl, hMk.up sl, Tk.ext sl, sl _ _ hSk, tl.stps hPa, sl _ _ hEk, tl.stps hPEa, tl.ly xa, tl.ly xb⟩
    rintro σ H5 ⟨y6, y8, l', rfl, M5, T5, _, _, _, _, w1, w2⟩
    refine ⟨_, rfl, _, rfl, v1, v2, n, js, ls, rfl, w1, w2, g1, g2, T5, fun H6 e6 T6 => gn ?_⟩
    have a1 := lyX e6 w1
    have a2 := lyX e6 w2
    refine ⟨_, rfl, _, rfl, v2, v1, n, ls, js, rfl, a2, a1, g2, g1, fun H7 s7 => ?_⟩
    refine ⟨_, rfl, rfl, _, rfl, ?_⟩
    rw [gap_symm, decide_eq_true rfl]
    refine iteT ?_
    refine ⟨_, rfl, _, rfl, _, _, rfl, rfl, _, rfl, ?_⟩
    rw [decide_eq_true (show ((cst n js ls : Nat) : Int) ≤ ((gapJ js ls : Nat) : Int) by omega)]
    refine iteT ?_
    refine ⟨_, rfl, 4, _, rfl, rfl, .inl ⟨by decide, by decide⟩, _, _, rfl, rfl, ?_⟩
    refine ⟨_, rfl, ?_⟩
    rw [decide_eq_true (show ((gapJ js ls : Nat) : Int) ≤ 4 * ((cst n js ls : Nat) : Int) by omega)]
    refine iteT ?_
    refine ⟨_, rfl, _, rfl, by show 2 ≤ sizeLine; decide, fun R hR => ?_⟩
    have u8 := Same.new (o := .lst [v1, v2]) hR
    have s8 := s7.trans u8
    refine ⟨.ref R, _, rfl, .lst (SqL.of upd_same) (.cons (ly_dp (a1.up s8)) (.cons (ly_dp (a2.up s8)) .nil)), r1, r2, by omega, by omega, ?_⟩
    refine ⟨_, rfl, rfl, ?_⟩
    rw [decide_eq_true rfl]
    exact q _ l' (matX e6 M5 |>.up s8) (T6.ext s8)
end
end K42
-- ND
set_option Elab.async false
set_option linter.all false
set_option maxRecDepth 100000
set_option maxHeartbeats 4000000
/-! ND: dicts whose keys are nested tuples, in the hand layer (an object of its own, HO.ext). -/
namespace DC
open PySem PySem.Spec PyProof.Rows L2 Evl
mutual
def kdD : NestedKey → PyData
  | .none => .none
  | .num i => .int i
  | .text x => .str x
  | .tup ks => .tuple (kdDs ks)
def kdDs : List NestedKey → List PyData
  | [] => []
  | k :: ks => kdD k :: kdDs ks
end
section
variable {X : Cx} {pins : List (Addr × Obj)} {σ : L2.St} {H : Hp} {s : Shared}
mutual
theorem nested_of (I : L2.Inv X pins σ H s) : ∀ (k : NestedKey) (v : V) (u : Value), Dp X.K H v (kdD k) → RelV v u → NestedIs s.heap k u
  | .none, v, u, h, r => by
    unfold kdD at h
    cases h
    obtain rfl : u = Value.none := r
    exact .none
  | .num i, v, u, h, r => by
    unfold kdD at h
    cases h
    obtain ⟨t, rfl⟩ : ∃ t, u = Value.int i t := r
    exact .int i t
  | .text x, v, u, h, r => by
    unfold kdD at h
    cases h
    obtain ⟨t, rfl⟩ : ∃ t, u = Value.str x t := r
    exact .text x t
  | .tup ks, v, u, h, r => by
    unfold kdD at h
    cases h with
    | tup hS ha =>
      rename_i a vs
      obtain rfl : u = Value.ref a := r
      obtain ⟨its, rv, ⟨o, ho, hc, n, hd⟩, _⟩ := I.tuple hS
      exact .tup ho hc hd (nested_all I ks vs its ha rv)
theorem nested_all (I : L2.Inv X pins σ H s) : ∀ (ks : List NestedKey) (vs : List V) (us : List Value), DpAll X.K H vs (kdDs ks) → Vals vs us → NestedAll s.heap ks us
  | [], vs, us, h, r => by
    unfold kdDs at h
    cases h
    cases r
    exact .nil
  | k :: ks, vs, us, h, r => by
    unfold kdDs at h
    cases h with
    | cons a t =>
      cases r with
      | cons ra rt => exact .cons (nested_of I k _ _ a ra) (nested_all I ks _ _ t rt)
end
end
/-- what stands at a when it is such a dict -/
def NDx (P : Program) (w : World) (a : Addr) (xs : List (NestedKey × Addr × Value)) : Heap → Prop := fun h => (a == sysModules) = false ∧ xs.length ≤ sizeLine ∧
  ∃ o es ep, h.get? a = some o ∧ o.ExactDict ∧ o.data = Data.dict es ep ∧ es.toList = xs.map (entryOfKey (nestedKind P w)) ∧ (xs.map fun x => x.1).Nodup
def NDO (P : Program) (w : World) (a : Addr) (xs : List (NestedKey × Addr × Value)) : HO := .ext (NDx P w a xs)
/-- an entry: its key stands in the heap, its value is told -/
structure NdR (K : PySem.W.Frag) (H : Hp) (p : NestedKey × V) (q : NestedKey × Addr × Value) : Prop where
  key : p.1 = q.1
  dp : Dp K H (.ref q.2.1) (kdD p.1)
  dep : p.1.depth ≤ 8
  val : RelV p.2 q.2.2
def Nd (P : Program) (w : World) (K : PySem.W.Frag) (H : Hp) (d : Addr) (kvs : List (NestedKey × V)) : Prop := ∃ xs, H d = some (NDO P w d xs) ∧ Paired (NdR K H) kvs xs
def valN (kvs : List (NestedKey × V)) (k : NestedKey) : Option V := (kvs.find? fun e => decide (e.1 = k)).map fun e => e.2
def storN (kvs : List (NestedKey × V)) (k : NestedKey) (v : V) : List (NestedKey × V) := if (valN kvs k).isSome then kvs.map (fun e => if e.1 = k then (e.1, v) else e) else kvs ++ [(k, v)]
theorem ndx_ok {P : Program} {w : World} {H : Hp} {h : Heap} {a : Addr} {xs : List (NestedKey × Addr × Value)} (z : NDx P w a xs h) : ObjOk P w H h a (NDO P w a xs) := by
  unfold NDO
  simp only [ObjOk]
  refine ⟨z, ?_, fun h1 h2 y e => ?_⟩
  · obtain ⟨_, _, o, es, ep, ho, _⟩ := z
    exact ⟨o, ho⟩
  · obtain ⟨a1, a2, o, es, ep, ho, r⟩ := y
    exact ⟨a1, a2, o, es, ep, e o ho, r⟩
section
variable {X : Cx} {pins : List (Addr × Obj)} {σ : L2.St} {H : Hp} {s : Shared} {d : Addr} {kvs : List (NestedKey × V)} {xs : List (NestedKey × Addr × Value)}
theorem nd_keys (I : L2.Inv X pins σ H s) : ∀ {kvs : List (NestedKey × V)} {xs : List (NestedKey × Addr × Value)}, Paired (NdR X.K H) kvs xs → ∀ x ∈ xs, (nestedKind X.prog X.w).is s.heap x.1 x.2.1
  | _, _, .nil, x, h => absurd h List.not_mem_nil
  | _, _, .cons a t, x, h => by
    rcases List.mem_cons.mp h with rfl | h
    · refine ⟨?_, ?_⟩
      · rw [← a.key]
        exact nested_of I _ _ _ a.dp rfl
      · rw [← a.key]
        exact a.dep
    · exact nd_keys I t x h
theorem nd_heap (I : L2.Inv X pins σ H s) (h : H d = some (NDO X.prog X.w d xs)) (hp : Paired (NdR X.K H) kvs xs) :
    Heap.DictOfH (nestedKind X.prog X.w) s.heap d xs ∧ (d == sysModules) = false ∧ xs.length ≤ sizeLine := by
  have z : ObjOk X.prog X.w H s.heap d (NDO X.prog X.w d xs) := I.hok d _ h
  unfold NDO at z
  simp only [ObjOk] at z
  obtain ⟨⟨a1, a2, o, es, ep, ho, he, hd, hes, nd⟩, _⟩ := z
  exact ⟨⟨o, es, ep, ho, he, hd, hes, nd_keys I hp, nd⟩, a1, a2⟩
theorem atKey_none : ∀ {kvs : List (NestedKey × V)} {xs : List (NestedKey × Addr × Value)}, Paired (NdR X.K H) kvs xs → ∀ k, ((atKey xs k).isSome = (valN kvs k).isSome) ∧ ∀ v, valN kvs k = some v → ∃ p, atKey xs k = some p ∧ RelV v p.2
  | _, _, .nil, k => ⟨rfl, fun v h => by cases h⟩
  | (ka, va) :: kvs, q :: xs, .cons a t, k => by
    have ih := atKey_none t k
    obtain ⟨e1, e2, e3, e4⟩ := a
    unfold atKey valN at ih ⊢
    by_cases c : ka = k
    · have c2 : q.1 = k := by rw [← e1]; exact c
      rw [List.find?_cons_of_pos (a := q) (by exact decide_eq_true c2), List.find?_cons_of_pos (a := (ka, va)) (by exact decide_eq_true c)]
      refine ⟨rfl, fun v h => ⟨q.2, rfl, ?_⟩⟩
      cases h
      exact e4
    · have c2 : ¬ q.1 = k := by rw [← e1]; exact c
      rw [List.find?_cons_of_neg (a := q) (by rw [decide_eq_true_eq]; exact c2), List.find?_cons_of_neg (a := (ka, va)) (by rw [decide_eq_true_eq]; exact c)]
      exact ih
end
/-! the rules: membership, look-up, store -/
def rNotInN (X : Cx) : R2 := fun x y H Q => ∃ (d a : Addr) (k : NestedKey) (kvs : List (NestedKey × V)), y = .ref d ∧ x = .ref a ∧ Nd X.prog X.w X.K H d kvs ∧ Dp X.K H (.ref a) (kdD k) ∧ k.depth ≤ 8 ∧ Q (.bl (!(valN kvs k).isSome)) H
theorem op_notInN {X : Cx} (hu : X.A.units + 65 < cLine) : OpR X (compareOp CmpOp.NotIn) (rNotInN X) := by
  intro pins s σ H x y v u Q I rx ry h
  obtain ⟨d, a, k, kvs, rfl, rfl, ⟨xs, hd, hp⟩, dp, dep, q⟩ := h
  obtain rfl : v = Value.ref a := rx
  obtain rfl : u = Value.ref d := ry
  obtain ⟨hD, h1, h2⟩ := nd_heap I hd hp
  refine wpAny_notIn_heap (knd := nestedKind X.prog X.w) (show X.A.units + 1 + 8 < cLine by omega) ⟨nested_of I k _ _ dp rfl, dep⟩ h1 hD ?_
  rw [(atKey_none hp k).1]
  exact ⟨V.bl _, H, I.tok _, rfl, q⟩
def rIxN (X : Cx) : R2 := fun x y H Q => ∃ (d a : Addr) (k : NestedKey) (kvs : List (NestedKey × V)) (v : V), x = .ref d ∧ y = .ref a ∧ Nd X.prog X.w X.K H d kvs ∧ Dp X.K H (.ref a) (kdD k) ∧ k.depth ≤ 8 ∧ valN kvs k = some v ∧ Q v H
theorem ix_dictN {X : Cx} (hu : X.A.units + 65 < cLine) : IxR X (rIxN X) := by
  intro value slice pins s σ H x y v u Q I rx ry h hsub
  obtain ⟨d, a, k, kvs, z, rfl, rfl, ⟨xs, hd, hp⟩, dp, dep, hv, q⟩ := h
  obtain rfl : v = Value.ref d := rx
  obtain rfl : u = Value.ref a := ry
  obtain ⟨hD, h1, h2⟩ := nd_heap I hd hp
  obtain ⟨p, ep, rp⟩ := (atKey_none hp k).2 z hv
  refine tail_any (T := "dict") hD.typeIs F.slot_dict_getitem.lookup (wpAny_getItem_heap (knd := nestedKind X.prog X.w) (show X.A.units + 1 + 8 < cLine by omega) ⟨nested_of I k _ _ dp rfl, dep⟩ hD ep ?_) hsub
  exact ⟨z, H, I.tok _, rp, q⟩
/-! a store -/
theorem sqT_nd {K : PySem.W.Frag} {H : Hp} {a d : Addr} {xs : List V} {o o' : HO} (h : SqT K H a xs) (hd : H d = some o) (n1 : ∀ ys, o ≠ .tup ys) (n2 : ∀ p u, o ≠ .frz p u) : SqT K (upd H d o') a xs := by
  rcases h with (h | ⟨p, h⟩) | h
  · have ne : a ≠ d := fun z => by
      rw [z, hd] at h
      exact n1 _ (Option.some.inj h)
    exact .inl (.inl (by rw [upd_ne ne]; exact h))
  · have ne : a ≠ d := fun z => by
      rw [z, hd] at h
      exact n2 _ _ (Option.some.inj h)
    exact .inl (.inr ⟨p, by rw [upd_ne ne]; exact h⟩)
  · exact .inr h
theorem sqT_ext {P : Program} {w : World} {K : PySem.W.Frag} {H : Hp} {a d : Addr} {xs : List V} {ys : List (NestedKey × Addr × Value)} {o' : HO} (hd : H d = some (NDO P w d ys)) (h : SqT K H a xs) : SqT K (upd H d o') a xs :=
  sqT_nd h hd (fun _ z => nomatch z) (fun _ _ z => nomatch z)
mutual
theorem kd_up {K : PySem.W.Frag} {H H' : Hp} (e : ∀ {a : Addr} {xs : List V}, SqT K H a xs → SqT K H' a xs) : ∀ (k : NestedKey) (v : V), Dp K H v (kdD k) → Dp K H' v (kdD k)
  | .none, v, h => by
    unfold kdD at h ⊢
    cases h
    exact .non
  | .num i, v, h => by
    unfold kdD at h ⊢
    cases h
    exact .int i
  | .text x, v, h => by
    unfold kdD at h ⊢
    cases h
    exact .str x
  | .tup ks, v, h => by
    unfold kdD at h ⊢
    cases h with
    | tup hS ha => exact .tup (e hS) (kds_up e ks _ ha)
theorem kds_up {K : PySem.W.Frag} {H H' : Hp} (e : ∀ {a : Addr} {xs : List V}, SqT K H a xs → SqT K H' a xs) : ∀ (ks : List NestedKey) (vs : List V), DpAll K H vs (kdDs ks) → DpAll K H' vs (kdDs ks)
  | [], vs, h => by
    unfold kdDs at h ⊢
    cases h
    exact .nil
  | k :: ks, vs, h => by
    unfold kdDs at h ⊢
    cases h with
    | cons a t => exact .cons (kd_up e k _ a) (kds_up e ks _ t)
end
theorem ndr_up {K : PySem.W.Frag} {H H' : Hp} (e : ∀ {a : Addr} {xs : List V}, SqT K H a xs → SqT K H' a xs) {kvs : List (NestedKey × V)} {xs : List (NestedKey × Addr × Value)} (h : Paired (NdR K H) kvs xs) : Paired (NdR K H') kvs xs :=
  L2.Paired.mapP h fun _ _ z => ⟨z.key, kd_up e _ _ z.dp, z.dep, z.val⟩
/-- a dict stands while it is not written and the tuples stand -/
theorem Nd.up {P : Program} {w : World} {K : PySem.W.Frag} {H H' : Hp} {d : Addr} {kvs : List (NestedKey × V)} (e : ∀ {a : Addr} {xs : List V}, SqT K H a xs → SqT K H' a xs) (ed : ∀ o, H d = some o → H' d = some o) : Nd P w K H d kvs → Nd P w K H' d kvs
  | ⟨xs, hd, hp⟩ => ⟨xs, ed _ hd, ndr_up e hp⟩
theorem Nd.len {P : Program} {w : World} {K : PySem.W.Frag} {H : Hp} {d : Addr} {kvs : List (NestedKey × V)} {xs : List (NestedKey × Addr × Value)} (hp : Paired (NdR K H) kvs xs) : kvs.length = xs.length := Paired.length hp
theorem pair_map {α β : Type} {R : α → β → Prop} {f : α → α} {g : β → β} (h : ∀ a b, R a b → R (f a) (g b)) : ∀ {xs : List α} {ys : List β}, Paired R xs ys → Paired R (xs.map f) (ys.map g)
  | _, _, .nil => .nil
  | _, _, .cons a t => .cons (h _ _ a) (pair_map h t)
theorem pair_snocN {α β : Type} {R : α → β → Prop} : ∀ {xs : List α} {ys : List β} {x : α} {y : β}, Paired R xs ys → R x y → Paired R (xs ++ [x]) (ys ++ [y])
  | _, _, _, _, .nil, r => .cons r .nil
  | _, _, _, _, .cons a t, r => .cons a (pair_snocN t r)
theorem ndr_stored {X : Cx} {H : Hp} {kvs : List (NestedKey × V)} {xs : List (NestedKey × Addr × Value)} {a : Addr} {k : NestedKey} {v : V} {u : Value} (hp : Paired (NdR X.K H) kvs xs) (dp : Dp X.K H (.ref a) (kdD k)) (dep : k.depth ≤ 8) (r : RelV v u) :
    Paired (NdR X.K H) (storN kvs k v) (storedH xs k a u) := by
  have e := (atKey_none hp k).1
  unfold storN storedH
  by_cases c : (valN kvs k).isSome = true
  · rw [if_pos c, if_pos (by rw [e]; exact c)]
    refine pair_map (fun p q z => ?_) hp
    obtain ⟨z1, z2, z3, z4⟩ := z
    unfold putAt
    by_cases ck : p.1 = k
    · rw [if_pos ck, if_pos (by rw [← z1]; exact ck)]
      exact ⟨z1, z2, z3, r⟩
    · rw [if_neg ck, if_neg (by rw [← z1]; exact ck)]
      exact ⟨z1, z2, z3, z4⟩
  · rw [if_neg c, if_neg (by rw [e]; exact c)]
    exact pair_snocN hp ⟨rfl, dp, dep, r⟩
def rSetN (X : Cx) : V → V → V → Hp → (Hp → Prop) → Prop := fun o i v H Q => ∃ (d a : Addr) (k : NestedKey) (kvs : List (NestedKey × V)), o = .ref d ∧ i = .ref a ∧ Nd X.prog X.w X.K H d kvs ∧ Dp X.K H (.ref a) (kdD k) ∧ k.depth ≤ 8 ∧ kvs.length < sizeLine ∧
  ∀ o' : HO, Nd X.prog X.w X.K (upd H d o') d (storN kvs k v) → (∀ {b : Addr} {xs : List V}, SqT X.K H b xs → SqT X.K (upd H d o') b xs) → Q (upd H d o')
theorem set_dictN {X : Cx} (hu : X.A.units + 65 < cLine) : PSet X (rSetN X) := by
  intro pins s σ H o i v ov iv u Q I ro ri rv h
  obtain ⟨d, a, k, kvs, rfl, rfl, ⟨xs, hd, hp⟩, dp, dep, hz, q⟩ := h
  obtain rfl : ov = Value.ref d := ro
  obtain rfl : iv = Value.ref a := ri
  obtain ⟨hD, h1, h2⟩ := nd_heap I hd hp
  have hl : kvs.length = xs.length := Paired.length hp
  refine wpAny_setItem_heap (knd := nestedKind X.prog X.w) (show X.A.units + 1 + 8 < cLine by omega) ⟨nested_of I k _ _ dp rfl, dep⟩ hD (fun h' hD' hsb => ?_) h2
  have z : NDx X.prog X.w d (storedH xs k a u) h' := by
    obtain ⟨o, es, ep, ho, he, hdt, hes, _, nd⟩ := hD'
    exact ⟨h1, Nat.le_trans (storedH_length xs k a u) (by omega), o, es, ep, ho, he, hdt, hes, nd⟩
  refine ⟨upd H d (NDO X.prog X.w d (storedH xs k a u)), Inv.write (x := d) (e := d) I ?_ (.inl rfl) (fun b ob ne hb => ?_) ?_ (ndx_ok z), ?_⟩
  · rw [hd]
    trivial
  · rw [hsb.2 b ne]
    exact hb
  · obtain ⟨_, _, o, es, ep, ho, _⟩ := z
    exact ⟨o, ho⟩
  · exact q _ ⟨_, upd_same, ndr_up (fun h => sqT_ext hd h) (ndr_stored hp dp dep rv)⟩ (fun h => sqT_ext hd h)
/-! its length -/
def rLenN (X : Cx) : List V → Hp → VK → Prop := fun xs H Q => ∃ (d : Addr) (kvs : List (NestedKey × V)), xs = [.ref d] ∧ Nd X.prog X.w X.K H d kvs ∧ Q (.int (kvs.length : Nat)) H
theorem sys_new {X : Cx} {pins : List (Addr × Obj)} {σ : L2.St} {H : Hp} {s : Shared} (I : L2.Inv X pins σ H s) : (s.heap.objs.size == sysModules) = false := by
  have z : ObjOk X.prog X.w (upd H s.heap.objs.size (.dK [])) (s.heap.push { cls := Value.type "dict", data := Data.dict #[] }) s.heap.objs.size (.dK []) := dk_empty s.heap (Inv.big I)
  simp only [ObjOk] at z
  exact z.2.1
theorem ndx_new {X : Cx} {pins : List (Addr × Obj)} {σ : L2.St} {H : Hp} {s : Shared} (I : L2.Inv X pins σ H s) : NDx X.prog X.w s.heap.objs.size [] (s.heap.push { cls := Value.type "dict", data := Data.dict #[] }) := by
  obtain ⟨o, es, ep, ho, he, hd, hes, _, nd⟩ := Heap.DictOfH.new (knd := nestedKind X.prog X.w) s.heap
  exact ⟨sys_new I, Nat.zero_le _, o, es, ep, ho, he, hd, hes, nd⟩
/-- {} that will have such keys -/
def tDNewN (X : Cx) : TE := fun _ H Q => ∀ d : Addr, H d = none → Nd X.prog X.w X.K (upd H d (NDO X.prog X.w d [])) d [] → Q (.ref d) (upd H d (NDO X.prog X.w d []))
theorem pe_dnewN {X : Cx} {pos : Pos} : PE X (.Dict [] [] pos) (tDNewN X) := by
  constructor
  intro pins s σ H Q I h
  refine wpAny_Dict_empty ⟨V.ref s.heap.objs.size, upd H s.heap.objs.size (NDO X.prog X.w s.heap.objs.size []), Inv.laid (t' := s.toks) I (fun _ _ q => Heap.get?_push_of_some _ q) (Nat.le_refl _) (ndx_ok (ndx_new I)), rfl, h _ (HOk.fresh I.hok (Nat.le_refl _)) ⟨[], upd_same, .nil⟩⟩
/-- {key: value}, the key a nested tuple -/
def tDispN (X : Cx) (tk tv : TE) : TE := fun σ H Q => ∀ d : Addr, H d = none → tPairs [(tk, tv)] σ (upd H d (NDO X.prog X.w d [])) fun ps H2 => ∃ (a : Addr) (k : NestedKey) (v : V), ps = [(.ref a, v)] ∧ H2 d = some (NDO X.prog X.w d []) ∧ Dp X.K H2 (.ref a) (kdD k) ∧ k.depth ≤ 8 ∧
  ∀ o' : HO, Nd X.prog X.w X.K (upd H2 d o') d [(k, v)] → (∀ {b : Addr} {xs : List V}, SqT X.K H2 b xs → SqT X.K (upd H2 d o') b xs) → Q (.ref d) (upd H2 d o')
theorem pe_dispN {X : Cx} {pos : Pos} {ke ve : Expr} {tk tv : TE} (hu : X.A.units + 65 < cLine) (hk : PE X ke tk) (hv : PE X ve tv) : PE X (.Dict [some ke] [ve] pos) (tDispN X tk tv) := by
  constructor
  intro pins s σ H Q I h
  have I1 : L2.Inv X pins σ (upd H s.heap.objs.size (NDO X.prog X.w s.heap.objs.size [])) { heap := s.heap.push { cls := Value.type "dict", data := Data.dict #[] }, gens := s.gens, drawn := s.drawn, toks := s.toks, os := s.os } :=
    Inv.laid (t' := s.toks) I (fun _ _ q => Heap.get?_push_of_some _ q) (Nat.le_refl _) (ndx_ok (ndx_new I))
  refine wpAny_Dict_any rfl rfl (by simp) (by simp) ?_
  refine thn ((pps_cons hk hv pps_nil).run pins _ σ _ _ I1 (h _ (HOk.fresh I.hok (Nat.le_refl _)))) ?_
  rintro vs s2 ⟨ps, H2, I2, hvv, a, k, v, rfl, hd, dp, dep, q⟩
  cases hvv with
  | cons r t =>
    cases t
    rename_i p
    obtain ⟨kv, u⟩ := p
    obtain ⟨rk, ru⟩ := r
    obtain rfl : kv = Value.ref a := rk
    obtain ⟨hD, h1, h2⟩ := nd_heap (kvs := []) I2 hd .nil
    unfold storeAll
    rw [List.forIn_cons]
    refine wpAny_bind (wpAny_bind (wpAny_dictSet_heap (knd := nestedKind X.prog X.w) (show X.A.units + 8 < cLine by omega) ⟨nested_of I2 k _ _ dp rfl, dep⟩ hD (fun h' hD' hsb => ?_) h2))
    have z : NDx X.prog X.w s.heap.objs.size (storedH [] k a u) h' := by
      obtain ⟨o, es, ep, ho, he, hdt, hes, _, nd⟩ := hD'
      exact ⟨h1, by show 1 ≤ sizeLine; decide, o, es, ep, ho, he, hdt, hes, nd⟩
    refine wpAny_pure ?_
    show wpAny _ _ (forIn ([] : List (Value × Value)) PUnit.unit _) _ _ _
    rw [List.forIn_nil]
    refine wpAny_pure ?_
    refine ⟨V.ref s.heap.objs.size, upd H2 s.heap.objs.size (NDO X.prog X.w s.heap.objs.size (storedH [] k a u)), Inv.write (x := s.heap.objs.size) (e := s.heap.objs.size) I2 ?_ (.inl rfl) (fun b ob ne hb => ?_) ?_ (ndx_ok z), rfl, ?_⟩
    · rw [hd]
      trivial
    · rw [hsb.2 b ne]
      exact hb
    · obtain ⟨_, _, o, es, ep, ho, _⟩ := z
      exact ⟨o, ho⟩
    · exact q _ ⟨_, upd_same, ndr_up (fun h => sqT_ext hd h) (ndr_stored (kvs := []) .nil dp dep ru)⟩ (fun h => sqT_ext hd h)
theorem call_lenN {X : Cx} : CallR X (.builtin "len") (rLenN X) := by
  intro pins s σ H vs us Q I r h
  obtain ⟨d, kvs, rfl, ⟨xs, hd, hp⟩, q⟩ := h
  rw [Vals.ref1 r]
  obtain ⟨hD, h1, h2⟩ := nd_heap I hd hp
  have hl : kvs.length = xs.length := Paired.length hp
  have hk : s.heap.DictKeyed (nestedKind X.prog X.w) d (pairsH xs) := ⟨xs, hD, rfl⟩
  have hpl : (pairsH xs).length = xs.length := List.length_map _
  have h3 : xs.length ≤ 16777216 := h2
  refine call_len_slot (n := ((pairsH xs).length : Nat)) hD.typeIs F.slot_dict_len (fun Q' hq => len_keyed h1 hk hq) (by omega) (by omega) ?_
  refine ⟨V.int ((pairsH xs).length : Nat), H, I.tok _, ⟨_, rfl⟩, ?_⟩
  rw [hpl, ← hl]
  exact q
end DC
-- K42k2
set_option Elab.async false
set_option linter.all false
set_option maxRecDepth 100000
set_option maxHeartbeats 4000000
/-! K11k2: lays as keys -/
namespace K42
open PySem L2 DC
def pkD (p : J2) : NestedKey := .tup [.num (p.1 : Nat), .num (p.2 : Nat)]
def lkD (n : Nat) (js : List J2) : NestedKey := .tup [.num (n : Nat), .tup (js.map pkD)]
theorem kd_prs : ∀ js : List J2, kdDs (js.map pkD) = js.map fun p => .tuple [.int (p.1 : Nat), .int (p.2 : Nat)]
  | [] => by simp only [List.map_nil, kdDs]
  | p :: js => by
    simp only [List.map_cons, kdDs, kd_prs js, pkD, kdD]
theorem kd_lk (n : Nat) (js : List J2) : kdD (lkD n js) = layD n js := by
  unfold lkD layD
  simp only [kdD, kdDs, kd_prs]
theorem pk_inj : ∀ {a b : List J2}, a.map pkD = b.map pkD → a = b
  | [], [], _ => rfl
  | [], _ :: _, h => by simp at h
  | _ :: _, [], h => by simp at h
  | p :: a, q :: b, h => by
    rw [List.map_cons, List.map_cons] at h
    obtain ⟨h1, h2⟩ := List.cons.inj h
    unfold pkD at h1
    simp only [NestedKey.tup.injEq, List.cons.injEq, NestedKey.num.injEq, and_true] at h1
    rw [pk_inj h2, show p = q from Prod.ext (by omega) (by omega)]
theorem lk_inj {n : Nat} {a b : List J2} (h : lkD n a = lkD n b) : a = b := by
  unfold lkD at h
  simp only [NestedKey.tup.injEq, List.cons.injEq, true_and, and_true] at h
  exact pk_inj h
theorem pk_depth : ∀ js : List J2, NestedKey.depthAll (js.map pkD) ≤ 1
  | [] => by simp only [List.map_nil, NestedKey.depthAll]; omega
  | p :: js => by
    have := pk_depth js
    simp only [List.map_cons, pkD, NestedKey.depthAll, NestedKey.depth, Nat.max_self]
    omega
theorem lk_depth (n : Nat) (js : List J2) : (lkD n js).depth ≤ 8 := by
  have := pk_depth js
  unfold lkD
  simp only [NestedKey.depth, NestedKey.depthAll]
  omega
theorem ly_key {K : PySem.W.Frag} {H : Hp} {a : Addr} {n : Nat} {js : List J2} (h : Ly K H (.ref a) n js) : Dp K H (.ref a) (kdD (lkD n js)) := by
  rw [kd_lk]
  exact ly_dp h
end K42
-- K42bf
set_option Elab.async false
set_option linter.all false
set_option maxRecDepth 100000
set_option maxHeartbeats 8000000
/-! K42bf: the search by single steps, lap by lap -/
namespace DC
open PySem L2
def rIxNP (P : Program) (w : World) (K : PySem.W.Frag) : R2 := fun x y H Q => ∃ (d a : Addr) (k : NestedKey) (kvs : List (NestedKey × V)) (v : V), x = .ref d ∧ y = .ref a ∧ Nd P w K H d kvs ∧ Dp K H (.ref a) (kdD k) ∧ k.depth ≤ 8 ∧ valN kvs k = some v ∧ Q v H
theorem ix_dictNP {X : Cx} {P : Program} {w : World} {K : PySem.W.Frag} (hu : X.A.units + 65 < cLine) (e1 : X.prog = P := by rfl) (e2 : X.w = w := by rfl) (e3 : X.K = K := by rfl) : IxR X (rIxNP P w K) := by
  subst e1
  subst e2
  subst e3
  exact ix_dictN hu
end DC
namespace K42
open PySem L2 DC LamX
def stepG : Bool := (allJ 2).all fun one => (allJ 2).all fun lay => ((sgJ 2 lay).map (aftJ lay)).all fun x => decide (x ∈ allJ 2) && decide (gapJ one x ≤ gapJ one lay + 1)
def nearG : Bool := (allJ 2).all fun one => (allJ 2).all fun js => gapJ one js == 0 || (allJ 2).any fun lay => (gapJ one lay + 1 == gapJ one js) && decide (js ∈ (sgJ 2 lay).map (aftJ lay))
def zeroG : Bool := (allJ 2).all fun one => decide (gapJ one one = 0) && (allJ 2).all fun js => decide (gapJ one js ≤ 4) && (gapJ one js != 0 || decide (js = one))
def subG : Bool := (allJ 2).all fun lay => (sgJ 2 lay).all fun st => decide (st ∈ stJ 2 lay)
theorem stepG_ok : stepG = true := by decide +kernel
theorem nearG_ok : nearG = true := by decide +kernel
theorem zeroG_ok : zeroG = true := by decide +kernel
theorem subG_ok : subG = true := by decide +kernel
structure BG (one : List J2) (i : Nat) (fs : List (List J2 × Nat)) (fr D : List (List J2)) : Prop where
  nd : (fs.map fun p => p.1).Nodup
  ok : ∀ p ∈ fs, p.1 ∈ allJ 2 ∧ p.2 = gapJ one p.1 ∧ p.2 ≤ i + 1
  old : ∀ js ∈ allJ 2, gapJ one js ≤ i → js ∈ fs.map fun p => p.1
  frm : ∀ js, js ∈ fr ↔ (js ∈ fs.map fun p => p.1) ∧ gapJ one js = i + 1
  got : ∀ js ∈ D, js ∈ fs.map fun p => p.1
section
variable {i : Nat} {one lay x js : List J2} {fs : List (List J2 × Nat)} {fr D : List (List J2)}
theorem stepG_at (h1 : one ∈ allJ 2) (hl : lay ∈ allJ 2) (hx : x ∈ (sgJ 2 lay).map (aftJ lay)) : x ∈ allJ 2 ∧ gapJ one x ≤ gapJ one lay + 1 := by
  have h := stepG_ok
  unfold stepG at h
  have h := List.all_eq_true.mp (List.all_eq_true.mp (List.all_eq_true.mp h one h1) lay hl) x hx
  rw [Bool.and_eq_true, decide_eq_true_eq, decide_eq_true_eq] at h
  exact h
theorem nearG_at (h1 : one ∈ allJ 2) (hj : js ∈ allJ 2) (hc : gapJ one js = i + 1) : ∃ lay ∈ allJ 2, gapJ one lay = i ∧ js ∈ (sgJ 2 lay).map (aftJ lay) := by
  have h := nearG_ok
  unfold nearG at h
  have h := List.all_eq_true.mp (List.all_eq_true.mp h one h1) js hj
  rw [Bool.or_eq_true] at h
  rcases h with h | h
  · have := beq_iff_eq.mp h
    omega
  · obtain ⟨lay, hl, hz⟩ := List.any_eq_true.mp h
    rw [Bool.and_eq_true, beq_iff_eq, decide_eq_true_eq] at hz
    exact ⟨lay, hl, by omega, hz.2⟩
theorem zeroG_at (h1 : one ∈ allJ 2) : gapJ one one = 0 ∧ ∀ js ∈ allJ 2, gapJ one js ≤ 4 ∧ (gapJ one js = 0 → js = one) := by
  have h := zeroG_ok
  unfold zeroG at h
  have h := List.all_eq_true.mp h one h1
  rw [Bool.and_eq_true, decide_eq_true_eq] at h
  refine ⟨h.1, fun js hj => ?_⟩
  have h := List.all_eq_true.mp h.2 js hj
  rw [Bool.and_eq_true, decide_eq_true_eq, Bool.or_eq_true, decide_eq_true_eq] at h
  refine ⟨h.1, fun z => ?_⟩
  rcases h.2 with h | h
  · rw [z] at h
    exact absurd h (by decide)
  · exact h
theorem subG_at (hl : lay ∈ allJ 2) {st : Stp2} (hs : st ∈ sgJ 2 lay) : st ∈ stJ 2 lay := by
  have h := subG_ok
  unfold subG at h
  have h := List.all_eq_true.mp (List.all_eq_true.mp h lay hl) st hs
  rw [decide_eq_true_eq] at h
  exact h
theorem BG.seen (f : BG one i fs fr D) (h : x ∈ fs.map fun p => p.1) : BG one i fs fr (D ++ [x]) :=
  ⟨f.nd, f.ok, f.old, f.frm, fun js hj => by
    rcases List.mem_append.mp hj with h2 | h2
    · exact f.got js h2
    · obtain rfl := List.mem_singleton.mp h2
      exact h⟩
theorem BG.new (f : BG one i fs fr D) (hx : x ∈ allJ 2) (hc : gapJ one x ≤ i + 1) (h : x ∉ fs.map fun p => p.1) : BG one i (fs ++ [(x, i + 1)]) (fr ++ [x]) (D ++ [x]) := by
  have ec : gapJ one x = i + 1 := by
    by_cases z : gapJ one x ≤ i
    · exact absurd (f.old x hx z) h
    · omega
  have em : ∀ js, js ∈ ((fs ++ [(x, i + 1)]).map fun p => p.1) ↔ (js ∈ fs.map fun p => p.1) ∨ js = x := fun js => by
    rw [List.map_append, List.mem_append, List.map_cons, List.map_nil, List.mem_singleton]
  refine ⟨?_, fun p hp => ?_, fun js hj hc => (em js).mpr (.inl (f.old js hj hc)), fun js => ?_, fun js hj => ?_⟩
  · rw [List.map_append]
    refine List.nodup_append.mpr ⟨f.nd, List.nodup_cons.mpr ⟨List.not_mem_nil, List.nodup_nil⟩, fun a ha b hb e => ?_⟩
    obtain rfl := List.mem_singleton.mp hb
    exact h (e ▸ ha)
  · rcases List.mem_append.mp hp with hp | hp
    · exact f.ok p hp
    · obtain rfl := List.mem_singleton.mp hp
      exact ⟨hx, ec.symm, Nat.le_refl _⟩
  · rw [em, List.mem_append, List.mem_singleton, f.frm]
    constructor
    · rintro (⟨a, b⟩ | rfl)
      · exact ⟨.inl a, b⟩
      · exact ⟨.inr rfl, ec⟩
    · rintro ⟨a | rfl, b⟩
      · exact .inl ⟨a, b⟩
      · exact .inr rfl
  · rcases List.mem_append.mp hj with h2 | h2
    · exact (em js).mpr (.inl (f.got js h2))
    · exact (em js).mpr (.inr (List.mem_singleton.mp h2))
theorem BG.lap (h1 : one ∈ allJ 2) (f : BG one i fs fr D) (all : ∀ lay ∈ allJ 2, gapJ one lay = i → ∀ x ∈ (sgJ 2 lay).map (aftJ lay), x ∈ D) : BG one (i + 1) fs [] [] ∧ ∀ js, js ∈ fr ↔ js ∈ allJ 2 ∧ gapJ one js = i + 1 := by
  have every : ∀ js ∈ allJ 2, gapJ one js = i + 1 → js ∈ fs.map fun p => p.1 := fun js hj hc => by
    obtain ⟨lay, hl, e1, e2⟩ := nearG_at h1 hj hc
    exact f.got js (all lay hl e1 js e2)
  have inA : ∀ js, (js ∈ fs.map fun p => p.1) → js ∈ allJ 2 ∧ gapJ one js ≤ i + 1 := fun js h => by
    obtain ⟨p, hp, rfl⟩ := List.mem_map.mp h
    obtain ⟨a, e, l⟩ := f.ok p hp
    exact ⟨a, by omega⟩
  refine ⟨⟨f.nd, fun p hp => ?_, fun js hj hc => ?_, fun js => ?_, fun js h => absurd h List.not_mem_nil⟩, fun js => ?_⟩
  · obtain ⟨a, e, l⟩ := f.ok p hp
    exact ⟨a, e, by omega⟩
  · by_cases z : gapJ one js ≤ i
    · exact f.old js hj z
    · exact every js hj (by omega)
  · refine ⟨fun h => absurd h List.not_mem_nil, fun ⟨a, c⟩ => ?_⟩
    have := (inA js a).2
    omega
  · rw [f.frm]
    exact ⟨fun ⟨a, c⟩ => ⟨(inA js a).1, c⟩, fun ⟨a, c⟩ => ⟨every js a c, c⟩⟩
theorem BG.start (h1 : one ∈ allJ 2) : BG one 0 [(one, 0)] [] [] := by
  have z := zeroG_at h1
  refine ⟨List.nodup_cons.mpr ⟨List.not_mem_nil, List.nodup_nil⟩, fun p hp => ?_, fun js hj hc => ?_, fun js => ?_, fun js h => absurd h List.not_mem_nil⟩
  · obtain rfl := List.mem_singleton.mp hp
    exact ⟨h1, z.1.symm, by omega⟩
  · rw [(z.2 js hj).2 (by omega)]
    exact List.mem_cons_self
  · refine ⟨fun h => absurd h List.not_mem_nil, fun ⟨a, c⟩ => ?_⟩
    obtain rfl := List.mem_singleton.mp (show js ∈ [one] from a)
    omega
theorem BG.len (f : BG one i fs fr D) : fs.length ≤ 10 := by
  have := nodup_le f.nd (fun x hx => by
    obtain ⟨p, hp, rfl⟩ := List.mem_map.mp hx
    exact (f.ok p hp).1 : ∀ x ∈ fs.map (fun p => p.1), x ∈ allJ 2)
  rw [List.length_map, al_2] at this
  exact this
end
def kvF (n : Nat) (p : List J2 × Nat) : NestedKey × V := (lkD n p.1, .int (p.2 : Nat))
theorem val_kv (n : Nat) (js : List J2) : ∀ fs : List (List J2 × Nat), ((valN (fs.map (kvF n)) (lkD n js)).isSome = decide (js ∈ fs.map fun p => p.1))
  | [] => rfl
  | p :: fs => by
    have ih := val_kv n js fs
    unfold valN at ih ⊢
    rw [List.map_cons, List.map_cons]
    by_cases c : p.1 = js
    · rw [List.find?_cons_of_pos (a := kvF n p) (by rw [decide_eq_true_eq]; show lkD n p.1 = _; rw [c]), decide_eq_true (by rw [c]; exact List.mem_cons_self)]
      rfl
    · rw [List.find?_cons_of_neg (a := kvF n p) (by rw [decide_eq_true_eq]; exact fun z => c (lk_inj z)), ih]
      rw [decide_eq_decide]
      exact ⟨fun h => List.mem_cons_of_mem _ h, fun h => (List.mem_cons.mp h).resolve_left fun z => c z.symm⟩
theorem stor_kv {n : Nat} {js : List J2} {fs : List (List J2 × Nat)} {k : Nat} (h : js ∉ fs.map fun p => p.1) : storN (fs.map (kvF n)) (lkD n js) (.int (k : Nat)) = (fs ++ [(js, k)]).map (kvF n) := by
  unfold storN
  rw [val_kv, decide_eq_false h, if_neg (by decide), List.map_append]
  rfl
theorem val_at {n : Nat} {x : List J2} {k : Nat} : ∀ {fs : List (List J2 × Nat)}, (x, k) ∈ fs → (fs.map fun p => p.1).Nodup → valN (fs.map (kvF n)) (lkD n x) = some (.int (k : Nat))
  | [], h, _ => absurd h List.not_mem_nil
  | p :: fs, h, nd => by
    rw [List.map_cons] at nd
    obtain ⟨n1, n2⟩ := List.nodup_cons.mp nd
    unfold valN
    rw [List.map_cons]
    rcases List.mem_cons.mp h with e | h
    · rw [List.find?_cons_of_pos (a := kvF n p) (by rw [decide_eq_true_eq]; show lkD n p.1 = _; rw [← e])]
      rw [← e]
      rfl
    · have ne : ¬ lkD n p.1 = lkD n x := fun z => n1 (List.mem_map.mpr ⟨(x, k), h, (lk_inj z).symm⟩)
      rw [List.find?_cons_of_neg (a := kvF n p) (by rw [decide_eq_true_eq]; exact ne)]
      exact val_at h n2
theorem bg_val {one x : List J2} {fs : List (List J2 × Nat)} (h1 : one ∈ allJ 2) (f : BG one 4 fs [] []) (hx : x ∈ allJ 2) : valN (fs.map (kvF 2)) (lkD 2 x) = some (.int (gapJ one x : Nat)) := by
  obtain ⟨p, hp, e⟩ := List.mem_map.mp (f.old x hx ((zeroG_at h1).2 x hx).1)
  obtain ⟨q, c⟩ := p
  obtain rfl : q = x := e
  obtain ⟨_, e2, _⟩ := f.ok _ hp
  have e2 : c = gapJ one q := e2
  subst e2
  exact val_at hp f.nd
end K42
-- K42sr
set_option Elab.async false
set_option linter.all false
set_option maxRecDepth 100000
set_option maxHeartbeats 8000000
/-! K42sr: _law_search_right -/
namespace K42
open PySem L2 DC LamX
section
variable {P : Program} {w : World} {K : PySem.W.Frag} {mg : Str → Option Value} {base : Heap}
def spSr (K : PySem.W.Frag) (Pt : Addr) : Sp := fun vs H Q _ => ∃ (m lm : Addr), vs = [.ref m] ∧ MAt H m lm ∧ Tabs (Tw Pt) H ∧ ∀ (H' : Hp) (l' : Addr), MAt H' m l' → Tabs (Tw Pt) H' → Q (.bl true) H'
abbrev NSr : List Str := ["m", "every", "one", "found", "last", "lap", "fresh", "lay", "deed", "there", "other"]
theorem scSr : FnScope NSr ["m"] (defScope (top 56)) := ⟨rfl, rfl, rfl, by decide +kernel, rfl, by decide +kernel, by decide +kernel⟩
theorem okSr {f fAl fOf fSg fAf fSn fLk Pt : Addr} {fd fdAl fdOf fdSg fdAf fdSn fdLk : FuncData} (F : Fun K "_law_search_right" "_law_search_right" (top 56) f fd) (B : Bn mg)
    (DAl : Df K mg "_law_all" fAl fdAl ["links"]) (GAl : OkF P w K mg base 1 fAl fdAl ["links"] (spLys K))
    (DOf : Df K mg "_law_of" fOf fdOf ["m", "some"]) (GOf : OkF P w K mg base 2 fOf fdOf ["m", "some"] (spOf K))
    (DSg : Df K mg "_law_singles" fSg fdSg ["lay"]) (GSg : OkF P w K mg base 2 fSg fdSg ["lay"] (spSg K))
    (DAf : Df K mg "_law_after" fAf fdAf ["lay", "step_so"]) (GAf : OkF P w K mg base 1 fAf fdAf ["lay", "step_so"] (spAf K))
    (DSn : Df K mg "single_number" fSn fdSn ["one", "other"]) (GSn : OkF P w K mg base 7 fSn fdSn ["one", "other"] (spDf K))
    (DLk : Df K mg "_law_like" fLk fdLk ["told", "due"]) (GLk : OkF P w K mg base 1 fLk fdLk ["told", "due"] (spLike K)) : OkF P w K mg base 8 f fd ["m"] (spSr K Pt) := by
  refine ok0 F scSr (fun vs H Q E h => ?_) (fun cdv A outer s H vs Q E hgd hr h => ?_)
  · obtain ⟨m, lm, rfl, _⟩ := h; rfl
  · obtain ⟨m, lm, rfl, hM0, hT0, q⟩ := h
    have nd := scSr.nd
    have hr1 : Room 1 _ := hr.mono (by decide)
    have hr2 : Room 2 _ := hr.mono (by decide)
    refine ⟨_, (pss_cons (ps_set (i := 1) nd rfl (.inl rfl) (cl DAl GAl hgd hr1 (pa_cons pe_int pa_nil))) (pss_cons (ps_set (i := 2) nd rfl (.inr rfl) (cl DOf GOf hgd hr2 (pa_cons (pv 0) (pa_cons (pv 1) pa_nil)))) (pss_cons (ps_asg (pe_tup (pa_cons (pe_dispN (u65 hr) (pv 2) pe_int) (pa_cons (pe_lst (pa_cons (pv 2) pa_nil)) pa_nil))) (pg_tup (by rfl) (pgs_cons (pg_name (i := 3) nd rfl (.inr rfl)) (pgs_cons (pg_name (i := 4) nd rfl (.inl rfl)) pgs_nil)))) (pss_cons (ps_for PassesOwn.never rfl (pi_range2 (by rfl) B.range (pa_cons pe_int (pa_cons pe_int pa_nil))) (pg_name (i := 5) nd rfl (.inl rfl)) (pss_cons (ps_set (i := 6) nd rfl (.inl rfl) (pe_lst pa_nil)) (pss_cons (ps_for PassesOwn.never rfl (pi_list (pv 4)) (pg_name (i := 7) nd rfl (.inl rfl)) (pss_one (ps_for PassesOwn.never rfl (pi_list (cl DSg GSg hgd hr2 (pa_cons (pv 7) pa_nil))) (pg_name (i := 8) nd rfl (.inl rfl)) (pss_cons (ps_set (i := 9) nd rfl (.inl rfl) (cl DAf GAf hgd hr1 (pa_cons (pv 7) (pa_cons (pv 8) pa_nil)))) (pss_one (ps_if (pt_cmpR (op_notInN (u65 hr)) (pv 9) (pv 3) (by rfl)) (pss_cons (ps_asg (pv 5) (pg_sub (pv 3) (pv 9) (set_dictN (u65 hr)))) (pss_one (ps_expr (pe_bm PySem.F.plainAttrs_list PySem.F.slot_list_append PySem.F.type_list_append mt_append (pv 6) (pa_cons (pv 9) pa_nil))))) pss_nil)))))) (pss_one (ps_set (i := 4) nd rfl (.inl rfl) (pv 6)))))) (pss_one (ps_ret (pe_cmpR (op_eqD hr.units) (pe_lc (own := [("other", 10)]) (g := gName 10) rfl nd (pi_list (pv 1)) (blkOk_by (N := NSr) (sc := defScope (top 56)) (by decide +kernel)) (fun _ _ _ _ _ => pg_name (i := 10) nd rfl (Or.inl rfl)) (fun _ _ _ _ _ => pts_one (pt_not (pt_val (cl DLk GLk hgd hr1 (pa_cons (cl DSn GSn hgd hr (pa_cons (pv 2) (pa_cons (pv 10) pa_nil))) (pa_cons (pe_ix (r := rIxNP P w K) (ix_dictNP (u65 hr)) (pv 3) (pv 10) (fun _ _ => rfl)) pa_nil)))))) (fun _ _ _ _ _ => (pv 10))) (pe_lst pa_nil) (nomark _)))))))), ?_⟩
    -- all lays, one of them
    refine ⟨2, rfl, by decide, by decide, fun ev eus He se fre hev0 hPe0 => gn ?_⟩
    have lu : eus.length = 10 := by rw [Paired.length hPe0, al_2]
    refine ⟨_, rfl, _, rfl, m, lm, ev, eus, rfl, hM0.up se, SqL.of hev0, by omega, by omega, fun k v H l hv sx hM hlk => gn ?_⟩
    obtain ⟨js, ejs, hL⟩ := paired_at hPe0 hv
    have jm : js ∈ allJ 2 := List.mem_of_getElem? ejs
    have g := (rows_all (by decide) (by decide) jm).2
    have tk := TM.sx (K := K) sx (hM0.up se)
    have hL : Ly K H v 2 js := tk.ly hL
    have hPe := tk.lys hPe0
    have hev := lst_m sx (hM0.up se) hev0
    have hT := tabsM sx (hM0.up se) (hT0.ext se)
    clear tk hPe0 hev0 hT0 hM0 se fre sx hlk
    obtain ⟨t, u, rfl, hS, hJ⟩ := id hL
    refine fun d hd => ?_
    have sd : Same H (upd H d (NDO P w d [])) := Same.new hd
    refine ⟨_, rfl, ?_⟩
    refine ⟨t, lkD 2 js, .int 0, rfl, upd_same, ly_key (hL.up sd), lk_depth 2 js, fun o' hN hT' => ?_⟩
    have so : Same H (upd (upd H d (NDO P w d [])) d o') := same_put sd hd
    refine ⟨_, rfl, by show 1 ≤ sizeLine; decide, fun la hla => ⟨by show 2 ≤ sizeLine; decide, fun T hTn => ⟨T, _, rfl, SqT.of upd_same, rfl, _, _, rfl, _, _, rfl, rfl, ?_⟩⟩⟩
    have sl0 := Same.new (o := .lst [.ref t]) hla
    have sT := Same.new (o := .tup [.ref d, .ref la]) hTn
    have sl := sl0.trans sT
    have S1 := so.trans sl
    have N1 := hN.up (H' := upd (upd (upd (upd H d (NDO P w d [])) d o') la (.lst [.ref t])) T (.tup [.ref d, .ref la])) (fun h => Same.t sl h) (fun o h => sl _ _ h)
    have L1 := sT _ _ (upd_same (H := upd (upd H d (NDO P w d [])) d o') (a := la) (o := .lst [.ref t]))
    have B0 := BG.start jm
    refine ⟨1, 5, rfl, ⟨by decide, by decide, by decide, by decide⟩, ?_⟩
    refine for_it (walk_range (lo := 1) (n := 4)) (fun i σ H' => ∃ (y5 y6 y7 y8 y9 : Option V) (la : Addr) (us : List V) (ls : List (List J2)) (fs : List (List J2 × Nat)), σ = [some (.ref m), some (.ref ev), some (.ref t), some (.ref d), some (.ref la), y5, y6, y7, y8, y9, none] ∧ Same H H' ∧ Nd P w K H' d (fs.map (kvF 2)) ∧ H' la = some (.lst us) ∧ Paired (Lyn K H' 2) us ls ∧ BG js i fs [] [] ∧ ∀ x, x ∈ ls ↔ x ∈ allJ 2 ∧ gapJ js x = i) ?_ (fun _ _ _ _ _ => trivial) ?_ ?_
    · refine ⟨none, none, none, none, none, la, [.ref t], [js], [(js, 0)], rfl, S1, N1, L1, .cons (hL.up S1) .nil, B0, fun x => ?_⟩
      rw [List.mem_singleton]
      exact ⟨fun e => by rw [e]; exact ⟨jm, (zeroG_at jm).1⟩, fun ⟨a, c⟩ => ((zeroG_at jm).2 x a).2 c⟩
    · rintro i x σ Hz H2 hi ⟨y3, y4, y5, y6, y7, la, us, ls, fs, rfl, sm, hN, hl, hP, bf, hls⟩ ⟨rfl, ex⟩
      obtain rfl : x = V.int ((i + 1 : Nat) : Int) := by
        rw [ex]
        show V.int (1 + ((i : Nat) : Int)) = _
        rw [show (1 : Int) + ((i : Nat) : Int) = ((i + 1 : Nat) : Int) by omega]
      refine gn ?_
      refine ⟨by show 0 ≤ sizeLine; decide, fun fa hfa => gn ?_⟩
      have s1 := Same.new (o := .lst []) hfa
      have hfa0 : H fa = none := sm.free hfa
      have lul : us.length = ls.length := Paired.length hP
      refine ⟨_, rfl, la, rfl, ⟨_, SqL.of (s1 _ _ hl)⟩, ?_⟩
      refine for_it (walk_list (xs := us)) (fun j σ H' => ∃ (y5 y6 y7 : Option V) (fs : List (List J2 × Nat)) (fr D : List (List J2)) (fu : List V), σ = [some (.ref m), some (.ref ev), some (.ref t), some (.ref d), some (.ref la), some (.int ((i + 1 : Nat) : Int)), some (.ref fa), y5, y6, y7, none] ∧ Same H H' ∧ Nd P w K H' d (fs.map (kvF 2)) ∧ H' la = some (.lst us) ∧ H' fa = some (.lst fu) ∧
        Paired (Lyn K H' 2) us ls ∧ Paired (Lyn K H' 2) fu fr ∧ fu.length ≤ fs.length ∧ BG js i fs fr D ∧ ∀ lay ∈ ls.take j, ∀ x ∈ (sgJ 2 lay).map (aftJ lay), x ∈ D) ?_ ?_ ?_ ?_
      · refine ⟨_, _, _, fs, [], [], [], rfl, sm.trans s1, hN.up (fun h => Same.t s1 h) (fun o h => s1 _ _ h), s1 _ _ hl, upd_same, (TM.of s1).lys hP, .nil, Nat.zero_le _, bf, fun lay h => absurd h List.not_mem_nil⟩
      · rintro j σ H' hj ⟨_, _, _, _, _, _, _, rfl, _, _, h, _⟩
        exact SqL.of h
      · rintro j x σ Hy H3 hj ⟨y5, y6, y7, fs, fr, D, fu, rfl, sm3, hN3, hl3, hf3, hP3, hQ3, lf3, bf3, all⟩ ⟨rfl, ex⟩
        obtain ⟨lay, ely, hx⟩ := paired_at hP3 ex
        have lm := (hls lay).mp (List.mem_of_getElem? ely)
        have gl := (rows_all (by decide) (by decide) lm.1).2
        have nla : la ≠ fa := ne_of_none hl hfa
        refine gn ?_
        refine ⟨_, rfl, x, 2, lay, rfl, hx, gl, fun r us2 Hs ss frs hrs hPs len => ?_⟩
        refine ⟨r, rfl, ⟨_, SqL.of hrs⟩, ?_⟩
        have lus : us2.length = (sgS 2 lay).length := Paired.length hPs
        have nr : fa ≠ r := ne_of_none hf3 frs
        refine for_it (walk_list (xs := us2)) (fun k σ H' => ∃ (y6 y7 : Option V) (fs : List (List J2 × Nat)) (fr D : List (List J2)) (fu : List V), σ = [some (.ref m), some (.ref ev), some (.ref t), some (.ref d), some (.ref la), some (.int ((i + 1 : Nat) : Int)), some (.ref fa), some x, y6, y7, none] ∧ Same H H' ∧ Nd P w K H' d (fs.map (kvF 2)) ∧ H' la = some (.lst us) ∧ H' fa = some (.lst fu) ∧ H' r = some (.lst us2) ∧
          Paired (Lyn K H' 2) us ls ∧ Paired (Lyn K H' 2) fu fr ∧ Ly K H' x 2 lay ∧ Paired (Stp K H') us2 (sgS 2 lay) ∧ fu.length ≤ fs.length ∧ BG js i fs fr D ∧ (∀ lay ∈ ls.take j, ∀ x ∈ (sgJ 2 lay).map (aftJ lay), x ∈ D) ∧ ∀ st ∈ (sgS 2 lay).take k, aftJ lay st ∈ D) ?_ ?_ ?_ ?_
        · exact ⟨_, _, fs, fr, D, fu, rfl, sm3.trans ss, hN3.up (fun h => Same.t ss h) (fun o h => ss _ _ h), ss _ _ hl3, ss _ _ hf3, hrs, (TM.of ss).lys hP3, (TM.of ss).lys hQ3, Ly.up ss hx, hPs, lf3, bf3, all, fun st h => absurd h List.not_mem_nil⟩
        · rintro k σ H' hk ⟨_, _, _, _, _, _, rfl, _, _, _, _, h, _⟩
          exact SqL.of h
        · rintro k z σ Hw H4 hk ⟨y6, y7, fs, fr, D, fu, rfl, sm4, hN4, hl4, hf4, hr4, hP4, hQ4, hx4, hSt, lf4, bf4, all4, al2⟩ ⟨rfl, ez⟩
          obtain ⟨st, est, hz⟩ := paired_at hSt ez
          have sgm : st ∈ sgJ 2 lay := by
            have := List.mem_of_getElem? est
            unfold sgS at this
            rw [List.mem_mergeSort] at this
            exact this
          have stm := subG_at lm.1 sgm
          have tk := take_next est
          refine gn ?_
          refine ⟨_, rfl, _, rfl, x, z, 2, lay, st, rfl, hx4, hz, by decide, by decide, lm.1, stm, fun v H5 s5 hv => gn ?_⟩
          obtain ⟨ta, tu, rfl, _⟩ := id hv
          obtain ⟨ym, yl⟩ := stepG_at jm lm.1 (x := aftJ lay st) (List.mem_map.mpr ⟨st, sgm, rfl⟩)
          rw [lm.2] at yl
          have hN5 := hN4.up (H' := H5) (fun h => Same.t s5 h) (fun o h => s5 _ _ h)
          have mem1 : ∀ D' : List (List J2), (∀ y ∈ D, y ∈ D') → aftJ lay st ∈ D' → (∀ lay ∈ ls.take j, ∀ x ∈ (sgJ 2 lay).map (aftJ lay), x ∈ D') ∧ ∀ s' ∈ (sgS 2 lay).take (k + 1), aftJ lay s' ∈ D' := fun D' h1 h2 => by
            refine ⟨fun l hl x hx => h1 x (all4 l hl x hx), fun s' hs => ?_⟩
            rw [tk] at hs
            rcases List.mem_append.mp hs with hs | hs
            · exact h1 _ (al2 s' hs)
            · obtain rfl := List.mem_singleton.mp hs
              exact h2
          have mm := mem1 (D ++ [aftJ lay st]) (fun y h => List.mem_append.mpr (.inl h)) (List.mem_append.mpr (.inr (List.mem_singleton.mpr rfl)))
          refine ⟨_, rfl, _, rfl, d, ta, lkD 2 (aftJ lay st), _, rfl, rfl, hN5, ly_key hv, lk_depth 2 _, _, rfl, ?_⟩
          rw [val_kv]
          by_cases c : aftJ lay st ∈ fs.map fun p => p.1
          · rw [decide_eq_true c]
            exact iteF ⟨_, _, fs, fr, D ++ [aftJ lay st], fu, rfl, sm4.trans s5, hN5, s5 _ _ hl4, s5 _ _ hf4, s5 _ _ hr4, (TM.of s5).lys hP4, (TM.of s5).lys hQ4, (TM.of s5).ly hx4, (TM.of s5).stps hSt, lf4, bf4.seen c, mm.1, mm.2⟩
          · rw [decide_eq_false c]
            have l5 := bf4.len
            refine iteT ⟨_, rfl, _, rfl, _, rfl, d, ta, lkD 2 (aftJ lay st), _, rfl, rfl, hN5, ly_key hv, lk_depth 2 _, by rw [List.length_map]; show fs.length < 16777216; omega, fun o' hN6 hT6 => ?_⟩
            rw [stor_kv c] at hN6
            obtain ⟨xs5, hd5, _⟩ := id hN5
            have ne : ∀ {b : Addr} {ys : List V}, H5 b = some (.lst ys) → b ≠ d := fun {b ys} h e => by
              rw [e, hd5] at h
              exact nomatch h
            have tm6 : TM K H5 (upd H5 d o') := ⟨fun h => hT6 h⟩
            have hf6 : upd H5 d o' fa = some (.lst fu) := by rw [upd_ne (ne (s5 _ _ hf4))]; exact s5 _ _ hf4
            refine ⟨_, rfl, .inl ⟨rfl, _, SqL.of hf6⟩, _, rfl, fa, fu, _, rfl, rfl, hf6, by show fu.length < 16777216; omega, ?_⟩
            have tm7 := (((TM.of (K := K) s5).trans tm6)).trans (TM.put (o := .lst (fu ++ [.ref ta])) hf6)
            refine ⟨_, _, fs ++ [(aftJ lay st, i + 1)], fr ++ [aftJ lay st], D ++ [aftJ lay st], fu ++ [.ref ta], rfl, same_put (same_put (sm4.trans s5) hd) hfa0, hN6.up (fun h => (TM.put hf6).t h) (fun o h => by rw [upd_ne (Ne.symm (ne (s5 _ _ hf4)))]; exact h), ?_, upd_same, ?_, tm7.lys hP4, ?_, tm7.ly hx4, tm7.stps hSt, by rw [List.length_append, List.length_append]; exact Nat.add_le_add lf4 (Nat.le_refl 1), bf4.new ym yl c, mm.1, mm.2⟩
            · rw [upd_ne nla, upd_ne (ne (s5 _ _ hl4))]
              exact s5 _ _ hl4
            · rw [upd_ne (Ne.symm nr), upd_ne (ne (s5 _ _ hr4))]
              exact s5 _ _ hr4
            · exact pair_snoc (tm7.lys hQ4) ((tm6.trans (TM.put hf6)).ly hv)
        · rintro σ H4 ⟨y6, y7, fs, fr, D, fu, rfl, sm4, hN4, hl4, hf4, hr4, hP4, hQ4, hx4, hSt, lf4, bf4, all4, al2⟩
          rw [lus, List.take_of_length_le (Nat.le_refl _)] at al2
          refine ⟨_, y6, y7, fs, fr, D, fu, rfl, sm4, hN4, hl4, hf4, hP4, hQ4, lf4, bf4, fun l hl y hy => ?_⟩
          rw [take_next ely] at hl
          rcases List.mem_append.mp hl with hl | hl
          · exact all4 l hl y hy
          · obtain rfl := List.mem_singleton.mp hl
            obtain ⟨st, hst, rfl⟩ := List.mem_map.mp hy
            refine al2 st ?_
            unfold sgS
            rw [List.mem_mergeSort]
            exact hst
      · rintro σ H3 ⟨y5, y6, y7, fs, fr, D, fu, rfl, sm3, hN3, hl3, hf3, hP3, hQ3, _, bf3, all⟩
        rw [lul, List.take_of_length_le (Nat.le_refl _)] at all
        obtain ⟨b2, hfr⟩ := bf3.lap jm fun lay hm hc => all lay ((hls lay).mpr ⟨hm, hc⟩)
        exact ⟨_, rfl, gn ⟨_, _, y5, y6, y7, fa, fu, fr, fs, rfl, sm3, hN3, hf3, hQ3, b2, hfr⟩⟩
    · rintro σ H6 ⟨y5, y6, y7, y8, y9, la, us, ls, fs, rfl, sm, hN, hl, hP, bf, _⟩
      have hev6 := sm _ _ hev
      have hPe6 := (TM.of sm).lys hPe
      have hL6 := hL.up sm
      refine ⟨_, rfl, ev, rfl, ⟨_, SqL.of hev6⟩, fun C hC => ?_⟩
      refine lc_it (walk_list (xs := eus)) (fun i H' => Same H6 H' ∧ H' C = some (.lst [])) ⟨Same.new hC, upd_same⟩ (fun i H' _ hp => SqL.of (hp.1 _ _ hev6)) ?_ ?_
      · rintro i x Ha Hb hi ⟨s7, hC7⟩ ⟨rfl, ex⟩
        obtain ⟨ls, els, hx⟩ := paired_at hPe6 ex
        have lm : ls ∈ allJ 2 := List.mem_of_getElem? els
        have gl := (rows_all (by decide) (by decide) lm).2
        have hx : Ly K H6 x 2 ls := hx
        refine ⟨rfl, ?_⟩
        refine ⟨_, rfl, _, rfl, .ref t, x, 2, js, ls, rfl, hL6.up s7, hx.up s7, g, gl, fun Hc sc => ?_⟩
        have s8 := s7.trans sc
        obtain ⟨tx, ux, rfl, _⟩ := id hx
        refine ⟨_, rfl, _, rfl, d, tx, lkD 2 ls, _, _, rfl, rfl, hN.up (fun h => Same.t s8 h) (fun o h => s8 _ _ h), ly_key (hx.up s8), lk_depth 2 _, bg_val jm bf lm, ?_⟩
        have zl := ((zeroG_at jm).2 ls lm).1
        have dd : Short (.int (gapJ js ls : Nat)) 21 0 := short_int (Nat.lt_of_le_of_lt zl (by decide))
        refine ⟨.int (gapJ js ls : Nat), .int (gapJ js ls : Nat), .int (gapJ js ls : Nat), rfl, .int _, .int _, dd.s, Nat.le_trans dd.p (by decide), Nat.le_trans dd.w (by decide), true, rfl, ?_⟩
        exact iteF ⟨s8, sc _ _ hC7⟩
      · rintro H7 ⟨s7, hC7⟩
        refine ⟨by show 0 ≤ sizeLine; decide, fun Z hZ => ?_⟩
        have uZ := Same.new (o := .lst []) hZ
        refine ⟨.list [], .list [], .lst (SqL.of (uZ _ _ hC7)) .nil, .lst (SqL.of upd_same) .nil, by decide +kernel, by decide +kernel, ?_⟩
        have SS := sm.trans (s7.trans uZ)
        exact q _ l (hM.up SS) (hT.ext SS)
end
end K42
-- K42zc
set_option Elab.async false
set_option linter.all false
set_option maxRecDepth 100000
set_option maxHeartbeats 8000000
/-! K42zc: law -/
namespace K42
open PySem L2 DC LamX
theorem goodR : Good 2 [(0, 3), (1, 2)] := ⟨by decide, by decide, by decide, by decide, by simp [DC.Apart]⟩
theorem goodA : Good 2 [(0, 1), (2, 3)] := ⟨by decide, by decide, by decide, by decide, by simp [DC.Apart]⟩
theorem goodO : Good 1 [] := ⟨by decide, by decide, by decide, by decide, by simp⟩
theorem sgR : sgS 2 [(0, 3), (1, 2)] = [([(0, 3)], []), ([(1, 2)], [])] := by
  unfold sgS
  rw [show sgJ 2 [(0, 3), (1, 2)] = [([(0, 3)], []), ([(1, 2)], [])] from by decide +kernel]
  exact List.mergeSort_of_pairwise (by decide +kernel)
theorem sgO : sgS 1 [] = [([], [(0, 1)])] := by
  unfold sgS
  rw [show sgJ 1 [] = [([], [(0, 1)])] from by decide +kernel]
  exact List.mergeSort_of_pairwise (List.pairwise_singleton _ _)
theorem gapRA : gapJ [(0, 3), (1, 2)] [(0, 1), (2, 3)] = 4 := by decide +kernel
theorem gapRR : gapJ [(0, 3), (1, 2)] [(0, 3), (1, 2)] = 0 := by decide +kernel
theorem isD : IsSt 2 [(0, 3), (1, 2)] ([(0, 3), (1, 2)], [(0, 1), (2, 3)]) := isSt_of goodR (by decide +kernel)
theorem isC : IsSt 2 [(0, 3), (1, 2)] ([(1, 2)], []) := isSt_of goodR (by decide +kernel)
theorem dsR : Dsp (tTup (tCons (tI 2) (tCons (tTup (tCons (tP 0 3) (tCons (tP 1 2) tNil))) tNil))) (layD 2 [(0, 3), (1, 2)]) := dsL (n := 2) rfl (.cons (dsP (a := 0) (b := 3) rfl rfl) (.cons (dsP (a := 1) (b := 2) rfl rfl) .nil)) (by decide)
theorem dsA : Dsp (tTup (tCons (tI 2) (tCons (tTup (tCons (tP 0 1) (tCons (tP 2 3) tNil))) tNil))) (layD 2 [(0, 1), (2, 3)]) := dsL (n := 2) rfl (.cons (dsP (a := 0) (b := 1) rfl rfl) (.cons (dsP (a := 2) (b := 3) rfl rfl) .nil)) (by decide)
theorem dsO : Dsp (tTup (tCons (tI 1) (tCons (tTup tNil) tNil))) (layD 1 []) := dsL (n := 1) rfl .nil (by decide)
theorem dsS {ta tb : TA} {st : Stp2} (ha : DspA ta (st.1.map pairD)) (hb : DspA tb (st.2.map pairD)) (la : st.1.length ≤ 1000) (lb : st.2.length ≤ 1000) : Dsp (tTup (tCons (tTup ta) (tCons (tTup tb) tNil))) (stD st) :=
  .tup (.cons (.tup ha (by rw [List.length_map]; exact la)) (.cons (.tup hb (by rw [List.length_map]; exact lb)) .nil)) (by show 2 ≤ 1000; decide)
theorem dsD : Dsp (tTup (tCons (tTup (tCons (tP 0 3) (tCons (tP 1 2) tNil))) (tCons (tTup (tCons (tP 0 1) (tCons (tP 2 3) tNil))) tNil))) (stD ([(0, 3), (1, 2)], [(0, 1), (2, 3)])) :=
  dsS (.cons (dsP (a := 0) (b := 3) rfl rfl) (.cons (dsP (a := 1) (b := 2) rfl rfl) .nil)) (.cons (dsP (a := 0) (b := 1) rfl rfl) (.cons (dsP (a := 2) (b := 3) rfl rfl) .nil)) (by decide) (by decide)
theorem dsC2 : Dsp (tTup (tCons (tTup (tCons (tP 1 2) tNil)) (tCons (tTup tNil) tNil))) (stD ([(1, 2)], [])) := dsS (.cons (dsP (a := 1) (b := 2) rfl rfl) .nil) .nil (by decide) (by decide)
theorem dsC1 : Dsp (tTup (tCons (tTup (tCons (tP 0 3) tNil)) (tCons (tTup tNil) tNil))) (stD ([(0, 3)], [])) := dsS (.cons (dsP (a := 0) (b := 3) rfl rfl) .nil) .nil (by decide) (by decide)
theorem dsJ : Dsp (tTup (tCons (tTup tNil) (tCons (tTup (tCons (tP 0 1) tNil)) tNil))) (stD ([], [(0, 1)])) := dsS .nil (.cons (dsP (a := 0) (b := 1) rfl rfl) .nil) (by decide) (by decide)
section
variable {P : Program} {w : World} {K : PySem.W.Frag} {mg : Str → Option Value} {base : Heap}
def spLaw (K : PySem.W.Frag) (Pt : Addr) : Sp := fun vs H Q _ => ∃ (a : Addr) (ns : List Int), vs = [.ref a] ∧ SqL K H a (ns.map V.int) ∧ ns.length ≤ 63 ∧ Tabs (Tw Pt) H ∧ ∀ H', Q (.bl true) H'
abbrev NLaw : List Str := ["script", "m", "turn", "links", "ring", "alone", "told", "due"]
theorem scLaw : FnScope NLaw ["script"] (defScope (top 57)) := ⟨rfl, rfl, rfl, by decide +kernel, rfl, by decide +kernel, by decide +kernel⟩
theorem okLaw {f fBe fOf fMk fRg fSr fSs fSn fSi fLk Pt : Addr} {fd fdBe fdOf fdMk fdRg fdSr fdSs fdSn fdSi fdLk : FuncData} (F : Fun K "law" "law" (top 57) f fd) (B : Bn mg)
    (DBe : Df K mg "_law_begun" fBe fdBe ["script"]) (GBe : OkF P w K mg base 1 fBe fdBe ["script"] (spBegun K))
    (DOf : Df K mg "_law_of" fOf fdOf ["m", "some"]) (GOf : OkF P w K mg base 2 fOf fdOf ["m", "some"] (spOf K))
    (DMk : Df K mg "_law_lay" fMk fdMk ["m", "links"]) (GMk : OkF P w K mg base 3 fMk fdMk ["m", "links"] (spMake K))
    (DRg : Df K mg "_law_right" fRg fdRg ["m", "one", "other"]) (GRg : OkF P w K mg base 9 fRg fdRg ["m", "one", "other"] (spRg K Pt))
    (DSr : Df K mg "_law_search_right" fSr fdSr ["m"]) (GSr : OkF P w K mg base 8 fSr fdSr ["m"] (spSr K Pt))
    (DSs : Df K mg "single_steps" fSs fdSs ["lay"]) (GSs : OkF P w K mg base 6 fSs fdSs ["lay"] (spSs K))
    (DSn : Df K mg "single_number" fSn fdSn ["one", "other"]) (GSn : OkF P w K mg base 7 fSn fdSn ["one", "other"] (spDf K))
    (DSi : Df K mg "is_single" fSi fdSi ["lay", "step"]) (GSi : OkF P w K mg base 8 fSi fdSi ["lay", "step"] (spSi K))
    (DLk : Df K mg "_law_like" fLk fdLk ["told", "due"]) (GLk : OkF P w K mg base 1 fLk fdLk ["told", "due"] (spLike K)) : OkF P w K mg base 10 f fd ["script"] (spLaw K Pt) := by
  refine ok0 F scLaw (fun vs H Q E h => ?_) (fun cdv A outer s H vs Q E hgd hr h => ?_)
  · obtain ⟨a, ns, rfl, _⟩ := h; rfl
  · obtain ⟨a, ns, rfl, hS, hl, hTb, q⟩ := h
    have nd := scLaw.nd
    have hr1 : Room 1 _ := hr.mono (by decide)
    have hr2 : Room 2 _ := hr.mono (by decide)
    have hr3 : Room 3 _ := hr.mono (by decide)
    have hr6 : Room 6 _ := hr.mono (by decide)
    have hr7 : Room 7 _ := hr.mono (by decide)
    have hr8 : Room 8 _ := hr.mono (by decide)
    refine ⟨_, (pss_cons (ps_set (i := 1) nd rfl (.inl rfl) (cl DBe GBe hgd hr1 (pa_cons (pv 0) pa_nil))) (pss_cons (ps_for PassesOwn.never rfl (pi_range1 (by rfl) B.range (pa_cons (pe_op op_add pe_int (pe_callB (call_min2 rfl) (by rfl) B.min (by decide +kernel) (pa_cons (pe_callB call_len_seq (by rfl) B.len PySem.boot_len (pa_cons (pv 0) pa_nil)) (pa_cons pe_int pa_nil)))) pa_nil)) (pg_name (i := 2) nd rfl (.inl rfl)) (pss_cons (ps_set (i := 3) nd rfl (.inl rfl) (cl DOf GOf hgd hr2 (pa_cons (pv 1) (pa_cons (pe_lst (pa_cons pe_int (pa_cons pe_int (pa_cons pe_int (pa_cons pe_int (pa_cons pe_int (pa_cons pe_int pa_nil))))))) pa_nil)))) (pss_one (ps_if (PW.pt (pw_or (pt_not (pt_val (cl DRg GRg hgd hr (pa_cons (pv 1) (pa_cons (cl DMk GMk hgd hr3 (pa_cons (pv 1) (pa_cons (pv 3) pa_nil))) (pa_cons (cl DMk GMk hgd hr3 (pa_cons (pv 1) (pa_cons (pv 3) pa_nil))) pa_nil)))))) (pw_or1 (pt_not (pt_val (cl DSr GSr hgd hr8 (pa_cons (pv 1) pa_nil))))))) (pss_one (ps_ret pe_bl)) pss_nil)))) (pss_cons (ps_asg (pe_tup (pa_cons (pe_tup (pa_cons pe_int (pa_cons (pe_tup (pa_cons (pe_tup (pa_cons pe_int (pa_cons pe_int pa_nil))) (pa_cons (pe_tup (pa_cons pe_int (pa_cons pe_int pa_nil))) pa_nil))) pa_nil))) (pa_cons (pe_tup (pa_cons pe_int (pa_cons (pe_tup (pa_cons (pe_tup (pa_cons pe_int (pa_cons pe_int pa_nil))) (pa_cons (pe_tup (pa_cons pe_int (pa_cons pe_int pa_nil))) pa_nil))) pa_nil))) pa_nil))) (pg_tup (by rfl) (pgs_cons (pg_name (i := 4) nd rfl (.inl rfl)) (pgs_cons (pg_name (i := 5) nd rfl (.inl rfl)) pgs_nil)))) (pss_cons (ps_set (i := 6) nd rfl (.inl rfl) (pe_lst (pa_cons (cl DSs GSs hgd hr6 (pa_cons (pv 4) pa_nil)) (pa_cons (cl DSn GSn hgd hr7 (pa_cons (pv 4) (pa_cons (pv 5) pa_nil))) (pa_cons (cl DSn GSn hgd hr7 (pa_cons (pv 4) (pa_cons (pv 4) pa_nil))) (pa_cons (cl DSs GSs hgd hr6 (pa_cons (pe_tup (pa_cons pe_int (pa_cons (pe_tup pa_nil) pa_nil))) pa_nil)) pa_nil)))))) (pss_cons (ps_set (i := 6) nd rfl (.inl rfl) (pe_op op_cat (pv 6) (pe_lst (pa_cons (cl DSi GSi hgd hr8 (pa_cons (pv 4) (pa_cons (pe_tup (pa_cons (pe_tup (pa_cons (pe_tup (pa_cons pe_int (pa_cons pe_int pa_nil))) (pa_cons (pe_tup (pa_cons pe_int (pa_cons pe_int pa_nil))) pa_nil))) (pa_cons (pe_tup (pa_cons (pe_tup (pa_cons pe_int (pa_cons pe_int pa_nil))) (pa_cons (pe_tup (pa_cons pe_int (pa_cons pe_int pa_nil))) pa_nil))) pa_nil))) pa_nil))) (pa_cons (cl DSi GSi hgd hr8 (pa_cons (pv 4) (pa_cons (pe_tup (pa_cons (pe_tup (pa_cons (pe_tup (pa_cons pe_int (pa_cons pe_int pa_nil))) pa_nil)) (pa_cons (pe_tup pa_nil) pa_nil))) pa_nil))) pa_nil))))) (pss_cons (ps_set (i := 7) nd rfl (.inl rfl) (pe_lst (pa_cons (pe_tup (pa_cons (pe_tup (pa_cons (pe_tup (pa_cons (pe_tup (pa_cons pe_int (pa_cons pe_int pa_nil))) pa_nil)) (pa_cons (pe_tup pa_nil) pa_nil))) (pa_cons (pe_tup (pa_cons (pe_tup (pa_cons (pe_tup (pa_cons pe_int (pa_cons pe_int pa_nil))) pa_nil)) (pa_cons (pe_tup pa_nil) pa_nil))) pa_nil))) (pa_cons pe_int (pa_cons pe_int (pa_cons (pe_tup (pa_cons (pe_tup (pa_cons (pe_tup pa_nil) (pa_cons (pe_tup (pa_cons (pe_tup (pa_cons pe_int (pa_cons pe_int pa_nil))) pa_nil)) pa_nil))) pa_nil)) (pa_cons pe_bl (pa_cons pe_bl pa_nil)))))))) (pss_one (ps_ret (cl DLk GLk hgd hr1 (pa_cons (pv 6) (pa_cons (pv 7) pa_nil))))))))))), ?_⟩
    refine ⟨_, rfl, a, ns, rfl, hS, hl, fun m l H1 s1 _ _ hM => gn ?_⟩
    refine ⟨_, rfl, a, _, rfl, .inl (s1.seq hS), _, 3, rfl, 1, _, rfl, rfl, _, rfl, ?_⟩
    have z0 : (if (3 : Int) < ((List.map V.int ns).length : Nat) then (3 : Int) else ((List.map V.int ns).length : Nat)) ≤ 3 := by split <;> omega
    have z1 : 0 ≤ (if (3 : Int) < ((List.map V.int ns).length : Nat) then (3 : Int) else ((List.map V.int ns).length : Nat)) := by split <;> omega
    generalize (if (3 : Int) < ((List.map V.int ns).length : Nat) then (3 : Int) else ((List.map V.int ns).length : Nat)) = c0 at z0 z1 ⊢
    refine ⟨by omega, by omega, for_it (walk_range (lo := 0)) (fun i σ H' => ∃ (y2 y3 : Option V) (l' : Addr), σ = [some (.ref a), some (.ref m), y2, y3, none, none, none, none] ∧ MAt H' m l' ∧ Tabs (Tw Pt) H') ⟨none, none, l, rfl, hM, hTb.ext s1⟩ (fun _ _ _ _ _ => trivial) ?_ ?_⟩
    · rintro i x σ Hz H2 hi ⟨y2, y3, l', rfl, hM2, Tb2⟩ ⟨rfl, ex⟩
      refine gn ?_
      refine ⟨_, rfl, by show 6 ≤ sizeLine; decide, fun b hb => ?_⟩
      have sb := Same.new (o := .lst [.int 1, .int 2, .int 2, .int 3, .int 3, .int 4]) hb
      refine ⟨m, l', b, _, rfl, hM2.up sb, SqL.of upd_same, by show 0 < 6; decide, by show 6 < 1000000; decide, fun k v H3 l3 hv sx hM3 hl3 => gn ?_⟩
      obtain ⟨n, rfl, h1, h4⟩ : ∃ n : Nat, v = .int (n : Nat) ∧ 1 ≤ n ∧ n ≤ 4 := by
        have hm := List.mem_of_getElem? hv
        simp only [List.mem_cons, List.not_mem_nil, or_false] at hm
        rcases hm with rfl | rfl | rfl | rfl | rfl | rfl
        · exact ⟨1, rfl, by decide, by decide⟩
        · exact ⟨2, rfl, by decide, by decide⟩
        · exact ⟨2, rfl, by decide, by decide⟩
        · exact ⟨3, rfl, by decide, by decide⟩
        · exact ⟨3, rfl, by decide, by decide⟩
        · exact ⟨4, rfl, by decide, by decide⟩
      have T3 := tabsM sx (hM2.up sb) (Tb2.ext sb)
      refine ⟨_, rfl, _, rfl, _, rfl, m, l3, n, rfl, hM3, by omega, by omega, fun v1 j1 H4 l4 sx4 hM4 y1 g1 => ?_⟩
      refine ⟨_, rfl, _, rfl, m, l4, n, rfl, hM4, by omega, by omega, fun v2 j2 H5 l5 sx5 hM5 y2' g2 => ?_⟩
      have y1' := lyM sx5 hM4 y1
      refine ⟨m, l5, v1, v2, n, j1, j2, rfl, hM5, y1', y2', g1, g2, h4, tabsM sx5 hM4 (tabsM sx4 hM3 T3), fun H6 l6 hM6 T6 => ⟨true, rfl, iteF ?_⟩⟩
      refine ⟨_, rfl, m, l6, rfl, hM6, T6, fun H7 l7 hM7 T7 => ⟨true, rfl, iteF ?_⟩⟩
      exact ⟨_, _, l7, rfl, hM7, T7⟩
    · rintro σ H2 ⟨y2, y3, l', rfl, hM2, Tb2⟩
      refine seq_i (asg_i (dsp_ok (K := K) (.tup (.cons dsR (.cons dsA .nil)) (show 2 ≤ 1000 by decide)) fun vv H3 s3 dd => ?_))
      obtain ⟨T0, vr, va, rfl, hT0, l1, l2⟩ := dp_tup2 dd
      refine ⟨T0, _, rfl, hT0, rfl, _, _, rfl, _, _, rfl, rfl, ?_⟩
      have yR := dp_ly l1
      have yA := dp_ly l2
      clear dd hT0 l1 l2 Tb2 s3
      dsimp only
      -- told
      refine seq_i (asg_i (lst_i (cons_i ?_)))
      refine ⟨_, rfl, vr, 2, _, rfl, yR, goodR, fun r1 us1 H4 s4 f4 h4 p4 l4 => ?_⟩
      rw [sgR] at p4
      refine cons_i ?_
      refine ⟨_, rfl, _, rfl, vr, va, 2, _, _, rfl, yR.up s4, yA.up s4, goodR, goodA, fun H5 s5 => ?_⟩
      rw [gapRA]
      refine cons_i ?_
      refine ⟨_, rfl, _, rfl, vr, vr, 2, _, _, rfl, (yR.up s4).up s5, (yR.up s4).up s5, goodR, goodR, fun H6 s6 => ?_⟩
      rw [gapRR]
      refine cons_i (call_i (dsp_one (K := K) dsO fun v1 H7 s7 d1 => ?_))
      refine ⟨v1, 1, [], rfl, dp_ly d1, goodO, fun r2 us2 H8 s8 f8 h8 p8 l8 => ⟨by show 4 ≤ sizeLine; decide, fun L hL => gn ?_⟩⟩
      rw [sgO] at p8
      have uL := Same.new (o := .lst [.ref r1, .int (4 : Nat), .int (0 : Nat), .ref r2]) hL
      have s48 := s5.trans (s6.trans (s7.trans (s8.trans uL)))
      have yR9 := (yR.up s4).up s48
      have e1 : Dp K (upd H8 L (.lst [.ref r1, .int (4 : Nat), .int (0 : Nat), .ref r2])) (.ref r1) (.tuple ([([(0, 3)], []), ([(1, 2)], [])].map stD)) := .tup (SqT.of (s48 _ _ h4)) (stps_dp ((TM.of s48).stps p4))
      have e2 : Dp K (upd H8 L (.lst [.ref r1, .int (4 : Nat), .int (0 : Nat), .ref r2])) (.ref r2) (.tuple ([([], [(0, 1)])].map stD)) := .tup (SqT.of (uL _ _ h8)) (stps_dp ((TM.of uL).stps p8))
      have hLL := upd_same (H := H8) (a := L) (o := .lst [.ref r1, .int (4 : Nat), .int (0 : Nat), .ref r2])
      clear uL s48 s4 s5 s6 s7 s8 h4 h8 p4 p8 yR yA hL d1
      generalize upd H8 L (.lst [.ref r1, .int (4 : Nat), .int (0 : Nat), .ref r2]) = H9 at yR9 e1 e2 hLL ⊢
      dsimp only
      -- two more
      refine seq_i (asg_i ?_)
      refine ⟨_, rfl, ?_⟩
      refine lst_i (cons_i (call_i (cons_i (var_i rfl (dsp_one (K := K) dsD fun w1 Ha sa da => ?_)))))
      refine ⟨vr, w1, 2, _, _, rfl, yR9.up sa, goodR, dp_stp da, isD, fun Hb sb => ?_⟩
      refine cons_i (call_i (cons_i (var_i rfl (dsp_one (K := K) dsC2 fun w2 Hc sc dc => ?_))))
      refine ⟨vr, w2, 2, _, _, rfl, ((yR9.up sa).up sb).up sc, goodR, dp_stp dc, isC, fun Hd sd => ⟨by show 2 ≤ sizeLine; decide, fun L2 hL2 => ?_⟩⟩
      have u2 := Same.new (o := .lst [.bl (oneB ([(0, 3), (1, 2)], [(0, 1), (2, 3)])), .bl (oneB ([(1, 2)], []))]) hL2
      have s9 := sa.trans (sb.trans (sc.trans (sd.trans u2)))
      refine ⟨L, L2, _, _, rfl, rfl, s9 _ _ hLL, upd_same, by show 6 ≤ sizeLine; decide, fun L3 hL3 => gn ?_⟩
      have u3 := Same.new (o := .lst ([.ref r1, .int (4 : Nat), .int (0 : Nat), .ref r2] ++ [.bl (oneB ([(0, 3), (1, 2)], [(0, 1), (2, 3)])), .bl (oneB ([(1, 2)], []))])) hL3
      have s93 := s9.trans u3
      have e1' := Dp.up s93 e1
      have e2' := Dp.up s93 e2
      have hL3' := upd_same (H := upd Hd L2 (.lst [.bl (oneB ([(0, 3), (1, 2)], [(0, 1), (2, 3)])), .bl (oneB ([(1, 2)], []))])) (a := L3) (o := .lst ([.ref r1, .int (4 : Nat), .int (0 : Nat), .ref r2] ++ [.bl (oneB ([(0, 3), (1, 2)], [(0, 1), (2, 3)])), .bl (oneB ([(1, 2)], []))]))
      clear u2 u3 s9 s93 sa sb sc sd da dc yR9 e1 e2 hLL hL2 hL3
      generalize upd (upd Hd L2 (.lst [.bl (oneB ([(0, 3), (1, 2)], [(0, 1), (2, 3)])), .bl (oneB ([(1, 2)], []))])) L3 (.lst ([.ref r1, .int (4 : Nat), .int (0 : Nat), .ref r2] ++ [.bl (oneB ([(0, 3), (1, 2)], [(0, 1), (2, 3)])), .bl (oneB ([(1, 2)], []))])) = He at e1' e2' hL3' ⊢
      dsimp only
      -- due
      refine seq_i (asg_i (lst_i (dsp_cons (K := K) (.tup (.cons dsC1 (.cons dsC2 .nil)) (show 2 ≤ 1000 by decide)) fun w1 Ha sa da => ?_)))
      refine dsp_cons (K := K) (.int 4) fun w2 Hb sb db => ?_
      refine dsp_cons (K := K) (.int 0) fun w3 Hc sc dc => ?_
      refine dsp_cons (K := K) (.tup (.cons dsJ .nil) (show 1 ≤ 1000 by decide)) fun w4 Hd sd de => ?_
      refine ⟨by show 6 ≤ sizeLine; decide, fun D hD => gn ?_⟩
      have uD := Same.new (o := .lst [w1, w2, w3, w4, .bl false, .bl true]) hD
      have s4 := sd.trans uD
      have s3 := sc.trans s4
      have s2 := sb.trans s3
      have s1' := sa.trans s2
      refine ⟨_, rfl, _, rfl, .ref L3, .ref D, .list [.tuple ([([(0, 3)], []), ([(1, 2)], [])].map stD), .int 4, .int 0, .tuple ([([], [(0, 1)])].map stD), .bool false, .bool true], rfl,
        .lst (SqL.of (s1' _ _ hL3')) (.cons (Dp.up s1' e1') (.cons (.int 4) (.cons (.int 0) (.cons (Dp.up s1' e2') (.cons (.bl false) (.cons (.bl true) .nil)))))),
        .lst (SqL.of upd_same) (.cons (Dp.up s2 da) (.cons (Dp.up s3 db) (.cons (Dp.up s4 dc) (.cons (Dp.up uD de) (.cons (.bl false) (.cons (.bl true) .nil)))))), by decide +kernel, by decide +kernel, by decide +kernel, q _⟩
end
end K42
-- K42zd
set_option Elab.async false
set_option linter.all false
set_option maxRecDepth 100000
set_option maxHeartbeats 4000000
namespace K42
open PySem L2 DC LamX
/-- a def as it stands in the top's heap -/
structure Hd (K : PySem.W.Frag) (x : Str) (st : Stmt) (f : Addr) (fd : FuncData) : Prop where
  a : PySem.W.nsIn K mainGlobals x = some (some (.ref f))
  F : Fun K x x st f fd
theorem hd_mk {K : PySem.W.Frag} {x : Str} {st : Stmt} {f : Addr} {oc : Value} {od an : Option Addr} {osl : Array (Option Value)} {kV doc pm cdv ct : Value} (a : PySem.W.nsIn K mainGlobals x = some (some (.ref f)))
    (l : K.lookup f = some ⟨oc, od, .func (PySem.W.fnOf x x (defArgs st) (defBody st) (defScope st) .none kV doc pm an cdv ct), osl⟩) (c : PySem.W.codeIn K cdv x = true) (k : PySem.W.keepIn K (.ref f) = true) :
    Hd K x st f (PySem.W.fnOf x x (defArgs st) (defBody st) (defScope st) .none kV doc pm an cdv ct) := ⟨a, fun_mk l c k⟩
theorem all_mk {l : PySem.W.OpenLaw} {w : World} {K : PySem.W.Frag} {h : Heap} {mg : Str → Option Value} {fa f7 f8 f9 f10 f12 f11 f14 f16 f15 f17 f18 f19 f21 f22 f23 f24 f25 f26 f27 f29 f30 f31 f32 f33 f35 f36 f38 f39 f40 f41 f42 f44 f45 f46 f47 f48 f49 f50 f51 f52 f53 f54 f55 f56 f57 cw Pt : Addr} {fd7 fd8 fd9 fd10 fd12 fd11 fd14 fd16 fd15 fd17 fd18 fd19 fd21 fd22 fd23 fd24 fd25 fd26 fd27 fd29 fd30 fd32 fd33 fd35 fd36 fd38 fd39 fd40 fd41 fd42 fd44 fd45 fd46 fd47 fd48 fd49 fd50 fd51 fd52 fd53 fd54 fd55 fd56 fd57 : FuncData} {tm : Tok}
    {oc : Value} {od an : Option Addr} {osl : Array (Option Value)} {kV doc pm ct : Value}
    (X : K.In h) (G : h.Ns mainGlobals mg) (hfa : mg "law" = some (.ref fa))
    (h7 : Hd K "is_int" (top 7) f7 fd7)
    (h8 : Hd K "is_from" (top 8) f8 fd8)
    (h9 : Hd K "is_pair" (top 9) f9 fd9)
    (h10 : Hd K "is_joint" (top 10) f10 fd10)
    (h12 : Hd K "false_joint" (top 12) f12 fd12)
    (h11 : Hd K "are_joints" (top 11) f11 fd11)
    (h14 : Hd K "need_lay" (top 14) f14 fd14)
    (h16 : Hd K "need_alike" (top 16) f16 fd16)
    (h15 : Hd K "need_two" (top 15) f15 fd15)
    (h17 : Hd K "joint_of" (top 17) f17 fd17)
    (h18 : Hd K "mates" (top 18) f18 fd18)
    (h19 : Hd K "free_of" (top 19) f19 fd19)
    (h21 : Hd K "pairings" (top 21) f21 fd21)
    (h22 : Hd K "joins" (top 22) f22 fd22)
    (h23 : Hd K "cuts" (top 23) f23 fd23)
    (h24 : Hd K "word_of" (top 24) f24 fd24)
    (h25 : Hd K "is_step_of" (top 25) f25 fd25)
    (h26 : Hd K "need_step_of" (top 26) f26 fd26)
    (h27 : Hd K "joints_without" (top 27) f27 fd27)
    (h29 : Hd K "row_along" (top 29) f29 fd29)
    (h30 : Hd K "path_from" (top 30) f30 fd30)
    (a31 : PySem.W.nsIn K mainGlobals "web_of" = some (some (.ref f31)))
    (l31 : K.lookup f31 = some ⟨oc, od, .func (PySem.W.fnOf "web_of" "web_of" (defArgs (top 31)) (defBody (top 31)) (defScope (top 31)) .none kV doc pm an (.ref cw) ct), osl⟩) (c31 : PySem.W.codeIn K (.ref cw) "web_of" = true) (k31 : PySem.W.keepIn K (.ref f31) = true)
    (hemp : ∀ q ∈ [Pt], h.get? q = some (PySem.W.tabObj #[])) (hout : K.lookup Pt = none) (hcode : PySem.W.codeHdIn K cw Pt = true)
    (h32 : Hd K "piece_cost" (top 32) f32 fd32)
    (h33 : Hd K "sizes_of" (top 33) f33 fd33)
    (h35 : Hd K "cost_of" (top 35) f35 fd35)
    (h36 : Hd K "least_steps" (top 36) f36 fd36)
    (h38 : Hd K "has_one_joint" (top 38) f38 fd38)
    (h39 : Hd K "is_single" (top 39) f39 fd39)
    (h40 : Hd K "single_steps" (top 40) f40 fd40)
    (h41 : Hd K "difference" (top 41) f41 fd41)
    (h42 : Hd K "single_number" (top 42) f42 fd42)
    (h44 : Hd K "_law_begun" (top 44) f44 fd44)
    (h45 : Hd K "_law_draw" (top 45) f45 fd45)
    (h46 : Hd K "_law_of" (top 46) f46 fd46)
    (h47 : Hd K "_law_like" (top 47) f47 fd47)
    (h48 : Hd K "_law_lay" (top 48) f48 fd48)
    (h49 : Hd K "_law_mates" (top 49) f49 fd49)
    (h50 : Hd K "_law_steps" (top 50) f50 fd50)
    (h51 : Hd K "_law_after" (top 51) f51 fd51)
    (h52 : Hd K "_law_all" (top 52) f52 fd52)
    (h53 : Hd K "_law_singles" (top 53) f53 fd53)
    (h54 : Hd K "_law_gap" (top 54) f54 fd54)
    (h55 : Hd K "_law_right" (top 55) f55 fd55)
    (h56 : Hd K "_law_search_right" (top 56) f56 fd56)
    (h57 : Hd K "law" (top 57) f57 fd57)
    (hM : PySem.W.nsIn K mainGlobals "MOST_LINKS" = some (some (.int 12 tm)))
    (z_isinstance : PySem.W.nsIn K mainGlobals "isinstance" = some none)
    (z_int : PySem.W.nsIn K mainGlobals "int" = some none)
    (z_bool : PySem.W.nsIn K mainGlobals "bool" = some none)
    (z_tuple : PySem.W.nsIn K mainGlobals "tuple" = some none)
    (z_len : PySem.W.nsIn K mainGlobals "len" = some none)
    (z_enumerate : PySem.W.nsIn K mainGlobals "enumerate" = some none)
    (z_range : PySem.W.nsIn K mainGlobals "range" = some none)
    (z_list : PySem.W.nsIn K mainGlobals "list" = some none)
    (z_repr : PySem.W.nsIn K mainGlobals "repr" = some none)
    (z_sorted : PySem.W.nsIn K mainGlobals "sorted" = some none)
    (z_sum : PySem.W.nsIn K mainGlobals "sum" = some none)
    (z_min : PySem.W.nsIn K mainGlobals "min" = some none)
    (z_max : PySem.W.nsIn K mainGlobals "max" = some none)
    (z_abs : PySem.W.nsIn K mainGlobals "abs" = some none)
    (z_zip : PySem.W.nsIn K mainGlobals "zip" = some none)
    (z_all : PySem.W.nsIn K mainGlobals "all" = some none)
    (z_any : PySem.W.nsIn K mainGlobals "any" = some none)
    (hb : ∀ (s : Shared) (v : Value), BindsTo s fd57 ⟨[v], []⟩ [("script", v)]) :
    ∃ (fd : FuncData) (c T : Addr), TabHd K h c T ∧ (∀ (s : Shared) (v : Value), BindsTo s fd ⟨[v], []⟩ [("script", v)]) ∧ ∀ base : Heap, K.In base → base.Ns mainGlobals mg → TabB base mg c T → OkG l.prog w K mg base CX0 10 fa fd ["script"] (spLaw K T) := by
  have e := hfa.symm.trans (PySem.W.mg_of X G h57.a)
  cases e
  have B : Bn mg := ⟨PySem.W.mg_none_of X G z_isinstance, PySem.W.mg_none_of X G z_int, PySem.W.mg_none_of X G z_bool, PySem.W.mg_none_of X G z_tuple, PySem.W.mg_none_of X G z_len, PySem.W.mg_none_of X G z_enumerate, PySem.W.mg_none_of X G z_range, PySem.W.mg_none_of X G z_list, PySem.W.mg_none_of X G z_repr, PySem.W.mg_none_of X G z_sorted, PySem.W.mg_none_of X G z_sum, PySem.W.mg_none_of X G z_min, PySem.W.mg_none_of X G z_max, PySem.W.mg_none_of X G z_abs, PySem.W.mg_none_of X G z_zip, PySem.W.mg_none_of X G z_all⟩
  have n_any : mg "any" = none := PySem.W.mg_none_of X G z_any
  have hM := PySem.W.mg_of X G hM
  have D7 : Df K mg "is_int" f7 fd7 ["value"] := ⟨PySem.W.mg_of X G h7.a, h7.F.kp, h7.F.binds (ps := ["value"]) fun _ _ _ _ _ _ us hl => match us, hl with | [_], _ => rfl⟩
  have D8 : Df K mg "is_from" f8 fd8 ["value", "least", "most"] := ⟨PySem.W.mg_of X G h8.a, h8.F.kp, h8.F.binds (ps := ["value", "least", "most"]) fun _ _ _ _ _ _ us hl => match us, hl with | [_, _, _], _ => rfl⟩
  have D9 : Df K mg "is_pair" f9 fd9 ["value"] := ⟨PySem.W.mg_of X G h9.a, h9.F.kp, h9.F.binds (ps := ["value"]) fun _ _ _ _ _ _ us hl => match us, hl with | [_], _ => rfl⟩
  have D10 : Df K mg "is_joint" f10 fd10 ["value", "links"] := ⟨PySem.W.mg_of X G h10.a, h10.F.kp, h10.F.binds (ps := ["value", "links"]) fun _ _ _ _ _ _ us hl => match us, hl with | [_, _], _ => rfl⟩
  have D12 : Df K mg "false_joint" f12 fd12 ["joints", "links"] := ⟨PySem.W.mg_of X G h12.a, h12.F.kp, h12.F.binds (ps := ["joints", "links"]) fun _ _ _ _ _ _ us hl => match us, hl with | [_, _], _ => rfl⟩
  have D11 : Df K mg "are_joints" f11 fd11 ["value", "links"] := ⟨PySem.W.mg_of X G h11.a, h11.F.kp, h11.F.binds (ps := ["value", "links"]) fun _ _ _ _ _ _ us hl => match us, hl with | [_, _], _ => rfl⟩
  have D14 : Df K mg "need_lay" f14 fd14 ["lay"] := ⟨PySem.W.mg_of X G h14.a, h14.F.kp, h14.F.binds (ps := ["lay"]) fun _ _ _ _ _ _ us hl => match us, hl with | [_], _ => rfl⟩
  have D16 : Df K mg "need_alike" f16 fd16 ["lays"] := ⟨PySem.W.mg_of X G h16.a, h16.F.kp, h16.F.binds (ps := ["lays"]) fun _ _ _ _ _ _ us hl => match us, hl with | [_], _ => rfl⟩
  have D15 : Df K mg "need_two" f15 fd15 ["one", "other"] := ⟨PySem.W.mg_of X G h15.a, h15.F.kp, h15.F.binds (ps := ["one", "other"]) fun _ _ _ _ _ _ us hl => match us, hl with | [_, _], _ => rfl⟩
  have D17 : Df K mg "joint_of" f17 fd17 ["one", "other"] := ⟨PySem.W.mg_of X G h17.a, h17.F.kp, h17.F.binds (ps := ["one", "other"]) fun _ _ _ _ _ _ us hl => match us, hl with | [_, _], _ => rfl⟩
  have D18 : Df K mg "mates" f18 fd18 ["lay"] := ⟨PySem.W.mg_of X G h18.a, h18.F.kp, h18.F.binds (ps := ["lay"]) fun _ _ _ _ _ _ us hl => match us, hl with | [_], _ => rfl⟩
  have D19 : Df K mg "free_of" f19 fd19 ["lay"] := ⟨PySem.W.mg_of X G h19.a, h19.F.kp, h19.F.binds (ps := ["lay"]) fun _ _ _ _ _ _ us hl => match us, hl with | [_], _ => rfl⟩
  have D21 : Df K mg "pairings" f21 fd21 ["one", "other"] := ⟨PySem.W.mg_of X G h21.a, h21.F.kp, h21.F.binds (ps := ["one", "other"]) fun _ _ _ _ _ _ us hl => match us, hl with | [_, _], _ => rfl⟩
  have D22 : Df K mg "joins" f22 fd22 ["free"] := ⟨PySem.W.mg_of X G h22.a, h22.F.kp, h22.F.binds (ps := ["free"]) fun _ _ _ _ _ _ us hl => match us, hl with | [_], _ => rfl⟩
  have D23 : Df K mg "cuts" f23 fd23 ["joints"] := ⟨PySem.W.mg_of X G h23.a, h23.F.kp, h23.F.binds (ps := ["joints"]) fun _ _ _ _ _ _ us hl => match us, hl with | [_], _ => rfl⟩
  have D24 : Df K mg "word_of" f24 fd24 ["lay", "cut", "made"] := ⟨PySem.W.mg_of X G h24.a, h24.F.kp, h24.F.binds (ps := ["lay", "cut", "made"]) fun _ _ _ _ _ _ us hl => match us, hl with | [_, _, _], _ => rfl⟩
  have D25 : Df K mg "is_step_of" f25 fd25 ["lay", "value"] := ⟨PySem.W.mg_of X G h25.a, h25.F.kp, h25.F.binds (ps := ["lay", "value"]) fun _ _ _ _ _ _ us hl => match us, hl with | [_, _], _ => rfl⟩
  have D26 : Df K mg "need_step_of" f26 fd26 ["lay", "step"] := ⟨PySem.W.mg_of X G h26.a, h26.F.kp, h26.F.binds (ps := ["lay", "step"]) fun _ _ _ _ _ _ us hl => match us, hl with | [_, _], _ => rfl⟩
  have D27 : Df K mg "joints_without" f27 fd27 ["one", "other"] := ⟨PySem.W.mg_of X G h27.a, h27.F.kp, h27.F.binds (ps := ["one", "other"]) fun _ _ _ _ _ _ us hl => match us, hl with | [_, _], _ => rfl⟩
  have D29 : Df K mg "row_along" f29 fd29 ["first", "second", "begun"] := ⟨PySem.W.mg_of X G h29.a, h29.F.kp, h29.F.binds (ps := ["first", "second", "begun"]) fun _ _ _ _ _ _ us hl => match us, hl with | [_, _, _], _ => rfl⟩
  have D30 : Df K mg "path_from" f30 fd30 ["ones", "others", "end"] := ⟨PySem.W.mg_of X G h30.a, h30.F.kp, h30.F.binds (ps := ["ones", "others", "end"]) fun _ _ _ _ _ _ us hl => match us, hl with | [_, _, _], _ => rfl⟩
  have F31 := fun_mk l31 c31 k31
  have D31 : Df K mg "web_of" f31 _ ["one", "other"] := ⟨PySem.W.mg_of X G a31, F31.kp, F31.binds (ps := ["one", "other"]) fun _ _ _ _ _ _ us hl => match us, hl with | [_, _], _ => rfl⟩
  have D32 : Df K mg "piece_cost" f32 fd32 ["kind", "size"] := ⟨PySem.W.mg_of X G h32.a, h32.F.kp, h32.F.binds (ps := ["kind", "size"]) fun _ _ _ _ _ _ us hl => match us, hl with | [_, _], _ => rfl⟩
  have D33 : Df K mg "sizes_of" f33 fd33 ["one", "other"] := ⟨PySem.W.mg_of X G h33.a, h33.F.kp, h33.F.binds (ps := ["one", "other"]) fun _ _ _ _ _ _ us hl => match us, hl with | [_, _], _ => rfl⟩
  have D35 : Df K mg "cost_of" f35 fd35 ["one", "other"] := ⟨PySem.W.mg_of X G h35.a, h35.F.kp, h35.F.binds (ps := ["one", "other"]) fun _ _ _ _ _ _ us hl => match us, hl with | [_, _], _ => rfl⟩
  have D36 : Df K mg "least_steps" f36 fd36 ["one", "other"] := ⟨PySem.W.mg_of X G h36.a, h36.F.kp, h36.F.binds (ps := ["one", "other"]) fun _ _ _ _ _ _ us hl => match us, hl with | [_, _], _ => rfl⟩
  have D38 : Df K mg "has_one_joint" f38 fd38 ["step"] := ⟨PySem.W.mg_of X G h38.a, h38.F.kp, h38.F.binds (ps := ["step"]) fun _ _ _ _ _ _ us hl => match us, hl with | [_], _ => rfl⟩
  have D39 : Df K mg "is_single" f39 fd39 ["lay", "step"] := ⟨PySem.W.mg_of X G h39.a, h39.F.kp, h39.F.binds (ps := ["lay", "step"]) fun _ _ _ _ _ _ us hl => match us, hl with | [_, _], _ => rfl⟩
  have D40 : Df K mg "single_steps" f40 fd40 ["lay"] := ⟨PySem.W.mg_of X G h40.a, h40.F.kp, h40.F.binds (ps := ["lay"]) fun _ _ _ _ _ _ us hl => match us, hl with | [_], _ => rfl⟩
  have D41 : Df K mg "difference" f41 fd41 ["one", "other"] := ⟨PySem.W.mg_of X G h41.a, h41.F.kp, h41.F.binds (ps := ["one", "other"]) fun _ _ _ _ _ _ us hl => match us, hl with | [_, _], _ => rfl⟩
  have D42 : Df K mg "single_number" f42 fd42 ["one", "other"] := ⟨PySem.W.mg_of X G h42.a, h42.F.kp, h42.F.binds (ps := ["one", "other"]) fun _ _ _ _ _ _ us hl => match us, hl with | [_, _], _ => rfl⟩
  have D44 : Df K mg "_law_begun" f44 fd44 ["script"] := ⟨PySem.W.mg_of X G h44.a, h44.F.kp, h44.F.binds (ps := ["script"]) fun _ _ _ _ _ _ us hl => match us, hl with | [_], _ => rfl⟩
  have D45 : Df K mg "_law_draw" f45 fd45 ["m", "limit"] := ⟨PySem.W.mg_of X G h45.a, h45.F.kp, h45.F.binds (ps := ["m", "limit"]) fun _ _ _ _ _ _ us hl => match us, hl with | [_, _], _ => rfl⟩
  have D46 : Df K mg "_law_of" f46 fd46 ["m", "some"] := ⟨PySem.W.mg_of X G h46.a, h46.F.kp, h46.F.binds (ps := ["m", "some"]) fun _ _ _ _ _ _ us hl => match us, hl with | [_, _], _ => rfl⟩
  have D47 : Df K mg "_law_like" f47 fd47 ["told", "due"] := ⟨PySem.W.mg_of X G h47.a, h47.F.kp, h47.F.binds (ps := ["told", "due"]) fun _ _ _ _ _ _ us hl => match us, hl with | [_, _], _ => rfl⟩
  have D48 : Df K mg "_law_lay" f48 fd48 ["m", "links"] := ⟨PySem.W.mg_of X G h48.a, h48.F.kp, h48.F.binds (ps := ["m", "links"]) fun _ _ _ _ _ _ us hl => match us, hl with | [_, _], _ => rfl⟩
  have D49 : Df K mg "_law_mates" f49 fd49 ["lay"] := ⟨PySem.W.mg_of X G h49.a, h49.F.kp, h49.F.binds (ps := ["lay"]) fun _ _ _ _ _ _ us hl => match us, hl with | [_], _ => rfl⟩
  have D50 : Df K mg "_law_steps" f50 fd50 ["lay"] := ⟨PySem.W.mg_of X G h50.a, h50.F.kp, h50.F.binds (ps := ["lay"]) fun _ _ _ _ _ _ us hl => match us, hl with | [_], _ => rfl⟩
  have D51 : Df K mg "_law_after" f51 fd51 ["lay", "step_so"] := ⟨PySem.W.mg_of X G h51.a, h51.F.kp, h51.F.binds (ps := ["lay", "step_so"]) fun _ _ _ _ _ _ us hl => match us, hl with | [_, _], _ => rfl⟩
  have D52 : Df K mg "_law_all" f52 fd52 ["links"] := ⟨PySem.W.mg_of X G h52.a, h52.F.kp, h52.F.binds (ps := ["links"]) fun _ _ _ _ _ _ us hl => match us, hl with | [_], _ => rfl⟩
  have D53 : Df K mg "_law_singles" f53 fd53 ["lay"] := ⟨PySem.W.mg_of X G h53.a, h53.F.kp, h53.F.binds (ps := ["lay"]) fun _ _ _ _ _ _ us hl => match us, hl with | [_], _ => rfl⟩
  have D54 : Df K mg "_law_gap" f54 fd54 ["one", "other"] := ⟨PySem.W.mg_of X G h54.a, h54.F.kp, h54.F.binds (ps := ["one", "other"]) fun _ _ _ _ _ _ us hl => match us, hl with | [_, _], _ => rfl⟩
  have D55 : Df K mg "_law_right" f55 fd55 ["m", "one", "other"] := ⟨PySem.W.mg_of X G h55.a, h55.F.kp, h55.F.binds (ps := ["m", "one", "other"]) fun _ _ _ _ _ _ us hl => match us, hl with | [_, _, _], _ => rfl⟩
  have D56 : Df K mg "_law_search_right" f56 fd56 ["m"] := ⟨PySem.W.mg_of X G h56.a, h56.F.kp, h56.F.binds (ps := ["m"]) fun _ _ _ _ _ _ us hl => match us, hl with | [_], _ => rfl⟩
  refine ⟨fd57, cw, Pt, ⟨hemp Pt List.mem_cons_self, hout, PySem.W.codeHd_of_K X hcode⟩, hb, fun base _ _ TB => ?_⟩
  have G7 : OkF l.prog w K mg base 1 f7 fd7 ["value"] spInt := ok7 h7.F B
  have G8 := ok8 h8.F D7 G7
  have G9 : OkF l.prog w K mg base 1 f9 fd9 ["value"] (spPair K) := ok9 h9.F B
  have G10 := ok10 h10.F D8 G8 D9 G9
  have G12 := ok11 h12.F B D10 G10
  have G11 := okAre h11.F B D12 G12
  have G14 := ok13 h14.F B hM D8 G8 D9 G9 D12 G12
  have G16 : OkF l.prog w K mg base 1 f16 fd16 ["lays"] (spAlike K) := ok15 h16.F n_any
  have G15 := ok14 h15.F D14 G14 D16 G16
  have G17 : OkF l.prog w K mg base 1 f17 fd17 ["one", "other"] (spJt K) := okJt h17.F B
  have G18 : OkF l.prog w K mg base 1 f18 fd18 ["lay"] (spMates K) := ok17 h18.F B
  have G19 := okFree h19.F B D18 G18
  have G21 := okPg h21.F D17 G17
  have G22 : OkF l.prog w K mg base 1 f22 fd22 ["free"] (spJoins K) := okJn h22.F B
  have G23 : OkF l.prog w K mg base 1 f23 fd23 ["joints"] (spCuts K) := okCu h23.F
  have G24 := okWo h24.F B n_any D19 G19 D21 G21
  have G25 := okIs h25.F D9 G9 D11 G11 D24 G24
  have G26 := okNs h26.F D25 G25
  have G27 : OkF l.prog w K mg base 1 f27 fd27 ["one", "other"] (spJw K) := okJw h27.F B
  have G29 : OkF l.prog w K mg base 1 f29 fd29 ["first", "second", "begun"] spAlong := ok20 h29.F B
  have G30 := ok21 h30.F B D29 G29
  have G31 : OkF l.prog w K mg base 3 f31 _ ["one", "other"] (spWeb K Pt) := ok22 l31 c31 TB B D18 G18 D29 G29 D30 G30
  have G32 : OkF l.prog w K mg base 1 f32 fd32 ["kind", "size"] spPco := okPco h32.F
  have G33 := ok23 h33.F B D31 G31
  have G35 := okCo h35.F B D33 G33 D32 G32
  have G36 := okLst h36.F D15 G15 D35 G35
  have G38 : OkF l.prog w K mg base 1 f38 fd38 ["step"] (spHo K) := okHo h38.F B
  have G39 := okSi h39.F D14 G14 D26 G26 D38 G38
  have G40 := okSs h40.F B D14 G14 D22 G22 D19 G19 D23 G23
  have G41 := okDf h41.F B D27 G27
  have G42 := okSn h42.F D15 G15 D41 G41
  have G44 : OkF l.prog w K mg base 1 f44 fd44 ["script"] (spBegun K) := ok26 h44.F B
  have G45 : OkF l.prog w K mg base 1 f45 fd45 ["m", "limit"] spDraw := ok27 h45.F B
  have G46 := ok28 h46.F B D45 G45
  have G47 : OkF l.prog w K mg base 1 f47 fd47 ["told", "due"] (spLike K) := ok29 h47.F B
  have G48 := ok30 h48.F B D45 G45 D46 G46
  have G49 : OkF l.prog w K mg base 1 f49 fd49 ["lay"] (spLm K) := ok34 h49.F B
  have G50 := okSt h50.F B D49 G49
  have G51 : OkF l.prog w K mg base 1 f51 fd51 ["lay", "step_so"] (spAf K) := okAf h51.F B
  have G52 : OkF l.prog w K mg base 1 f52 fd52 ["links"] (spLys K) := okAl h52.F B
  have G53 := okSg h53.F B D49 G49
  have G54 : OkF l.prog w K mg base 1 f54 fd54 ["one", "other"] (spDf K) := okGp h54.F B
  have G55 := okRg h55.F B D53 G53 D54 G54 D40 G40 D42 G42 D50 G50 D46 G46 D39 G39 D36 G36 D47 G47
  have G56 : OkF l.prog w K mg base 8 f56 fd56 ["m"] (spSr K Pt) := okSr h56.F B D52 G52 D46 G46 D53 G53 D51 G51 D42 G42 D47 G47
  exact okLaw h57.F B D44 G44 D46 G46 D48 G48 D55 G55 D56 G56 D40 G40 D42 G42 D39 G39 D47 G47
theorem walk {l : PySem.W.OpenLaw} {q : Program} {loose : List Str} {XP : (Str → Option Value) → Heap → Prop} {YP : World → Heap → Prop} {d : DefRec} {K : Params → PySem.W.Frag} (hn : l.most = some 63) (hdf : d.params.defaults = [])
    (hY : ∀ (w : World) (h : Heap), YP w h → (K w.params).In h)
    (F : ∀ (w : World) (mg : Str → Option Value) (fa : Addr) (h : Heap), YP w h → (K w.params).In h → h.Ns mainGlobals mg → mg d.name = some (.ref fa) →
      ∃ (fd : FuncData) (c T : Addr), TabHd (K w.params) h c T ∧ (∀ (s : Shared) (u : Value), BindsTo s fd ⟨[u], []⟩ [("script", u)]) ∧ ∀ base : Heap, (K w.params).In base → base.Ns mainGlobals mg → TabB base mg c T → OkG l.prog w (K w.params) mg base CX0 10 fa fd ["script"] (spLaw (K w.params) T)) :
    PySem.W.WalkO q loose XP YP l.row.toRowW d [] (fun f vs => PySem.call f vs) :=
  walkT (n := 63) (k := 10) (x := "script") (cx := fun _ => CX0) (sp := fun w T => spLaw (K w.params) T) hn (by decide) hdf ⟨rfl, by decide, by decide⟩ hY F (fun _ T H a ns hl hT hS => ⟨a, ns, rfl, hS, hl, fun p hp => by obtain rfl := List.mem_singleton.mp hp; exact TabS.nil hT, fun _ => rfl⟩) fun _ _ _ _ _ z => z
end K42
-- K42zz
set_option Elab.async false
set_option linter.all false
set_option maxRecDepth 100000
open PySem PySem.W PyProof.Rows in
set_option maxHeartbeats 0 in
theorem PySem.Challenge.cw_doublecut_k42_whole_single_steps_holds : PySem.Challenge.rw_doublecut_k42_whole_single_steps.Holds := by
  w_on; o_law; k_head; (case hw => w_witness2)
  k_fill
  refine K42.walk (l := PySem.Challenge.rw_doublecut_k42_whole_single_steps) rfl rfl (fun w h Y => PySem.W.km_in_of Y) ?F
  case F =>
    intro w mg fa h Y KX G hmg
    refine' K42.all_mk KX G hmg (K42.hd_mk ?a7 ?l7 ?c7 ?k7) (K42.hd_mk ?a8 ?l8 ?c8 ?k8) (K42.hd_mk ?a9 ?l9 ?c9 ?k9) (K42.hd_mk ?a10 ?l10 ?c10 ?k10) (K42.hd_mk ?a12 ?l12 ?c12 ?k12) (K42.hd_mk ?a11 ?l11 ?c11 ?k11) (K42.hd_mk ?a14 ?l14 ?c14 ?k14) (K42.hd_mk ?a16 ?l16 ?c16 ?k16) (K42.hd_mk ?a15 ?l15 ?c15 ?k15) (K42.hd_mk ?a17 ?l17 ?c17 ?k17) (K42.hd_mk ?a18 ?l18 ?c18 ?k18) (K42.hd_mk ?a19 ?l19 ?c19 ?k19) (K42.hd_mk ?a21 ?l21 ?c21 ?k21) (K42.hd_mk ?a22 ?l22 ?c22 ?k22) (K42.hd_mk ?a23 ?l23 ?c23 ?k23) (K42.hd_mk ?a24 ?l24 ?c24 ?k24) (K42.hd_mk ?a25 ?l25 ?c25 ?k25) (K42.hd_mk ?a26 ?l26 ?c26 ?k26) (K42.hd_mk ?a27 ?l27 ?c27 ?k27) (K42.hd_mk ?a29 ?l29 ?c29 ?k29) (K42.hd_mk ?a30 ?l30 ?c30 ?k30) ?a31 ?l31 ?c31 ?k31 (PySem.W.km_tabs_of Y) ?hout ?hcode (K42.hd_mk ?a32 ?l32 ?c32 ?k32) (K42.hd_mk ?a33 ?l33 ?c33 ?k33) (K42.hd_mk ?a35 ?l35 ?c35 ?k35) (K42.hd_mk ?a36 ?l36 ?c36 ?k36) (K42.hd_mk ?a38 ?l38 ?c38 ?k38) (K42.hd_mk ?a39 ?l39 ?c39 ?k39) (K42.hd_mk ?a40 ?l40 ?c40 ?k40) (K42.hd_mk ?a41 ?l41 ?c41 ?k41) (K42.hd_mk ?a42 ?l42 ?c42 ?k42) (K42.hd_mk ?a44 ?l44 ?c44 ?k44) (K42.hd_mk ?a45 ?l45 ?c45 ?k45) (K42.hd_mk ?a46 ?l46 ?c46 ?k46) (K42.hd_mk ?a47 ?l47 ?c47 ?k47) (K42.hd_mk ?a48 ?l48 ?c48 ?k48) (K42.hd_mk ?a49 ?l49 ?c49 ?k49) (K42.hd_mk ?a50 ?l50 ?c50 ?k50) (K42.hd_mk ?a51 ?l51 ?c51 ?k51) (K42.hd_mk ?a52 ?l52 ?c52 ?k52) (K42.hd_mk ?a53 ?l53 ?c53 ?k53) (K42.hd_mk ?a54 ?l54 ?c54 ?k54) (K42.hd_mk ?a55 ?l55 ?c55 ?k55) (K42.hd_mk ?a56 ?l56 ?c56 ?k56) (K42.hd_mk ?a57 ?l57 ?c57 ?k57) ?hM ?z_isinstance ?z_int ?z_bool ?z_tuple ?z_len ?z_enumerate ?z_range ?z_list ?z_repr ?z_sorted ?z_sum ?z_min ?z_max ?z_abs ?z_zip ?z_all ?z_any (fun s v => .of_eq rfl)
    (case a7 => k_is)
    (case l7 => k_is)
    (case c7 => k_is)
    (case k7 => k_is)
    (case a8 => k_is)
    (case l8 => k_is)
    (case c8 => k_is)
    (case k8 => k_is)
    (case a9 => k_is)
    (case l9 => k_is)
    (case c9 => k_is)
    (case k9 => k_is)
    (case a10 => k_is)
    (case l10 => k_is)
    (case c10 => k_is)
    (case k10 => k_is)
    (case a12 => k_is)
    (case l12 => k_is)
    (case c12 => k_is)
    (case k12 => k_is)
    (case a11 => k_is)
    (case l11 => k_is)
    (case c11 => k_is)
    (case k11 => k_is)
    (case a14 => k_is)
    (case l14 => k_is)
    (case c14 => k_is)
    (case k14 => k_is)
    (case a16 => k_is)
    (case l16 => k_is)
    (case c16 => k_is)
    (case k16 => k_is)
    (case a15 => k_is)
    (case l15 => k_is)
    (case c15 => k_is)
    (case k15 => k_is)
    (case a17 => k_is)
    (case l17 => k_is)
    (case c17 => k_is)
    (case k17 => k_is)
    (case a18 => k_is)
    (case l18 => k_is)
    (case c18 => k_is)
    (case k18 => k_is)
    (case a19 => k_is)
    (case l19 => k_is)
    (case c19 => k_is)
    (case k19 => k_is)
    (case a21 => k_is)
    (case l21 => k_is)
    (case c21 => k_is)
    (case k21 => k_is)
    (case a22 => k_is)
    (case l22 => k_is)
    (case c22 => k_is)
    (case k22 => k_is)
    (case a23 => k_is)
    (case l23 => k_is)
    (case c23 => k_is)
    (case k23 => k_is)
    (case a24 => k_is)
    (case l24 => k_is)
    (case c24 => k_is)
    (case k24 => k_is)
    (case a25 => k_is)
    (case l25 => k_is)
    (case c25 => k_is)
    (case k25 => k_is)
    (case a26 => k_is)
    (case l26 => k_is)
    (case c26 => k_is)
    (case k26 => k_is)
    (case a27 => k_is)
    (case l27 => k_is)
    (case c27 => k_is)
    (case k27 => k_is)
    (case a29 => k_is)
    (case l29 => k_is)
    (case c29 => k_is)
    (case k29 => k_is)
    (case a30 => k_is)
    (case l30 => k_is)
    (case c30 => k_is)
    (case k30 => k_is)
    (case a31 => k_is)
    (case l31 => k_is)
    (case c31 => k_is)
    (case k31 => k_is)
    (case hout => kernel_rfl)
    (case hcode => kernel_rfl)
    (case a32 => k_is)
    (case l32 => k_is)
    (case c32 => k_is)
    (case k32 => k_is)
    (case a33 => k_is)
    (case l33 => k_is)
    (case c33 => k_is)
    (case k33 => k_is)
    (case a35 => k_is)
    (case l35 => k_is)
    (case c35 => k_is)
    (case k35 => k_is)
    (case a36 => k_is)
    (case l36 => k_is)
    (case c36 => k_is)
    (case k36 => k_is)
    (case a38 => k_is)
    (case l38 => k_is)
    (case c38 => k_is)
    (case k38 => k_is)
    (case a39 => k_is)
    (case l39 => k_is)
    (case c39 => k_is)
    (case k39 => k_is)
    (case a40 => k_is)
    (case l40 => k_is)
    (case c40 => k_is)
    (case k40 => k_is)
    (case a41 => k_is)
    (case l41 => k_is)
    (case c41 => k_is)
    (case k41 => k_is)
    (case a42 => k_is)
    (case l42 => k_is)
    (case c42 => k_is)
    (case k42 => k_is)
    (case a44 => k_is)
    (case l44 => k_is)
    (case c44 => k_is)
    (case k44 => k_is)
    (case a45 => k_is)
    (case l45 => k_is)
    (case c45 => k_is)
    (case k45 => k_is)
    (case a46 => k_is)
    (case l46 => k_is)
    (case c46 => k_is)
    (case k46 => k_is)
    (case a47 => k_is)
    (case l47 => k_is)
    (case c47 => k_is)
    (case k47 => k_is)
    (case a48 => k_is)
    (case l48 => k_is)
    (case c48 => k_is)
    (case k48 => k_is)
    (case a49 => k_is)
    (case l49 => k_is)
    (case c49 => k_is)
    (case k49 => k_is)
    (case a50 => k_is)
    (case l50 => k_is)
    (case c50 => k_is)
    (case k50 => k_is)
    (case a51 => k_is)
    (case l51 => k_is)
    (case c51 => k_is)
    (case k51 => k_is)
    (case a52 => k_is)
    (case l52 => k_is)
    (case c52 => k_is)
    (case k52 => k_is)
    (case a53 => k_is)
    (case l53 => k_is)
    (case c53 => k_is)
    (case k53 => k_is)
    (case a54 => k_is)
    (case l54 => k_is)
    (case c54 => k_is)
    (case k54 => k_is)
    (case a55 => k_is)
    (case l55 => k_is)
    (case c55 => k_is)
    (case k55 => k_is)
    (case a56 => k_is)
    (case l56 => k_is)
    (case c56 => k_is)
    (case k56 => k_is)
    (case a57 => k_is)
    (case l57 => k_is)
    (case c57 => k_is)
    (case k57 => k_is)
    (case hM => k_is)
    (case z_isinstance => k_is)
    (case z_int => k_is)
    (case z_bool => k_is)
    (case z_tuple => k_is)
    (case z_len => k_is)
    (case z_enumerate => k_is)
    (case z_range => k_is)
    (case z_list => k_is)
    (case z_repr => k_is)
    (case z_sorted => k_is)
    (case z_sum => k_is)
    (case z_min => k_is)
    (case z_max => k_is)
    (case z_abs => k_is)
    (case z_zip => k_is)
    (case z_all => k_is)
    (case z_any => k_is)
