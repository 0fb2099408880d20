import PyProof.Rows.All
import Wide.All
import OpenK.AllK
import Wide.FinOn
import HandS.ForMost
import HandS.ForExc
import HandS.Gcd
import HandS.IsInst
import HandS.Flow
import HandS.Evl
import HandS.SortRule
import HandS.TupSets
import HandS.Conv
import KE.KMathGC
import HandS.Walk
import KE.GoesEnum
import HandS.TupLe
import PyProof.StrLawsRepr
import KE.SortData
import KE.DataMinMax
import KE.SortKeyHeap
import HandS.Lambda
import HandS.SortKw
import HandS.EndTab
import HandS.Style
import HandS.SetFor
import HandS.SortInts
import HandS.Star
import HandS.Deep
import HandS.Comp
import HandS.TupAny
import KE.KNestM
import PySem.Challenge.RW_doublecut_k15_whole_good_steps_by_pieces
-- DG
set_option Elab.async false
set_option linter.all false
set_option maxRecDepth 100000
set_option maxHeartbeats 4000000
/-! DG: a def's promise where no shown object stands around (for repr); repr of data, comb, xs[i] op= e. -/
namespace DC
open PySem PySem.Spec PyProof.Rows L2 Evl

structure OkG (P : Program) (w : World) (K : PySem.W.Frag) (mg : Str → Option Value) (base : Heap)
    (cx : CXT) (k : Nat) (f : Addr) (fd : FuncData) (ps : List Str) (sp : Sp) : Prop where
  cnt : ∀ vs H Q E, sp vs H Q E → vs.length = ps.length
  go : ∀ (A : Around) (outer : List Env) (s : Shared) (H : Hp) (args : Args) (us : List Value) (vs : List V) (Q : VK) (E : XK),
    A.guards = some [] → Room k A → Env0 P w K mg base A outer s H → BindsTo s fd args (ps.zip us) → Vals vs us →
    sp vs H Q E → codeAny (model P w) A (.call (.ref f) args) (CR cx outer P w H s Q E) s

section
variable {P : Program} {w : World} {K : PySem.W.Frag} {mg : Str → Option Value} {base : Heap} {cx : CXT}
  {f : Addr} {fd : FuncData} {ps : List Str} {sp : Sp} {j k : Nat}
theorem OkG.of (F : FnOk P w K mg base cx k f fd ps sp) : OkG P w K mg base cx k f fd ps sp :=
  ⟨F.len, fun A outer s H args us vs Q E _ => F.run A outer s H args us vs Q E⟩
theorem OkG.more (F : OkG P w K mg base cx j f fd ps sp) (h : j ≤ k) : OkG P w K mg base cx k f fd ps sp :=
  ⟨F.cnt, fun A outer s H args us vs Q E g hr => F.go A outer s H args us vs Q E g (hr.mono h)⟩
end

section
variable {X : Cx} {cx : CXT} {k : Nat} {f : Addr} {fd : FuncData} {ps : List Str} {sp : Sp} {dvs : List V} {ds : List Value} {E : XK}
  {x : Str} {p pos : Pos} {e : Expr} {es : List Expr} {t : TA}
theorem goG {pins : List (Addr × Obj)} {σ : L2.St} {H : Hp} {s : Shared} {Q : VK} {us : List Value} {vs : List V}
    (F : OkG X.prog X.w X.K X.mg X.base cx k f fd ps sp) (hgd : X.A.guards = some []) (hr : Room k X.A)
    (hb : Binds X.K fd ps ds) (hd : Vals dvs ds) (hx : Passes cx X E) (I : Inv X pins σ H s) (r : Vals vs us)
    (h : sp (vs ++ dvs) H Q E) : wpAny (model X.prog X.w) X.A (call (.ref f) us) (EP X pins σ Q) X.xe s := by
  have both : Vals (vs ++ dvs) (us ++ ds) := r.append hd
  have len : (us ++ ds).length = ps.length := both.length.symm.trans (F.cnt _ _ _ _ h)
  have run := F.go X.A X.stack s H ⟨us, []⟩ (us ++ ds) (vs ++ dvs) Q E hgd hr I.env0 (hb s us I.kIn len) both h
  refine wpAny_call (codeAny_mono run ?_)
  intro res s' hq
  match res, hq with
  | .error e, hq => exact hx pins σ H s e s' I hq
  | .ok (.ret u), hq => exact I.after hq
theorem callG (F : OkG X.prog X.w X.K X.mg X.base cx k f fd ps sp) (hgd : X.A.guards = some []) (hr : Room k X.A) (hg : Gl X x)
    (hm : X.mg x = some (.ref f)) (hk : PySem.W.keepIn X.K (.ref f) = true) (hb : Binds X.K fd ps ds) (hd : Vals dvs ds)
    (hx : Passes cx X E) (ha : PA X (e :: es) t)
    (hdb : (x == ("__debug__" : Str)) = false := by decide)
    (he : starEach (e :: es) X.env = (false, eval e X.env) :: starEach es X.env := by rfl)
    (hpl : (backTo pos (starEach es X.env)).any (·.1) = false := by rfl) :
    PE X (.Call (.Name x p) (e :: es) [] pos) (tCall sp dvs E t) := by
  constructor
  intro pins s σ H Q I h
  apply wpAny_Call_Name_kw
  apply ld_glob I hg hm _ hdb
  refine PySem.W.callWith_K (h₀ := X.base) I.ok.mod.kin hk (thn (ha.run pos pins s σ H _ I h) ?_) he hpl
  intro us s1 ⟨vs, H1, I1, r, q⟩
  exact ⟨I1.kIn, goG F hgd hr hb hd hx I1 r q⟩
theorem callG0 (F : OkG X.prog X.w X.K X.mg X.base cx k f fd ps sp) (hgd : X.A.guards = some []) (hr : Room k X.A) (hg : Gl X x)
    (hm : X.mg x = some (.ref f)) (hk : PySem.W.keepIn X.K (.ref f) = true) (hb : Binds X.K fd ps ds) (hd : Vals dvs ds)
    (hx : Passes cx X E) (hdb : (x == ("__debug__" : Str)) = false := by decide) :
    PE X (.Call (.Name x p) [] [] pos) (tCall sp dvs E tNil) := by
  constructor
  intro pins s σ H Q I h
  apply wpAny_Call_Name_kw
  apply ld_glob I hg hm _ hdb
  exact PySem.W.callWith_K0 I.kIn hk (goG (us := []) F hgd hr hb hd hx I .nil h)
end

section
variable {P : Program} {w : World} {K : PySem.W.Frag} {mg : Str → Option Value} {base : Heap}
/-- a def of the text, by its body, where no guard stands around -/
theorem okG {cx : CXT} {x qual : Str} {st : Stmt} {f : Addr} {fd : FuncData} {N ps : List Str} {k : Nat} {sp : Sp}
    (F : Fun K x qual st f fd) (S : FnScope N ps (defScope st)) (cnt : ∀ vs H Q E, sp vs H Q E → vs.length = ps.length)
    (body : ∀ (cdv : Value) (A : Around) (outer : List Env) (s : Shared) (H : Hp) (vs : List V) (Q : VK) (E : XK),
      A.guards = some [] → Room k (A.deeper (envOfC qual (defScope st) s.heap.objs.size f cdv)) → sp vs H Q E →
      ∃ t, PSs (cxOf cx P w K mg base N qual (defScope st) f cdv A outer s H E) (defBody st) t ∧
        t { nx := fun _ H' => Q .non H', rt := Q } (start N vs) H) :
    OkG P w K mg base cx (k + 1) f fd ps sp := by
  obtain ⟨oc, od, kV, doc, pm, an, cdv, ct, osl, rfl, lk, hcd⟩ := F.ex
  refine ⟨cnt, ?_⟩
  intro A outer s H args us vs Q E hgd hr e0 hb r hsp
  have hl := cnt _ _ _ _ hsp
  have up : ∀ b o, base.get? b = some o → s.heap.get? b = some o := fun b o e => (e0.bs b o e).1
  have KX : K.In s.heap := e0.mod.kin.keeps up
  have lim : s.heap.NoLimit := e0.mod.nolimit.keeps up
  have kinds : ∀ y ∈ ps.zip us, (defScope st).names.lookup y.1 = some .local ∨
      ((defScope st).names.lookup y.1 = some .cell ∧ ((cellsFrom (s.heap.objs.size + 1) (defScope st).names []).lookup y.1).isSome = true) := by
    rintro ⟨n, v⟩ hy
    cases S.par n (List.of_mem_zip hy).1 with
    | inl q => exact Or.inl q
    | inr q => exact Or.inr ⟨q, PySem.W.cellsFrom_some _ _ _ (Or.inl q)⟩
  refine codeAny_call_function hr.depth (KX _ _ lk) rfl S.co S.gen rfl (PySem.W.codeRec_of KX hcd) (hb _ _ _ _ ?_)
  refine wpAny_newFunctionEnv_cells S.kind kinds ?_
  rintro env rfl s1 x
  refine ⟨lim.keeps x.toInCall.keep, codeAny_func ?_⟩
  obtain ⟨t, ht, hq⟩ := body cdv A outer s H vs Q E hgd (hr.deeper _) hsp
  have I := inv_start (E := E) (CX := cx) (f := f) (qual := qual) (cd := cdv) S hr.hd e0 hl r x
  have ends : ∀ {σ' : L2.St} {H' : Hp} {s' : Shared} {v : V} {u : Value},
      Inv (cxOf cx P w K mg base N qual (defScope st) f cdv A outer s H E) [] σ' H' s' → RelV v u → Q v H' → CE outer P w H s Q u s' :=
    fun J rv q => ⟨_, _, J.os, J.bare, J.base, J.hok, rv, q⟩
  refine wpAny_mono (ht.run [] s1 (start N vs) H _ I hq) ?_ (fun _ _ hs => hs)
  intro fl s' hs
  match fl, hs with
  | .ret u, ⟨v, σ', H', J, rv, q⟩ => exact ends J rv q
  | .next, ⟨σ', H', J, q⟩ => exact ends (v := V.non) (u := Value.none) J rfl q
  | .brk, ⟨_, _, _, q⟩ => exact q.elim
  | .cont, ⟨_, _, _, q⟩ => exact q.elim
end

section
variable {P : Program} {w : World} {K : PySem.W.Frag} {mg : Str → Option Value} {base : Heap}
/-- .. that nothing raised leaves -/
theorem ok0 {x qual : Str} {st : Stmt} {f : Addr} {fd : FuncData} {N ps : List Str} {k : Nat} {sp : Sp}
    (F : Fun K x qual st f fd) (S : FnScope N ps (defScope st)) (cnt : ∀ vs H Q E, sp vs H Q E → vs.length = ps.length)
    (body : ∀ (cdv : Value) (A : Around) (outer : List Env) (s : Shared) (H : Hp) (vs : List V) (Q : VK) (E : XK),
      A.guards = some [] → Room k (A.deeper (envOfC qual (defScope st) s.heap.objs.size f cdv)) → sp vs H Q E →
      ∃ t, PSs (cxOf CX0 P w K mg base N qual (defScope st) f cdv A outer s H E).nox (defBody st) t ∧
        t { nx := fun _ H' => Q .non H', rt := Q } (start N vs) H) :
    OkG P w K mg base CX0 (k + 1) f fd ps sp := by
  refine okG F S cnt ?_
  intro cdv A outer s H vs Q E hgd hr hsp
  obtain ⟨t, h, q⟩ := body cdv A outer s H vs Q E hgd hr hsp
  exact ⟨t, h.nox, q⟩
end

/-! ### data -/
section
variable {K : PySem.W.Frag} {H H' : Hp}
theorem Same.t {a : Addr} {xs : List V} (e : Same H H') (h : SqT K H a xs) : SqT K H' a xs := ex_t e h
mutual
theorem Dp.up (e : Same H H') : ∀ {d : PyData} {v : V}, Dp K H v d → Dp K H' v d
  | _, _, .non => .non
  | _, _, .bl b => .bl b
  | _, _, .int i => .int i
  | _, _, .str x => .str x
  | _, _, .lst h a => .lst (e.seq h) (DpAll.up e a)
  | _, _, .tup h a => .tup (Same.t e h) (DpAll.up e a)
theorem DpAll.up (e : Same H H') : ∀ {ds : List PyData} {vs : List V}, DpAll K H vs ds → DpAll K H' vs ds
  | _, _, .nil => .nil
  | _, _, .cons a b => .cons (Dp.up e a) (DpAll.up e b)
end
theorem Same.new {a : Addr} {o : HO} (h : H a = none) : Same H (upd H a o) := fun b u q => by
  rw [upd_ne (ne_of_none q h)]
  exact q
end

/-! ### repr of data -/
section
variable {X : Cx}
def rRepr (K : PySem.W.Frag) : List V → Hp → VK → Prop := fun vs H Q =>
  ∃ v d, vs = [v] ∧ Dp K H v d ∧ d.showable = true ∧ d.hasDict = false ∧ d.shown.length ≤ sizeLine ∧ d.depth ≤ 60 ∧ Q (.str d.shown) H
theorem cr_repr (hgd : X.A.guards = some []) (hu : X.A.units + 64 < cLine) : CallR X (.builtin "repr") (rRepr X.K) := by
  intro pins s σ H vs us Q I r h
  obtain ⟨v, d, rfl, hd, hs, hn, hz, hp, q⟩ := h
  obtain ⟨u, rfl, ru⟩ : ∃ u, us = [u] ∧ RelV v u := by
    cases r with
    | cons a b => cases b; exact ⟨_, rfl, a⟩
  obtain ⟨as, rd⟩ := Dp.reads I d v u hd ru
  have fin : ∀ (h' : Heap) (tk t : Nat), (∀ b o, s.heap.get? b = some o → h'.get? b = some o) →
      EP X pins σ Q (.str d.shown t) { s with heap := h', toks := tk } :=
    fun h' tk t hk => ⟨.str d.shown, H, I.kept (t' := tk) hk, ⟨t, rfl⟩, q⟩
  cases hd with
  | non => cases ru; exact PySem.P.repr_of_none (fin _ _ _ fun _ _ e => e)
  | bl b => cases ru; exact PySem.P.repr_of_bool (fin _ _ _ fun _ _ e => e)
  | int i =>
    obtain ⟨t, rfl⟩ := ru
    exact PySem.P.repr_of_int (of_decide_eq_true hs) (fin _ _ _ fun _ _ e => e)
  | str z =>
    obtain ⟨t, rfl⟩ := ru
    exact PySem.P.repr_of_str (fin _ _ _ fun _ _ e => e) hz
  | lst h a =>
    cases ru
    exact repr_of_reads' rd hs (PyData.noDict_hsm hn) hgd (by omega) (fun _ _ e => e) (fun h' u tk hk => fin h' tk u hk) hz
  | tup h a =>
    cases ru
    exact repr_of_reads' rd hs (PyData.noDict_hsm hn) hgd (by omega) (fun _ _ e => e) (fun h' u tk hk => fin h' tk u hk) hz
end

/-! ### math.comb -/
section
variable {X : Cx}
def rComb : List V → Hp → VK → Prop := fun vs H Q => ∃ a b : Int, vs = [.int a, .int b] ∧ 0 ≤ a ∧ 0 ≤ b ∧ a < 9000 ∧ Q (.int (PySem.W.mcComb a b)) H
theorem cr_comb : CallR X (.builtin "math.comb") rComb := by
  intro pins s σ H vs us Q I r h
  obtain ⟨a, b, rfl, ha, hb, hs, q⟩ := h
  obtain ⟨t, u, rfl⟩ := Vals.int2 r
  have g := PySem.W.mc_gives_comb t u ha hb (by omega) (Or.inr (by omega))
  exact call_function_meets PySem.W.MGF.kind_comb PySem.W.MGF.plain_comb PySem.W.MGF.entry_comb (PySem.W.MGF.args_comb _ _) g.meets ⟨.int _, H, I.tok _, ⟨_, rfl⟩, q⟩
end

/-! ### xs[i] op= e -/
section
variable {X : Cx}
def rGetL (K : PySem.W.Frag) : V → V → Hp → VK → Prop := fun x y H Q => ∃ a xs i v, x = .ref a ∧ y = .int i ∧ 0 ≤ i ∧ SqL K H a xs ∧ xs[i.toNat]? = some v ∧ Q v H
theorem get_list : PGet X (rGetL X.K) := by
  intro pins s σ H o i ov iv Q I ro ri h
  obtain ⟨a, xs, k, v, rfl, rfl, hk, hq, he, q⟩ := h
  cases ro
  obtain ⟨t, rfl⟩ := ri
  obtain ⟨its, r, pl, hz⟩ := I.list hq
  obtain ⟨w, ew, rw'⟩ := r.get he
  have hl := r.length
  have hn := line63
  have hlt : k.toNat < xs.length := (List.getElem?_eq_some_iff.mp he).1
  exact wpAny_getItem_list pl.isList hk (by omega) (by simpa using ew) ⟨v, H, I, rw', q⟩
end
end DC
-- DW
set_option Elab.async false
set_option linter.all false
set_option maxRecDepth 100000
set_option maxHeartbeats 4000000
namespace DC
open PySem PySem.Spec PyProof.Rows L2 Evl

/-- the law's promise at the heap behind the top, no guard around -/
theorem endG {P : Program} {w : World} {K : PySem.W.Frag} {mg mb : Str → Option Value} {cx : CXT} {k : Nat} {fa a : Addr} {fd : FuncData} {x : Str} {sp : Sp}
    {s₁ : Shared} {vs : List Value} {ns : List Int} (KX : K.In s₁.heap) (hns : s₁.heap.Ns mainGlobals mg) (hb : s₁.heap.Ns builtinsNs mb)
    (hbb : ∀ x : Str, x ≠ "__name__" → mb x = bootBuiltins x) (hlim : s₁.heap.NoLimit) (hg : s₁.gens = #[])
    (ha : s₁.heap.get? a = some { cls := .type "list", data := .seq vs.toArray }) (hi : IntsAre vs ns) (hl : ns.length ≤ sizeLine) (hr : Room k callerA)
    (F : ∀ base : Heap, K.In base → base.Ns mainGlobals mg → OkG P w K mg base cx k fa fd [x] sp)
    (hbind : ∀ (s : Shared) (u : Value), BindsTo s fd ⟨[u], []⟩ [(x, u)])
    (hsp : ∀ H : Hp, Only H → SqL K H a (ns.map V.int) → sp [.ref a] H (fun v _ => v = .bl true) fun _ _ _ => False)
    (hcx : ∀ H e s', cx [] H s₁ (fun _ _ _ => False) e s' → False) :
    codeAny (model P w) callerA (.call (.ref fa) ⟨[.ref a], []⟩)
      (fun r s' => r = .ok (.ret (.bool true)) ∧ OldK s₁.heap s'.heap ∧ s'.os = s₁.os ∧ AllBare s'.gens) s₁ := by
  have vals := vals_ints hi
  have vlen := hi.length
  suffices core : ∀ H : Hp, Only H → SqL K H a (ns.map V.int) → HOk P w H s₁.heap → (∀ b, H b ≠ none → b = a) → (H a ≠ none → K.lookup a = none) →
      codeAny (model P w) callerA (.call (.ref fa) ⟨[.ref a], []⟩)
        (fun r s' => r = .ok (.ret (.bool true)) ∧ OldK s₁.heap s'.heap ∧ s'.os = s₁.os ∧ AllBare s'.gens) s₁ by
    cases hk : K.lookup a with
    | some o =>
      have e := KX a o hk
      rw [ha] at e
      cases e
      refine core (fun _ => none) (fun _ => Or.inl rfl) (Or.inr ⟨_, vs.toArray, _, hk, rfl, rfl, rfl, ?_, ?_⟩) ?_ ?_ ?_
      · rw [List.size_toArray, vlen]; exact hl
      · simpa using vals
      · intro b u z; cases (show (none : Option HO) = some u from z)
      · intro b z; exact absurd rfl z
      · intro z; exact absurd rfl z
    | none =>
      let H : Hp := fun b => if b = a then some (.frz { cls := .type "list", data := .seq vs.toArray } (.lst (ns.map V.int))) else none
      have Ha : H a = some (.frz { cls := .type "list", data := .seq vs.toArray } (.lst (ns.map V.int))) := if_pos rfl
      have Hn : ∀ b, b ≠ a → H b = none := fun b h => if_neg h
      refine core H ?_ (Or.inl (Or.inr ⟨_, Ha⟩)) ?_ ?_ (fun _ => hk)
      · intro b
        by_cases h : b = a
        · subst h; exact Or.inr ⟨_, _, Ha⟩
        · exact Or.inl (Hn b h)
      · intro b u z
        by_cases h : b = a
        · subst h
          cases Ha.symm.trans z
          exact ⟨ha, by rw [List.length_map]; exact hl, vs, _, vals, ha⟩
        · cases (Hn b h).symm.trans z
      · intro b z
        by_cases h : b = a
        · exact h
        · exact absurd (Hn b h) z
  intro H hO hS hok hA hK
  have one : ∀ {b : Addr} {u : HO}, H b = some u → b = a := fun {b u} q => hA b (by rw [q]; exact fun z => nomatch z)
  have keepN : ∀ {b : Addr} {o : Obj}, s₁.heap.get? b = some o → H b = none → (hidT s₁.heap H).get? b = some o := fun e n => hidT_get e n
  have noD : ∀ {b : Addr} {o : Obj} {es : Array DictEntry} {ep : Nat}, s₁.heap.get? b = some o → o.data = .dict es ep → H b = none := by
    intro b o es ep e d
    cases q : H b with
    | none => rfl
    | some u =>
      obtain rfl := one q
      rw [ha] at e
      cases e
      cases (show Data.seq vs.toArray _ = Data.dict es ep from d)
  have nsK : ∀ {b : Addr} {m : Str → Option Value}, s₁.heap.Ns b m → (hidT s₁.heap H).Ns b m := by
    rintro b m ⟨o, es, ep, e, d, r⟩
    exact ⟨o, es, ep, keepN e (noD e d), d, r⟩
  have hKb : K.In (hidT s₁.heap H) := by
    intro b o e
    refine keepN (KX b o e) ?_
    cases q : H b with
    | none => rfl
    | some u =>
      obtain rfl := one q
      rw [hK (by rw [q]; exact fun z => nomatch z)] at e
      cases e
  obtain ⟨mc, l1, l2⟩ := hlim
  have hM : Mod K mg (hidT s₁.heap H) := ⟨hKb, nsK hns, ⟨mb, nsK hb, hbb⟩, ⟨mc, nsK l1, l2⟩⟩
  have nil : ∀ b : Addr, b ∉ ([] : List Addr) := fun b z => nomatch z
  have e0 : Env0 P w K mg (hidT s₁.heap H) callerA [] s₁ H :=
    ⟨rfl, hM, fun b o e => of_hidT e, Nat.le_of_eq (hidT_size _ _), trivial, fun b hb => absurd (show b ∈ ([] : List Addr) from hb) (nil b), hok, .of_eq hg⟩
  have run := (F _ hKb (nsK hns)).go callerA [] s₁ H ⟨[.ref a], []⟩ [.ref a] [.ref a] _ _ rfl hr e0 (hbind s₁ (.ref a)) (.cons rfl .nil) (hsp H hO hS)
  refine codeAny_mono run ?_
  intro r s' h
  match r, h with
  | .error e, h => exact (hcx H e s' h).elim
  | .ok (.ret u), ⟨v, H', os, bare, un, hok', r', q⟩ =>
    obtain rfl : v = .bl true := q
    obtain rfl : u = Value.bool true := r'
    refine ⟨rfl, OldK.of_keep ?_, os, bare⟩
    intro b o e
    cases q : H b with
    | none => exact un.keep b o e q (fun z => absurd (show b ∈ ([] : List Addr) from z) (nil b)) (nil b)
    | some u =>
      rcases hO b with z | ⟨ob, xs, z⟩
      · rw [q] at z; cases z
      · obtain ⟨e1, _⟩ := hok b _ z
        obtain ⟨e2, _⟩ := hok' b _ (un.frzs b ob _ z)
        rw [e] at e1
        cases e1
        exact e2

theorem walkG {l : PySem.W.OpenLaw} {n k : Nat} {q : Program} {loose : List Str} {XP : (Str → Option Value) → Heap → Prop} {YP : World → Heap → Prop}
    {d : DefRec} {K : Params → PySem.W.Frag} {cx : World → CXT} {sp : World → Sp} {x : Str}
    (hn : l.most = some n) (hn2 : n ≤ sizeLine) (hdf : d.params.defaults = []) (hr : Room k callerA)
    (hY : ∀ (w : World) (h : Heap), YP w h → (K w.params).In h)
    (F : ∀ (w : World) (mg : Str → Option Value) (fa : Addr) (h : Heap), (K w.params).In h → h.Ns mainGlobals mg → mg d.name = some (.ref fa) →
      ∃ fd : FuncData, (∀ (s : Shared) (u : Value), BindsTo s fd ⟨[u], []⟩ [(x, u)]) ∧
        ∀ base : Heap, (K w.params).In base → base.Ns mainGlobals mg → OkG l.prog w (K w.params) mg base (cx w) k fa fd [x] (sp w))
    (hsp : ∀ (w : World) (H : Hp) (a : Addr) (ns : List Int), ns.length ≤ n → Only H → SqL (K w.params) H a (ns.map V.int) → sp w [.ref a] H (fun v _ => v = .bl true) fun _ _ _ => False)
    (hcx : ∀ (w : World) (H : Hp) (s : Shared) (e : Value) (s' : Shared), cx w [] H s (fun _ _ _ => False) e s' → False) :
    PySem.W.WalkO q loose XP YP l.row.toRowW d [] (fun f vs => PySem.call f vs) := by
  refine Att.attach_call hn hdf ?_
  intro w s₀ s₁ mg mb fa o pm cd doc a vs ns G Y ho hd hcd hmg hobj hints hlen hg
  have KX := hY w _ Y
  obtain ⟨fd, hb, hF⟩ := F w mg fa _ KX G.T.g hmg
  exact endG KX G.T.g G.T.b G.T.builtins G.T.nolimit hg hobj hints (Nat.le_trans hlen hn2) hr hF hb (fun H hO hS => hsp w H a ns hlen hO hS) (fun H e s' => hcx w H s₁ e s')
end DC
-- DE
set_option Elab.async false
set_option linter.all false
set_option maxRecDepth 100000
set_option maxHeartbeats 4000000
/-! DE: for i, x in enumerate(t), t a tuple. -/
namespace DC
open PySem PySem.Spec PyProof.Rows L2 Evl

theorem meets_enumB {v : Value} {ob : Obj} {J : Heap → Prop} (B : Begins v ob J) :
    Meets (Builtin.«enumerate.__new__» ⟨[.type "enumerate", v], []⟩) (fun _ R s => J s.heap ∧
      R (.ok (.ret (.ref (s.heap.push ob).objs.size)))
        { s with heap := (s.heap.push ob).push { cls := .type "enumerate", data := .fields #[.none, .bool false, .ref s.heap.objs.size, rawInt 0, .none, .none] } }) := by
  refine .of_wp ?_
  intro prog w A R s h
  obtain ⟨hp, g, d, tk, os⟩ := s
  obtain ⟨j0, h⟩ := h
  have hsub := sub_enumerate
  have step : ∀ {A' : Around} {E : Value → Shared → Prop} {Q : Value → Shared → Prop},
      Q (.ref hp.objs.size) ⟨hp.push ob, g, d, tk, os⟩ → wpAny (model prog w) A' (pyIter v) Q E ⟨hp, g, d, tk, os⟩ := by
    intro A' E Q q
    exact B.iter prog w _ _ ⟨hp, g, d, tk, os⟩ _ j0 q
  wp_walk using step
  refine wpAny_stack_any ?_
  intro st
  refine wpAny_pure ?_
  split
  · rename_i c _ _ _ _ _
    cases (c == Value.type "enumerate") <;> (wp_walk using step; exact ⟨_, rfl, h⟩)
  · wp_walk using step
    exact ⟨_, rfl, h⟩

section
variable {prog : Program} {w : World} {A : Around} {E : Value → Shared → Prop} {s : Shared}
theorem call_enumT {t : Addr} {items : Array Value} {Q : Value → Shared → Prop} (hT : s.heap.IsTuple t items)
    (h : ∀ h', IsEnum h' (s.heap.objs.size + 1) s.heap.objs.size 0 .none → h'.IsTupleIter s.heap.objs.size t 0 →
      (∀ b o, s.heap.get? b = some o → h'.get? b = some o) → Q (.ref (s.heap.objs.size + 1)) { s with heap := h' }) :
    wpAny (model prog w) A (call (.type "enumerate") [.ref t]) Q E s := by
  let it : Obj := { cls := .type "tuple_iterator", data := .fields #[.ref t, .int 0 0] }
  let en : Obj := { cls := .type "enumerate", data := .fields #[.none, .bool false, .ref s.heap.objs.size, rawInt 0, .none, .none] }
  have hz : (s.heap.push it).objs.size = s.heap.objs.size + 1 := Heap.size_push ..
  have he : ((s.heap.push it).push en).get? (s.heap.objs.size + 1) = some en := by
    have q := Heap.get?_push_size (s.heap.push it) (o := en) rfl
    rw [hz] at q
    exact q
  refine callType_new F.called_enumerate (by decide) (F.typeCall_enumerate_1 _) (F.newCall_enumerate_1 _) (fun obj => F.args_object_init_2 obj _) F.entry_enumerate_new
    (meets_enumB (begins_tuple t items)) ⟨hT, ?_⟩
  show _ ∧ _
  rw [show (s.heap.push { cls := .type "tuple_iterator", data := .fields #[.ref t, .int 0 0] }).objs.size = s.heap.objs.size + 1 from hz]
  refine ⟨⟨_, he, rfl⟩, h _ he ⟨it, Heap.get?_push_of_some _ (Heap.get?_push_size _ rfl), rfl, rfl⟩ ?_⟩
  intro b o x
  exact Heap.get?_push_of_some _ (Heap.get?_push_of_some _ x)
end

/-- the tuple at a, each item with its number in a new pair -/
def ItE (K : PySem.W.Frag) (a : Addr) : It :=
  ⟨fun i H => ∃ (xs : List V) (x : V), SqT K H a xs ∧ xs[i]? = some x,
   fun i H v H' => ∃ T x, v = .ref T ∧ H T = none ∧ H' = upd H T (.tup [.int (i : Nat), x]) ∧ ∀ xs, SqT K H a xs → xs[i]? = some x,
   fun i H => ∃ xs : List V, SqT K H a xs ∧ xs.length = i⟩

theorem turnE {P : Program} {w : World} {K : PySem.W.Frag} {elts : List Expr} {kk : Nat} {tpos : Pos} (a e it : Addr) (hai : a ≠ it) (hae : a ≠ e) :
    Turn P w K (.Tuple elts kk tpos) (ItE K a) [e, it] e (fun i h => (∃ old, IsEnum h e it ((i : Nat) : Int) old) ∧ h.IsTupleIter it a i ∧ e ≠ it) where
  mem := List.mem_cons_self ..
  obj := by
    rintro i h ⟨⟨old, he⟩, ⟨o, ho, hc, hd⟩, _⟩ b hb
    rcases (show b = e ∨ b = it by simpa using hb) with rfl | rfl
    · exact ⟨_, he, fun v q => nomatch q⟩
    · exact ⟨o, ho, fun v q => by rw [hd] at q; cases q⟩
  keep := by
    rintro i h h' ⟨⟨old, he⟩, hi, hne⟩ k
    exact ⟨⟨old, k e (by simp) _ he⟩, hi.at (fun o q => k it (by simp) o q), hne⟩
  item := by
    intro X hP hw hK hc i pins s σ H E I hf st hg
    subst hP hw hK
    obtain ⟨⟨old, he⟩, hit, hne⟩ := st
    obtain ⟨xs, x, hq, hx⟩ := hg
    obtain ⟨its, rv, p, hz⟩ := I.tuple hq
    obtain ⟨u, hu, ru⟩ := rv.get hx
    have hil : i < its.toArray.size := by
      have := (List.getElem?_eq_some_iff.mp hu).1
      simpa using this
    have hel : e < s.heap.objs.size := Heap.lt_size he
    have hitl : it < s.heap.objs.size := by obtain ⟨_, q, _⟩ := hit; exact Heap.lt_size q
    have D := Draws.tuple (prog := X.prog) (w := X.w) (A := X.A.in1) (I.ok.hd hc) it a hai its.toArray
    refine wpAny_pyNext_enum_itemD D he ⟨hit, p⟩ hil hne (by simp only [List.mem_cons, List.not_mem_nil, or_false, not_or]; exact ⟨hne, hae.symm⟩) ?_
    intro u' h' tk hu' ho st' hT hsz hk
    have eu : u' = u := by
      have q : its.toArray[i]? = some u' := hu'
      rw [List.getElem?_toArray, hu] at q
      exact (Option.some.inj q).symm
    subst eu
    refine ⟨_, rfl, wpAny_letOwnedTupleGo_enum (s := { s with heap := h', toks := tk + 1 }) ho ?_⟩
    intro h'' he' sb
    have hT2 : h''.get? s.heap.objs.size = some { cls := .type "tuple", data := .seq #[.int i tk, u'] } := (sb.2 _ (Nat.ne_of_gt hel)).trans hT
    have new : ObjOk X.prog X.w (upd H s.heap.objs.size (.tup [.int (i : Nat), x])) h'' s.heap.objs.size (.tup [.int (i : Nat), x]) :=
      ⟨by show 2 ≤ sizeLine; decide, [.int i tk, u'], .cons ⟨_, rfl⟩ (.cons ru .nil), ⟨_, hT2, rfl, _, rfl⟩⟩
    have I1 : Inv X pins σ (upd H s.heap.objs.size (.tup [.int (i : Nat), x])) { s with heap := h'', toks := tk + 1 } := by
      refine I.turnedNew (ch := [e, it]) ?_ hf (Nat.le_refl _) new
      intro b ob hb q
      exact (sb.2 b (fun z => hb (by simp [z]))).trans (hk b ob (fun z => hb (by simp [z])) (fun z => hb (by simp [z])) q)
    refine ⟨.ref s.heap.objs.size, _, I1, rfl, ⟨_, x, rfl, I.hok.fresh (Nat.le_refl _), rfl, ?_⟩, ⟨⟨u', ?_⟩, ?_, hne⟩, ?_⟩
    · intro ys hy
      rw [I.tuple_inj hy hq]
      exact hx
    · have e1 : ((i + 1 : Nat) : Int) = (i : Int) + 1 := by omega
      rw [e1]
      exact he'
    · exact st'.1.at fun o q => (sb.2 it (Ne.symm hne)).trans q
    · intro b hb
      have hb' : b < s.heap.objs.size := by
        rcases (show b = e ∨ b = it by simpa using hb) with rfl | rfl
        · exact hel
        · exact hitl
      rw [upd_ne (Nat.ne_of_lt hb')]
      exact (hf b hb).1
  done := by
    intro X hP hw hK hc i pins s σ H E I hf st hg
    subst hP hw hK
    obtain ⟨⟨old, he⟩, hit, hne⟩ := st
    obtain ⟨xs, hq, hx⟩ := hg
    obtain ⟨its, rv, p, hz⟩ := I.tuple hq
    obtain ⟨f0, f1, f2, f3, f4, f5⟩ := hf it (by simp)
    have hl := rv.length
    have D := Draws.tuple (prog := X.prog) (w := X.w) (A := X.A.in1) (I.ok.hd hc) it a hai its.toArray
    have hn : its.toArray.size = i := by rw [List.size_toArray, ← hl]; exact hx
    rw [← hn] at hit
    exact wpAny_pyNext_enum_endD D he ⟨hit, p⟩ fun h' eb => ⟨rfl, I.turned (t' := s.toks) (fun b o hb q => eb b o hb q) f0 f1 f3 f4 f5⟩
  self := by
    rintro A i s Q E ⟨⟨_, he⟩, _⟩ h
    exact wpAny_pyIter_enum he h

def iEnumT (K : PySem.W.Frag) (ta : TA) : TI := fun σ H R => ta σ H fun vs H1 => ∃ a xs, vs = [.ref a] ∧ SqT K H1 a xs ∧ R (ItE K a) H1
theorem pi_enumT {X : Cx} {e : Expr} {ta : TA} {p pos tpos : Pos} {elts : List Expr} {kk : Nat} (hg : Gl X "enumerate") (hm : X.mg "enumerate" = none)
    (ha : PA X [e] ta) (hs : starEach [e] X.env = [(false, eval e X.env)] := by rfl) :
    PI X (.Tuple elts kk tpos) (.Call (.Name "enumerate" p) [e] [] pos) (iEnumT X.K ta) := by
  constructor
  intro pins s σ H R I h
  refine Call_ (ld_blt I hg hm boot_enumerate (PyProof.Rows.callWith_type1 (thn (ha.run pos pins s σ H _ I h) ?_) hs rfl))
  rintro us s1 ⟨vs, H1, I1, r1, a, xs, rfl, hq, q⟩
  obtain rfl : us = [.ref a] := by
    cases r1 with
    | cons r rr => cases rr; cases r; rfl
  obtain ⟨its, rv, p', hz⟩ := I1.tuple hq
  have hlt : a < s1.heap.objs.size := p'.lt
  have h1 : a ≠ s1.heap.objs.size := Nat.ne_of_lt hlt
  have h2 : a ≠ s1.heap.objs.size + 1 := Nat.ne_of_lt (Nat.lt_succ_of_lt hlt)
  refine call_enumT p' ?_
  intro h' he hit hk
  refine wpAny_pyIter_enum he ?_
  have I2 : Inv X pins σ H1 { s1 with heap := h' } := I1.kept (t' := s1.toks) hk
  refine ⟨s1.heap.objs.size + 1, [s1.heap.objs.size + 1, s1.heap.objs.size], _, _, H1, rfl, I2, turnE a _ _ h1 h2, ⟨⟨.none, he⟩, hit, Nat.succ_ne_self _⟩, ?_, q⟩
  intro b hb
  have hle : s1.heap.objs.size ≤ b := by
    rcases (show b = s1.heap.objs.size + 1 ∨ b = s1.heap.objs.size by simpa using hb) with rfl | rfl
    · exact Nat.le_add_right _ _
    · exact Nat.le_refl _
  exact I1.fpOk hle (I1.hok.fresh hle)
theorem walk_enumT {K : PySem.W.Frag} {a : Addr} {xs : List V} :
    Walk (ItE K a) xs.length (fun H => SqT K H a xs) (YPair (fun i => some (.int (i : Nat))) (fun i => xs[i]?)) := by
  refine ⟨fun i _ hi q => ⟨xs, xs[i], q, by simp [hi]⟩, fun _ q => ⟨xs, q, rfl⟩, ?_⟩
  rintro i H v H' _ q ⟨T, x, h1, h2, h3, h4⟩
  exact ⟨T, .int (i : Nat), x, h1, h2, h3, rfl, h4 xs q⟩
end DC
-- DM
set_option Elab.async false
set_option linter.all false
set_option maxRecDepth 100000
set_option maxHeartbeats 4000000
/-! DM: lays as numbers, and how they stand in the heap. -/
namespace DC
open PySem L2
abbrev J2 := Nat × Nat
/-- two joints have no end in common -/
def Apart (p q : J2) : Prop := p.1 ≠ q.1 ∧ p.1 ≠ q.2 ∧ p.2 ≠ q.1 ∧ p.2 ≠ q.2
structure Good (n : Nat) (js : List J2) : Prop where
  one : 1 ≤ n
  top : n ≤ 12
  rng : ∀ p ∈ js, p.1 < p.2 ∧ p.2 < 2 * n
  asc : js.Pairwise (fun p q => p.1 < q.1)
  dis : js.Pairwise Apart
/-- a tuple of two ints at v -/
def Pr (K : PySem.W.Frag) (H : Hp) (v : V) (p : J2) : Prop := ∃ t, v = .ref t ∧ SqT K H t [.int (p.1 : Nat), .int (p.2 : Nat)]
/-- a tuple of such -/
def Js (K : PySem.W.Frag) (H : Hp) (v : V) (js : List J2) : Prop := ∃ t vs, v = .ref t ∧ SqT K H t vs ∧ Paired (Pr K H) vs js
/-- a lay -/
def Ly (K : PySem.W.Frag) (H : Hp) (v : V) (n : Nat) (js : List J2) : Prop := ∃ t u, v = .ref t ∧ SqT K H t [.int (n : Nat), u] ∧ Js K H u js
section
variable {K : PySem.W.Frag} {H H' : Hp} {v : V}
theorem Pr.up (e : Same H H') {p : J2} : Pr K H v p → Pr K H' v p
  | ⟨t, q, h⟩ => ⟨t, q, Same.t e h⟩
theorem Js.up (e : Same H H') {js : List J2} : Js K H v js → Js K H' v js
  | ⟨t, vs, q, h, r⟩ => ⟨t, vs, q, Same.t e h, L2.Paired.mapP r fun _ _ z => z.up e⟩
theorem Ly.up (e : Same H H') {n : Nat} {js : List J2} : Ly K H v n js → Ly K H' v n js
  | ⟨t, u, q, h, r⟩ => ⟨t, u, q, Same.t e h, r.up e⟩
end
theorem pair_at {α β : Type} {R : α → β → Prop} : ∀ {xs : List α} {ys : List β}, Paired R xs ys → ∀ {i : Nat} {x : α}, xs[i]? = some x → ∃ y, ys[i]? = some y ∧ R x y
  | _, _, .nil, i, x, h => by simp at h
  | _, _, .cons r t, 0, x, h => by
    have e := Option.some.inj h
    subst e
    exact ⟨_, rfl, r⟩
  | _, _, .cons r t, i + 1, x, h => pair_at t (i := i) h
/-- which ends of 2 n stand in some joints -/
def Seen (js : List J2) (e : Nat) : Prop := ∃ p ∈ js, e = p.1 ∨ e = p.2
theorem good_at {n : Nat} {js : List J2} (g : Good n js) {i : Nat} {p : J2} (h : js[i]? = some p) :
    p.1 < p.2 ∧ p.2 < 2 * n ∧ ¬ Seen (js.take i) p.1 ∧ ¬ Seen (js.take i) p.2 ∧ (∀ q, (js.take i).getLast? = some q → q.1 < p.1) := by
  obtain ⟨hi, e⟩ := List.getElem?_eq_some_iff.mp h
  have hm : p ∈ js := e ▸ List.getElem_mem hi
  have ap : ∀ q ∈ js.take i, Apart q p ∧ q.1 < p.1 := by
    intro q hq
    obtain ⟨j, hj, ej⟩ := List.mem_iff_getElem.mp hq
    have hj' : j < i ∧ j < js.length := by
      rw [List.length_take] at hj
      omega
    have e2 : js[j] = q := by rw [← ej, List.getElem_take]
    have a := List.pairwise_iff_getElem.mp g.dis j i hj'.2 hi hj'.1
    have b := List.pairwise_iff_getElem.mp g.asc j i hj'.2 hi hj'.1
    rw [e2, e] at a b
    exact ⟨a, b⟩
  refine ⟨(g.rng p hm).1, (g.rng p hm).2, ?_, ?_, ?_⟩
  · rintro ⟨q, hq, h | h⟩
    · exact (ap q hq).1.1 h.symm
    · exact (ap q hq).1.2.2.1 h.symm
  · rintro ⟨q, hq, h | h⟩
    · exact (ap q hq).1.2.1 h.symm
    · exact (ap q hq).1.2.2.2 h.symm
  · intro q hq
    exact (ap q (List.mem_of_getLast? hq)).2
end DC
-- DR
set_option Elab.async false
set_option linter.all false
set_option maxRecDepth 100000
set_option maxHeartbeats 4000000
/-! DR: data whose text is surely short. -/
namespace DC
open PySem L2
mutual
/-- ints of at most twenty figures, short texts of plain signs -/
def sm : PyData → Bool
  | .none | .bool _ => true
  | .int i => decide (i.natAbs < 10 ^ 20)
  | .str x => decide (x.length ≤ 100) && x.cps.toList.all (fun c => decide (c < 128))
  | .list xs | .tuple xs => smAll xs
  | .dict _ => false
def smAll : List PyData → Bool
  | [] => true
  | x :: xs => sm x && smAll xs
end
mutual
def wt : PyData → Nat
  | .none | .bool _ => 5
  | .int _ => 21
  | .str _ => 1002
  | .list xs | .tuple xs => wtAll xs + 4
  | .dict _ => 0
def wtAll : List PyData → Nat
  | [] => 0
  | x :: xs => wt x + 2 + wtAll xs
end
theorem textFrom_le : ∀ (ts : List Str) (k : Nat) (acc : Str), (textFrom k acc ts).length ≤ acc.length + piled ts
  | [], _, acc => Nat.le_add_right _ _
  | t :: ts, k, acc => by
    have ih := textFrom_le ts (k + 1) (acc ++ (if k > 0 then ", " else "" : String) ++ t)
    rw [piled_cons]
    refine Nat.le_trans ih ?_
    rw [strLen_append, strLen_append, ofString_length]
    split
    · have : (", " : String).length = 2 := by decide
      omega
    · have : ("" : String).length = 0 := by decide
      omega
theorem listText_le (ts : List Str) : (listText ts).length ≤ piled ts + 4 := by
  have h := textFrom_le ts 0 "["
  unfold listText
  rw [strLen_append, ofString_length]
  rw [ofString_length] at h
  have e1 : ("[" : String).length = 1 := by decide
  have e2 : ("]" : String).length = 1 := by decide
  omega
theorem tupleText_le (ts : List Str) : (tupleText ts).length ≤ piled ts + 4 := by
  unfold tupleText
  rw [strLen_append, strLen_append, ofString_length, ofString_length]
  have e1 : ("(" : String).length = 1 := by decide
  have e2 : (if (ts.length == 1) = true then ",)" else ")" : String).length ≤ 2 := by split <;> decide
  by_cases h : ts = []
  · subst h
    have e3 : (Str.join ", " ([] : List Str)).length = 0 := by decide
    omega
  · have j := join_length_add ts h
    omega
mutual
theorem sm_show : ∀ d : PyData, sm d = true → d.showable = true ∧ d.hasDict = false ∧ d.shown.length ≤ wt d
  | .none, _ => ⟨by simp only [PyData.showable], by simp only [PyData.hasDict], by simp only [PyData.shown, wt]; decide⟩
  | .bool b, _ => ⟨by simp only [PyData.showable], by simp only [PyData.hasDict], by simp only [PyData.shown, wt]; cases b <;> decide⟩
  | .int i, h => by
    simp only [sm, decide_eq_true_eq] at h
    refine ⟨?_, by simp only [PyData.hasDict], ?_⟩
    · simp only [PyData.showable, decide_eq_true_eq]
      by_cases z : i.natAbs = 0
      · rw [z]; decide
      · exact (Nat.log2_lt z).mpr (Nat.lt_trans h (by decide))
    · simp only [PyData.shown, wt]
      rw [ofString_length]
      exact int_text_length_le10 (by decide) h
  | .str x, h => by
    simp only [sm, Bool.and_eq_true, decide_eq_true_eq, List.all_eq_true] at h
    refine ⟨by simp only [PyData.showable], by simp only [PyData.hasDict], ?_⟩
    simp only [PyData.shown, wt]
    have q := StrLaws.reprText_len x fun c hc => Nat.lt_trans (h.2 c hc) (by decide)
    have := h.1
    omega
  | .list xs, h => by
    simp only [sm] at h
    obtain ⟨a, b, c⟩ := sm_showAll xs h
    refine ⟨by simpa only [PyData.showable] using a, by simpa only [PyData.hasDict] using b, ?_⟩
    simp only [PyData.shown, wt]
    have := listText_le (PyData.shownAll xs)
    omega
  | .tuple xs, h => by
    simp only [sm] at h
    obtain ⟨a, b, c⟩ := sm_showAll xs h
    refine ⟨by simpa only [PyData.showable] using a, by simpa only [PyData.hasDict] using b, ?_⟩
    simp only [PyData.shown, wt]
    have := tupleText_le (PyData.shownAll xs)
    omega
  | .dict _, h => by simp [sm] at h
theorem sm_showAll : ∀ xs : List PyData, smAll xs = true → PyData.showableAll xs = true ∧ PyData.hasDictAll xs = false ∧ piled (PyData.shownAll xs) ≤ wtAll xs
  | [], _ => ⟨by simp only [PyData.showableAll], by simp only [PyData.hasDictAll], by simp only [PyData.shownAll, wtAll, piled_nil]; decide⟩
  | x :: xs, h => by
    simp only [smAll, Bool.and_eq_true] at h
    obtain ⟨a, b, c⟩ := sm_show x h.1
    obtain ⟨a', b', c'⟩ := sm_showAll xs h.2
    refine ⟨by simp only [PyData.showableAll, a, a', Bool.and_self], by simp only [PyData.hasDictAll, b, b', Bool.or_self], ?_⟩
    simp only [PyData.shownAll, wtAll, piled_cons]
    omega
end
end DC
-- DS
set_option Elab.async false
set_option linter.all false
set_option maxRecDepth 100000
set_option maxHeartbeats 4000000
/-! DS: sorted of data of one shape (ints, texts, tuples of these, nested). -/
namespace DC
open PySem PySem.Spec PyProof.Rows L2 Evl
section
variable {K : PySem.W.Frag} {H : Hp}
theorem dpAll_len : ∀ {xs : List V} {ds : List PyData}, DpAll K H xs ds → xs.length = ds.length
  | _, _, .nil => rfl
  | _, _, .cons _ t => by rw [List.length_cons, List.length_cons, dpAll_len t]
theorem dpAll_zip : ∀ {xs : List V} {ds : List PyData}, DpAll K H xs ds → ∀ p ∈ xs.zip ds, Dp K H p.1 p.2
  | _, _, .nil, p, h => by simp at h
  | _, _, .cons a t, p, h => by
    rw [List.zip_cons_cons] at h
    rcases List.mem_cons.mp h with rfl | h
    · exact a
    · exact dpAll_zip t p h
theorem dpAll_of : ∀ (zs : List (V × PyData)), (∀ p ∈ zs, Dp K H p.1 p.2) → DpAll K H (zs.map Prod.fst) (zs.map Prod.snd)
  | [], _ => .nil
  | z :: zs, h => .cons (h z List.mem_cons_self) (dpAll_of zs fun p hp => h p (List.mem_cons_of_mem _ hp))
end
/-- sorted(xs): xs a list of data of one shape; the new list has the same things, in the data's order -/
def rSortD (K : PySem.W.Frag) : List V → Hp → VK → Prop := fun vs H Q => ∃ (a : Addr) (xs : List V) (ds : List PyData), vs = [.ref a] ∧ SqL K H a xs ∧ DpAll K H xs ds ∧ PySem.W.AllAlike ds ∧ PySem.W.Sortable ds ∧ (∀ d ∈ ds, d.depth ≤ 60) ∧
  ∀ (ys : List V) (p : Addr), ys.Perm xs → DpAll K H ys (ds.mergeSort (PySem.W.dataLe false id)) → H p = none → Q (.ref p) (upd H p (.lst ys))
theorem each_vals : ∀ {xs : List V} {us : List Value} {ds : List PyData}, Vals xs us → xs.length = ds.length → PySem.W.EachIs (fun (v : Value) (b : V × PyData) => RelV b.1 v) us (xs.zip ds)
  | _, _, [], .nil, _ => .nil
  | _, _, d :: ds, .cons r t, h => .cons r (each_vals t (Nat.succ.inj h))
  | _, _, [], .cons r t, h => by simp at h
  | _, _, d :: ds, .nil, h => by simp at h
theorem each_back : ∀ {us : List Value} {bs : List (V × PyData)}, PySem.W.EachIs (fun (v : Value) (b : V × PyData) => RelV b.1 v) us bs → Vals (bs.map Prod.fst) us
  | _, _, .nil => .nil
  | _, _, .cons r t => .cons r (each_back t)
theorem cr_sortD {X : Cx} (hu : X.A.units + 64 < cLine) : CallR X (.builtin "sorted") (rSortD X.K) := by
  intro pins s σ H vs us Q I r h
  obtain ⟨a, xs, ds, rfl, hs, hd, hal, hk, hp, q⟩ := h
  obtain ⟨its, rv, hl, hz⟩ := I.list hs
  rw [Vals.ref1 r]
  have len := dpAll_len hd
  have snd : (xs.zip ds).map Prod.snd = ds := by rw [List.map_snd_zip]; omega
  have fst : (xs.zip ds).map Prod.fst = xs := by rw [List.map_fst_zip]; omega
  have hb : (xs.zip ds).length = xs.length := by rw [List.length_zip]; omega
  have e1 := each_vals rv len
  have hdp := dpAll_zip hd
  refine PySem.W.sorted_data (bs := xs.zip ds) (enc := Prod.snd) (R := fun (v : Value) (b : V × PyData) => RelV b.1 v) hl.isList e1 ?_ (by rw [snd]; exact hal) (by rw [snd]; exact hk) (by rw [hb]; exact hz) (fun b hb => ?_) fun out ho eo => ?_
  · have gen : ∀ {us : List Value} {bs : List (V × PyData)}, PySem.W.EachIs (fun (v : Value) (b : V × PyData) => RelV b.1 v) us bs → (∀ b ∈ bs, Dp X.K H b.1 b.2) → PySem.W.EachIs (fun v (b : V × PyData) => ∃ as, Reads s.heap v b.2 as) us bs := by
      intro us bs e
      induction e with
      | nil => intro _; exact .nil
      | cons r t ih => intro h; exact .cons (Dp.reads I _ _ _ (h _ List.mem_cons_self) r) (ih fun b hb => h b (List.mem_cons_of_mem _ hb))
    exact gen e1 hdp
  · have : b.2 ∈ ds := by
      rw [← snd]
      exact List.mem_map.mpr ⟨b, hb, rfl⟩
    have := hp _ this
    omega
  · obtain ⟨ep, he'⟩ := PyProof.Rows.sortedAll_at s.heap its out.toArray
    have pm : ((xs.zip ds).mergeSort (PySem.W.dataLe false Prod.snd)).Perm (xs.zip ds) := List.mergeSort_perm _ _
    have p2 : (((xs.zip ds).mergeSort (PySem.W.dataLe false Prod.snd)).map Prod.fst).Perm xs := by
      have := pm.map Prod.fst
      rw [fst] at this
      exact this
    have hlen : (((xs.zip ds).mergeSort (PySem.W.dataLe false Prod.snd)).map Prod.fst).length ≤ sizeLine := by
      rw [p2.length_eq]
      exact hz
    have ms : ((xs.zip ds).mergeSort (PySem.W.dataLe false Prod.snd)).map Prod.snd = ds.mergeSort (PySem.W.dataLe false id) := by
      have z := List.map_mergeSort (r := PySem.W.dataLe false (Prod.snd : V × PyData → PyData)) (s := PySem.W.dataLe false id) (f := Prod.snd) (l := xs.zip ds) (fun a _ b _ => rfl)
      rw [snd] at z
      exact z
    refine ⟨.ref _, upd H (s.heap.objs.size + 1) (.lst (((xs.zip ds).mergeSort (PySem.W.dataLe false Prod.snd)).map Prod.fst)), I.laid (t' := s.toks) (fun _ _ => PyProof.Rows.sortedAll_old) (Nat.le_succ _) ⟨hlen, out, ep, each_back eo, he'⟩, rfl, q _ _ p2 ?_ (I.hok.fresh (Nat.le_succ _))⟩
    rw [← ms]
    exact dpAll_of _ fun p hp => hdp p (pm.mem_iff.mp hp)
end DC
-- DX
set_option Elab.async false
set_option linter.all false
set_option maxRecDepth 100000
set_option maxHeartbeats 4000000
/-! DX: max of a list of data of one shape. -/
namespace DC
open PySem PySem.Spec PyProof.Rows L2 Evl
theorem dpAll_at {K : PySem.W.Frag} {H : Hp} : ∀ {xs : List V} {ds : List PyData} {i : Nat} {x : V}, DpAll K H xs ds → xs[i]? = some x → ∃ d, ds[i]? = some d ∧ Dp K H x d
  | _, _, i, x, .nil, h => by simp at h
  | _, _, 0, x, .cons a t, h => by
    have e := Option.some.inj h
    subst e
    exact ⟨_, rfl, a⟩
  | _, _, i + 1, x, .cons a t, h => dpAll_at (i := i) t h
theorem maxD_mem : ∀ (ds : List PyData) (d : PyData), PySem.W.maxD d ds ∈ d :: ds := by
  intro ds
  unfold PySem.W.maxD
  induction ds with
  | nil => intro d; exact List.mem_cons_self
  | cons e ds ih =>
    intro d
    rw [List.foldl_cons]
    have h := ih (if PySem.W.dataLt d e then e else d)
    rcases List.mem_cons.mp h with z | z
    · rw [z]
      split
      · exact List.mem_cons_of_mem _ List.mem_cons_self
      · exact List.mem_cons_self
    · exact List.mem_cons_of_mem _ (List.mem_cons_of_mem _ z)
def rMaxD (K : PySem.W.Frag) : List V → Hp → VK → Prop := fun vs H Q => ∃ (a : Addr) (xs : List V) (d : PyData) (ds : List PyData), vs = [.ref a] ∧ SqL K H a xs ∧ DpAll K H xs (d :: ds) ∧ PySem.W.AlikeAll (d :: ds) ∧ PyData.depthAll (d :: ds) ≤ 60 ∧
  ∀ y, y ∈ xs → Dp K H y (PySem.W.maxD d ds) → Q y H
theorem cr_maxD {X : Cx} (hc : X.calm = true) (hu : X.A.units + 64 < cLine) : CallR X (.builtin "max") (rMaxD X.K) := by
  intro pins s σ H vs us Q I r h
  obtain ⟨a, xs, d, ds, rfl, hs, hd, hal, hp, q⟩ := h
  obtain ⟨its, rv, hl, hz⟩ := I.list hs
  rw [Vals.ref1 r]
  obtain ⟨as, hr⟩ := Dp.readsAll I _ _ _ hd rv
  refine PySem.W.max_list_data (I.ok.hd hc) hl.isList hr hal (by omega) fun i v h' tk bs hv hrd hk => ?_
  have hv' : its[i]? = some v := by simpa using hv
  have hi : i < xs.length := by
    have := (List.getElem?_eq_some_iff.mp hv').1
    have := rv.length
    omega
  have hx : xs[i]? = some xs[i] := List.getElem?_eq_getElem hi
  obtain ⟨u, hu2, ru⟩ := rv.get hx
  obtain rfl : v = u := Option.some.inj (hv'.symm.trans hu2)
  obtain ⟨d', hd', dp⟩ := dpAll_at hd hx
  obtain ⟨as', hr'⟩ := Dp.reads I _ _ _ dp ru
  have e := PySem.W.alike_unique d' (PySem.W.maxD d ds) _ _ _ (hal.1 _ (List.mem_of_getElem? hd') _ (maxD_mem ds d)) (PyProof.Rows.Reads.keeps hk hr') hrd
  rw [e] at dp
  exact ⟨xs[i], H, I.kept (t' := tk) hk, ru, q _ (List.getElem_mem hi) dp⟩
end DC
-- DL
set_option Elab.async false
set_option linter.all false
set_option maxRecDepth 100000
set_option maxHeartbeats 4000000
/-! DL: sorted(xs, key=lambda y: y[1]), the keys tuples of ints. -/
namespace DC
open PySem PySem.Spec PyProof.Rows L2 Evl LamX
section
variable {prog : Program} {w : World} {A : Around} {s : Shared}
/-- (lambda y: y[1])(t), t a tuple -/
theorem lam1_run {f t c' : Addr} {qual y : Str} {params : Arguments} {scope : Scope} {pm ctv : Value} {q1 q2 q3 : Pos} {j : Nat} {items : Array Value} {v1 : Value} {d : PyData}
    (hroom : A.depth < recursionLimit) (hlim : s.heap.NoLimit)
    (ho : s.heap.get? f = some (PySem.W.kla_obj "<lambda>" qual params (.Subscript (.Name y q1) (.Constant (.int 1) j q2) q3) scope [] pm c' ctv)) (hcd : s.heap.CodeRec (.ref c') qual)
    (hbind : ∀ v, bindArgs (PySem.W.kla_fn "<lambda>" qual params (.Subscript (.Name y q1) (.Constant (.int 1) j q2) q3) scope [] pm (.ref c') ctv) ⟨[v], []⟩ = pure [(y, v)])
    (hk : scope.kind = .function) (hl : scope.names.lookup y = some .local) (hc : ∀ x ∈ scope.names, x.2 ≠ .cell) (hco : scope.isCoroutine = false) (hgen : scope.isGenerator = false) (hd : (y == ("__debug__" : Str)) = false)
    (hT : IsTup s.heap t items) (h1 : items[1]? = some v1) (hr : ∀ h', (∀ b o, s.heap.get? b = some o → h'.get? b = some o) → Reads h' v1 d []) :
    wpAny (model prog w) A (call (.ref f) [.ref t]) (PySem.W.KeyPure d s) (fun _ _ => False) s := by
  have h1s : 1 < items.size := (Array.getElem?_eq_some_iff.mp h1).1
  refine wpAny_call (PySem.W.kla_callFunE hroom ho rfl hco hgen rfl hcd ?_)
  rw [hbind]
  refine wpAny_pure (wpAny_newFunctionEnv hc (fun x hx => ?_) (fun h₁ hns hsb => ⟨hlim.fresh _ hsb, ?_⟩) hk)
  · obtain rfl := List.mem_singleton.mp hx
    exact hl
  · show codeAny _ _ (.expr _ (PySem.W.envX qual scope s.heap.objs.size f (.ref c') [])) _ _
    have kp : ∀ b o, s.heap.get? b = some o → h₁.get? b = some o := fun b o e => hsb.extBut b o (Nat.ne_of_lt (Heap.lt_size e)) (Heap.get?_push_of_some _ e)
    have hT' : IsTup h₁ t items := by
      obtain ⟨o, a, b⟩ := hT
      exact ⟨o, kp _ _ a, b⟩
    refine PySem.W.kla_codeExpr (Subscript_Constant (wpAny_Name (wpAny_loadName_local (v := .ref t) hk ?_ hns ?_ ?_) hd))
    · exact hl
    · show List.lookup y [(y, Value.ref t)] = some (Value.ref t)
      simp [List.lookup]
    · refine wpAny_Constant_int ⟨"tuple", "tuple.__getitem__", slot_tuple_getitem.lookup, hT'.typeIs, getItem_tuple (j := 1) hT' (by decide) (by decide) (ixN_seq (Evl.ixN_nat (n := items.size) (j := 1) h1s)).1 h1 ?_⟩
      exact ⟨h₁, _, rfl, kp, hr h₁ kp⟩
end
def tupD (k : List Int) : PyData := .tuple (k.map PyData.int)
theorem reads_ints {h : Heap} : ∀ {k : List Int} {its : List Value}, Vals (k.map V.int) its → ReadsAll h its (k.map PyData.int) []
  | [], _, r => by
    cases r
    exact .nil
  | i :: k, _, r => by
    cases r with
    | cons a t =>
      obtain ⟨tk, rfl⟩ := a
      exact ReadsAll.cons (as := []) (bs := []) (Reads.int i tk) (reads_ints t)
theorem alike_ints : ∀ (k l : List Int), PySem.W.alikeAll (k.map PyData.int) (l.map PyData.int) = true
  | [], l => by cases l <;> simp [PySem.W.alikeAll]
  | a :: k, [] => by simp [PySem.W.alikeAll]
  | a :: k, b :: l => by
    simp only [List.map_cons, PySem.W.alikeAll, PySem.W.alike, alike_ints k l, Bool.and_self]
theorem alike_tup (k l : List Int) : PySem.W.alike (tupD k) (tupD l) = true := by
  unfold tupD
  simp only [PySem.W.alike, alike_ints]
theorem each_valsB {β : Type} : ∀ {xs : List V} {us : List Value} {ds : List β}, Vals xs us → xs.length = ds.length → PySem.W.EachIs (fun (v : Value) (b : V × β) => RelV b.1 v) us (xs.zip ds)
  | _, _, [], .nil, _ => .nil
  | _, _, d :: ds, .cons r t, h => .cons r (each_valsB t (Nat.succ.inj h))
  | _, _, [], .cons r t, h => by simp at h
  | _, _, d :: ds, .nil, h => by simp at h
theorem each_backB {β : Type} : ∀ {us : List Value} {bs : List (V × β)}, PySem.W.EachIs (fun (v : Value) (b : V × β) => RelV b.1 v) us bs → Vals (bs.map Prod.fst) us
  | _, _, .nil => .nil
  | _, _, .cons r t => .cons r (each_backB t)
/-- an item: a pair whose second thing is a tuple of ints, not empty -/
def KeyAt (K : PySem.W.Frag) (H : Hp) (x : V) (k : List Int) : Prop := ∃ t u t2, x = .ref t ∧ SqT K H t [u, .ref t2] ∧ SqT K H t2 (k.map V.int) ∧ k ≠ []
def byKey (p : V × List Int) : PyData := tupD p.2
def tSortLam (K : PySem.W.Frag) (T : List (Addr × Str)) (te : TE) : TE := fun σ H Q => te σ H fun v H1 => Tabs T H1 ∧ ∀ H2, ExtN H1 H2 → Tabs T H2 → ∃ (a : Addr) (xs : List V) (ks : List (List Int)),
  v = .ref a ∧ SqL K H2 a xs ∧ xs.length = ks.length ∧ (∀ p ∈ xs.zip ks, KeyAt K H2 p.1 p.2) ∧
  ∀ (q : Addr), H2 q = none → Q (.ref q) (upd H2 q (.lst (((xs.zip ks).mergeSort (PySem.W.dataLe false byKey)).map Prod.fst)))
section
variable {X : Cx}
theorem pe_sortLam {T : List (Addr × Str)} {c P : Addr} {e : Expr} {te : TE} {y : Str} {params : Arguments} {scope : Scope} {j k : Nat} {p q1 q2 q3 pos kp cpos : Pos}
    (TB : TabB X.base X.mg c P) (hcode : X.env.code = .ref c) (hmT : (P, X.env.qual ++ "<lambda>") ∈ T) (hu : ∀ p ∈ T, p.1 = P → p.2 = X.env.qual ++ "<lambda>")
    (hr : Room k X.A) (hg : Gl X "sorted") (hm : X.mg "sorted" = none) (he : PE X e te)
    (hbind : ∀ c' pm ctv v, bindArgs (PySem.W.kla_fn "<lambda>" (X.env.qual ++ "<lambda>") params (.Subscript (.Name y q1) (.Constant (.int 1) j q2) q3) scope [] pm (.ref c') ctv) ⟨[v], []⟩ = pure [(y, v)])
    (hdef : defaultsOf params X.env = ([], [])) (hfree : ∀ z ∈ scope.names, z.2 = .free → ∃ c, X.env.cells.lookup z.1 = some c) (hclo : cloFrom X.env.cells scope.names [] = [])
    (hk : scope.kind = .function) (hl : scope.names.lookup y = some .local) (hcell : ∀ x ∈ scope.names, x.2 ≠ .cell) (hco : scope.isCoroutine = false) (hgen : scope.isGenerator = false) (hd : (y == ("__debug__" : Str)) = false)
    (hb : backTo cpos (starEach [e] X.env) = (false, eval e X.env) :: backTo cpos (starEach [] X.env) := by rfl) (hpl : (backTo cpos (starEach [e] X.env)).any (·.1) = false := by rfl) (na : starEach [e] X.env = (false, eval e X.env) :: starEach [] X.env := by rfl) :
    PE X (.Call (.Name "sorted" p) [e] [⟨some "key", .Lambda params (.Subscript (.Name y q1) (.Constant (.int 1) j q2) q3) scope pos, kp⟩] cpos) (tSortLam X.K T te) := by
  refine ⟨fun pins s σ H Q I h => ?_⟩
  refine wpAny_Call_Name_kw (ld_blt (u := .builtin "sorted") I hg hm (by decide +kernel) ?_ (by decide) (by decide))
  refine PyProof.Rows.callWith_kw (thn ((pa_cons he pa_nil na).run cpos pins s σ H (fun vs H1 => match vs with
    | [v] => Tabs T H1 ∧ ∀ H2, ExtN H1 H2 → Tabs T H2 → ∃ (a : Addr) (xs : List V) (ks : List (List Int)),
      v = .ref a ∧ SqL X.K H2 a xs ∧ xs.length = ks.length ∧ (∀ p ∈ xs.zip ks, KeyAt X.K H2 p.1 p.2) ∧
      ∀ (q : Addr), H2 q = none → Q (.ref q) (upd H2 q (.lst (((xs.zip ks).mergeSort (PySem.W.dataLe false byKey)).map Prod.fst)))
    | _ => False) I h) fun us s1 hh => ?_) hb hpl
  obtain ⟨vs, H1, I1, r1, hh⟩ := hh
  match vs, r1, hh with
  | [], _, hh => exact hh.elim
  | _ :: _ :: _, _, hh => exact hh.elim
  | [v], r1, ⟨hT1, qq⟩ =>
  show wpAny _ _ (evalAll ((do let v ← eval (.Lambda params (.Subscript (.Name y q1) (.Constant (.int 1) j q2) q3) scope pos) X.env; standAt cpos; pure v) :: [])) _ _ s1
  refine wpAny_evalAll_cons (wpAny_bind (lam_make2 I1 TB hcode hmT hu hT1 hdef hfree fun f c' pm ctv H2 s2 I2 eN T2 hf hfn hfr hcc => wpAny_bind (wpAny_standAt (wpAny_pure ?_))))
  refine wpAny_evalAll_nil ?_
  rw [hclo] at hf
  obtain ⟨a, xs, ks, rfl, hs, hlen, hkey, q⟩ := qq H2 eN T2
  obtain ⟨its, rv, hl2, hz⟩ := I2.list hs
  rw [Vals.ref1 r1]
  show wpAny (model X.prog X.w) X.A (call (.builtin "sorted") [.ref a] [(Str.ofString "key", .ref f)]) (EP X pins σ Q) X.xe s2
  obtain ⟨⟨oc, cvs, ct, hoc, hdc, hvc⟩, _, _⟩ := I2.hok c' _ hcc
  have hbl : (xs.zip ks).length = xs.length := by rw [List.length_zip]; omega
  refine PySem.W.sorted_key_data (bs := xs.zip ks) (b := false) (R := fun (v : Value) (b : V × List Int) => RelV b.1 v) byKey hl2.isList (each_valsB rv hlen) ?_ ?_ (by rw [hbl]; exact hz) ?_ (PyProof.Rows.ksk_s1 _ _) (fun x => PyProof.Rows.ksk_l1 _ _) (fun x => PyProof.Rows.ksk_t1 f x) ?_ ?_
  · intro d hd d' hd'
    obtain ⟨b, _, rfl⟩ := List.mem_map.mp hd
    obtain ⟨b', _, rfl⟩ := List.mem_map.mp hd'
    exact alike_tup _ _
  · refine .inl fun d hd => ?_
    obtain ⟨b, hb, rfl⟩ := List.mem_map.mp hd
    obtain ⟨_, _, _, _, _, _, ne⟩ := hkey b hb
    unfold byKey tupD
    cases hk2 : b.2 with
    | nil => exact absurd hk2 ne
    | cons z r => exact ⟨_, _, rfl⟩
  · intro b hb
    have := hr.units
    have hd1 : (byKey b).depth ≤ 1 := by
      unfold byKey tupD
      simp only [PyData.depth]
      have : ∀ cs : List Int, PyData.depthAll (cs.map PyData.int) = 0 := by
        intro cs
        induction cs with
        | nil => simp only [List.map_nil, PyData.depthAll]
        | cons c cs ih => simp only [List.map_cons, PyData.depthAll, PyData.depth, ih, Nat.max_self]
      rw [this]
      omega
    omega
  · intro v b hR hb h tk up
    obtain ⟨t, u, t2, e1, hq, hq2, _⟩ := hkey b hb
    rw [e1] at hR
    obtain rfl : v = Value.ref t := hR
    obtain ⟨its1, rv1, pl1, _⟩ := I2.tuple hq
    obtain ⟨its2, rv2, ⟨o2, ho2, hc2, n2, hd2⟩, _⟩ := I2.tuple hq2
    obtain ⟨w1, ew1, rw1⟩ := rv1.get (i := 1) (x := .ref t2) rfl
    obtain rfl : w1 = Value.ref t2 := rw1
    have hT' : IsTup h t its1.toArray := by
      obtain ⟨o, a, b⟩ := pl1
      exact ⟨o, up _ _ a, b⟩
    refine lam1_run (s := { s2 with heap := h, toks := tk }) (show X.A.in1.in1.depth < recursionLimit from hr.depth) (I2.nolimit.keeps up) (up _ _ hf) ⟨c', oc, cvs, ct, rfl, up _ _ hoc, hdc, hvc⟩ (hbind c' pm ctv) hk hl hcell hco hgen hd hT' (by simpa using ew1) fun h' up' => ?_
    exact Reads.tuple (up' _ _ (up _ _ ho2)) hc2 hd2 (reads_ints rv2)
  · intro out cc h' tk up hn hg' ho eo
    have pm2 : (((xs.zip ks).mergeSort (PySem.W.dataLe false byKey)).map Prod.fst).length = xs.length := by
      rw [List.length_map, List.length_mergeSort, hbl]
    refine ⟨.ref _, upd H2 (s2.heap.objs.size + 1) (.lst (((xs.zip ks).mergeSort (PySem.W.dataLe false byKey)).map Prod.fst)), I2.laid (t' := tk) up (Nat.le_succ _) ⟨by rw [pm2]; exact hz, out, cc, each_backB eo, hg'⟩, rfl, q _ (I2.hok.fresh (Nat.le_succ _))⟩
end
end DC
-- DV
set_option Elab.async false
set_option linter.all false
set_option maxRecDepth 100000
set_option maxHeartbeats 4000000
/-! DV: a range kept in a name, and walked (again). -/
namespace DC
open PySem PySem.Spec PyProof.Rows L2 Evl
section
variable {X : Cx}
theorem cr_range1 : CallR X (.type "range") (fun vs H Q => ∃ j, vs = [V.int j] ∧ ∀ p, H p = none → Q (.ref p) (upd H p (.rng 0 j))) := by
  intro pins s σ H vs us Q I r h
  obtain ⟨j, rfl, q⟩ := h
  obtain ⟨u1, rfl, rj⟩ : ∃ u, us = [u] ∧ RelV (.int j) u := by
    cases r with
    | cons a b => cases b; exact ⟨_, rfl, a⟩
  obtain ⟨u, rfl⟩ := rj
  exact call_range_1 ⟨.ref s.heap.objs.size, upd H s.heap.objs.size (.rng 0 j), I.laid (fun b o e => Heap.get?_push_of_some _ e) (Nat.le_refl _) ⟨_, _, _, Heap.get?_push_size _ rfl⟩, rfl, q _ (I.hok.fresh (Nat.le_refl _))⟩
def iRngV (te : TE) : TI := fun σ H R => te σ H fun v H1 => ∃ (a : Addr) (j : Nat), v = .ref a ∧ H1 a = some (.rng 0 (j : Nat)) ∧ j < 1000000 ∧ R (Itr 0 j) H1
theorem pi_rngV {tg e : Expr} {te : TE} (he : PE X e te) : PI X tg e (iRngV te) := by
  constructor
  intro pins s σ H R I h
  refine thn (he.run pins s σ H _ I h) ?_
  rintro v s1 ⟨x, H1, I1, r1, a, j, rfl, hq, hj, q⟩
  cases r1
  obtain ⟨t, u, v, hob⟩ := I1.hok a _ hq
  have hIs : IsRange s1.heap a 0 ((j : Nat) : Int) 1 t u v := hob
  refine wpAny_pyIter_range hIs (small_one (by omega) (by omega) (by omega) (by omega)) ?_
  refine ⟨s1.heap.objs.size, [s1.heap.objs.size], _, _, H1, rfl, I1.kept (t' := s1.toks) fun b o e => Heap.get?_push_of_some _ e, turn_range _ 0 j, ?_, fun b hb => ?_, q⟩
  · have e1 : (0 : Int) + ((0 : Nat) : Int) * 1 = 0 := by simp
    have e2 : ((j : Nat) : Int) - ((0 : Nat) : Int) = Builtin.Range.rangeSize 0 ((j : Nat) : Int) 1 := by rw [rangeSize_one]; split <;> omega
    show IsRangeIter _ _ ((0 : Int) + ((0 : Nat) : Int) * 1) (((j : Nat) : Int) - ((0 : Nat) : Int)) 1
    rw [e1, e2]
    exact Heap.get?_push_size _ rfl
  · have e : b = s1.heap.objs.size := by simpa using hb
    subst e
    exact I1.fpOk (Nat.le_refl _) (I1.hok.fresh (Nat.le_refl _))
end
end DC
-- K15a
set_option Elab.async false
set_option linter.all false
set_option maxRecDepth 100000
set_option maxHeartbeats 4000000
namespace K15
open PySem L2 DC
def top (i : Nat) : Stmt := PySem.Challenge.pw_doublecut_k15_whole_good_steps_by_pieces.main.body.getD i (.Pass ⟨0, 0, 0, 0⟩)

/-- built-in names that the text leaves alone -/
structure Bn (mg : Str → Option Value) : Prop where
  isi : mg "isinstance" = none
  int : mg "int" = none
  bool : mg "bool" = none
  tuple : mg "tuple" = none
  len : mg "len" = none
  enum : mg "enumerate" = none
  range : mg "range" = none
  list : mg "list" = none
  repr : mg "repr" = none
  sorted : mg "sorted" = none
  sum : mg "sum" = none
  min : mg "min" = none
  max : mg "max" = none
  abs : mg "abs" = none
  zip : mg "zip" = none
  all : mg "all" = none

/-- a def as callers find it -/
structure Df (K : PySem.W.Frag) (mg : Str → Option Value) (nm : Str) (f : Addr) (fd : FuncData) (ps : List Str) : Prop where
  g : mg nm = some (.ref f)
  kp : PySem.W.keepIn K (.ref f) = true
  b : Binds K fd ps []
section
variable {X : Cx} {k : Nat} {x : Str} {f : Addr} {fd : FuncData} {ps : List Str} {sp : Sp} {p pos : Pos} {e : Expr} {es : List Expr} {t : TA}
theorem cl (D : Df X.K X.mg x f fd ps) (G : OkG X.prog X.w X.K X.mg X.base CX0 k f fd ps sp) (hgd : X.A.guards = some []) (hr : Room k X.A)
    (ha : PA X (e :: es) t) (hg : Gl X x := by rfl) (hdb : (x == ("__debug__" : Str)) = false := by decide)
    (he : starEach (e :: es) X.env = (false, eval e X.env) :: starEach es X.env := by rfl)
    (hpl : (backTo pos (starEach es X.env)).any (·.1) = false := by rfl) : PE X (.Call (.Name x p) (e :: es) [] pos) (tCall sp [] E0 t) :=
  callG G hgd hr hg D.g D.kp D.b .nil pass0 ha hdb he hpl
/-- isinstance(e, T), T a built-in class -/
theorem isi {te : TE} {T : String} {n : Str} {p2 : Pos} (hm : X.mg "isinstance" = none) (ht : X.mg n = none) (ha : PE X e te) (hv : bootBuiltins n = some (.type T))
    (hg : Gl X "isinstance" := by rfl) (hg2 : Gl X n := by rfl) (hn : n ≠ "__name__" := by decide) (hd : (n == ("__debug__" : Str)) = false := by decide)
    (h1 : starEach [e, .Name n p2] X.env = (false, eval e X.env) :: starEach [.Name n p2] X.env := by rfl)
    (hpl : (backTo pos (starEach [.Name n p2] X.env)).any (·.1) = false := by rfl) :
    PE X (.Call (.Name "isinstance" p) [e, .Name n p2] [] pos) (tCB (rIsi X.K) (tCons te (tCons (tC (.ty T)) tNil))) :=
  pe_callB call_isi hg hm (by decide +kernel) (pa_cons ha (pa_cons (pe_bltn (v := .ty T) hg2 ht hv rfl hn hd) pa_nil) h1) (by decide) (by decide) h1 hpl
end

section
variable {P : Program} {w : World} {K : PySem.W.Frag} {mg : Str → Option Value} {base : Heap}
abbrev OkF (P : Program) (w : World) (K : PySem.W.Frag) (mg : Str → Option Value) (base : Heap) (k : Nat) (f : Addr) (fd : FuncData) (ps : List Str) (sp : Sp) : Prop :=
  OkG P w K mg base CX0 k f fd ps sp

/-! is_int, of an int -/
def spInt : Sp := fun vs H Q _ => ∃ i : Int, vs = [.int i] ∧ Q (.bl true) H
theorem sc7 : FnScope ["value"] ["value"] (defScope (top 6)) := ⟨rfl, rfl, rfl, by decide +kernel, rfl, by decide +kernel, by decide +kernel⟩
theorem ok7 {f : Addr} {fd : FuncData} (F : Fun K "is_int" "is_int" (top 6) f fd) (B : Bn mg) : OkF P w K mg base 1 f fd ["value"] spInt := by
  refine ok0 F sc7 (fun vs H Q E h => ?_) (fun cdv A outer s H vs Q E hgd hr h => ?_)
  · obtain ⟨i, rfl, _⟩ := h; rfl
  · obtain ⟨i, rfl, q⟩ := h
    refine ⟨_, pss_one (ps_ret (pe_and (isi (T := "int") B.isi B.int (pv 0) (by decide +kernel)) (pe_one (pe_not (isi (T := "bool") B.isi B.bool (pv 0) (by decide +kernel)))))), ?_⟩
    refine ⟨_, rfl, _, _, _, _, true, rfl, .ty _, .base (.int i), kit_ty (by decide +kernel), true, rfl, ?_⟩
    exact ⟨_, rfl, _, _, _, _, false, rfl, .ty _, .base (.int i), kit_ty (by decide +kernel), false, rfl, q⟩

/-! is_from -/
def spFrom : Sp := fun vs H Q _ => ∃ v lo hi : Int, vs = [.int v, .int lo, .int hi] ∧ lo ≤ v ∧ v ≤ hi ∧ Q (.bl true) H
theorem sc8 : FnScope ["value", "least", "most"] ["value", "least", "most"] (defScope (top 7)) := ⟨rfl, rfl, rfl, by decide +kernel, rfl, by decide +kernel, by decide +kernel⟩
theorem ok8 {f f7 : Addr} {fd fd7 : FuncData} (F : Fun K "is_from" "is_from" (top 7) f fd)
    (D7 : Df K mg "is_int" f7 fd7 ["value"]) (G7 : OkF P w K mg base 1 f7 fd7 ["value"] spInt) : OkF P w K mg base 2 f fd ["value", "least", "most"] spFrom := by
  refine ok0 F sc8 (fun vs H Q E h => ?_) (fun cdv A outer s H vs Q E hgd hr h => ?_)
  · obtain ⟨v, lo, hi, rfl, _⟩ := h; rfl
  · obtain ⟨v, lo, hi, rfl, h1, h2, q⟩ := h
    refine ⟨_, pss_one (ps_ret (pe_and (cl D7 G7 hgd hr (pa_cons (pv 0) pa_nil)) (pe_one (pe_chain op_le op_le (pv 1) (pv 0) (pv 2))))), ?_⟩
    refine ⟨_, rfl, v, rfl, true, rfl, iteT ?_⟩
    refine ⟨_, rfl, _, rfl, lo, v, rfl, rfl, _, rfl, ?_⟩
    rw [decide_eq_true h1]
    refine iteT ⟨_, rfl, v, hi, rfl, rfl, ?_⟩
    show Q (.bl (decide (v ≤ hi))) H
    rw [decide_eq_true h2]
    exact q

/-! is_pair -/
theorem tyT {H : Hp} {a : Addr} {xs : List V} (h : SqT K H a xs) : TyX K H (.ref a) (.type "tuple") := by
  rcases h with (h | ⟨o, h⟩) | ⟨o, its, n, h, hc, _⟩
  · exact .base (.tup h)
  · exact .fTuple h
  · exact .kTuple h hc
def spPair (K : PySem.W.Frag) : Sp := fun vs H Q _ => ∃ a x y, vs = [.ref a] ∧ SqT K H a [x, y] ∧ Q (.bl true) H
theorem sc9 : FnScope ["value"] ["value"] (defScope (top 8)) := ⟨rfl, rfl, rfl, by decide +kernel, rfl, by decide +kernel, by decide +kernel⟩
theorem ok9 {f : Addr} {fd : FuncData} (F : Fun K "is_pair" "is_pair" (top 8) f fd) (B : Bn mg) : OkF P w K mg base 1 f fd ["value"] (spPair K) := by
  refine ok0 F sc9 (fun vs H Q E h => ?_) (fun cdv A outer s H vs Q E hgd hr h => ?_)
  · obtain ⟨a, x, y, rfl, _⟩ := h; rfl
  · obtain ⟨a, x, y, rfl, hS, q⟩ := h
    refine ⟨_, pss_one (ps_ret (pe_and (isi (T := "tuple") B.isi B.tuple (pv 0) (by decide +kernel))
      (pe_one (pe_cmpR op_eq (pe_callB call_len_seq (by rfl) B.len PySem.boot_len (pa_cons (pv 0) pa_nil)) pe_int (nomark _))))), ?_⟩
    refine ⟨_, rfl, _, _, _, _, true, rfl, .ty _, tyT hS, kit_ty (by decide +kernel), true, rfl, iteT ?_⟩
    exact ⟨_, rfl, a, _, rfl, .inr hS, rfl, q⟩

/-! is_joint -/
def spJoint (K : PySem.W.Frag) : Sp := fun vs H Q _ => ∃ a lo hi n : Nat, vs = [.ref a, .int n] ∧ SqT K H a [.int lo, .int hi] ∧ lo < hi ∧ hi < 2 * n ∧ Q (.bl true) H
theorem sc10 : FnScope ["value", "links", "low", "high"] ["value", "links"] (defScope (top 9)) := ⟨rfl, rfl, rfl, by decide +kernel, rfl, by decide +kernel, by decide +kernel⟩
theorem ok10 {f f8 f9 : Addr} {fd fd8 fd9 : FuncData} (F : Fun K "is_joint" "is_joint" (top 9) f fd)
    (D8 : Df K mg "is_from" f8 fd8 ["value", "least", "most"]) (G8 : OkF P w K mg base 2 f8 fd8 ["value", "least", "most"] spFrom)
    (D9 : Df K mg "is_pair" f9 fd9 ["value"]) (G9 : OkF P w K mg base 1 f9 fd9 ["value"] (spPair K)) : OkF P w K mg base 3 f fd ["value", "links"] (spJoint K) := by
  refine ok0 F sc10 (fun vs H Q E h => ?_) (fun cdv A outer s H vs Q E hgd hr h => ?_)
  · obtain ⟨a, lo, hi, n, rfl, _⟩ := h; rfl
  · obtain ⟨a, lo, hi, n, rfl, hS, h1, h2, q⟩ := h
    have hr1 : Room 1 _ := hr.mono (by decide)
    refine ⟨_, pss_cons (ps_if (pt_not (pt_val (cl D9 G9 hgd hr1 (pa_cons (pv 0) pa_nil)))) (pss_one (ps_ret pe_bl)) pss_nil)
      (pss_cons (ps_asg (pv 0) (pg_tup (by rfl) (pgs_cons (pg_name (i := 2) sc10.nd rfl (.inl rfl)) (pgs_cons (pg_name (i := 3) sc10.nd rfl (.inl rfl)) pgs_nil))))
      (pss_one (ps_ret (pe_and (cl D8 G8 hgd hr (pa_cons (pv 2) (pa_cons pe_int (pa_cons (pe_op op_sub (pe_op op_mul pe_int (pv 1)) pe_int) pa_nil))))
        (pe_one (cl D8 G8 hgd hr (pa_cons (pv 3) (pa_cons (pe_op op_add (pv 2) pe_int) (pa_cons (pe_op op_sub (pe_op op_mul pe_int (pv 1)) pe_int) pa_nil))))))))), ?_⟩
    refine ⟨_, rfl, a, _, _, rfl, hS, true, rfl, iteF ?_⟩
    refine ⟨_, rfl, a, _, rfl, hS, rfl, _, _, rfl, _, _, rfl, rfl, ?_⟩
    refine ⟨_, rfl, _, rfl, 2, (n : Int), rfl, rfl, .inl ⟨by decide, by decide⟩, _, _, rfl, rfl, (lo : Int), 0, 2 * (n : Int) - 1, rfl, by omega, by omega, true, rfl, iteT ?_⟩
    refine ⟨_, rfl, _, rfl, (lo : Int), 1, rfl, rfl, _, rfl, 2, (n : Int), rfl, rfl, .inl ⟨by decide, by decide⟩, _, _, rfl, rfl, (hi : Int), (lo : Int) + 1, 2 * (n : Int) - 1, rfl, by omega, by omega, q⟩

/-! false_joint, of what are joints -/
def spNoFalse (K : PySem.W.Frag) : Sp := fun vs H Q _ => ∃ (v : V) (n : Nat) (js : List J2), vs = [v, .int n] ∧ Js K H v js ∧ Good n js ∧ ∀ H', Same H H' → Q .non H'
theorem sc11 : FnScope ["joints", "links", "taken", "ahead", "number", "joint", "low", "high"] ["joints", "links"] (defScope (top 10)) := ⟨rfl, rfl, rfl, by decide +kernel, rfl, by decide +kernel, by decide +kernel⟩
/-- what the list of taken ends tells at a turn -/
def Tk (js : List J2) (n : Nat) (tk : List Bool) : Prop := tk.length = 2 * n ∧ ∀ e, tk[e]? = some true → Seen js e
theorem Tk.no {js : List J2} {n e : Nat} {tk : List Bool} (h : Tk js n tk) (he : e < 2 * n) (hn : ¬ Seen js e) : tk[e]? = some false := by
  have hl : e < tk.length := by rw [h.1]; exact he
  cases q : tk[e]'hl with
  | false => rw [List.getElem?_eq_getElem hl, q]
  | true => exact absurd (h.2 e (by rw [List.getElem?_eq_getElem hl, q])) hn
theorem Tk.put {js : List J2} {n : Nat} {p : J2} {tk : List Bool} (h : Tk js n tk) : Tk (js ++ [p]) n ((tk.set p.1 true).set p.2 true) := by
  refine ⟨by rw [List.length_set, List.length_set]; exact h.1, ?_⟩
  intro e he
  by_cases h2 : e = p.2
  · exact ⟨p, by simp, .inr h2⟩
  · rw [List.getElem?_set_ne (Ne.symm h2)] at he
    by_cases h1 : e = p.1
    · exact ⟨p, by simp, .inl h1⟩
    · rw [List.getElem?_set_ne (Ne.symm h1)] at he
      obtain ⟨q, hq, r⟩ := h.2 e he
      exact ⟨q, by simp [hq], r⟩
theorem map_set {α β : Type} (g : α → β) : ∀ (l : List α) (i : Nat) (x : α), (l.set i x).map g = (l.map g).set i (g x)
  | [], _, _ => rfl
  | _ :: _, 0, _ => rfl
  | a :: l, i + 1, x => by
    show g a :: (l.set i x).map g = g a :: (l.map g).set i (g x)
    rw [map_set g l i x]
theorem take_next {α : Type} {l : List α} {i : Nat} {x : α} (h : l[i]? = some x) : l.take (i + 1) = l.take i ++ [x] := by
  obtain ⟨hi, e⟩ := List.getElem?_eq_some_iff.mp h
  rw [← e]
  exact List.take_succ_eq_append_getElem hi
/-- the pair ahead, as the text holds it -/
def prev (js : List J2) : List Int := match js.getLast? with
  | none => []
  | some q => [(q.1 : Nat), (q.2 : Nat)]
theorem prev_no {js : List J2} {p : J2} (h : ∀ q, js.getLast? = some q → q.1 < p.1) :
    Ob.lexAt (fun j => decide (([((p.1 : Nat) : Int), ((p.2 : Nat) : Int)] : List Int).getD j 0 = (prev js).getD j 0)) (fun j => decide (([((p.1 : Nat) : Int), ((p.2 : Nat) : Int)] : List Int).getD j 0 ≤ (prev js).getD j 0))
      (decide (([((p.1 : Nat) : Int), ((p.2 : Nat) : Int)] : List Int).length ≤ (prev js).length)) 0 (min ([((p.1 : Nat) : Int), ((p.2 : Nat) : Int)] : List Int).length (prev js).length) = false := by
  unfold prev
  cases e : js.getLast? with
  | none => rfl
  | some q =>
    have hq := h q e
    show (if decide (((p.1 : Nat) : Int) = ((q.1 : Nat) : Int)) = true then _ else decide (((p.1 : Nat) : Int) ≤ ((q.1 : Nat) : Int))) = false
    rw [if_neg (by rw [decide_eq_false (by omega)]; decide)]
    exact decide_eq_false (by omega)
theorem sqT_put {K : PySem.W.Frag} {H : Hp} {a l : Addr} {xs ys : List V} {o : HO} (h : SqT K H a xs) (hl : H l = some (.lst ys)) : SqT K (upd H l o) a xs := by
  have ne : ∀ u, H a = some u → (∀ zs, u ≠ .lst zs) → a ≠ l := by
    rintro u e hu rfl
    rw [hl] at e
    exact hu ys (Option.some.inj e).symm
  rcases h with (h | ⟨ob, h⟩) | h
  · exact .inl (.inl (by rw [upd_ne (ne _ h (fun _ z => nomatch z))]; exact h))
  · exact .inl (.inr ⟨ob, by rw [upd_ne (ne _ h (fun _ z => nomatch z))]; exact h⟩)
  · exact .inr h
theorem same_new0 {H : Hp} {l : Addr} {o : HO} (h : H l = none) : Same H (upd H l o) := Same.new h
theorem same_put {H H' : Hp} {l : Addr} {o : HO} (e : Same H H') (h : H l = none) : Same H (upd H' l o) := fun b u q => by
  rw [upd_ne (ne_of_none q h)]
  exact e b u q
theorem ok11 {f f10 : Addr} {fd fd10 : FuncData} (F : Fun K "false_joint" "false_joint" (top 10) f fd) (B : Bn mg)
    (D10 : Df K mg "is_joint" f10 fd10 ["value", "links"]) (G10 : OkF P w K mg base 3 f10 fd10 ["value", "links"] (spJoint K)) :
    OkF P w K mg base 4 f fd ["joints", "links"] (spNoFalse K) := by
  refine ok0 F sc11 (fun vs H Q E h => ?_) (fun cdv A outer s H vs Q E hgd hr h => ?_)
  · obtain ⟨v, n, js, rfl, _⟩ := h; rfl
  · obtain ⟨v, n, js, rfl, ⟨t, us, rfl, hS, hP⟩, g, q⟩ := h
    have nd := sc11.nd
    refine ⟨_, pss_cons (ps_set (i := 2) nd rfl (.inl rfl) (pe_op op_rep (pe_lst (pa_cons pe_bl pa_nil)) (pe_op op_mul pe_int (pv 1))))
      (pss_cons (ps_set (i := 3) nd rfl (.inl rfl) (pe_tup pa_nil))
      (pss_cons (ps_for PassesOwn.never rfl (pi_enumT (by rfl) B.enum (pa_cons (pv 0) pa_nil)) (pg_tup (by rfl) (pgs_cons (pg_name (i := 4) nd rfl (.inl rfl)) (pgs_cons (pg_name (i := 5) nd rfl (.inl rfl)) pgs_nil)))
        (pss_cons (ps_if (PW.pt (pw_or (pt_not (pt_val (cl D10 G10 hgd hr (pa_cons (pv 5) (pa_cons (pv 1) pa_nil))))) (pw_or1 (pt_cmpR (op_leT hr.units0) (pv 5) (pv 3) (nomark _))))) (pss_one (ps_ret (pv 4))) pss_nil)
        (pss_cons (ps_asg (pv 5) (pg_tup (by rfl) (pgs_cons (pg_name (i := 6) nd rfl (.inl rfl)) (pgs_cons (pg_name (i := 7) nd rfl (.inl rfl)) pgs_nil))))
        (pss_cons (ps_if (PW.pt (pw_or (pt_val (pe_ix ix_list (pv 2) (pv 6) (fun _ _ => rfl))) (pw_or1 (pt_val (pe_ix ix_list (pv 2) (pv 7) (fun _ _ => rfl)))))) (pss_one (ps_ret (pv 4))) pss_nil)
        (pss_cons (ps_asg2 pe_bl (pg_sub (pv 2) (pv 6) set_list) (pg_sub (pv 2) (pv 7) set_list))
        (pss_one (ps_set (i := 3) nd rfl (.inl rfl) (pv 5))))))))
      (pss_one (ps_ret pe_non)))), ?_⟩
    have n12 := g.top
    refine ⟨by show 1 ≤ sizeLine; decide, fun l0 hl0 => ?_⟩
    refine ⟨_, rfl, 2, (n : Int), rfl, rfl, .inl ⟨by decide, by decide⟩, l0, 2 * (n : Int), [.bl false], rfl, rfl, upd_same, by omega, by omega, ?_, fun l hl => ?_⟩
    · show 1 * (2 * (n : Int)).toNat ≤ sizeLine
      exact Nat.le_trans (show 1 * (2 * (n : Int)).toNat ≤ 24 by omega) (by decide)
    refine ⟨by show 0 ≤ sizeLine; decide, fun a0 ha0 => ?_⟩
    have Hl : H l = none := Same.free (same_new0 hl0) hl
    refine ⟨_, rfl, t, us, rfl, Same.t (same_put (same_put (same_new0 hl0) Hl) (Same.free (same_put (same_new0 hl0) Hl) ha0)) hS, for_it (walk_enumT (xs := us))
      (fun i σ H' => ∃ (tk : List Bool) (ah : Addr) (s4 s5 s6 s7 : Option V), σ = [some (.ref t), some (.int n), some (.ref l), some (.ref ah), s4, s5, s6, s7] ∧ Same H H' ∧
        H' l = some (.lst (tk.map V.bl)) ∧ Tk (js.take i) n tk ∧ SqT K H' ah ((prev (js.take i)).map V.int)) ?_ ?_ ?_ ?_⟩
    · have el : l ≠ a0 := by
        rintro rfl
        rw [upd_same] at ha0
        cases ha0
      refine ⟨List.replicate (2 * n) false, a0, none, none, none, none, rfl, same_put (same_put (same_new0 hl0) Hl) (Same.free (same_put (same_new0 hl0) Hl) ha0), ?_, ⟨by simp, ?_⟩, SqT.of upd_same⟩
      · rw [upd_ne el, upd_same]
        show some (HO.lst (List.replicate (2 * (n : Int)).toNat [V.bl false]).flatten) = _
        rw [show (2 * (n : Int)).toNat = 2 * n by omega]
        simp
      · intro e he
        rw [List.getElem?_replicate] at he
        split at he <;> cases he
    · rintro i σ H' hi ⟨tk, ah, s4, s5, s6, s7, rfl, sm, _⟩
      exact Same.t sm hS
    · rintro i x σ H1 H2 hi ⟨tk, ah, s4, s5, s6, s7, rfl, sm, hL, hT, hA⟩ ⟨T, x1, y, rfl, nT, rfl, e1, e2⟩
      cases e1
      obtain ⟨p, hp, j, rfl, hj⟩ := pair_at hP e2
      obtain ⟨r1, r2, r3, r4, r5⟩ := good_at g hp
      have sT : Same H1 (upd H1 T (.tup [.int (i : Nat), .ref j])) := Same.new nT
      have hj2 : SqT K (upd H1 T (.tup [.int (i : Nat), .ref j])) j [.int (p.1 : Nat), .int (p.2 : Nat)] := Same.t sT (Same.t sm hj)
      refine ⟨T, _, rfl, SqT.of upd_same, rfl, _, _, rfl, _, _, rfl, rfl, ?_⟩
      refine ⟨_, rfl, _, rfl, j, p.1, p.2, n, rfl, hj2, r1, r2, true, rfl, iteF ?_⟩
      refine ⟨_, rfl, _, rfl, j, ah, [((p.1 : Nat) : Int), ((p.2 : Nat) : Int)], prev (js.take i), rfl, rfl, hj2, Same.t sT hA, _, rfl, ?_⟩
      rw [prev_no r5]
      refine iteF ?_
      have hL2 := sT _ _ hL
      have no1 := hT.no (by omega : p.1 < 2 * n) r3
      have no2 := hT.no r2 r4
      refine ⟨_, rfl, j, _, rfl, hj2, rfl, _, _, rfl, _, _, rfl, rfl, ?_⟩
      refine ⟨_, rfl, _, rfl, l, tk.map V.bl, (p.1 : Nat), .bl false, rfl, rfl, SqL.of hL2, atI_nat (by rw [List.getElem?_map, no1]; rfl), false, rfl, iteF ?_⟩
      refine ⟨_, rfl, _, rfl, l, tk.map V.bl, (p.2 : Nat), .bl false, rfl, rfl, SqL.of hL2, atI_nat (by rw [List.getElem?_map, no2]; rfl), false, rfl, iteF ?_⟩
      have z1 : p.1 < (tk.map V.bl).length := by rw [List.length_map, hT.1]; omega
      have z2 : p.2 < ((tk.map V.bl).set p.1 (.bl true)).length := by rw [List.length_set, List.length_map, hT.1]; exact r2
      refine ⟨_, rfl, _, rfl, l, tk.map V.bl, (p.1 : Nat), p.1, rfl, rfl, hL2, Evl.ixN_nat z1, ?_⟩
      refine ⟨_, rfl, _, rfl, l, _, (p.2 : Nat), p.2, rfl, rfl, upd_same, Evl.ixN_nat z2, ?_⟩
      refine ⟨_, rfl, (tk.set p.1 true).set p.2 true, j, _, _, _, _, rfl, same_put (same_put (sm.trans sT) Hl) Hl, ?_, ?_, ?_⟩
      · rw [upd_same, map_set, map_set]
      · rw [take_next hp]
        exact hT.put
      · rw [take_next hp]
        unfold prev
        rw [List.getLast?_append]
        exact sqT_put (sqT_put hj2 hL2) upd_same
    · rintro σ H' ⟨tk, ah, s4, s5, s6, s7, rfl, sm, _⟩
      exact q _ sm
/-! need_lay, of a lay -/
def spLay (K : PySem.W.Frag) : Sp := fun vs H Q _ => ∃ (v : V) (n : Nat) (js : List J2), vs = [v] ∧ Ly K H v n js ∧ Good n js ∧ ∀ H', Same H H' → Q v H'
theorem sc13 : FnScope ["lay", "links", "joints", "number"] ["lay"] (defScope (top 12)) := ⟨rfl, rfl, rfl, by decide +kernel, rfl, by decide +kernel, by decide +kernel⟩
theorem ok13 {f f8 f9 f11 : Addr} {fd fd8 fd9 fd11 : FuncData} {tm : Tok} (F : Fun K "need_lay" "need_lay" (top 12) f fd) (B : Bn mg) (hM : mg "MOST_LINKS" = some (.int 12 tm))
    (D8 : Df K mg "is_from" f8 fd8 ["value", "least", "most"]) (G8 : OkF P w K mg base 2 f8 fd8 ["value", "least", "most"] spFrom)
    (D9 : Df K mg "is_pair" f9 fd9 ["value"]) (G9 : OkF P w K mg base 1 f9 fd9 ["value"] (spPair K))
    (D11 : Df K mg "false_joint" f11 fd11 ["joints", "links"]) (G11 : OkF P w K mg base 4 f11 fd11 ["joints", "links"] (spNoFalse K)) : OkF P w K mg base 5 f fd ["lay"] (spLay K) := by
  refine ok0 F sc13 (fun vs H Q E h => ?_) (fun cdv A outer s H vs Q E hgd hr h => ?_)
  · obtain ⟨v, n, js, rfl, _⟩ := h; rfl
  · obtain ⟨v, n, js, rfl, ⟨t, u, rfl, hS, hJ⟩, g, q⟩ := h
    have nd := sc13.nd
    have hr1 : Room 1 _ := hr.mono (by decide)
    have hr2 : Room 2 _ := hr.mono (by decide)
    obtain ⟨tj, vs, rfl, hSj, hPj⟩ := id hJ
    have one := g.one
    have tp := g.top
    refine ⟨_, pss_cons (ps_if (pt_not (pt_val (cl D9 G9 hgd hr1 (pa_cons (pv 0) pa_nil)))) (pss_one ps_never) pss_nil)
      (pss_cons (ps_asg (pv 0) (pg_tup (by rfl) (pgs_cons (pg_name (i := 1) nd rfl (.inl rfl)) (pgs_cons (pg_name (i := 2) nd rfl (.inl rfl)) pgs_nil))))
      (pss_cons (ps_if (pt_not (pt_val (cl D8 G8 hgd hr2 (pa_cons (pv 1) (pa_cons pe_int (pa_cons (pe_glob rfl hM (v := .int 12) ⟨_, rfl⟩) pa_nil)))))) (pss_one ps_never) pss_nil)
      (pss_cons (ps_if (pt_not (pt_val (isi (T := "tuple") B.isi B.tuple (pv 2) (by decide +kernel)))) (pss_one ps_never) pss_nil)
      (pss_cons (ps_set (i := 3) nd rfl (.inl rfl) (cl D11 G11 hgd hr (pa_cons (pv 2) (pa_cons (pv 1) pa_nil))))
      (pss_cons (ps_if (pt_cmp (pc_notN (pv 3))) (pss_one ps_never) pss_nil)
      (pss_one (ps_ret (pv 0)))))))), ?_⟩
    refine ⟨_, rfl, t, _, _, rfl, hS, true, rfl, iteF ?_⟩
    refine ⟨_, rfl, t, _, rfl, hS, rfl, _, _, rfl, _, _, rfl, rfl, ?_⟩
    refine ⟨_, rfl, (n : Int), 1, 12, rfl, by omega, by omega, true, rfl, iteF ?_⟩
    refine ⟨_, rfl, _, _, _, _, true, rfl, .ty _, tyT hSj, kit_ty (by decide +kernel), true, rfl, iteF ?_⟩
    refine ⟨_, rfl, _, rfl, .ref tj, n, js, rfl, hJ, g, fun H' sm => ?_⟩
    exact ⟨_, rfl, false, rfl, iteF ⟨_, rfl, q _ sm⟩⟩

end
end K15
-- K15b
set_option Elab.async false
set_option linter.all false
set_option maxRecDepth 100000
set_option maxHeartbeats 4000000
namespace K15
open PySem L2 DC
theorem pair_snoc {α β : Type} {R : α → β → Prop} : ∀ {xs : List α} {ys : List β} {x : α} {y : β}, Paired R xs ys → R x y → Paired R (xs ++ [x]) (ys ++ [y])
  | _, _, _, _, .nil, r => .cons r .nil
  | _, _, _, _, .cons a b, r => .cons a (pair_snoc b r)
def Vn (ys : List Nat) : List V := ys.map fun y => V.int (y : Nat)
/-- all but what stands at d is as it was -/
def SameX (d : Addr) (H H' : Hp) : Prop := ∀ b o, b ≠ d → H b = some o → H' b = some o
theorem SameX.refl (d : Addr) (H : Hp) : SameX d H H := fun _ _ _ h => h
theorem SameX.trans {d : Addr} {H H1 H2 : Hp} (a : SameX d H H1) (b : SameX d H1 H2) : SameX d H H2 := fun x o n h => b x o n (a x o n h)
theorem Same.x {d : Addr} {H H' : Hp} (a : Same H H') : SameX d H H' := fun x o _ h => a x o h
theorem SameX.put {d : Addr} {H H' : Hp} {l : Addr} {o : HO} (a : SameX d H H') (h : H l = none) : SameX d H (upd H' l o) := fun b u n q => by
  rw [upd_ne (ne_of_none q h)]
  exact a b u n q
theorem SameX.putd {d : Addr} {H H' : Hp} {o : HO} (a : SameX d H H') : SameX d H (upd H' d o) := fun b u n q => by
  rw [upd_ne n]
  exact a b u n q
theorem SameX.free {d : Addr} {H H' : Hp} {l : Addr} {o : HO} (a : SameX d H H') (hd : H' d = some o) (h : H' l = none) : H l = none := by
  cases q : H l with
  | none => rfl
  | some u =>
    have n : l ≠ d := by
      rintro rfl
      rw [hd] at h
      cases h
    rw [a l u n q] at h
    cases h
theorem Vn_len (ys : List Nat) : (Vn ys).length = ys.length := List.length_map _
theorem Vn_at {ys : List Nat} {i : Nat} (h : i < ys.length) : (Vn ys)[i]? = some (.int ((ys.getD i 0 : Nat))) := by
  unfold Vn
  rw [List.getElem?_map, List.getElem?_eq_getElem h, List.getD_eq_getElem?_getD, List.getElem?_eq_getElem h]
  rfl
theorem gn {i : Nat} {v : V} {σ : L2.St} {H : Hp} {k : L2.St → Hp → Prop} (h : k (σ.set i (some v)) H) : gName i v σ H k := h
theorem yesT {σ : L2.St} {H : Hp} {a b : Hp → Prop} (h : a H) : tYes σ H (fun k H3 => if k = true then a H3 else b H3) := iteT (A := a H) (B := b H) h
/-! the law's state: what is left of great numbers, a place, a mixed number -/
def md (l : Addr) (a x : Int) : List (Key × V) := [(.inr "left", .ref l), (.inr "at", .int a), (.inr "mixed", .int x)]
theorem n1 : ¬ (("left" : Str) = "at") := by decide +kernel
theorem n2 : ¬ (("left" : Str) = "mixed") := by decide +kernel
theorem n3 : ¬ (("at" : Str) = "mixed") := by decide +kernel
theorem inr_ne {a b : Str} (h : ¬ a = b) : ¬ ((Sum.inr a : Key) = Sum.inr b) := fun e => h (Sum.inr.inj e)
theorem md_left (l : Addr) (a x : Int) : valV (md l a x) (.inr "left") = some (.ref l) := valV_pos rfl
theorem md_at (l : Addr) (a x : Int) : valV (md l a x) (.inr "at") = some (.int a) := (valV_neg (inr_ne n1)).trans (valV_pos rfl)
theorem md_mixed (l : Addr) (a x : Int) : valV (md l a x) (.inr "mixed") = some (.int x) := (valV_neg (inr_ne n2)).trans ((valV_neg (inr_ne n3)).trans (valV_pos rfl))
theorem put_at {κ : Type} [DecidableEq κ] {kvs : List (κ × V)} {k : κ} {v : V} (h : k ∈ kvs.map (·.1)) : putK kvs k v = kvs.map (fun kv => if kv.1 = k then (kv.1, v) else kv) := by
  unfold putK
  rw [if_pos]
  rw [List.any_eq_true]
  obtain ⟨e, he, q⟩ := List.mem_map.mp h
  exact ⟨e, he, decide_eq_true q⟩
theorem md_put_left (l l' : Addr) (a x : Int) : putK (md l a x) (.inr "left") (.ref l') = md l' a x := by
  rw [put_at (by unfold md; simp)]
  unfold md
  simp only [List.map_cons, List.map_nil, if_true]
  rw [if_neg (inr_ne (Ne.symm n1)), if_neg (inr_ne (Ne.symm n2))]
theorem md_put_at (l : Addr) (a a' x : Int) : putK (md l a x) (.inr "at") (.int a') = md l a' x := by
  rw [put_at (by unfold md; simp)]
  unfold md
  simp only [List.map_cons, List.map_nil, if_true]
  rw [if_neg (inr_ne n1), if_neg (inr_ne (Ne.symm n3))]
theorem md_put_mixed (l : Addr) (a x x' : Int) : putK (md l a x) (.inr "mixed") (.int x') = md l a x' := by
  rw [put_at (by unfold md; simp)]
  unfold md
  simp only [List.map_cons, List.map_nil, if_true]
  rw [if_neg (inr_ne n2), if_neg (inr_ne n3)]
/-- the state at m, its great numbers in the list at l -/
structure MAt (H : Hp) (m l : Addr) : Prop where
  ex : ∃ (cs : List Int) (a x : Int), H m = some (.dK (md l a x)) ∧ H l = some (.lst (cs.map V.int)) ∧ cs.length ≤ 63 ∧ 0 ≤ x ∧ x < 2147483647
theorem MAt.up {H H' : Hp} {m l : Addr} (s : Same H H') : MAt H m l → MAt H' m l
  | ⟨cs, a, x, h1, h2, r⟩ => ⟨cs, a, x, s _ _ h1, s _ _ h2, r⟩
theorem MAt.put {H : Hp} {m l c : Addr} {o : HO} (n1 : c ≠ m) (n2 : c ≠ l) : MAt H m l → MAt (upd H c o) m l
  | ⟨cs, a, x, h1, h2, r⟩ => ⟨cs, a, x, by rw [upd_ne (Ne.symm n1)]; exact h1, by rw [upd_ne (Ne.symm n2)]; exact h2, r⟩
theorem sqL_m {K : PySem.W.Frag} {H H' : Hp} {m a lm : Addr} {xs : List V} (s : SameX m H H') (hm : MAt H m lm) (h : SqL K H a xs) : SqL K H' a xs := by
  obtain ⟨cs, b, x, hd, _⟩ := hm
  have ne : ∀ u, H a = some u → (∀ kvs, u ≠ .dK kvs) → a ≠ m := by
    rintro u e hu rfl
    rw [hd] at e
    exact hu _ (Option.some.inj e).symm
  rcases h with (h | ⟨o, h⟩) | h
  · exact .inl (.inl (s _ _ (ne _ h (fun _ z => nomatch z)) h))
  · exact .inl (.inr ⟨o, s _ _ (ne _ h (fun _ z => nomatch z)) h⟩)
  · exact .inr h
theorem sqT_m {K : PySem.W.Frag} {H H' : Hp} {m a lm : Addr} {xs : List V} (s : SameX m H H') (hm : MAt H m lm) (h : SqT K H a xs) : SqT K H' a xs := by
  obtain ⟨cs, b, x, hd, _⟩ := hm
  have ne : ∀ u, H a = some u → (∀ kvs, u ≠ .dK kvs) → a ≠ m := by
    rintro u e hu rfl
    rw [hd] at e
    exact hu _ (Option.some.inj e).symm
  rcases h with (h | ⟨o, h⟩) | h
  · exact .inl (.inl (s _ _ (ne _ h (fun _ z => nomatch z)) h))
  · exact .inl (.inr ⟨o, s _ _ (ne _ h (fun _ z => nomatch z)) h⟩)
  · exact .inr h
/-! _law_draw -/
theorem get_left {H : Hp} {m l : Addr} {a x : Int} (h : H m = some (.dK (md l a x))) : DGet H m (.str "left") (some (.ref l)) := by
  have q := DGet.k (k := .inr "left") h
  rw [md_left] at q
  exact q
theorem get_at {H : Hp} {m l : Addr} {a x : Int} (h : H m = some (.dK (md l a x))) : DGet H m (.str "at") (some (.int a)) := by
  have q := DGet.k (k := .inr "at") h
  rw [md_at] at q
  exact q
theorem get_mixed {H : Hp} {m l : Addr} {a x : Int} (h : H m = some (.dK (md l a x))) : DGet H m (.str "mixed") (some (.int x)) := by
  have q := DGet.k (k := .inr "mixed") h
  rw [md_mixed] at q
  exact q
theorem put_left {H : Hp} {m l l' : Addr} {a x : Int} (h : H m = some (.dK (md l a x))) : DPut H m (.str "left") (.ref l') (upd H m (.dK (md l' a x))) := by
  have q := DPut.k (k := .inr "left") (v := .ref l') h (by show 3 < sizeLine; decide)
  rw [md_put_left] at q
  exact q
theorem put_at' {H : Hp} {m l : Addr} {a a' x : Int} (h : H m = some (.dK (md l a x))) : DPut H m (.str "at") (.int a') (upd H m (.dK (md l a' x))) := by
  have q := DPut.k (k := .inr "at") (v := .int a') h (by show 3 < sizeLine; decide)
  rw [md_put_at] at q
  exact q
theorem put_mixed {H : Hp} {m l : Addr} {a x x' : Int} (h : H m = some (.dK (md l a x))) : DPut H m (.str "mixed") (.int x') (upd H m (.dK (md l a x'))) := by
  have q := DPut.k (k := .inr "mixed") (v := .int x') h (by show 3 < sizeLine; decide)
  rw [md_put_mixed] at q
  exact q
def intD (cs : List Int) : PyData := .list (cs.map PyData.int)
theorem dp_ints {K : PySem.W.Frag} {H : Hp} : ∀ cs : List Int, DpAll K H (cs.map V.int) (cs.map PyData.int)
  | [] => .nil
  | c :: cs => .cons (.int c) (dp_ints cs)
theorem lay_ints : ∀ cs : List Int, PyData.canLayAll0 (cs.map PyData.int) = true
  | [] => by simp only [List.map_nil, PyData.canLayAll0]
  | c :: cs => by simp only [List.map_cons, PyData.canLayAll0, PyData.canLay0, lay_ints cs, Bool.and_self]
theorem depth_ints : ∀ cs : List Int, PyData.depthAll (cs.map PyData.int) = 0
  | [] => by simp only [List.map_nil, PyData.depthAll]
  | c :: cs => by simp only [List.map_cons, PyData.depthAll, PyData.depth, depth_ints cs, Nat.max_self]
theorem shaped_ints (cs : List Int) : SeqAt.shaped (intD cs) = true := by
  unfold SeqAt.shaped intD
  simp only [PyData.canLay0, lay_ints, PyData.depth, depth_ints]
  decide
theorem cut1 (c : Int) (cs : List Int) : cutV ((c :: cs).map V.int) (some 1) none = cs.map V.int := by
  unfold cutV
  rw [show (some (1 : Int)) = some ((1 : Nat) : Int) from rfl, HT.sIx_nat, HT.sIx_none]
  rw [List.length_map, List.length_cons, show min 1 (cs.length + 1) = 1 by omega, List.map_cons, List.drop_succ_cons, List.drop_zero]
  exact List.take_of_length_le (by rw [List.length_map]; omega)
section
variable {P : Program} {w : World} {K : PySem.W.Frag} {mg : Str → Option Value} {base : Heap}
def spDraw : Sp := fun vs H Q _ => ∃ (m lm : Addr) (lim : Int), vs = [.ref m, .int lim] ∧ MAt H m lm ∧ 0 < lim ∧ lim < 1000000 ∧
  ∀ (r : Int) (H' : Hp) (l' : Addr), 0 ≤ r → r < lim → SameX m H H' → MAt H' m l' → (l' = lm ∨ H l' = none) → Q (.int r) H'
theorem sc27 : FnScope ["m", "limit", "cell"] ["m", "limit"] (defScope (top 43)) := ⟨rfl, rfl, rfl, by decide +kernel, rfl, by decide +kernel, by decide +kernel⟩
theorem ok27 {f : Addr} {fd : FuncData} (F : Fun K "_law_draw" "_law_draw" (top 43) f fd) (B : Bn mg) : OkF P w K mg base 1 f fd ["m", "limit"] spDraw := by
  refine ok0 F sc27 (fun vs H Q E h => ?_) (fun cdv A outer s H vs Q E hgd hr h => ?_)
  · obtain ⟨m, lm, lim, rfl, _⟩ := h; rfl
  · obtain ⟨m, lm, lim, rfl, hM, h1, h2, q⟩ := h
    have nd := sc27.nd
    have hu := hu_of hr
    refine ⟨_, pss_cons (ps_while PassesOwn.never (PW.pt (pw_and (pt_cmpR (op_neD hr.units) (pe_dget hu (pv 0) pe_str (fun _ _ => rfl)) (pe_lst pa_nil) (nomark _))
          (pw_and1 (pt_cmpR op_eq (pe_ix ix_list (pe_dget hu (pv 0) pe_str (fun _ _ => rfl)) pe_int (fun _ _ => rfl)) pe_int (nomark _)))))
        (pss_one (ps_dput hu (pv 0) pe_str (pe_slice sl_list (pe_dget hu (pv 0) pe_str (fun _ _ => rfl)) (po_some pe_int) po_none) rfl)))
      (pss_cons (ps_if (pt_cmpR (op_neD hr.units) (pe_dget hu (pv 0) pe_str (fun _ _ => rfl)) (pe_lst pa_nil) (nomark _))
        (pss_cons (ps_set (i := 2) nd rfl (.inl rfl) (pe_ix ix_list (pe_dget hu (pv 0) pe_str (fun _ _ => rfl)) pe_int (fun _ _ => rfl)))
        (pss_cons (ps_dput hu (pv 0) pe_str (pe_op op_cat (pe_lst (pa_cons (pe_op op_fdivN (pv 2) (pv 1)) pa_nil)) (pe_slice sl_list (pe_dget hu (pv 0) pe_str (fun _ _ => rfl)) (po_some pe_int) po_none)) rfl)
        (pss_one (ps_ret (pe_op op_mod (pe_callTy call_int1 (by rfl) B.int (by decide +kernel) (pa_cons (pv 2) pa_nil)) (pv 1))))))
        pss_nil)
      (pss_cons (ps_dput hu (pv 0) pe_str (pe_op op_add (pe_dget hu (pv 0) pe_str (fun _ _ => rfl)) pe_int) rfl)
      (pss_cons (ps_dput hu (pv 0) pe_str (pe_op op_mod (pe_callTy call_int1 (by rfl) B.int (by decide +kernel) (pa_cons (pe_op op_add (pe_op op_add (pe_op op_mul (pe_dget hu (pv 0) pe_str (fun _ _ => rfl)) pe_int) (pe_op op_mul pe_int (pe_dget hu (pv 0) pe_str (fun _ _ => rfl)))) pe_int) pa_nil)) pe_int) rfl)
      (pss_one (ps_ret (pe_op op_mod (pe_callTy call_int1 (by rfl) B.int (by decide +kernel) (pa_cons (pe_op op_fdiv (pe_dget hu (pv 0) pe_str (fun _ _ => rfl)) pe_int) pa_nil)) (pv 1))))))), ?_⟩
    let Wf : Nat → L2.St → Hp → Prop := fun k σ H' => σ = [some (.ref m), some (.int lim), none] ∧ SameX m H H' ∧ ∃ (l : Addr) (cs : List Int) (a x : Int), H' m = some (.dK (md l a x)) ∧ H' l = some (.lst (cs.map V.int)) ∧ cs.length ≤ 63 ∧ 0 ≤ x ∧ x < 2147483647 ∧ (l = lm ∨ H l = none) ∧ cs.length = k
    have hm0 := hM
    obtain ⟨cs0, a0, x0, e1, e2, e3, e4, e5⟩ := hM
    have notM : ∀ {H' : Hp} {l : Addr} {a x : Int} {b : Addr} {xs : List V}, H' m = some (.dK (md l a x)) → H' b = some (.lst xs) → b ≠ m := by
      rintro H' l a x b xs h h' rfl
      rw [h] at h'
      cases h'
    refine ⟨Wf, ⟨_, rfl, SameX.refl _ _, lm, cs0, a0, x0, e1, e2, e3, e4, e5, .inl rfl, rfl⟩, ?_⟩
    rintro k σ H1 ⟨rfl, sx, l, cs, a, x, d1, d2, d3, d4, d5, d6, rfl⟩
    refine ⟨_, rfl, m, _, rfl, get_left d1, Nat.zero_le _, fun p hp => ?_⟩
    have sp : Same H1 (upd H1 p (.lst [])) := Same.new hp
    have c1 := sp _ _ d1
    have c2 := sp _ _ d2
    refine ⟨intD cs, intD [], Dp.lst (SqL.of c2) (dp_ints cs), Dp.lst (SqL.of upd_same) .nil, shaped_ints cs, rfl, _, rfl, ?_⟩
    cases cs with
    | nil =>
      refine iteF (iteF ?_)
      -- nothing is left: the mixed number is turned
      refine ⟨_, rfl, m, _, rfl, get_left c1, Nat.zero_le _, fun p2 hp2 => ?_⟩
      have s2 : Same H1 (upd (upd H1 p (.lst [])) p2 (.lst [])) := sp.trans (Same.new hp2)
      have b1 := s2 _ _ d1
      have b2 := s2 _ _ d2
      refine ⟨intD [], intD [], Dp.lst (SqL.of b2) .nil, Dp.lst (SqL.of upd_same) .nil, rfl, rfl, _, rfl, iteF ?_⟩
      refine ⟨_, rfl, m, _, rfl, get_at b1, a, 1, rfl, rfl, _, rfl, m, _, rfl, put_at' b1, ?_⟩
      refine ⟨_, rfl, m, _, rfl, get_mixed upd_same, x, 16807, rfl, rfl, .inl ⟨by omega, by omega⟩, _, rfl, m, _, rfl, get_at upd_same, 7919, a + 1, rfl, rfl, .inl ⟨by decide, by decide⟩, _, _, rfl, rfl, _, 1, rfl, rfl, .inl ⟨_, rfl, ?_⟩⟩
      refine ⟨_, 2147483647, rfl, rfl, (by show (0 : Int) < 2147483647; decide), _, rfl, m, _, rfl, put_mixed upd_same, ?_⟩
      have z1 := Int.emod_nonneg (x * 16807 + 7919 * (a + 1) + 1) (b := 2147483647) (by decide)
      have z2 := Int.emod_lt_of_pos (x * 16807 + 7919 * (a + 1) + 1) (b := 2147483647) (by decide)
      refine ⟨_, rfl, m, _, rfl, get_mixed upd_same, _, 65536, rfl, rfl, ⟨by decide, by decide⟩, .inl ⟨_, rfl, _, rfl, _, lim, rfl, rfl, h1, ?_⟩⟩
      refine q _ _ l (Int.emod_nonneg _ (by omega)) (Int.emod_lt_of_pos _ h1) ((sx.trans (Same.x s2)).putd.putd) ⟨[], a + 1, _, upd_same, ?_, Nat.zero_le _, z1, z2⟩ d6
      have nl := notM d1 d2
      rw [upd_ne nl, upd_ne nl]
      exact b2
    | cons c cs =>
      refine iteT ?_
      refine ⟨_, rfl, m, _, rfl, get_left c1, l, _, 0, .int c, rfl, rfl, SqL.of c2, at_of (j := 0) rfl rfl, rfl, _, rfl, ?_⟩
      by_cases hc : c = 0
      · rw [decide_eq_true (show V.int c = V.int 0 by rw [hc])]
        refine iteT ⟨Wf cs.length, fun σ' H' hw => ⟨_, Nat.lt_succ_self _, hw⟩, ?_⟩
        refine ⟨_, rfl, m, _, rfl, get_left c1, 1, rfl, l, _, rfl, SqL.of c2, fun p3 hp3 => ?_⟩
        have s3 : Same H1 (upd (upd H1 p (.lst [])) p3 (.lst (cutV ((c :: cs).map V.int) (some 1) none))) := sp.trans (Same.new hp3)
        have b1 := s3 _ _ d1
        have np : p3 ≠ m := fun z => by
          rw [z, c1] at hp3
          cases hp3
        refine ⟨_, rfl, m, _, rfl, put_left b1, rfl, (sx.trans (Same.x s3)).putd, p3, cs, a, x, upd_same, ?_, by rw [List.length_cons] at d3; omega, d4, d5, .inr (sx.free d1 (sp.free hp3)), rfl⟩
        rw [upd_ne np, upd_same, cut1]
      · rw [decide_eq_false (show ¬ V.int c = V.int 0 from fun z => hc (V.int.inj z))]
        refine iteF ?_
        refine ⟨_, rfl, m, _, rfl, get_left c1, Nat.zero_le _, fun p2 hp2 => ?_⟩
        have s2 : Same H1 (upd (upd H1 p (.lst [])) p2 (.lst [])) := sp.trans (Same.new hp2)
        have b1 := s2 _ _ d1
        have b2 := s2 _ _ d2
        refine ⟨intD (c :: cs), intD [], Dp.lst (SqL.of b2) (dp_ints _), Dp.lst (SqL.of upd_same) .nil, shaped_ints _, rfl, _, rfl, iteT ?_⟩
        refine ⟨_, rfl, m, _, rfl, get_left b1, l, _, 0, .int c, rfl, rfl, SqL.of b2, at_of (j := 0) rfl rfl, ?_⟩
        refine ⟨_, rfl, _, rfl, c, lim, rfl, rfl, ⟨by omega, by omega⟩, by show 1 ≤ sizeLine; decide, fun p4 hp4 => ?_⟩
        have s4 := s2.trans (Same.new (o := .lst [.int (c.fdiv lim)]) hp4)
        refine ⟨_, rfl, m, _, rfl, get_left (s4 _ _ d1), 1, rfl, l, _, rfl, SqL.of (s4 _ _ d2), fun p5 hp5 => ?_⟩
        have s5 := s4.trans (Same.new (o := .lst (cutV ((c :: cs).map V.int) (some 1) none)) hp5)
        refine ⟨p4, p5, _, _, rfl, rfl, Same.new hp5 _ _ upd_same, upd_same, ?_, fun p6 hp6 => ?_⟩
        · rw [cut1, List.length_map]
          rw [List.length_cons] at d3
          exact Nat.le_trans (show 1 + cs.length ≤ 1000 by omega) (by decide)
        have s6 := s5.trans (Same.new (o := .lst ([.int (c.fdiv lim)] ++ cutV ((c :: cs).map V.int) (some 1) none)) hp6)
        have np : p6 ≠ m := fun z => by
          rw [z, s5 _ _ d1] at hp6
          cases hp6
        refine ⟨_, rfl, m, _, rfl, put_left (s6 _ _ d1), ?_⟩
        refine ⟨_, rfl, .inl ⟨_, rfl, _, rfl, c, lim, rfl, rfl, h1, ?_⟩⟩
        refine q _ _ p6 (Int.emod_nonneg _ (by omega)) (Int.emod_lt_of_pos _ h1) ((sx.trans (Same.x s6)).putd) ⟨c.fdiv lim :: cs, a, x, upd_same, ?_, d3, d4, d5⟩ (.inr (sx.free d1 (s5.free hp6)))
        rw [upd_ne np, upd_same, cut1]
        rfl
end
theorem putK_new {κ : Type} [DecidableEq κ] {kvs : List (κ × V)} {k : κ} {v : V} (h : ∀ e ∈ kvs, ¬ e.1 = k) : putK kvs k v = kvs ++ [(k, v)] := by
  unfold putK
  rw [if_neg]
  intro z
  rw [List.any_eq_true] at z
  obtain ⟨e, he, q⟩ := z
  exact h e he (of_decide_eq_true q)
theorem merge_md (l : Addr) (a x : Int) : mergeK [] (md l a x) = md l a x := by
  unfold mergeK md
  simp only [List.foldl_cons, List.foldl_nil]
  rw [putK_new (kvs := []) (by simp), putK_new (kvs := [] ++ _) (by simp [n1]), putK_new (kvs := [] ++ _ ++ _) (by simp [n2, n3])]
  rfl
section
variable {P : Program} {w : World} {K : PySem.W.Frag} {mg : Str → Option Value} {base : Heap}
def spBegun (K : PySem.W.Frag) : Sp := fun vs H Q _ => ∃ (a : Addr) (ns : List Int), vs = [.ref a] ∧ SqL K H a (ns.map V.int) ∧ ns.length ≤ 63 ∧
  ∀ (m l : Addr) (H' : Hp), Same H H' → H m = none → H l = none → MAt H' m l → Q (.ref m) H'
theorem sc26 : FnScope ["script", "mixed", "cell", "great"] ["script"] (defScope (top 42)) := ⟨rfl, rfl, rfl, by decide +kernel, rfl, by decide +kernel, by decide +kernel⟩
theorem ok26 {f : Addr} {fd : FuncData} (F : Fun K "_law_begun" "_law_begun" (top 42) f fd) (B : Bn mg) : OkF P w K mg base 1 f fd ["script"] (spBegun K) := by
  refine ok0 F sc26 (fun vs H Q E h => ?_) (fun cdv A outer s H vs Q E hgd hr h => ?_)
  · obtain ⟨a, ns, rfl, _⟩ := h; rfl
  · obtain ⟨a, ns, rfl, hS, hl, q⟩ := h
    have nd := sc26.nd
    refine ⟨_, pss_cons (ps_set (i := 1) nd rfl (.inl rfl) pe_int)
      (pss_cons (ps_for PassesOwn.never rfl (pi_list (pv 0)) (pg_name (i := 2) nd rfl (.inl rfl))
        (pss_one (ps_set (i := 1) nd rfl (.inl rfl) (pe_op op_mod (pe_callTy call_int1 (by rfl) B.int (by decide +kernel) (pa_cons (pe_op op_add (pe_op op_add (pe_op op_mul (pv 1) pe_int) (pv 2)) pe_int) pa_nil)) pe_int))))
      (pss_cons (ps_setLc (i := 3) (own := [("cell", 2)]) (g := gName 2) rfl nd rfl rfl (sw_true rfl rfl rfl (by decide +kernel)) (pi_list (pv 0)) (blkOk_by (N := ["script", "mixed", "cell", "great"]) (sc := defScope (top 42)) (by decide +kernel)) (fun _ _ _ _ _ => pg_name (i := 2) nd rfl (Or.inl rfl))
          (fun _ _ _ _ _ => pts_one (pt_cmpR op_ge (pv 2) (pe_op op_pow pe_int pe_int) (nomark _))) (fun _ _ _ _ _ => pv 2))
      (pss_one (ps_ret (pe_disp (pps_cons pe_str (pv 3) (pps_cons pe_str pe_int (pps_cons pe_str (pv 1) pps_nil))) rfl rfl (by simp) (by decide)))))), ?_⟩
    refine ⟨_, rfl, a, rfl, ⟨_, hS⟩, for_it (walk_list (xs := ns.map V.int)) (fun i σ H' => ∃ (x : Int) (y : Option V), σ = [some (.ref a), some (.int x), y, none] ∧ 0 ≤ x ∧ x < 2147483647 ∧ H = H') ?_ ?_ ?_ ?_⟩
    · exact ⟨40277, none, rfl, by decide, by decide, rfl⟩
    · rintro i σ H' hi ⟨x, y, rfl, _, _, rfl⟩
      exact hS
    · rintro i v σ H1 H2 hi ⟨x, y, rfl, h0, h1, rfl⟩ ⟨rfl, ex⟩
      rw [List.getElem?_map] at ex
      obtain ⟨c, _, rfl⟩ := Option.map_eq_some_iff.mp ex
      refine ⟨_, rfl, x, 48271, rfl, rfl, .inl ⟨by omega, by omega⟩, _, rfl, _, c, rfl, rfl, _, 12820163, rfl, rfl, .inl ⟨_, rfl, ?_⟩⟩
      refine ⟨_, 2147483647, rfl, rfl, (by show (0 : Int) < 2147483647; decide), ?_⟩
      exact ⟨_, _, rfl, Int.emod_nonneg _ (by decide), Int.emod_lt_of_pos _ (by decide), rfl⟩
    · rintro σ H' ⟨x, y, rfl, h0, h1, rfl⟩
      refine ⟨_, rfl, a, rfl, ⟨_, hS⟩, fun D hD => ?_⟩
      refine lc_it (walk_list (xs := ns.map V.int)) (fun i H' => ∃ acc : List Int, Same H H' ∧ H' D = some (.lst (acc.map V.int)) ∧ acc.length ≤ i) ?_ ?_ ?_ ?_
      · exact ⟨[], Same.new hD, upd_same, Nat.le_refl _⟩
      · rintro i H' hi ⟨acc, sm, _⟩
        exact sm.seq hS
      · rintro i v H1 H2 hi ⟨acc, sm, hL, hacc⟩ ⟨rfl, ex⟩
        rw [List.getElem?_map] at ex
        obtain ⟨c, _, rfl⟩ := Option.map_eq_some_iff.mp ex
        have hi' : i < ns.length := by rw [List.length_map] at hi; exact hi
        refine ⟨rfl, ?_⟩
        refine ⟨_, rfl, 10, 18, rfl, rfl, ⟨by decide, by decide, by decide⟩, c, _, rfl, rfl, ?_⟩
        by_cases hc : (10 : Int) ^ ((18 : Int)).toNat ≤ c
        · refine ⟨_, rfl, ?_⟩
          rw [decide_eq_true hc]
          refine ⟨_, rfl, acc.map V.int, hL, ?_, acc ++ [c], same_put sm hD, ?_, ?_⟩
          · rw [List.length_map]
            exact Nat.lt_of_le_of_lt (show acc.length ≤ 1000 by omega) (by decide)
          · rw [upd_same, List.map_append]; rfl
          · rw [List.length_append]; exact Nat.succ_le_succ hacc
        · refine ⟨_, rfl, ?_⟩
          rw [decide_eq_false hc]
          exact ⟨acc, sm, hL, Nat.le_succ_of_le hacc⟩
      · rintro H' ⟨acc, sm, hL, hacc⟩
        refine fun p hp => ⟨_, rfl, _, rfl, upd_same, md D 0 x, rfl, (by show 3 ≤ 15; decide), ?_⟩
        rw [merge_md]
        have hpD : D ≠ p := ne_of_none hL hp
        have Hp : H p = none := sm.free hp
        refine q p D _ (same_put (same_put sm Hp) Hp) Hp hD ⟨acc, 0, x, upd_same, ?_, Nat.le_trans (by rw [List.length_map] at hacc; exact hacc) hl, h0, h1⟩
        rw [upd_ne hpD, upd_ne hpD]
        exact hL
/-! _law_of -/
def spOf (K : PySem.W.Frag) : Sp := fun vs H Q _ => ∃ (m lm b : Addr) (xs : List V), vs = [.ref m, .ref b] ∧ MAt H m lm ∧ SqL K H b xs ∧ 0 < xs.length ∧ xs.length < 1000000 ∧
  ∀ (i : Nat) (v : V) (H' : Hp) (l' : Addr), xs[i]? = some v → SameX m H H' → MAt H' m l' → (l' = lm ∨ H l' = none) → Q v H'
theorem sc28 : FnScope ["m", "some"] ["m", "some"] (defScope (top 44)) := ⟨rfl, rfl, rfl, by decide +kernel, rfl, by decide +kernel, by decide +kernel⟩
theorem ok28 {f f27 : Addr} {fd fd27 : FuncData} (F : Fun K "_law_of" "_law_of" (top 44) f fd) (B : Bn mg)
    (D27 : Df K mg "_law_draw" f27 fd27 ["m", "limit"]) (G27 : OkF P w K mg base 1 f27 fd27 ["m", "limit"] spDraw) : OkF P w K mg base 2 f fd ["m", "some"] (spOf K) := by
  refine ok0 F sc28 (fun vs H Q E h => ?_) (fun cdv A outer s H vs Q E hgd hr h => ?_)
  · obtain ⟨m, lm, b, xs, rfl, _⟩ := h; rfl
  · obtain ⟨m, lm, b, xs, rfl, hM, hS, z1, z2, q⟩ := h
    refine ⟨_, pss_one (ps_ret (pe_ix (r := rIxL K) ix_list (pv 1) (cl D27 G27 hgd hr (pa_cons (pv 0) (pa_cons (pe_callB call_len_seq (by rfl) B.len PySem.boot_len (pa_cons (pv 1) pa_nil)) pa_nil))) (fun _ _ => rfl))), ?_⟩
    refine ⟨_, rfl, _, rfl, _, rfl, b, xs, rfl, .inl hS, m, lm, _, rfl, hM, by omega, by omega, fun r H' l' r0 r1 sx hM' hl' => ?_⟩
    obtain ⟨k, rfl⟩ := Int.eq_ofNat_of_zero_le r0
    have hk : k < xs.length := by omega
    exact ⟨b, xs, _, xs[k], rfl, rfl, sqL_m sx hM hS, atI_nat (List.getElem?_eq_getElem hk), q k _ _ l' (List.getElem?_eq_getElem hk) sx hM' hl'⟩
/-! _law_like -/
def spLike (K : PySem.W.Frag) : Sp := fun vs H Q _ => ∃ (v v' : V) (d : PyData), vs = [v, v'] ∧ Dp K H v d ∧ Dp K H v' d ∧ sm d = true ∧ d.depth ≤ 60 ∧ wt d ≤ sizeLine ∧ Q (.bl true) H
theorem sc29 : FnScope ["told", "due"] ["told", "due"] (defScope (top 45)) := ⟨rfl, rfl, rfl, by decide +kernel, rfl, by decide +kernel, by decide +kernel⟩
theorem ok29 {f : Addr} {fd : FuncData} (F : Fun K "_law_like" "_law_like" (top 45) f fd) (B : Bn mg) : OkF P w K mg base 1 f fd ["told", "due"] (spLike K) := by
  refine ok0 F sc29 (fun vs H Q E h => ?_) (fun cdv A outer s H vs Q E hgd hr h => ?_)
  · obtain ⟨v, v', d, rfl, _⟩ := h; rfl
  · obtain ⟨v, v', d, rfl, d1, d2, hs, hp, hz, q⟩ := h
    obtain ⟨s1, s2, s3⟩ := sm_show d hs
    refine ⟨_, pss_one (ps_ret (pe_cmpR op_eq (pe_callB (cr_repr hgd hr.units) (by rfl) B.repr (by decide +kernel) (pa_cons (pv 0) pa_nil)) (pe_callB (cr_repr hgd hr.units) (by rfl) B.repr (by decide +kernel) (pa_cons (pv 1) pa_nil)) (nomark _))), ?_⟩
    refine ⟨_, rfl, v, d, rfl, d1, s1, s2, by omega, hp, _, rfl, v', d, rfl, d2, s1, s2, by omega, hp, rfl, ?_⟩
    rw [show decide (V.str d.shown = V.str d.shown) = true from decide_eq_true rfl]
    exact q
end
theorem paired_perm {α β : Type} {R : α → β → Prop} {xs ys : List α} (h : ys.Perm xs) : ∀ {js : List β}, Paired R xs js → ∃ js', Paired R ys js' ∧ js'.Perm js := by
  induction h with
  | nil => intro js p; cases p; exact ⟨[], .nil, .nil⟩
  | cons x h ih =>
    intro js p
    cases p with
    | cons r t =>
      obtain ⟨js', a, b⟩ := ih t
      exact ⟨_ :: js', .cons r a, b.cons _⟩
  | swap x y l =>
    intro js p
    cases p with
    | cons r t =>
      cases t with
      | cons r2 t2 => exact ⟨_ :: _ :: _, .cons r2 (.cons r t2), .swap ..⟩
  | trans h1 h2 ih1 ih2 =>
    intro js p
    obtain ⟨j1, a1, b1⟩ := ih2 p
    obtain ⟨j2, a2, b2⟩ := ih1 a1
    exact ⟨j2, a2, b2.trans b1⟩
theorem paired_mem {α β : Type} {R : α → β → Prop} : ∀ {ys : List α} {js : List β}, Paired R ys js → ∀ q ∈ js, ∃ y ∈ ys, R y q
  | _, _, .nil, q, h => absurd h (List.not_mem_nil)
  | y :: ys, j :: js, .cons r t, q, h => by
    rcases List.mem_cons.mp h with rfl | h
    · exact ⟨y, List.mem_cons_self, r⟩
    · obtain ⟨z, hz, rz⟩ := paired_mem t q h
      exact ⟨z, List.mem_cons_of_mem _ hz, rz⟩
theorem paired_memL {α β : Type} {R : α → β → Prop} : ∀ {ys : List α} {js : List β}, Paired R ys js → ∀ y ∈ ys, ∃ q ∈ js, R y q
  | _, _, .nil, q, h => absurd h (List.not_mem_nil)
  | y :: ys, j :: js, .cons r t, q, h => by
    rcases List.mem_cons.mp h with rfl | h
    · exact ⟨j, List.mem_cons_self, r⟩
    · obtain ⟨z, hz, rz⟩ := paired_memL t q h
      exact ⟨z, List.mem_cons_of_mem _ hz, rz⟩
theorem paired_pw {α β : Type} {R : α → β → Prop} {S : α → α → Prop} {S' : β → β → Prop} (hs : ∀ x y p q, R x p → R y q → S x y → S' p q) :
    ∀ {ys : List α} {js : List β}, Paired R ys js → ys.Pairwise S → js.Pairwise S'
  | _, _, .nil, _ => .nil
  | y :: ys, j :: js, .cons r t, h => by
    have h' := List.pairwise_cons.mp h
    refine List.pairwise_cons.mpr ⟨fun q hq => ?_, paired_pw hs t h'.2⟩
    obtain ⟨z, hz, rz⟩ := paired_mem t q hq
    exact hs y z j q r rz (h'.1 z hz)
theorem vn_ints (ys : List Nat) : Vn ys = (ys.map fun y => ((y : Nat) : Int)).map V.int := by
  unfold Vn
  rw [List.map_map]
  rfl
theorem cutN (c : Nat) (cs : List Nat) : cutV (Vn (c :: cs)) (some 1) none = Vn cs := by
  rw [vn_ints, vn_ints, List.map_cons, cut1]
theorem vn_app (xs ys : List Nat) : Vn (xs ++ ys) = Vn xs ++ Vn ys := by
  unfold Vn
  exact List.map_append
/-- the left ends at l, the joints made so far at J -/
structure LI (K : PySem.W.Frag) (m : Addr) (n : Nat) (H H' : Hp) (l J lm : Addr) (es : List Nat) (vs : List V) (js : List J2) (i : Nat) : Prop where
  sx : SameX m H H'
  mt : MAt H' m lm
  left : H' l = some (.lst (Vn es))
  jl : H' J = some (.lst vs)
  pr : Paired (Pr K H') vs js
  asc : es.Pairwise (· < ·)
  lt : ∀ e ∈ es, e < 2 * n
  ok : ∀ p ∈ js, p.1 < p.2 ∧ p.2 < 2 * n
  ap : js.Pairwise DC.Apart
  off : ∀ p ∈ js, ∀ e ∈ es, e ≠ p.1 ∧ e ≠ p.2
  fr : H J = none
  ne : J ≠ lm
  ne2 : l ≠ J
  cnt : js.length ≤ i
  len : es.length ≤ 2 * n
theorem MAt.ne {H : Hp} {m lm a : Addr} {o : HO} (h : MAt H m lm) (e : H a = some o) (hu : ∀ kvs, o ≠ .dK kvs) : a ≠ m := by
  rintro rfl
  obtain ⟨cs, b, x, hd, _⟩ := h
  rw [hd] at e
  exact hu _ (Option.some.inj e).symm
theorem LI.draw {K : PySem.W.Frag} {m : Addr} {n : Nat} {H H1 H2 : Hp} {l J lm lm2 : Addr} {es : List Nat} {vs : List V} {js : List J2} {i : Nat}
    (L : LI K m n H H1 l J lm es vs js i) (s : SameX m H1 H2) (hM : MAt H2 m lm2) (hl : lm2 = lm ∨ H1 lm2 = none) : LI K m n H H2 l J lm2 es vs js i where
  sx := L.sx.trans s
  mt := hM
  left := s _ _ (L.mt.ne L.left fun _ z => nomatch z) L.left
  jl := s _ _ (L.mt.ne L.jl fun _ z => nomatch z) L.jl
  pr := L2.Paired.mapP L.pr fun _ _ ⟨t, q, h⟩ => ⟨t, q, sqT_m s L.mt h⟩
  asc := L.asc
  lt := L.lt
  ok := L.ok
  ap := L.ap
  off := L.off
  fr := L.fr
  ne := by
    rcases hl with rfl | h
    · exact L.ne
    · rintro rfl
      rw [L.jl] at h
      cases h
  ne2 := L.ne2
  cnt := L.cnt
  len := L.len
theorem LI.same {K : PySem.W.Frag} {m : Addr} {n : Nat} {H H1 H2 : Hp} {l J lm : Addr} {es : List Nat} {vs : List V} {js : List J2} {i : Nat}
    (L : LI K m n H H1 l J lm es vs js i) (s : Same H1 H2) : LI K m n H H2 l J lm es vs js i := L.draw (Same.x s) (L.mt.up s) (.inl rfl)
/-- the left ends stand elsewhere, some of them taken -/
theorem LI.take {K : PySem.W.Frag} {m : Addr} {n : Nat} {H H1 : Hp} {l l2 J lm : Addr} {es fs : List Nat} {vs : List V} {js : List J2} {i : Nat}
    (L : LI K m n H H1 l J lm es vs js i) (hl : H1 l2 = some (.lst (Vn fs))) (ne2 : l2 ≠ J) (sub : fs.Sublist es) : LI K m n H H1 l2 J lm fs vs js (i + 1) :=
  { L with left := hl, asc := L.asc.sublist sub, lt := fun e he => L.lt e (sub.subset he), off := fun p hp e he => L.off p hp e (sub.subset he), ne2 := ne2, cnt := Nat.le_succ_of_le L.cnt, len := Nat.le_trans sub.length_le L.len }
/-- a joint more -/
theorem LI.more {K : PySem.W.Frag} {m : Addr} {n : Nat} {H H1 : Hp} {l l2 J lm T : Addr} {es fs : List Nat} {vs : List V} {js : List J2} {i a b : Nat}
    (L : LI K m n H H1 l J lm es vs js i) (hT : H1 T = some (.tup [.int (a : Nat), .int (b : Nat)])) (ha : a ∈ es) (hb : b ∈ es) (hab : a < b) {H2 : Hp} (hs : Same (upd H1 J (.lst (vs ++ [.ref T]))) H2)
    (hl : H2 l2 = some (.lst (Vn fs))) (ne2 : l2 ≠ J) (sub : fs.Sublist es) (no : ∀ e ∈ fs, e ≠ a ∧ e ≠ b) : LI K m n H H2 l2 J lm fs (vs ++ [.ref T]) (js ++ [(a, b)]) (i + 1) where
  sx := (L.sx.put L.fr).trans (Same.x hs)
  mt := (L.mt.put (L.mt.ne L.jl fun _ z => nomatch z) L.ne).up hs
  left := hl
  jl := hs _ _ upd_same
  pr := by
    have p1 : Paired (Pr K (upd H1 J (.lst (vs ++ [.ref T])))) (vs ++ [.ref T]) (js ++ [(a, b)]) := pair_snoc (L2.Paired.mapP L.pr fun _ _ ⟨t, q, h⟩ => ⟨t, q, sqT_put h L.jl⟩) ⟨T, rfl, sqT_put (SqT.of hT) L.jl⟩
    exact L2.Paired.mapP p1 fun _ _ z => z.up hs
  asc := L.asc.sublist sub
  lt := fun e he => L.lt e (sub.subset he)
  ok := fun p hp => by
    rcases List.mem_append.mp hp with h | h
    · exact L.ok p h
    · obtain rfl := List.mem_singleton.mp h
      exact ⟨hab, L.lt b hb⟩
  ap := by
    refine List.pairwise_append.mpr ⟨L.ap, List.pairwise_singleton _ _, fun p hp q hq => ?_⟩
    obtain rfl := List.mem_singleton.mp hq
    have h1 := L.off p hp a ha
    have h2 := L.off p hp b hb
    exact ⟨Ne.symm h1.1, Ne.symm h2.1, Ne.symm h1.2, Ne.symm h2.2⟩
  off := fun p hp e he => by
    rcases List.mem_append.mp hp with h | h
    · exact L.off p h e (sub.subset he)
    · obtain rfl := List.mem_singleton.mp h
      exact no e he
  fr := L.fr
  ne := L.ne
  ne2 := ne2
  cnt := by
    rw [List.length_append]
    exact Nat.succ_le_succ L.cnt
  len := Nat.le_trans sub.length_le L.len
/-- the joints, in their order -/
theorem LI.good {K : PySem.W.Frag} {m : Addr} {n : Nat} {H H1 : Hp} {l J lm : Addr} {es : List Nat} {vs ys : List V} {js : List J2} {i : Nat}
    (L : LI K m n H H1 l J lm es vs js i) (h1 : 1 ≤ n) (h12 : n ≤ 12) (pm : ys.Perm vs) (pw : ys.Pairwise (fun x y => ∀ n m, TupI K H1 x n → TupI K H1 y m → TS.code 100 n ≤ TS.code 100 m)) :
    ∃ js', Paired (Pr K H1) ys js' ∧ Good n js' := by
  obtain ⟨js', hp, pj⟩ := paired_perm pm L.pr
  have rng : ∀ p ∈ js', p.1 < p.2 ∧ p.2 < 2 * n := fun p h => L.ok p (pj.mem_iff.mp h)
  have ap : js'.Pairwise DC.Apart := (pj.pairwise_iff (fun {p q} h => ⟨Ne.symm h.1, Ne.symm h.2.2.1, Ne.symm h.2.1, Ne.symm h.2.2.2⟩)).mpr L.ap
  have cw : js'.Pairwise (fun p q => p.1 * 100 + p.2 ≤ q.1 * 100 + q.2) := by
    refine paired_pw (fun x y p q rx ry h => ?_) hp pw
    obtain ⟨t, e, ht⟩ := rx
    obtain ⟨t2, e2, ht2⟩ := ry
    have z := h [((p.1 : Nat) : Int), ((p.2 : Nat) : Int)] [((q.1 : Nat) : Int), ((q.2 : Nat) : Int)] ⟨t, e, ht⟩ ⟨t2, e2, ht2⟩
    simp only [TS.code, List.length_cons, List.length_nil, Nat.zero_add, Int.pow_one, Int.pow_zero] at z
    omega
  refine ⟨js', hp, h1, h12, rng, ?_, ap⟩
  refine List.Pairwise.imp_of_mem (fun {p q} hp hq h => ?_) (List.Pairwise.and cw ap)
  have a1 := rng p hp
  have a2 := rng q hq
  have a3 := h.1
  have a4 := h.2.1
  omega
theorem in2 (e a b : Nat) : inV (.int (e : Nat)) [.int (a : Nat), .int (b : Nat)] = decide (e = a ∨ e = b) := by
  show ((((a : Nat) : Int) == ((e : Nat) : Int)) || ((((b : Nat) : Int) == ((e : Nat) : Int)) || false)) = _
  rw [Bool.eq_iff_iff]
  simp only [Bool.or_eq_true, beq_iff_eq, decide_eq_true_eq, Bool.false_eq_true, or_false]
  omega
section
variable {P : Program} {w : World} {K : PySem.W.Frag} {mg : Str → Option Value} {base : Heap}
def spMake (K : PySem.W.Frag) : Sp := fun vs H Q _ => ∃ (m lm : Addr) (n : Nat), vs = [.ref m, .int n] ∧ MAt H m lm ∧ 1 ≤ n ∧ n ≤ 12 ∧
  ∀ (v : V) (js : List J2) (H' : Hp) (l' : Addr), SameX m H H' → MAt H' m l' → Ly K H' v n js → Good n js → Q v H'
abbrev N30 : List Str := ["m", "links", "left", "joints_so", "share", "turn", "end", "mate", "other"]
theorem sc30 : FnScope N30 ["m", "links"] (defScope (top 46)) := ⟨rfl, rfl, rfl, by decide +kernel, rfl, by decide +kernel, by decide +kernel⟩
theorem ok30 {f f27 f28 : Addr} {fd fd27 fd28 : FuncData} (F : Fun K "_law_lay" "_law_lay" (top 46) f fd) (B : Bn mg)
    (D27 : Df K mg "_law_draw" f27 fd27 ["m", "limit"]) (G27 : OkF P w K mg base 1 f27 fd27 ["m", "limit"] spDraw)
    (D28 : Df K mg "_law_of" f28 fd28 ["m", "some"]) (G28 : OkF P w K mg base 2 f28 fd28 ["m", "some"] (spOf K)) : OkF P w K mg base 3 f fd ["m", "links"] (spMake K) := by
  refine ok0 F sc30 (fun vs H Q E h => ?_) (fun cdv A outer s H vs Q E hgd hr h => ?_)
  · obtain ⟨m, lm, n, rfl, _⟩ := h; rfl
  · obtain ⟨m, lm, n, rfl, hM, h1, h12, q⟩ := h
    have nd := sc30.nd
    have hr1 : Room 1 _ := hr.mono (by decide)
    refine ⟨_, pss_cons (ps_par3 (i := 2) (j := 3) (l := 4) (by rfl) nd rfl rfl rfl (by decide) (by decide) (by decide) rfl rfl rfl
        (pa_cons (pe_listRg rfl (by rfl) B.list (prg_1 (by rfl) B.range (pe_op op_mul pe_int (pv 1)))) (pa_cons (pe_lst pa_nil) (pa_cons (cl D28 G28 hgd hr (pa_cons (pv 0) (pa_cons (pe_lst (pa_cons pe_int (pa_cons pe_int (pa_cons pe_int (pa_cons pe_int (pa_cons pe_int (pa_cons pe_int pa_nil))))))) pa_nil))) pa_nil))) (by rfl))
      (pss_cons (ps_for PassesOwn.never rfl (pi_range1 (by rfl) B.range (pa_cons (pe_op op_mul pe_int (pv 1)) pa_nil)) (pg_name (i := 5) nd rfl (.inl rfl))
        (pss_one (ps_if (pt_cmpR op_gt (pe_callB call_len_seq (by rfl) B.len PySem.boot_len (pa_cons (pv 2) pa_nil)) pe_int (nomark _))
          (pss_cons (ps_set (i := 6) nd rfl (.inr rfl) (pe_ix (r := rIxL K) ix_list (pv 2) pe_int (fun _ _ => rfl)))
          (pss_one (ps_if (pt_cmpR op_gt (cl D27 G27 hgd hr1 (pa_cons (pv 0) (pa_cons (pv 4) pa_nil))) pe_int (nomark _))
            (pss_cons (ps_set (i := 7) nd rfl (.inr rfl) (pe_ix (r := rIxL K) ix_list (pv 2) (pe_op op_add pe_int (cl D27 G27 hgd hr1 (pa_cons (pv 0) (pa_cons (pe_op op_sub (pe_callB call_len_seq (by rfl) B.len PySem.boot_len (pa_cons (pv 2) pa_nil)) pe_int) pa_nil)))) (fun _ _ => rfl)))
            (pss_cons (ps_expr (pe_bm PySem.F.plainAttrs_list PySem.F.slot_list_append PySem.F.type_list_append mt_append (pv 3) (pa_cons (pe_tup (pa_cons (pv 6) (pa_cons (pv 7) pa_nil))) pa_nil)))
            (pss_one (ps_setLc (i := 2) (own := [("other", 8)]) (g := gName 8) rfl nd rfl rfl (sw_true rfl rfl rfl (by decide +kernel)) (pi_list (pv 2)) (blkOk_by (N := N30) (sc := defScope (top 46)) (by decide +kernel)) (fun _ _ _ _ _ => pg_name (i := 8) nd rfl (Or.inl rfl))
              (fun _ _ _ _ _ => pts_one (pt_cmpR (r := rIn K true) op_notIn_seq (pv 8) (pe_tup (pa_cons (pv 6) (pa_cons (pv 7) pa_nil))) (by rfl))) (fun _ _ _ _ _ => pv 8)))))
            (pss_one (ps_set (i := 2) nd rfl (.inl rfl) (pe_slice sl_list (pv 2) (po_some pe_int) po_none))))))
          pss_nil)))
      (pss_one (ps_ret (pe_tup (pa_cons (pv 1) (pa_cons (pe_callTy call_tuple_of (by rfl) B.tuple (by decide +kernel) (pa_cons (pe_callB (cr_sortT (d := 2) (B := 100) (by decide)) (by rfl) B.sorted (by decide +kernel) (pa_cons (pv 3) pa_nil)) pa_nil)) pa_nil)))))), ?_⟩
    refine ⟨_, rfl, 2, (n : Int), rfl, rfl, .inl ⟨by decide, by decide⟩, _, rfl, RgOk.of_le (by omega) (by omega) (by omega) (by omega), fun l0 hl0 => ?_⟩
    refine ⟨by show 0 ≤ sizeLine; decide, fun J hJ => ?_⟩
    refine ⟨_, rfl, by show 6 ≤ sizeLine; decide, fun b hb => ?_⟩
    have s1 : Same H (upd H l0 (.lst (rgV 0 (2 * (n : Int))))) := Same.new hl0
    have s2 := s1.trans (Same.new (o := .lst []) hJ)
    have s3 := s2.trans (Same.new (o := .lst [.int 1, .int 2, .int 3, .int 3, .int 5, .int 9]) hb)
    have eJ0 : l0 ≠ J := ne_of_none upd_same hJ
    have aJ : upd (upd H l0 (.lst (rgV 0 (2 * (n : Int))))) J (.lst []) J = some (.lst []) := upd_same
    have aJ3 := Same.new (o := .lst [.int 1, .int 2, .int 3, .int 3, .int 5, .int 9]) hb _ _ aJ
    have al3 := Same.new (o := .lst [.int 1, .int 2, .int 3, .int 3, .int 5, .int 9]) hb _ _ (Same.new (o := .lst []) hJ _ _ (upd_same (H := H) (a := l0) (o := .lst (rgV 0 (2 * (n : Int))))))
    have fJ : H J = none := s1.free hJ
    refine ⟨m, lm, b, _, rfl, hM.up s3, SqL.of upd_same, by show 0 < 6; decide, by show 6 < 1000000; decide, fun i v H1 l1 hv sx hM1 hl1 => ?_⟩
    obtain ⟨sh, rfl, z0, z1⟩ : ∃ sh : Int, v = .int sh ∧ 0 < sh ∧ sh < 1000000 := by
      have hm := List.mem_of_getElem? hv
      simp only [List.mem_cons, List.not_mem_nil, or_false] at hm
      rcases hm with rfl | rfl | rfl | rfl | rfl | rfl <;> exact ⟨_, rfl, by decide, by decide⟩
    have hM3 := hM.up s3
    have L0 : LI K m n H H1 l0 J l1 (List.range (2 * n)) [] [] 0 := by
      refine ⟨(Same.x s3).trans sx, hM1, ?_, ?_, .nil, ?_, ?_, fun p hp => absurd hp (List.not_mem_nil), .nil, fun p hp => absurd hp (List.not_mem_nil), fJ, ?_, eJ0, Nat.le_refl _, by rw [List.length_range]; exact Nat.le_refl _⟩
      · rw [sx _ _ (hM3.ne al3 fun _ z => nomatch z) al3]
        unfold rgV Vn
        rw [show (2 * (n : Int) - 0).toNat = 2 * n by omega]
        congr 2
        refine List.map_congr_left fun i _ => ?_
        rw [Int.zero_add]
      · exact sx _ _ (hM3.ne aJ3 fun _ z => nomatch z) aJ3
      · exact List.pairwise_lt_range
      · intro e he
        exact List.mem_range.mp he
      · rintro rfl
        rcases hl1 with rfl | h
        · obtain ⟨cs, _, _, _, e2, _⟩ := hM
          rw [fJ] at e2
          cases e2
        · rw [aJ3] at h
          cases h
    refine ⟨_, _, _, rfl, ?_⟩
    refine ⟨_, rfl, 2, (n : Int), rfl, rfl, .inl ⟨by decide, by decide⟩, _, rfl, by omega, by omega, ?_⟩
    rw [show (2 * (n : Int)).toNat = 2 * n by omega]
    refine for_it (walk_range (lo := 0) (n := 2 * n)) (fun i σ H' => ∃ (y5 y6 y7 : Option V) (l lm2 : Addr) (es : List Nat) (vs : List V) (js : List J2),
      σ = [some (.ref m), some (.int n), some (.ref l), some (.ref J), some (.int sh), y5, y6, y7, none] ∧ LI K m n H H' l J lm2 es vs js i) ⟨none, none, none, l0, l1, _, _, _, rfl, L0⟩ (fun _ _ _ _ _ => trivial) ?_ ?_
    · rintro i x σ H2 H3 hi ⟨y5, y6, y7, l, lm2, es, vs, js, rfl, L⟩ ⟨rfl, ex⟩
      have n24 := L.cnt
      refine ⟨_, rfl, l, _, rfl, .inl (SqL.of L.left), _, 1, rfl, rfl, _, rfl, ite2 (fun d => ?_) (fun d => ?_)⟩
      · match es, L, d with
        | [], L, d => exact absurd (of_decide_eq_true d) (by show ¬ (1 : Int) < 0; decide)
        | [e0], L, d => exact absurd (of_decide_eq_true d) (by show ¬ (1 : Int) < 1; decide)
        | e0 :: e1 :: er, L, d =>
        refine ⟨_, rfl, l, _, 0, .int (e0 : Nat), rfl, rfl, SqL.of L.left, at_of (j := 0) rfl rfl, ?_⟩
        refine gn ?_
        refine ⟨_, rfl, _, rfl, m, lm2, sh, rfl, L.mt, z0, z1, fun r H4 l4 r0 r1 sx4 hM4 hl4 => ?_⟩
        have L4 := L.draw sx4 hM4 hl4
        refine ⟨r, 0, rfl, rfl, _, rfl, ite2 (fun d2 => ?_) (fun d2 => ?_)⟩
        · refine ⟨_, rfl, _, rfl, _, rfl, l, _, rfl, .inl (SqL.of L4.left), _, 1, rfl, rfl, m, l4, _, rfl, L4.mt, ?_, ?_, fun r2 H5 l5 b0 b1 sx5 hM5 hl5 => ?_⟩
          · rw [Vn_len]
            show (0 : Int) < ((er.length + 1 + 1 : Nat) : Int) - 1
            omega
          · rw [Vn_len]
            have := L.len
            omega
          obtain ⟨k, rfl⟩ := Int.eq_ofNat_of_zero_le b0
          have hk : k + 1 < (e0 :: e1 :: er).length := by
            rw [Vn_len] at b1
            omega
          have L5 := L4.draw sx5 hM5 hl5
          have eat : (Vn (e0 :: e1 :: er))[k + 1]? = some (.int ((e0 :: e1 :: er).getD (k + 1) 0 : Nat)) := Vn_at hk
          generalize hek : (e0 :: e1 :: er).getD (k + 1) 0 = ek at eat
          have hmem : ek ∈ e1 :: er := by
            rw [← hek, List.getD_cons_succ, List.getD_eq_getElem?_getD, List.getElem?_eq_getElem (Nat.lt_of_succ_lt_succ hk)]
            exact List.getElem_mem _
          have hlt : e0 < ek := (List.pairwise_cons.mp L.asc).1 ek hmem
          refine ⟨1, (k : Nat), rfl, rfl, l, _, _, .int (ek : Nat), rfl, rfl, SqL.of L5.left, ?_, gn ?_⟩
          · rw [show (1 : Int) + ((k : Nat) : Int) = ((k + 1 : Nat) : Int) by omega]
            exact atI_nat eat
          have el : vs.length = js.length := Paired.length L.pr
          refine ⟨_, rfl, .inl ⟨rfl, _, SqL.of L5.jl⟩, _, rfl, _, rfl, by show 2 ≤ sizeLine; decide, fun T hT => ?_⟩
          refine ⟨J, _, _, rfl, rfl, Same.new hT _ _ L5.jl, Nat.lt_of_le_of_lt (show vs.length ≤ 1000 by omega) (by decide), ?_⟩
          have L6 := L5.same (Same.new (o := .tup [.int (e0 : Nat), .int (ek : Nat)]) hT)
          have left7 : upd (upd H5 T (.tup [.int (e0 : Nat), .int (ek : Nat)])) J (.lst (vs ++ [.ref T])) l = some (.lst (Vn (e0 :: e1 :: er))) := by
            rw [upd_ne L.ne2]
            exact L6.left
          refine ⟨_, rfl, l, rfl, ⟨_, SqL.of left7⟩, fun D hD => ?_⟩
          have nDJ : D ≠ J := fun z => by
            rw [z, upd_same] at hD
            cases hD
          refine lc_it (walk_list (xs := Vn (e0 :: e1 :: er))) (fun i H' => Same (upd (upd H5 T (.tup [.int (e0 : Nat), .int (ek : Nat)])) J (.lst (vs ++ [.ref T]))) H' ∧
            H' D = some (.lst (Vn (((e0 :: e1 :: er).take i).filter fun e => !decide (e = e0 ∨ e = ek))))) ⟨Same.new hD, upd_same⟩ (fun i H' _ hp => SqL.of (hp.1 _ _ left7)) ?_ ?_
          · rintro i2 v Ha Hb hi2 ⟨sm, hL⟩ ⟨rfl, ev⟩
            rw [Vn_len] at hi2
            have ev2 := Vn_at hi2
            have eg : (e0 :: e1 :: er)[i2]? = some ((e0 :: e1 :: er).getD i2 0) := by rw [List.getD_eq_getElem?_getD, List.getElem?_eq_getElem hi2]; rfl
            generalize (e0 :: e1 :: er).getD i2 0 = e at ev2 eg
            obtain rfl : v = V.int (e : Nat) := Option.some.inj (ev.symm.trans ev2)
            refine ⟨rfl, _, rfl, _, rfl, _, rfl, by show 2 ≤ sizeLine; decide, fun T2 hT2 => ?_⟩
            refine ⟨T2, _, rfl, .inr (SqT.of upd_same), rfl, rfl, _, rfl, ?_⟩
            show if (!inV (V.int (e : Nat)) [V.int (e0 : Nat), V.int (ek : Nat)]) = true then _ else _
            rw [in2, take_next eg, List.filter_append]
            have sT := Same.new (o := .tup [.int (e0 : Nat), .int (ek : Nat)]) hT2
            by_cases hc : e = e0 ∨ e = ek
            · rw [decide_eq_true hc]
              refine iteF ⟨sm.trans sT, ?_⟩
              rw [List.filter_cons_of_neg (by rw [decide_eq_true hc]; decide), List.filter_nil, List.append_nil]
              exact sT _ _ hL
            · rw [decide_eq_false hc]
              refine iteT ⟨_, rfl, _, sT _ _ hL, ?_, same_put (sm.trans sT) hD, ?_⟩
              · rw [Vn_len]
                refine Nat.lt_of_le_of_lt (Nat.le_trans (List.length_filter_le _ _) (Nat.le_trans (List.length_take_le' _ _) (Nat.le_trans L.len (show 2 * n ≤ 1000 by omega)))) (by decide)
              · rw [upd_same, List.filter_cons_of_pos (by rw [decide_eq_false hc]; rfl), List.filter_nil, vn_app]
                rfl
          · rintro H' ⟨sm, hL⟩
            rw [List.take_of_length_le (by rw [Vn_len]; exact Nat.le_refl _)] at hL
            refine ⟨_, _, _, D, l5, _, _, _, rfl, L6.more upd_same List.mem_cons_self (List.mem_cons_of_mem _ hmem) hlt sm hL nDJ List.filter_sublist fun e he => ?_⟩
            have hz := (List.mem_filter.mp he).2
            simp only [Bool.not_eq_true', decide_eq_false_iff_not] at hz
            exact ⟨fun z => hz (.inl z), fun z => hz (.inr z)⟩
        · refine ⟨_, rfl, 1, rfl, l, _, rfl, SqL.of L4.left, fun p hp => ?_⟩
          have L5 := L4.same (Same.new (o := .lst (cutV (Vn (e0 :: e1 :: er)) (some 1) none)) hp)
          refine ⟨_, _, _, p, l4, _, _, _, rfl, L5.take (fs := e1 :: er) ?_ ?_ (List.sublist_cons_self _ _)⟩
          · rw [upd_same, cutN]
          · exact Ne.symm (ne_of_none L4.jl hp)
      · exact ⟨_, _, _, _, _, _, _, _, rfl, { L with cnt := Nat.le_succ_of_le L.cnt }⟩
    · rintro σ H' ⟨y5, y6, y7, l, lm2, es, vs, js, rfl, L⟩
      have n24 := L.cnt
      have el : vs.length = js.length := Paired.length L.pr
      refine ⟨_, rfl, _, rfl, J, vs, rfl, SqL.of L.jl, by omega, ?_, fun ys p hperm hpw hp => ?_⟩
      · intro x hx
        obtain ⟨pq, hpq, t, rfl, ht⟩ := paired_memL L.pr x hx
        refine ⟨[((pq.1 : Nat) : Int), ((pq.2 : Nat) : Int)], ⟨t, rfl, ht⟩, rfl, ?_⟩
        have z := L.ok pq hpq
        intro u hu
        simp only [List.mem_cons, List.not_mem_nil, or_false] at hu
        rcases hu with rfl | rfl <;> constructor <;> omega
      · obtain ⟨js', hP, hG⟩ := L.good h1 h12 hperm hpw
        refine ⟨p, _, rfl, .inl ⟨SqL.of upd_same, fun t ht => ?_⟩⟩
        refine ⟨by show 2 ≤ sizeLine; decide, fun T hT => ?_⟩
        have sp : Same H' (upd H' p (.lst ys)) := Same.new hp
        have st := sp.trans (Same.new (o := .tup ys) ht)
        have sT := st.trans (Same.new (o := .tup [.int (n : Nat), .ref t]) hT)
        refine q (.ref T) js' _ lm2 (L.sx.trans (Same.x sT)) (L.mt.up sT) ⟨T, .ref t, rfl, SqT.of upd_same, t, ys, rfl, SqT.of (Same.new hT _ _ upd_same), L2.Paired.mapP hP fun _ _ z => z.up sT⟩ hG
end
end K15
-- C02
set_option Elab.async false
set_option linter.all false
set_option maxRecDepth 100000
set_option maxHeartbeats 4000000
/-! C02: mates of a lay as a function. -/
namespace DC
open PySem L2
def mt : List J2 → Nat → Option Nat
  | [], _ => none
  | p :: js, e => if e = p.1 then some p.2 else if e = p.2 then some p.1 else mt js e
theorem mt_app (p : J2) : ∀ (xs : List J2) (e : Nat), mt (xs ++ [p]) e = (mt xs e).or (if e = p.1 then some p.2 else if e = p.2 then some p.1 else none)
  | [], e => by
    show (if e = p.1 then some p.2 else if e = p.2 then some p.1 else mt [] e) = _
    rfl
  | q :: xs, e => by
    show (if e = q.1 then some q.2 else if e = q.2 then some q.1 else mt (xs ++ [p]) e) = ((if e = q.1 then some q.2 else if e = q.2 then some q.1 else mt xs e) : Option Nat).or _
    rw [mt_app p xs e]
    split
    · rfl
    · split <;> rfl
theorem mt_none : ∀ {xs : List J2} {e : Nat}, ¬ Seen xs e → mt xs e = none
  | [], _, _ => rfl
  | q :: xs, e, h => by
    have h1 : e ≠ q.1 := fun z => h ⟨q, List.mem_cons_self, .inl z⟩
    have h2 : e ≠ q.2 := fun z => h ⟨q, List.mem_cons_self, .inr z⟩
    show (if e = q.1 then some q.2 else if e = q.2 then some q.1 else mt xs e) = none
    rw [if_neg h1, if_neg h2]
    exact mt_none fun ⟨p, hp, r⟩ => h ⟨p, List.mem_cons_of_mem _ hp, r⟩
theorem mt_some : ∀ {xs : List J2} {e x : Nat}, mt xs e = some x → ∃ p ∈ xs, (e = p.1 ∧ x = p.2) ∨ (e = p.2 ∧ x = p.1)
  | [], _, _, h => by cases h
  | q :: xs, e, x, h => by
    have h' : (if e = q.1 then some q.2 else if e = q.2 then some q.1 else mt xs e) = some x := h
    split at h'
    · rename_i c
      exact ⟨q, List.mem_cons_self, .inl ⟨c, (Option.some.inj h').symm⟩⟩
    · split at h'
      · rename_i c
        exact ⟨q, List.mem_cons_self, .inr ⟨c, (Option.some.inj h').symm⟩⟩
      · obtain ⟨p, hp, r⟩ := mt_some h'
        exact ⟨p, List.mem_cons_of_mem _ hp, r⟩
theorem mt_of {xs : List J2} (ap : xs.Pairwise Apart) (ne : ∀ p ∈ xs, p.1 ≠ p.2) {p : J2} (hp : p ∈ xs) : mt xs p.1 = some p.2 ∧ mt xs p.2 = some p.1 := by
  induction xs with
  | nil => exact absurd hp (List.not_mem_nil)
  | cons q xs ih =>
    have ap' := List.pairwise_cons.mp ap
    show (if p.1 = q.1 then some q.2 else if p.1 = q.2 then some q.1 else mt xs p.1) = some p.2 ∧ (if p.2 = q.1 then some q.2 else if p.2 = q.2 then some q.1 else mt xs p.2) = some p.1
    rcases List.mem_cons.mp hp with rfl | hp
    · have n := ne p List.mem_cons_self
      rw [if_pos rfl, if_neg (Ne.symm n), if_pos rfl]
      exact ⟨rfl, rfl⟩
    · obtain ⟨a1, a2, a3, a4⟩ := ap'.1 p hp
      rw [if_neg (Ne.symm a1), if_neg (Ne.symm a3), if_neg (Ne.symm a2), if_neg (Ne.symm a4)]
      exact ih ap'.2 (fun r hr => ne r (List.mem_cons_of_mem _ hr)) hp
/-- a good lay's mates go both ways, are no fixed ends, lie within -/
structure Mt (N : Nat) (f : Nat → Option Nat) : Prop where
  inv : ∀ {a b}, f a = some b → f b = some a
  irr : ∀ {a}, f a ≠ some a
  lt : ∀ {a b}, f a = some b → a < N ∧ b < N
theorem Good.mt {n : Nat} {js : List J2} (g : Good n js) : Mt (2 * n) (mt js) := by
  have ne : ∀ p ∈ js, p.1 ≠ p.2 := fun p hp => Nat.ne_of_lt (g.rng p hp).1
  refine ⟨?_, ?_, ?_⟩
  · intro a b h
    obtain ⟨p, hp, ⟨rfl, rfl⟩ | ⟨rfl, rfl⟩⟩ := mt_some h
    · exact (mt_of g.dis ne hp).2
    · exact (mt_of g.dis ne hp).1
  · intro a h
    obtain ⟨p, hp, ⟨e1, e2⟩ | ⟨e1, e2⟩⟩ := mt_some h
    · exact ne p hp (e1.symm.trans e2)
    · exact ne p hp (e2.symm.trans e1)
  · intro a b h
    obtain ⟨p, hp, ⟨rfl, rfl⟩ | ⟨rfl, rfl⟩⟩ := mt_some h
    · have := g.rng p hp
      omega
    · have := g.rng p hp
      omega
def oV : Option Nat → V
  | none => .non
  | some x => .int (x : Nat)
def mV (n : Nat) (js : List J2) : List V := (List.range (2 * n)).map fun e => oV (mt js e)
theorem mV_len (n : Nat) (js : List J2) : (mV n js).length = 2 * n := by
  unfold mV
  rw [List.length_map, List.length_range]
theorem mV_at {n : Nat} {js : List J2} {e : Nat} (h : e < 2 * n) : (mV n js)[e]? = some (oV (mt js e)) := by
  unfold mV
  rw [List.getElem?_map, List.getElem?_range h]
  rfl
theorem range_set {α : Type} {N i : Nat} (f : Nat → α) (v : α) : ((List.range N).map f).set i v = (List.range N).map fun e => if e = i then v else f e := by
  apply List.ext_getElem
  · rw [List.length_set, List.length_map, List.length_map]
  · intro k h1 h2
    rw [List.getElem_set, List.getElem_map, List.getElem_map, List.getElem_range]
    by_cases c : i = k
    · rw [if_pos c, if_pos c.symm]
    · rw [if_neg c, if_neg (Ne.symm c)]
theorem mV_step {n : Nat} {xs : List J2} {p : J2} (h1 : ¬ Seen xs p.1) (h2 : ¬ Seen xs p.2) : ((mV n xs).set p.1 (.int (p.2 : Nat))).set p.2 (.int (p.1 : Nat)) = mV n (xs ++ [p]) := by
  unfold mV
  rw [range_set, range_set]
  refine List.map_congr_left fun e _ => ?_
  rw [mt_app]
  by_cases a : e = p.2
  · subst a
    rw [if_pos rfl, mt_none h2]
    by_cases b : p.2 = p.1
    · rw [if_pos b, b]
      rfl
    · rw [if_neg b, if_pos rfl]
      rfl
  · rw [if_neg a]
    by_cases b : e = p.1
    · subst b
      rw [if_pos rfl, mt_none h1, if_pos rfl]
      rfl
    · rw [if_neg b, if_neg b, if_neg a, Option.or_none]
/-- the other end of the same link -/
def fel (e : Nat) : Nat := if e % 2 = 0 then e + 1 else e - 1
def tld (e : Nat) : Int := if e % 2 = 0 then ((e / 2 + 1 : Nat) : Int) else -((e / 2 + 1 : Nat) : Int)
/-- the free ends -/
def frees (n : Nat) (js : List J2) : List Nat := (List.range (2 * n)).filter fun e => (mt js e).isNone
end DC
-- C03
set_option Elab.async false
set_option linter.all false
set_option maxRecDepth 100000
set_option maxHeartbeats 4000000
/-! C03: walks along the links of a lay. -/
namespace DC
theorem fel_fel (e : Nat) : fel (fel e) = e := by
  unfold fel
  split <;> split <;> omega
theorem fel_ne (e : Nat) : fel e ≠ e := by
  unfold fel
  split <;> omega
theorem fel_lt {n e : Nat} (h : e < 2 * n) : fel e < 2 * n := by
  unfold fel
  split <;> omega
theorem fel_inj {a b : Nat} (h : fel a = fel b) : a = b := by rw [← fel_fel a, h, fel_fel]
theorem fel_div (e : Nat) : fel e / 2 = e / 2 := by
  unfold fel
  split <;> omega
theorem same_link {a b : Nat} (h : a / 2 = b / 2) : a = b ∨ a = fel b := by
  unfold fel
  split <;> omega
theorem tld_fel (e : Nat) : tld (fel e) = - tld e := by
  unfold tld fel
  split <;> split <;> omega
theorem tld_inj {a b : Nat} (h : tld a = tld b) : a = b := by
  unfold tld at h
  split at h <;> split at h <;> omega
theorem nodup_le {α : Type} [DecidableEq α] : ∀ {l m : List α}, l.Nodup → (∀ x ∈ l, x ∈ m) → l.length ≤ m.length
  | [], _, _, _ => Nat.zero_le _
  | a :: l, m, h, s => by
    have ha := s a (List.mem_cons_self ..)
    have h' := List.nodup_cons.mp h
    have q := nodup_le (l := l) (m := m.erase a) h'.2 fun x hx => (List.mem_erase_of_ne (show x ≠ a from fun e => h'.1 (e ▸ hx))).mpr (s x (List.mem_cons_of_mem _ hx))
    rw [List.length_erase_of_mem ha] at q
    have := List.length_pos_of_mem ha
    rw [List.length_cons]
    omega
def it (f : Nat → Option Nat) (a : Nat) : Nat → Option Nat
  | 0 => some a
  | k + 1 => (it f a k).bind fun e => f (fel e)
theorem it_step {f : Nat → Option Nat} {a k x : Nat} (h : it f a (k + 1) = some x) : ∃ y, it f a k = some y ∧ f (fel y) = some x := Option.bind_eq_some_iff.mp h
theorem it_next {f : Nat → Option Nat} {a k y : Nat} (h : it f a k = some y) : it f a (k + 1) = f (fel y) := by
  show (it f a k).bind _ = _
  rw [h]
  rfl
theorem it_add {f : Nat → Option Nat} {a b j : Nat} (h : it f a j = some b) : ∀ i, it f b i = it f a (j + i)
  | 0 => h.symm
  | i + 1 => by
    show (it f b i).bind _ = (it f a (j + i)).bind _
    rw [it_add h i]
structure Part (f : Nat → Option Nat) (a k : Nat) : Prop where
  pos : 0 < k
  all : ∀ i, i < k → ∃ x, it f a i = some x
  no : ∀ i, 0 < i → i < k → it f a i ≠ some a
/-- a whole walk: it ends at a free end, or where it began -/
structure Run (f : Nat → Option Nat) (a k : Nat) : Prop extends Part f a k where
  fin : it f a k = none ∨ it f a k = some a
def wk (f : Nat → Option Nat) (a k : Nat) : List Nat := (List.range k).map fun i => (it f a i).getD 0
section
variable {f : Nat → Option Nat} {N a k : Nat}
theorem wk_len : (wk f a k).length = k := by
  unfold wk
  rw [List.length_map, List.length_range]
theorem wk_at {i x : Nat} (hi : i < k) (h : it f a i = some x) : (wk f a k)[i]? = some x := by
  unfold wk
  rw [List.getElem?_map, List.getElem?_range hi, Option.map_some, h]
  rfl
theorem mem_wk (P : Part f a k) {x : Nat} : x ∈ wk f a k ↔ ∃ i, i < k ∧ it f a i = some x := by
  unfold wk
  rw [List.mem_map]
  constructor
  · rintro ⟨i, hi, rfl⟩
    have hi := List.mem_range.mp hi
    obtain ⟨y, hy⟩ := P.all i hi
    exact ⟨i, hi, by rw [hy]; rfl⟩
  · rintro ⟨i, hi, h⟩
    exact ⟨i, List.mem_range.mpr hi, by rw [h]; rfl⟩
theorem wk_succ (x : Nat) (h : it f a k = some x) : wk f a (k + 1) = wk f a k ++ [x] := by
  unfold wk
  rw [List.range_succ, List.map_append, List.map_cons, h]
  rfl
theorem Part.one : Part f a 1 := ⟨by decide, fun i hi => ⟨a, by rw [show i = 0 by omega]; rfl⟩, fun i h1 h2 => by omega⟩
theorem Part.next (P : Part f a k) {x : Nat} (h : it f a k = some x) (hx : x ≠ a) : Part f a (k + 1) := by
  refine ⟨Nat.succ_pos _, fun i hi => ?_, fun i h1 h2 => ?_⟩
  · by_cases c : i = k
    · exact ⟨x, c ▸ h⟩
    · exact P.all i (by omega)
  · by_cases c : i = k
    · rw [c, h]
      exact fun z => hx (Option.some.inj z)
    · exact P.no i h1 (by omega)
theorem it_back (M : Mt N f) : ∀ (i d x : Nat), it f a i = some x → it f a (i + d) = some x → it f a d = some a
  | 0, d, x, h1, h2 => by
    rw [Nat.zero_add] at h2
    rw [h2]
    exact h1.symm
  | i + 1, d, x, h1, h2 => by
    obtain ⟨y, hy, ey⟩ := it_step h1
    rw [show i + 1 + d = (i + d) + 1 by omega] at h2
    obtain ⟨z, hz, ez⟩ := it_step h2
    have e := (M.inv ey).symm.trans (M.inv ez)
    have e2 := fel_inj (Option.some.inj e)
    subst e2
    exact it_back M i d y hy hz
theorem Part.inj (P : Part f a k) (M : Mt N f) {i j x : Nat} (hi : i < k) (hj : j < k) (h1 : it f a i = some x) (h2 : it f a j = some x) : i = j := by
  rcases Nat.lt_trichotomy i j with c | c | c
  · rw [show j = i + (j - i) by omega] at h2
    exact absurd (it_back M i (j - i) x h1 h2) (P.no _ (by omega) (by omega))
  · exact c
  · rw [show i = j + (i - j) by omega] at h1
    exact absurd (it_back M j (i - j) x h2 h1) (P.no _ (by omega) (by omega))
theorem Part.lt (P : Part f a k) (M : Mt N f) (ha : a < N) : ∀ x ∈ wk f a k, x < N := by
  intro x hx
  obtain ⟨i, hi, h⟩ := (mem_wk P).mp hx
  cases i with
  | zero =>
    have e : a = x := Option.some.inj h
    omega
  | succ i =>
    obtain ⟨y, _, e⟩ := it_step h
    exact (M.lt e).2
theorem Part.nodup (P : Part f a k) (M : Mt N f) : (wk f a k).Nodup := by
  unfold wk
  rw [List.Nodup, List.pairwise_map]
  refine List.Pairwise.imp_of_mem (fun {i j} hi hj hne e => ?_) (List.nodup_range (n := k))
  obtain ⟨x, hx⟩ := P.all i (List.mem_range.mp hi)
  obtain ⟨y, hy⟩ := P.all j (List.mem_range.mp hj)
  rw [hx, hy] at e
  have e : x = y := e
  subst e
  exact hne (P.inj M (List.mem_range.mp hi) (List.mem_range.mp hj) hx hy)
theorem Part.le (P : Part f a k) (M : Mt N f) (ha : a < N) : k ≤ N := by
  have q := nodup_le (m := List.range N) (P.nodup M) fun x hx => List.mem_range.mpr (P.lt M ha x hx)
  rw [wk_len, List.length_range] at q
  exact q
theorem run_ex (M : Mt N f) (ha : a < N) : ∃ k, Run f a k := by
  have gen : ∀ d k, Part f a k → N - k ≤ d → ∃ k, Run f a k := by
    intro d
    induction d with
    | zero =>
      intro k P h
      cases e : it f a k with
      | none => exact ⟨k, P, .inl e⟩
      | some x =>
        by_cases c : x = a
        · exact ⟨k, P, .inr (by rw [e, c])⟩
        · have := (P.next e c).le M ha
          omega
    | succ d ih =>
      intro k P h
      cases e : it f a k with
      | none => exact ⟨k, P, .inl e⟩
      | some x =>
        by_cases c : x = a
        · exact ⟨k, P, .inr (by rw [e, c])⟩
        · exact ih (k + 1) (P.next e c) (by omega)
  exact gen N 1 .one (by omega)
theorem run_eq {j : Nat} (R : Run f a k) (S : Run f a j) : k = j := by
  have gen : ∀ {k j}, Run f a k → Run f a j → ¬ k < j := by
    intro k j R S c
    rcases R.fin with h | h
    · obtain ⟨x, hx⟩ := S.all k c
      rw [h] at hx
      cases hx
    · exact S.no k R.pos c h
  rcases Nat.lt_trichotomy k j with c | c | c
  · exact absurd c (gen R S)
  · exact c
  · exact absurd c (gen S R)
/-- no link is come to by both its ends -/
theorem no_fel (M : Mt N f) : ∀ (d i x : Nat), it f a i = some x → it f a (i + d) = some (fel x) → False
  | 0, i, x, h1, h2 => by
    have e : some x = some (fel x) := h1.symm.trans h2
    exact fel_ne x (Option.some.inj e).symm
  | 1, i, x, h1, h2 => by
    rw [it_next h1] at h2
    exact M.irr h2
  | d + 2, i, x, h1, h2 => by
    obtain ⟨z, hz, ez⟩ := it_step (k := i + d + 1) h2
    have e := M.inv ez
    rw [← it_next h1] at e
    refine no_fel M d (i + 1) (fel z) e ?_
    rw [fel_fel, show i + 1 + d = i + d + 1 by omega]
    exact hz
theorem Part.link (P : Part f a k) (M : Mt N f) {i j x y : Nat} (hi : i < k) (hj : j < k) (h1 : it f a i = some x) (h2 : it f a j = some y) (h : x / 2 = y / 2) : i = j := by
  rcases same_link h with rfl | rfl
  · exact P.inj M hi hj h1 h2
  · rcases Nat.le_total j i with c | c
    · rw [show i = j + (i - j) by omega] at h1
      exact (no_fel M _ j y h2 h1).elim
    · rw [show j = i + (j - i) by omega] at h2
      rw [← fel_fel y] at h2
      exact (no_fel M _ i (fel y) h1 h2).elim
/-- the walk backwards -/
theorem it_rev (M : Mt N f) (P : Part f a k) {z : Nat} (hz : it f a (k - 1) = some z) : ∀ i, i < k → it f (fel z) i = (it f a (k - 1 - i)).map fel
  | 0, _ => by
    rw [Nat.sub_zero, hz]
    rfl
  | i + 1, hi => by
    have ih := it_rev M P hz i (by omega)
    obtain ⟨y, hy⟩ := P.all (k - 1 - i) (by omega)
    rw [hy] at ih
    have ih' : it f (fel z) i = some (fel y) := ih
    rw [it_next ih', fel_fel]
    have hy' : it f a ((k - 1 - (i + 1)) + 1) = some y := by
      rw [show k - 1 - (i + 1) + 1 = k - 1 - i by omega]
      exact hy
    obtain ⟨w, hw, ew⟩ := it_step hy'
    rw [hw, M.inv ew]
    rfl
theorem rev_part (M : Mt N f) (P : Part f a k) {z : Nat} (hz : it f a (k - 1) = some z) : Part f (fel z) k := by
  have pos := P.pos
  refine ⟨P.pos, fun i hi => ?_, fun i h1 h2 e => ?_⟩
  · obtain ⟨y, hy⟩ := P.all (k - 1 - i) (by omega)
    exact ⟨fel y, by rw [it_rev M P hz i hi, hy]; rfl⟩
  · rw [it_rev M P hz i h2] at e
    obtain ⟨y, hy⟩ := P.all (k - 1 - i) (by omega)
    rw [hy] at e
    have e2 := fel_inj (Option.some.inj e)
    subst e2
    have := P.inj M (by omega) (by omega) hy hz
    omega
theorem rev_wk (M : Mt N f) (P : Part f a k) {z : Nat} (hz : it f a (k - 1) = some z) : wk f (fel z) k = ((wk f a k).reverse).map fel := by
  apply List.ext_getElem?
  intro i
  by_cases hi : i < k
  · obtain ⟨y, hy⟩ := P.all (k - 1 - i) (by omega)
    have h := it_rev M P hz i hi
    rw [hy] at h
    rw [wk_at hi h, List.getElem?_map, List.getElem?_reverse (by rw [wk_len]; exact hi), wk_len, wk_at (by omega) hy]
    rfl
  · rw [List.getElem?_eq_none (by rw [wk_len]; omega), List.getElem?_eq_none (by rw [List.length_map, List.length_reverse, wk_len]; omega)]
theorem rev_fin (M : Mt N f) (P : Part f a k) {z : Nat} (hz : it f a (k - 1) = some z) : it f (fel z) k = f a := by
  have pos := P.pos
  have h := it_rev M P hz (k - 1) (by omega)
  rw [show k - 1 - (k - 1) = 0 by omega] at h
  have h' : it f (fel z) (k - 1) = some (fel a) := h
  have e := it_next h'
  rw [show k - 1 + 1 = k by omega, fel_fel] at e
  exact e
end
end DC
-- C10
set_option Elab.async false
set_option linter.all false
set_option maxRecDepth 100000
set_option maxHeartbeats 4000000
/-! C10: walks by two pairings in turn; what hangs together by both. -/
namespace DC
/-- which pairing is followed at a step -/
def hh (f g : Nat → Option Nat) (i : Nat) : Nat → Option Nat := if i % 2 = 0 then f else g
def jt (f g : Nat → Option Nat) (a : Nat) : Nat → Option Nat
  | 0 => some a
  | k + 1 => (jt f g a k).bind (hh f g k)
section
variable {f g : Nat → Option Nat} {N a k : Nat}
theorem hh_par {i j : Nat} (h : i % 2 = j % 2) : hh f g i = hh f g j := by
  unfold hh
  rw [h]
theorem hh_inv (F : Mt N f) (G : Mt N g) {i x y : Nat} (h : hh f g i x = some y) : hh f g i y = some x := by
  unfold hh at h ⊢
  split at h
  · rename_i c
    rw [if_pos c]
    exact F.inv h
  · rename_i c
    rw [if_neg c]
    exact G.inv h
theorem hh_irr (F : Mt N f) (G : Mt N g) {i x : Nat} : hh f g i x ≠ some x := by
  unfold hh
  split
  · exact F.irr
  · exact G.irr
theorem hh_lt (F : Mt N f) (G : Mt N g) {i x y : Nat} (h : hh f g i x = some y) : y < N := by
  unfold hh at h
  split at h
  · exact (F.lt h).2
  · exact (G.lt h).2
theorem jt_step {x : Nat} (h : jt f g a (k + 1) = some x) : ∃ y, jt f g a k = some y ∧ hh f g k y = some x := Option.bind_eq_some_iff.mp h
theorem jt_next {y : Nat} (h : jt f g a k = some y) : jt f g a (k + 1) = hh f g k y := by
  show (jt f g a k).bind _ = _
  rw [h]
  rfl
theorem jt_odd (F : Mt N f) (G : Mt N g) : ∀ (d i x : Nat), jt f g a i = some x → jt f g a (i + (2 * d + 1)) = some x → False
  | 0, i, x, h1, h2 => by
    rw [show i + (2 * 0 + 1) = i + 1 by omega, jt_next h1] at h2
    exact hh_irr F G h2
  | d + 1, i, x, h1, h2 => by
    rw [show i + (2 * (d + 1) + 1) = (i + 2 * d + 2) + 1 by omega] at h2
    obtain ⟨y, hy, ey⟩ := jt_step h2
    rw [hh_par (show (i + 2 * d + 2) % 2 = i % 2 by omega)] at ey
    have e := hh_inv F G ey
    rw [← jt_next h1] at e
    exact jt_odd F G d (i + 1) y e (by rw [show i + 1 + (2 * d + 1) = i + 2 * d + 2 by omega]; exact hy)
theorem jt_even (F : Mt N f) (G : Mt N g) (d : Nat) : ∀ (i x : Nat), jt f g a i = some x → jt f g a (i + 2 * d) = some x → jt f g a (2 * d) = some a
  | 0, x, h1, h2 => by
    rw [Nat.zero_add] at h2
    rw [h2]
    exact h1.symm
  | i + 1, x, h1, h2 => by
    obtain ⟨y, hy, ey⟩ := jt_step h1
    rw [show i + 1 + 2 * d = (i + 2 * d) + 1 by omega] at h2
    obtain ⟨z, hz, ez⟩ := jt_step h2
    rw [hh_par (show (i + 2 * d) % 2 = i % 2 by omega)] at ez
    have e := (hh_inv F G ey).symm.trans (hh_inv F G ez)
    obtain rfl := Option.some.inj e
    exact jt_even F G d i y hy hz
structure Pj (f g : Nat → Option Nat) (a k : Nat) : Prop where
  pos : 0 < k
  all : ∀ i, i < k → ∃ x, jt f g a i = some x
  no : ∀ i, 0 < i → i < k → jt f g a i ≠ some a
structure Rj (f g : Nat → Option Nat) (a k : Nat) : Prop extends Pj f g a k where
  fin : jt f g a k = none ∨ jt f g a k = some a
def rj (f g : Nat → Option Nat) (a k : Nat) : List Nat := (List.range k).map fun i => (jt f g a i).getD 0
theorem rj_len : (rj f g a k).length = k := by
  unfold rj
  rw [List.length_map, List.length_range]
theorem rj_succ (x : Nat) (h : jt f g a k = some x) : rj f g a (k + 1) = rj f g a k ++ [x] := by
  unfold rj
  rw [List.range_succ, List.map_append, List.map_cons, h]
  rfl
theorem mem_rj (P : Pj f g a k) {x : Nat} : x ∈ rj f g a k ↔ ∃ i, i < k ∧ jt f g a i = some x := by
  unfold rj
  rw [List.mem_map]
  constructor
  · rintro ⟨i, hi, rfl⟩
    have hi := List.mem_range.mp hi
    obtain ⟨y, hy⟩ := P.all i hi
    exact ⟨i, hi, by rw [hy]; rfl⟩
  · rintro ⟨i, hi, h⟩
    exact ⟨i, List.mem_range.mpr hi, by rw [h]; rfl⟩
theorem Pj.one : Pj f g a 1 := ⟨by decide, fun i hi => ⟨a, by rw [show i = 0 by omega]; rfl⟩, fun i h1 h2 => by omega⟩
theorem Pj.next (P : Pj f g a k) {x : Nat} (h : jt f g a k = some x) (hx : x ≠ a) : Pj f g a (k + 1) := by
  refine ⟨Nat.succ_pos _, fun i hi => ?_, fun i h1 h2 => ?_⟩
  · by_cases c : i = k
    · exact ⟨x, c ▸ h⟩
    · exact P.all i (by omega)
  · by_cases c : i = k
    · rw [c, h]
      exact fun z => hx (Option.some.inj z)
    · exact P.no i h1 (by omega)
theorem Pj.inj (P : Pj f g a k) (F : Mt N f) (G : Mt N g) {i j x : Nat} (hi : i < k) (hj : j < k) (h1 : jt f g a i = some x) (h2 : jt f g a j = some x) : i = j := by
  have gen : ∀ {i j : Nat}, j < k → jt f g a i = some x → jt f g a j = some x → ¬ i < j := by
    intro i j hj h1 h2 c
    by_cases e : (j - i) % 2 = 0
    · rw [show j = i + 2 * ((j - i) / 2) by omega] at h2
      exact P.no _ (by omega) (by omega) (jt_even F G ((j - i) / 2) i x h1 h2)
    · rw [show j = i + (2 * ((j - i) / 2) + 1) by omega] at h2
      exact jt_odd F G _ i x h1 h2
  rcases Nat.lt_trichotomy i j with c | c | c
  · exact absurd c (gen hj h1 h2)
  · exact c
  · exact absurd c (gen hi h2 h1)
theorem Pj.lt (P : Pj f g a k) (F : Mt N f) (G : Mt N g) (ha : a < N) : ∀ x ∈ rj f g a k, x < N := by
  intro x hx
  obtain ⟨i, hi, h⟩ := (mem_rj P).mp hx
  cases i with
  | zero =>
    have e : a = x := Option.some.inj h
    omega
  | succ i =>
    obtain ⟨y, _, e⟩ := jt_step h
    exact hh_lt F G e
theorem Pj.nodup (P : Pj f g a k) (F : Mt N f) (G : Mt N g) : (rj f g a k).Nodup := by
  unfold rj
  rw [List.Nodup, List.pairwise_map]
  refine List.Pairwise.imp_of_mem (fun {i j} hi hj hne e => ?_) (List.nodup_range (n := k))
  obtain ⟨x, hx⟩ := P.all i (List.mem_range.mp hi)
  obtain ⟨y, hy⟩ := P.all j (List.mem_range.mp hj)
  rw [hx, hy] at e
  have e : x = y := e
  subst e
  exact hne (P.inj F G (List.mem_range.mp hi) (List.mem_range.mp hj) hx hy)
theorem Pj.le (P : Pj f g a k) (F : Mt N f) (G : Mt N g) (ha : a < N) : k ≤ N := by
  have q := nodup_le (m := List.range N) (P.nodup F G) fun x hx => List.mem_range.mpr (P.lt F G ha x hx)
  rw [rj_len, List.length_range] at q
  exact q
theorem rj_eq {j : Nat} (R : Rj f g a k) (S : Rj f g a j) : k = j := by
  have gen : ∀ {k j}, Rj f g a k → Rj f g a j → ¬ k < j := by
    intro k j R S c
    rcases R.fin with h | h
    · obtain ⟨x, hx⟩ := S.all k c
      rw [h] at hx
      cases hx
    · exact S.no k R.pos c h
  rcases Nat.lt_trichotomy k j with c | c | c
  · exact absurd c (gen R S)
  · exact c
  · exact absurd c (gen S R)
/-- one leads to the other by some pairing -/
def Nb (f g : Nat → Option Nat) (x y : Nat) : Prop := f x = some y ∨ g x = some y
inductive Cl (f g : Nat → Option Nat) (a : Nat) : Nat → Prop
  | base : Cl f g a a
  | step {x y : Nat} : Cl f g a x → Nb f g x y → Cl f g a y
theorem nb_hh {i x y : Nat} (h : hh f g i x = some y) : Nb f g x y := by
  unfold hh at h
  split at h
  · exact .inl h
  · exact .inr h
theorem nb_or {i x y : Nat} (h : Nb f g x y) : hh f g i x = some y ∨ hh f g (i + 1) x = some y := by
  unfold hh
  by_cases c : i % 2 = 0
  · rw [if_pos c, if_neg (show ¬ (i + 1) % 2 = 0 by omega)]
    exact h
  · rw [if_neg c, if_pos (show (i + 1) % 2 = 0 by omega)]
    exact h.symm
theorem nb_symm (F : Mt N f) (G : Mt N g) {x y : Nat} (h : Nb f g x y) : Nb f g y x := h.imp F.inv G.inv
theorem cl_trans {x y : Nat} (h1 : Cl f g a x) (h2 : Cl f g x y) : Cl f g a y := by
  induction h2 with
  | base => exact h1
  | step _ n ih => exact ih.step n
theorem cl_symm (F : Mt N f) (G : Mt N g) {x y : Nat} (h : Cl f g x y) : Cl f g y x := by
  induction h with
  | base => exact .base
  | step _ n ih => exact cl_trans (.step .base (nb_symm F G n)) ih
theorem cl_closed {S : Nat → Prop} (h0 : S a) (hs : ∀ x y, S x → Nb f g x y → S y) : ∀ {x}, Cl f g a x → S x := by
  intro x h
  induction h with
  | base => exact h0
  | step _ n ih => exact hs _ _ ih n
theorem rj_cl (P : Pj f g a k) : ∀ x ∈ rj f g a k, Cl f g a x := by
  have gen : ∀ i x, jt f g a i = some x → Cl f g a x := by
    intro i
    induction i with
    | zero => intro x h; obtain rfl : a = x := Option.some.inj h; exact .base
    | succ i ih =>
      intro x h
      obtain ⟨y, hy, e⟩ := jt_step h
      exact (ih y hy).step (nb_hh e)
  intro x hx
  obtain ⟨i, _, h⟩ := (mem_rj P).mp hx
  exact gen i x h
/-- the row of a piece is all that hangs together with its beginning: begun at a last end, or in a ring -/
theorem cl_rj (F : Mt N f) (G : Mt N g) (R : Rj f g a k) (h0 : g a = none ∨ jt f g a k = some a) : ∀ x, Cl f g a x → x ∈ rj f g a k := by
  have P := R.toPj
  intro x hx
  refine cl_closed (S := fun x => x ∈ rj f g a k) ((mem_rj P).mpr ⟨0, P.pos, rfl⟩) (fun x y hx n => ?_) hx
  obtain ⟨i, hi, hxi⟩ := (mem_rj P).mp hx
  -- ahead: by the pairing that is followed there
  have ahead : hh f g i x = some y → y ∈ rj f g a k := by
    intro e
    rw [← jt_next hxi] at e
    by_cases c : i + 1 < k
    · exact (mem_rj P).mpr ⟨i + 1, c, e⟩
    · rw [show i + 1 = k by omega] at e
      rcases R.fin with z | z
      · rw [z] at e
        cases e
      · rw [z] at e
        obtain rfl : a = y := Option.some.inj e
        exact (mem_rj P).mpr ⟨0, P.pos, rfl⟩
  -- behind: by the other one
  have behind : hh f g (i + 1) x = some y → y ∈ rj f g a k := by
    intro e
    cases i with
    | zero =>
      obtain rfl : a = x := Option.some.inj hxi
      have e' : g a = some y := e
      rcases h0 with z | z
      · rw [z] at e'
        cases e'
      · have pos := P.pos
        have ev : k % 2 = 0 := by
          by_cases c : k % 2 = 0
          · exact c
          · rw [show k = 0 + (2 * (k / 2) + 1) by omega] at z
            exact (jt_odd F G (k / 2) 0 a rfl z).elim
        rw [show k = (k - 1) + 1 by omega] at z
        obtain ⟨w, hw, ew⟩ := jt_step z
        have ew' := hh_inv F G ew
        have e2 : hh f g (k - 1) a = g a := by
          unfold hh
          rw [if_neg (by omega)]
        rw [e2, e'] at ew'
        obtain rfl := Option.some.inj ew'
        exact (mem_rj P).mpr ⟨k - 1, by omega, hw⟩
    | succ i =>
      obtain ⟨w, hw, ew⟩ := jt_step hxi
      rw [hh_par (show (i + 1 + 1) % 2 = i % 2 by omega)] at e
      have ew' := hh_inv F G ew
      rw [e] at ew'
      obtain rfl := Option.some.inj ew'
      exact (mem_rj P).mpr ⟨i, by omega, hw⟩
  rcases nb_or (i := i) n with e | e
  · exact ahead e
  · exact behind e
end
end DC
-- K15c
set_option Elab.async false
set_option linter.all false
set_option maxRecDepth 100000
set_option maxHeartbeats 4000000
namespace K15
open PySem L2 DC
section
variable {P : Program} {w : World} {K : PySem.W.Frag} {mg : Str → Option Value} {base : Heap}
def spMates (K : PySem.W.Frag) : Sp := fun vs H Q _ => ∃ (v : V) (n : Nat) (js : List J2), vs = [v] ∧ Ly K H v n js ∧ Good n js ∧ ∀ (r : Addr) (H' : Hp), Same H H' → H r = none → H' r = some (.lst (mV n js)) → Q (.ref r) H'
theorem non_rep {n : Nat} : (List.replicate (2 * (n : Int)).toNat [V.non]).flatten = mV n [] := by
  rw [show (2 * (n : Int)).toNat = 2 * n by omega]
  unfold mV
  rw [show (fun e => oV (mt [] e)) = fun _ : Nat => V.non from rfl, List.map_const', List.length_range]
  induction 2 * n with
  | zero => rfl
  | succ k ih => rw [List.replicate_succ, List.flatten_cons, ih]; rfl
abbrev N17 : List Str := ["lay", "links", "joints", "found", "low", "high"]
theorem sc17 : FnScope N17 ["lay"] (defScope (top 16)) := ⟨rfl, rfl, rfl, by decide +kernel, rfl, by decide +kernel, by decide +kernel⟩
theorem ok17 {f : Addr} {fd : FuncData} (F : Fun K "mates" "mates" (top 16) f fd) (B : Bn mg) : OkF P w K mg base 1 f fd ["lay"] (spMates K) := by
  refine ok0 F sc17 (fun vs H Q E h => ?_) (fun cdv A outer s H vs Q E hgd hr h => ?_)
  · obtain ⟨v, n, js, rfl, _⟩ := h; rfl
  · obtain ⟨v, n, js, rfl, ⟨t, u, rfl, hS, tj, ws, rfl, hSj, hPj⟩, g, q⟩ := h
    have nd := sc17.nd
    have tp := g.top
    refine ⟨_, pss_cons (ps_asg (pv 0) (pg_tup (by rfl) (pgs_cons (pg_name (i := 1) nd rfl (.inl rfl)) (pgs_cons (pg_name (i := 2) nd rfl (.inl rfl)) pgs_nil))))
      (pss_cons (ps_set (i := 3) nd rfl (.inl rfl) (pe_op op_rep (pe_lst (pa_cons pe_non pa_nil)) (pe_op op_mul pe_int (pv 1))))
      (pss_cons (ps_for PassesOwn.never rfl (pi_tup (pv 2)) (pg_tup (by rfl) (pgs_cons (pg_name (i := 4) nd rfl (.inl rfl)) (pgs_cons (pg_name (i := 5) nd rfl (.inl rfl)) pgs_nil)))
        (pss_cons (ps_asg (pv 5) (pg_sub (pv 3) (pv 4) set_list)) (pss_one (ps_asg (pv 4) (pg_sub (pv 3) (pv 5) set_list)))))
      (pss_one (ps_ret (pv 3))))), ?_⟩
    refine ⟨_, rfl, t, _, rfl, hS, rfl, _, _, rfl, _, _, rfl, rfl, ?_⟩
    refine ⟨by show 1 ≤ sizeLine; decide, fun l0 hl0 => ?_⟩
    refine ⟨_, rfl, 2, (n : Int), rfl, rfl, .inl ⟨by decide, by decide⟩, l0, 2 * (n : Int), [.non], rfl, rfl, upd_same, by omega, by omega, ?_, fun l hl => ?_⟩
    · show 1 * (2 * (n : Int)).toNat ≤ sizeLine
      exact Nat.le_trans (show 1 * (2 * (n : Int)).toNat ≤ 24 by omega) (by decide)
    refine gn ?_
    have Hl : H l = none := Same.free (same_new0 hl0) hl
    have s2 : Same H (upd (upd H l0 (.lst [.non])) l (.lst (List.replicate (2 * (n : Int)).toNat [V.non]).flatten)) := same_put (same_new0 hl0) Hl
    refine ⟨_, rfl, tj, rfl, ⟨ws, Same.t s2 hSj⟩, for_it (walk_tup (xs := ws)) (fun i σ H' => ∃ y4 y5, σ = [some (.ref t), some (.int n), some (.ref tj), some (.ref l), y4, y5] ∧ Same H H' ∧ H' l = some (.lst (mV n (js.take i)))) ⟨none, none, rfl, s2, ?_⟩ ?_ ?_ ?_⟩
    · rw [upd_same, non_rep]
      rfl
    · rintro i σ H' hi ⟨y4, y5, rfl, sm, _⟩
      exact Same.t sm hSj
    · rintro i x σ H1 H2 hi ⟨y4, y5, rfl, sm, hL⟩ ⟨rfl, ex⟩
      obtain ⟨p, hp, j, rfl, hj⟩ := pair_at hPj ex
      obtain ⟨r1, r2, r3, r4, r5⟩ := good_at g hp
      refine ⟨j, _, rfl, Same.t sm hj, rfl, _, _, rfl, _, _, rfl, rfl, ?_⟩
      refine ⟨_, rfl, _, rfl, _, rfl, l, mV n (js.take i), _, p.1, rfl, rfl, hL, Evl.ixN_nat (by rw [mV_len]; omega), ?_⟩
      refine ⟨_, rfl, _, rfl, _, rfl, l, _, _, p.2, rfl, rfl, upd_same, Evl.ixN_nat (by rw [List.length_set, mV_len]; exact r2), ?_⟩
      refine ⟨_, _, rfl, same_put (same_put sm Hl) Hl, ?_⟩
      rw [upd_same, take_next hp, mV_step r3 r4]
    · rintro σ H' ⟨y4, y5, rfl, sm, hL⟩
      rw [List.take_of_length_le (by rw [Paired.length hPj]; exact Nat.le_refl _)] at hL
      exact ⟨_, rfl, q l H' sm Hl hL⟩

def spAlong : Sp := fun vs H Q _ => ∃ (m1 m2 : Addr) (n a : Nat) (js ls : List J2), vs = [.ref m1, .ref m2, .int a] ∧ H m1 = some (.lst (mV n js)) ∧ H m2 = some (.lst (mV n ls)) ∧ Good n js ∧ Good n ls ∧ a < 2 * n ∧
  ∀ (k : Nat) (r : Addr) (H' : Hp), Rj (mt js) (mt ls) a k → Same H H' → H r = none → H' r = some (.lst (Vn (rj (mt js) (mt ls) a k))) → Q (.ref r) H'
abbrev N20 : List Str := ["first", "second", "begun", "row", "here"]
theorem sc20 : FnScope N20 ["first", "second", "begun"] (defScope (top 27)) := ⟨rfl, rfl, rfl, by decide +kernel, rfl, by decide +kernel, by decide +kernel⟩
def sw (m1 m2 : Addr) (i : Nat) : Addr := if i % 2 = 0 then m1 else m2
theorem ok20 {f : Addr} {fd : FuncData} (F : Fun K "row_along" "row_along" (top 27) f fd) (B : Bn mg) : OkF P w K mg base 1 f fd ["first", "second", "begun"] spAlong := by
  refine ok0 F sc20 (fun vs H Q E h => ?_) (fun cdv A outer s H vs Q E hgd hr h => ?_)
  · obtain ⟨m1, m2, n, a, js, ls, rfl, _⟩ := h; rfl
  · obtain ⟨m1, m2, n, a, js, ls, rfl, hm1, hm2, g1, g2, ha, q⟩ := h
    have nd := sc20.nd
    have tp := g1.top
    have F1 := g1.mt
    have F2 := g2.mt
    refine ⟨_, pss_cons (ps_set (i := 3) nd rfl (.inl rfl) (pe_lst (pa_cons (pv 2) pa_nil)))
      (pss_cons (ps_set (i := 4) nd rfl (.inl rfl) (pe_ix (r := rIxL K) ix_list (pv 0) (pv 2) (fun _ _ => rfl)))
      (pss_cons (ps_while PassesOwn.never (PW.pt (pw_and (pt_cmp (pc_notN (pv 4)) rfl) (pw_and1 (pt_cmpR op_ne (pv 4) (pv 2) (nomark _)))))
        (pss_cons (ps_expr (pe_bm PySem.F.plainAttrs_list PySem.F.slot_list_append PySem.F.type_list_append mt_append (pv 3) (pa_cons (pv 4) pa_nil)))
        (pss_cons (ps_par (i := 0) (j := 1) (by rfl) nd rfl rfl (by decide) rfl rfl (pa_cons (pv 1) (pa_cons (pv 0) pa_nil)) (by rfl))
        (pss_one (ps_set (i := 4) nd rfl (.inl rfl) (pe_ix (r := rIxL K) ix_list (pv 0) (pv 4) (fun _ _ => rfl)))))))
      (pss_one (ps_ret (pv 3))))), ?_⟩
    refine ⟨_, rfl, by show 1 ≤ sizeLine; decide, fun l hl => gn ?_⟩
    have s1 : Same H (upd H l (.lst [.int a])) := Same.new hl
    refine ⟨_, rfl, _, rfl, m1, _, _, _, rfl, rfl, SqL.of (s1 _ _ hm1), atI_nat (mV_at ha), gn ?_⟩
    have hsw : ∀ i, H (sw m1 m2 i) = some (.lst ((List.range (2 * n)).map fun e => oV (hh (mt js) (mt ls) i e))) := by
      intro i
      unfold sw hh
      split
      · exact hm1
      · exact hm2
    let Wf : Nat → L2.St → Hp → Prop := fun k σ H' => ∃ i, k = 2 * n - (i + 1) ∧ σ = [some (.ref (sw m1 m2 i)), some (.ref (sw m1 m2 (i + 1))), some (.int a), some (.ref l), some (oV (jt (mt js) (mt ls) a (i + 1)))] ∧ Pj (mt js) (mt ls) a (i + 1) ∧ Same H H' ∧
      H' l = some (.lst (Vn (rj (mt js) (mt ls) a (i + 1))))
    refine ⟨Wf, ⟨_, 0, rfl, rfl, .one, s1, upd_same⟩, ?_⟩
    rintro k σ H1 ⟨i, rfl, rfl, Pt, sm, hL⟩
    have ile := Pt.le F1 F2 ha
    cases e : jt (mt js) (mt ls) a (i + 1) with
    | none =>
      exact ⟨_, rfl, false, rfl, iteF (iteF ⟨_, rfl, q _ l _ ⟨Pt, .inl e⟩ sm hl hL⟩)⟩
    | some x =>
      refine ⟨_, rfl, true, rfl, iteT ⟨_, rfl, _, rfl, rfl, _, rfl, ?_⟩⟩
      by_cases c : x = a
      · rw [show decide (oV (some x) = V.int (a : Nat)) = true from decide_eq_true (by rw [c]; rfl)]
        exact iteF ⟨_, rfl, q _ l _ ⟨Pt, .inr (by rw [e, c])⟩ sm hl hL⟩
      · rw [show decide (oV (some x) = V.int (a : Nat)) = false from decide_eq_false (fun z => c (by have := V.int.inj z; omega))]
        have Pn := Pt.next e c
        have hx : x < 2 * n := Pn.lt F1 F2 ha x ((mem_rj Pn).mpr ⟨i + 1, by omega, e⟩)
        refine iteT ⟨fun σ' H' => ∃ k', k' < 2 * n - (i + 1) ∧ Wf k' σ' H', fun σ' H' hw => hw, ?_⟩
        refine ⟨_, rfl, .inl ⟨rfl, _, SqL.of hL⟩, _, rfl, l, _, _, rfl, rfl, hL, ?_, ?_⟩
        · rw [Vn_len, rj_len]
          exact Nat.lt_of_le_of_lt (show i + 1 ≤ 1000 by omega) (by decide)
        have sm2 := same_put (l := l) (o := .lst (Vn (rj (mt js) (mt ls) a (i + 1)) ++ [.int (x : Nat)])) sm hl
        refine ⟨_, rfl, _, rfl, _, _, rfl, ?_⟩
        refine ⟨_, rfl, _, rfl, sw m1 m2 (i + 1), _, _, _, rfl, rfl, SqL.of (sm2 _ _ (hsw (i + 1))), atI_nat (v := oV (hh (mt js) (mt ls) (i + 1) x)) (by rw [List.getElem?_map, List.getElem?_range hx]; rfl), gn ?_⟩
        have nle := Pn.le F1 F2 ha
        refine ⟨_, by omega, i + 1, rfl, ?_, Pn, sm2, ?_⟩
        · rw [jt_next e, show sw m1 m2 (i + 1 + 1) = sw m1 m2 i by unfold sw; rw [show (i + 1 + 1) % 2 = i % 2 by omega]]
          rfl
        · rw [upd_same, rj_succ x e]
          unfold Vn
          rw [List.map_append]
          rfl
end
end K15
-- C11
set_option Elab.async false
set_option linter.all false
set_option maxRecDepth 100000
set_option maxHeartbeats 4000000
/-! C11: the pieces of a web. -/
namespace DC
open PySem L2
section
variable {f g : Nat → Option Nat} {N a k : Nat}
theorem cl_swap {x : Nat} (h : Cl f g a x) : Cl g f a x := by
  induction h with
  | base => exact .base
  | step _ n ih => exact ih.step n.symm
/-- all that hangs together with a, each once -/
structure Cls (N : Nat) (f g : Nat → Option Nat) (a : Nat) (row : List Nat) : Prop where
  mem : ∀ x, x ∈ row ↔ Cl f g a x
  nd : row.Nodup
  lt : ∀ x ∈ row, x < N
theorem Cls.swap {row : List Nat} (c : Cls N f g a row) : Cls N g f a row := ⟨fun x => (c.mem x).trans ⟨cl_swap, cl_swap⟩, c.nd, c.lt⟩
theorem cls_rj (F : Mt N f) (G : Mt N g) (ha : a < N) (R : Rj f g a k) (h0 : g a = none ∨ jt f g a k = some a) : Cls N f g a (rj f g a k) :=
  ⟨fun x => ⟨rj_cl R.toPj x, cl_rj F G R h0 x⟩, R.toPj.nodup F G, R.toPj.lt F G ha⟩
theorem Cls.beg {row : List Nat} (c : Cls N f g a row) : a ∈ row := (c.mem a).mpr .base
/-- two such are the same, or apart -/
theorem Cls.meet {b : Nat} {row row' : List Nat} (F : Mt N f) (G : Mt N g) (c : Cls N f g a row) (d : Cls N f g b row') {x : Nat} (h : x ∈ row) (h' : x ∈ row') : ∀ y, y ∈ row → y ∈ row' := by
  intro y hy
  have e1 := (c.mem x).mp h
  have e2 := (d.mem x).mp h'
  have e3 := (c.mem y).mp hy
  exact (d.mem y).mpr (cl_trans e2 (cl_trans (cl_symm F G e1) e3))
end
/-- the row of a piece that is no ring, begun with a last end of it; "open" or "shut" where it is even -/
def Pth (js ls : List J2) (a : Nat) (kd : Str) (row : List Nat) : Prop := ∃ k,
  (mt js a = none ∧ Rj (mt ls) (mt js) a k ∧ row = rj (mt ls) (mt js) a k ∧ kd = "open") ∨ (mt js a ≠ none ∧ Rj (mt js) (mt ls) a k ∧ row = rj (mt js) (mt ls) a k ∧ kd = "shut")
def oddK (row : List Nat) (kd : Str) : Str := if row.length % 2 = 1 then "odd" else kd
/-- an end that is free in one of both -/
def Lst (js ls : List J2) (e : Nat) : Prop := mt js e = none ∨ mt ls e = none
theorem pth_cls {n : Nat} {js ls : List J2} (g1 : Good n js) (g2 : Good n ls) {a : Nat} (ha : a < 2 * n) {kd : Str} {row : List Nat} (h : Pth js ls a kd row) (hl : Lst js ls a) : Cls (2 * n) (mt js) (mt ls) a row := by
  obtain ⟨k, ⟨e, R, rfl, _⟩ | ⟨e, R, rfl, _⟩⟩ := h
  · exact (cls_rj g2.mt g1.mt ha R (.inl e)).swap
  · exact cls_rj g1.mt g2.mt ha R (.inl (hl.resolve_left e))
/-- a piece: its kind, its row -/
def Wpc (n : Nat) (js ls : List J2) (p : Str × List Nat) : Prop := ∃ a, a < 2 * n ∧ Cls (2 * n) (mt js) (mt ls) a p.2 ∧
  ((Lst js ls a ∧ (∃ kd, Pth js ls a kd p.2 ∧ p.1 = oddK p.2 kd) ∧ ∀ e ∈ p.2, Lst js ls e → a ≤ e) ∨
   ((∀ e ∈ p.2, ¬ Lst js ls e) ∧ p.1 = "ring" ∧ (∃ k, Rj (mt js) (mt ls) a k ∧ p.2 = rj (mt js) (mt ls) a k) ∧ ∀ e ∈ p.2, a ≤ e))
/-- the pieces found so far, the ends seen -/
structure Wi (n : Nat) (js ls : List J2) (ps : List (Str × List Nat)) (bs : List Bool) : Prop where
  len : bs.length = 2 * n
  seen : ∀ e, e < 2 * n → (bs[e]? = some true ↔ ∃ p ∈ ps, e ∈ p.2)
  pcs : ∀ p ∈ ps, Wpc n js ls p
  dis : ps.Pairwise (fun p q => ∀ e, e ∈ p.2 → e ∉ q.2)
section
variable {n : Nat} {js ls : List J2} {ps : List (Str × List Nat)} {bs : List Bool}
theorem Wi.apart (W : Wi n js ls ps bs) (g1 : Good n js) (g2 : Good n ls) {a : Nat} (ha : a < 2 * n) (hn : bs[a]? ≠ some true) {row : List Nat} (c : Cls (2 * n) (mt js) (mt ls) a row) :
    ∀ p ∈ ps, ∀ e, e ∈ p.2 → e ∉ row := by
  intro p hp e he he'
  obtain ⟨b, hb, cb, _⟩ := W.pcs p hp
  have := c.meet g1.mt g2.mt cb he' he a c.beg
  exact hn ((W.seen a ha).mpr ⟨p, hp, this⟩)
theorem Wi.add (W : Wi n js ls ps bs) {p : Str × List Nat} (hp : Wpc n js ls p) (hd : ∀ q ∈ ps, ∀ e, e ∈ q.2 → e ∉ p.2) {bs' : List Bool} (hl : bs'.length = 2 * n)
    (hs : ∀ e, e < 2 * n → (bs'[e]? = some true ↔ bs[e]? = some true ∨ e ∈ p.2)) : Wi n js ls (ps ++ [p]) bs' := by
  refine ⟨hl, fun e he => ?_, fun q hq => ?_, ?_⟩
  · rw [hs e he, W.seen e he]
    constructor
    · rintro (⟨q, hq, h⟩ | h)
      · exact ⟨q, List.mem_append_left _ hq, h⟩
      · exact ⟨p, List.mem_append_right _ List.mem_cons_self, h⟩
    · rintro ⟨q, hq, h⟩
      rcases List.mem_append.mp hq with hq | hq
      · exact .inl ⟨q, hq, h⟩
      · obtain rfl := List.mem_singleton.mp hq
        exact .inr h
  · rcases List.mem_append.mp hq with hq | hq
    · exact W.pcs q hq
    · obtain rfl := List.mem_singleton.mp hq
      exact hp
  · refine List.pairwise_append.mpr ⟨W.dis, List.pairwise_singleton _ _, fun q hq r hr => ?_⟩
    obtain rfl := List.mem_singleton.mp hr
    exact hd q hq
/-- a path begun at an unseen last end, all lesser last ends seen -/
theorem Wi.path (W : Wi n js ls ps bs) (g1 : Good n js) (g2 : Good n ls) {a : Nat} (ha : a < 2 * n) (hn : bs[a]? ≠ some true) (hl : Lst js ls a) (hi : ∀ e, e < a → Lst js ls e → bs[e]? = some true)
    {kd : Str} {row : List Nat} (h : Pth js ls a kd row) : Wpc n js ls (oddK row kd, row) ∧ ∀ p ∈ ps, ∀ e, e ∈ p.2 → e ∉ row := by
  have c := pth_cls g1 g2 ha h hl
  have ap := W.apart g1 g2 ha hn c
  refine ⟨⟨a, ha, c, .inl ⟨hl, ⟨kd, h, rfl⟩, fun e he le => ?_⟩⟩, ap⟩
  by_cases z : a ≤ e
  · exact z
  · obtain ⟨p, hp, hep⟩ := (W.seen e (by omega)).mp (hi e (by omega) le)
    exact absurd he (ap p hp e hep)
/-- a ring begun at an unseen end, all last ends and all lesser ends seen -/
theorem Wi.ring (W : Wi n js ls ps bs) (g1 : Good n js) (g2 : Good n ls) {a k : Nat} (ha : a < 2 * n) (hn : bs[a]? ≠ some true) (hl : ∀ e, e < 2 * n → Lst js ls e → bs[e]? = some true) (hi : ∀ e, e < a → bs[e]? = some true)
    (R : Rj (mt js) (mt ls) a k) : Wpc n js ls ("ring", rj (mt js) (mt ls) a k) ∧ ∀ p ∈ ps, ∀ e, e ∈ p.2 → e ∉ rj (mt js) (mt ls) a k := by
  have F := g1.mt
  have G := g2.mt
  -- no end that hangs together with a is a last end
  have nol : ∀ x, Cl (mt js) (mt ls) a x → x < 2 * n → ¬ Lst js ls x := by
    intro x hx hlt hlx
    obtain ⟨p, hp, hxp⟩ := (W.seen x hlt).mp (hl x hlt hlx)
    obtain ⟨b, hb, cb, _⟩ := W.pcs p hp
    have e2 := (cb.mem x).mp hxp
    exact hn ((W.seen a ha).mpr ⟨p, hp, (cb.mem a).mpr (cl_trans e2 (cl_symm F G hx))⟩)
  have fin : jt (mt js) (mt ls) a k = some a := by
    rcases R.fin with z | z
    · exfalso
      have pos := R.pos
      obtain ⟨y, hy⟩ := R.all (k - 1) (by omega)
      have hm : y ∈ rj (mt js) (mt ls) a k := (mem_rj R.toPj).mpr ⟨k - 1, by omega, hy⟩
      have hc := rj_cl R.toPj y hm
      have hlt := R.toPj.lt F G ha y hm
      have e := jt_next hy
      rw [show k - 1 + 1 = k by omega, z] at e
      refine nol y hc hlt ?_
      unfold hh at e
      split at e
      · exact .inl e.symm
      · exact .inr e.symm
    · exact z
  have c := cls_rj F G ha R (.inr fin)
  have ap := W.apart g1 g2 ha hn c
  refine ⟨⟨a, ha, c, .inr ⟨fun e he => nol e ((c.mem e).mp he) (c.lt e he), rfl, ⟨k, R, rfl⟩, fun e he => ?_⟩⟩, ap⟩
  by_cases z : a ≤ e
  · exact z
  · obtain ⟨p, hp, hep⟩ := (W.seen e (by omega)).mp (hi e (by omega))
    exact absurd he (ap p hp e hep)
end
end DC
-- K15d
set_option Elab.async false
set_option linter.all false
set_option maxRecDepth 100000
set_option maxHeartbeats 4000000
namespace K15
open PySem L2 DC
theorem oV_none {o : Option Nat} : decide (oV o = .non) = o.isNone := by
  cases o with
  | none => rfl
  | some x => rfl
section
variable {P : Program} {w : World} {K : PySem.W.Frag} {mg : Str → Option Value} {base : Heap}
def spPath : Sp := fun vs H Q _ => ∃ (m1 m2 : Addr) (n a : Nat) (js ls : List J2), vs = [.ref m1, .ref m2, .int a] ∧ H m1 = some (.lst (mV n js)) ∧ H m2 = some (.lst (mV n ls)) ∧ Good n js ∧ Good n ls ∧ a < 2 * n ∧
  ∀ (kd : Str) (row : List Nat) (r t : Addr) (H' : Hp), Pth js ls a kd row → Same H H' → H r = none → H t = none → H' r = some (.tup [.str (oddK row kd), .ref t]) → H' t = some (.tup (Vn row)) → Q (.ref r) H'
abbrev N21 : List Str := ["ones", "others", "end", "row", "kind"]
theorem sc21 : FnScope N21 ["ones", "others", "end"] (defScope (top 28)) := ⟨rfl, rfl, rfl, by decide +kernel, rfl, by decide +kernel, by decide +kernel⟩
theorem ok21 {f f20 : Addr} {fd fd20 : FuncData} (F : Fun K "path_from" "path_from" (top 28) f fd) (B : Bn mg)
    (D20 : Df K mg "row_along" f20 fd20 ["first", "second", "begun"]) (G20 : OkF P w K mg base 1 f20 fd20 ["first", "second", "begun"] spAlong) : OkF P w K mg base 2 f fd ["ones", "others", "end"] spPath := by
  refine ok0 F sc21 (fun vs H Q E h => ?_) (fun cdv A outer s H vs Q E hgd hr h => ?_)
  · obtain ⟨m1, m2, n, a, js, ls, rfl, _⟩ := h; rfl
  · obtain ⟨m1, m2, n, a, js, ls, rfl, hm1, hm2, g1, g2, ha, q⟩ := h
    have nd := sc21.nd
    refine ⟨_, Evl.pss_cut (ps_if (pt_cmp (pc_isN (pe_ix (r := rIxL K) ix_list (pv 0) (pv 2) (fun _ _ => rfl))) rfl)
        (pss_cons (ps_set (i := 3) nd rfl (.inl rfl) (cl D20 G20 hgd hr (pa_cons (pv 1) (pa_cons (pv 0) (pa_cons (pv 2) pa_nil))))) (pss_one (ps_set (i := 4) nd rfl (.inl rfl) pe_str)))
        (pss_cons (ps_set (i := 3) nd rfl (.inl rfl) (cl D20 G20 hgd hr (pa_cons (pv 0) (pa_cons (pv 1) (pa_cons (pv 2) pa_nil))))) (pss_one (ps_set (i := 4) nd rfl (.inl rfl) pe_str))))
      (pss_one (ps_ret (pe_tup (pa_cons (pe_ifExp (pt_cmpR op_eq (pe_op op_mod (pe_callB call_len_seq (by rfl) B.len PySem.boot_len (pa_cons (pv 3) pa_nil)) pe_int) pe_int (nomark _)) pe_str (pv 4))
        (pa_cons (pe_callTy call_tuple_of (by rfl) B.tuple (by decide +kernel) (pa_cons (pv 3) pa_nil)) pa_nil))))), ?_⟩
    refine ⟨fun σ' H' => ∃ (l : Addr) (kd : Str) (row : List Nat), σ' = [some (.ref m1), some (.ref m2), some (.int a), some (.ref l), some (.str kd)] ∧ Pth js ls a kd row ∧ Same H H' ∧ H' l = some (.lst (Vn row)), ?_, ?_⟩
    · refine ⟨_, rfl, _, rfl, m1, _, _, _, rfl, rfl, SqL.of hm1, atI_nat (mV_at ha), _, rfl, ?_⟩
      rw [oV_none]
      cases e : mt js a with
      | none =>
        refine iteT ⟨_, rfl, _, rfl, _, rfl, m2, m1, n, a, ls, js, rfl, hm2, hm1, g2, g1, ha, fun k r H1 R s1 _ h1 => gn ?_⟩
        exact ⟨r, _, _, rfl, ⟨k, .inl ⟨e, R, rfl, rfl⟩⟩, s1, h1⟩
      | some x =>
        refine iteF ⟨_, rfl, _, rfl, _, rfl, m1, m2, n, a, js, ls, rfl, hm1, hm2, g1, g2, ha, fun k r H1 R s1 _ h1 => gn ?_⟩
        exact ⟨r, _, _, rfl, ⟨k, .inr ⟨by rw [e]; exact (fun z => nomatch z), R, rfl, rfl⟩⟩, s1, h1⟩
    · rintro σ' H' ⟨l, kd, row, rfl, hP, sm, hL⟩
      have fin : ∀ z : Str, z = oddK row kd → ∀ t, H' t = none → ∀ T, upd H' t (.tup (Vn row)) T = none → Q (.ref T) (upd (upd H' t (.tup (Vn row))) T (.tup [.str z, .ref t])) := by
        intro z ez t ht T hT
        have nt : t ≠ T := ne_of_none upd_same hT
        exact q kd row T t _ hP (same_put (same_put sm (sm.free ht)) (sm.free ((Same.new ht).free hT))) (sm.free ((Same.new ht).free hT)) (sm.free ht) (by rw [upd_same, ez]) (by rw [upd_ne nt, upd_same])
      have em : (((Vn row).length : Nat) : Int) % 2 = ((row.length % 2 : Nat) : Int) := by rw [Vn_len]; omega
      refine ⟨_, rfl, l, _, rfl, .inl (SqL.of hL), _, 2, rfl, rfl, (by show (0 : Int) < 2; decide), rfl, _, rfl, ite2 (fun d => ?_) (fun d => ?_)⟩
      · have d2 : (((Vn row).length : Nat) : Int) % 2 = 1 := V.int.inj (of_decide_eq_true d)
        refine ⟨_, rfl, l, _, rfl, .inl ⟨SqL.of hL, fun t ht => ⟨by show 2 ≤ sizeLine; decide, fun T hT => fin _ ?_ t ht T hT⟩⟩⟩
        unfold oddK
        rw [if_pos (by omega)]
      · have d2 : ¬ (((Vn row).length : Nat) : Int) % 2 = 1 := fun z => d (decide_eq_true (by show V.int ((((Vn row).length : Nat) : Int) % 2) = V.int 1; rw [z]))
        refine ⟨_, rfl, _, rfl, l, _, rfl, .inl ⟨SqL.of hL, fun t ht => ⟨by show 2 ≤ sizeLine; decide, fun T hT => fin _ ?_ t ht T hT⟩⟩⟩
        unfold oddK
        rw [if_neg (by omega)]
end
end K15
-- DC0
set_option Elab.async false
set_option linter.all false
set_option maxRecDepth 100000
set_option maxHeartbeats 4000000
/-! DC0: a def of the text by its body, its code object told. -/
namespace DC
open PySem PySem.Spec PyProof.Rows L2 Evl
section
variable {P : Program} {w : World} {K : PySem.W.Frag} {mg : Str → Option Value} {base : Heap}
theorem okC {x qual : Str} {st : Stmt} {f : Addr} {N ps : List Str} {k : Nat} {sp : Sp} {oc : Value} {od an : Option Addr} {osl : Array (Option Value)} {kV doc pm cdv ct : Value}
    (lk : K.lookup f = some ⟨oc, od, .func (PySem.W.fnOf x qual (defArgs st) (defBody st) (defScope st) .none kV doc pm an cdv ct), osl⟩) (hcd : PySem.W.codeIn K cdv qual = true)
    (S : FnScope N ps (defScope st)) (cnt : ∀ vs H Q E, sp vs H Q E → vs.length = ps.length)
    (body : ∀ (A : Around) (outer : List Env) (s : Shared) (H : Hp) (vs : List V) (Q : VK) (E : XK),
      A.guards = some [] → Room k (A.deeper (envOfC qual (defScope st) s.heap.objs.size f cdv)) → sp vs H Q E →
      ∃ t, PSs (cxOf CX0 P w K mg base N qual (defScope st) f cdv A outer s H E).nox (defBody st) t ∧
        t { nx := fun _ H' => Q .non H', rt := Q } (start N vs) H) :
    OkG P w K mg base CX0 (k + 1) f (PySem.W.fnOf x qual (defArgs st) (defBody st) (defScope st) .none kV doc pm an cdv ct) ps sp := by
  refine ⟨cnt, fun A outer s H args us vs Q E hgd hr e0 hb r hsp => ?_⟩
  have len := cnt _ _ _ _ hsp
  have keeps : ∀ b o, base.get? b = some o → s.heap.get? b = some o := fun b o e => (e0.bs b o e).1
  have places : ∀ y ∈ ps.zip us, (defScope st).names.lookup y.1 = some .local ∨
      ((defScope st).names.lookup y.1 = some .cell ∧ ((cellsFrom (s.heap.objs.size + 1) (defScope st).names []).lookup y.1).isSome = true) := by
    rintro ⟨nm, v⟩ hy
    rcases S.par nm (List.of_mem_zip hy).1 with q | q
    · exact .inl q
    · exact .inr ⟨q, PySem.W.cellsFrom_some _ _ _ (.inl q)⟩
  have KX : K.In s.heap := e0.mod.kin.keeps keeps
  refine codeAny_call_function hr.depth (KX _ _ lk) rfl S.co S.gen rfl (PySem.W.codeRec_of KX hcd) (hb _ _ _ _ (wpAny_newFunctionEnv_cells S.kind places fun env he s1 x => ?_))
  subst he
  refine ⟨(e0.mod.nolimit.keeps keeps).keeps x.toInCall.keep, codeAny_func ?_⟩
  obtain ⟨t, ht, hq⟩ := body A outer s H vs Q E hgd (hr.deeper _) hsp
  have I := inv_start (E := E) (CX := CX0) (f := f) (qual := qual) (cd := cdv) S hr.hd e0 len r x
  have out : ∀ {σ' : L2.St} {H' : Hp} {s' : Shared} {v : V} {u : Value}, Inv (cxOf CX0 P w K mg base N qual (defScope st) f cdv A outer s H E) [] σ' H' s' → RelV v u → Q v H' → CE outer P w H s Q u s' :=
    fun J rv q => ⟨_, _, J.os, J.bare, J.base, J.hok, rv, q⟩
  refine wpAny_mono (ht.nox.run [] s1 (start N vs) H _ I hq) (fun fl s' hs => ?_) (fun _ _ hs => hs)
  cases fl with
  | ret u =>
    obtain ⟨v, σ', H', J, rv, q⟩ := hs
    exact out J rv q
  | next =>
    obtain ⟨σ', H', J, q⟩ := hs
    exact out (v := V.non) (u := Value.none) J rfl q
  | brk =>
    obtain ⟨_, _, _, q⟩ := hs
    exact q.elim
  | cont =>
    obtain ⟨_, _, _, q⟩ := hs
    exact q.elim
end
end DC
-- K15e
set_option Elab.async false
set_option linter.all false
set_option maxRecDepth 100000
set_option maxHeartbeats 4000000
namespace K15
open PySem L2 DC LamX
def nI (ys : List Nat) : List Int := ys.map fun y => ((y : Nat) : Int)
theorem vn_nI (ys : List Nat) : Vn ys = (nI ys).map V.int := by
  unfold Vn nI
  rw [List.map_map]
  rfl
def rowKey (p : Str × List Nat) : PyData := tupD (nI p.2)
/-- a piece in the heap -/
def Pce (K : PySem.W.Frag) (H : Hp) (v : V) (p : Str × List Nat) : Prop := ∃ r t, v = .ref r ∧ SqT K H r [.str p.1, .ref t] ∧ SqT K H t (Vn p.2)
theorem extN_t {K : PySem.W.Frag} {H H' : Hp} {a : Addr} {xs : List V} (e : ExtN H H') (h : SqT K H a xs) : SqT K H' a xs := by
  rcases h with (h | ⟨o, h⟩) | h
  · exact .inl (.inl (e _ _ h (fun _ z => nomatch z)))
  · exact .inl (.inr ⟨o, e _ _ h (fun _ z => nomatch z)⟩)
  · exact .inr h
theorem Pce.ext {K : PySem.W.Frag} {H H' : Hp} (e : ExtN H H') {v : V} {p : Str × List Nat} : Pce K H v p → Pce K H' v p
  | ⟨r, t, q, h1, h2⟩ => ⟨r, t, q, extN_t e h1, extN_t e h2⟩
theorem Pce.up {K : PySem.W.Frag} {H H' : Hp} (e : Same H H') {v : V} {p : Str × List Nat} : Pce K H v p → Pce K H' v p
  | ⟨r, t, q, h1, h2⟩ => ⟨r, t, q, Same.t e h1, Same.t e h2⟩
theorem Pce.put {K : PySem.W.Frag} {H : Hp} {l : Addr} {ys : List V} {o : HO} (hl : H l = some (.lst ys)) {v : V} {p : Str × List Nat} : Pce K H v p → Pce K (upd H l o) v p
  | ⟨r, t, q, h1, h2⟩ => ⟨r, t, q, sqT_put h1 hl, sqT_put h2 hl⟩
theorem paired_zip {α β : Type} {R : α → β → Prop} : ∀ {xs : List α} {ys : List β}, Paired R xs ys → ∀ p ∈ xs.zip ys, R p.1 p.2
  | _, _, .nil, p, h => by simp at h
  | _, _, .cons a t, p, h => by
    rw [List.zip_cons_cons] at h
    rcases List.mem_cons.mp h with rfl | h
    · exact a
    · exact paired_zip t p h
theorem paired_of {α β : Type} {R : α → β → Prop} : ∀ (zs : List (α × β)), (∀ p ∈ zs, R p.1 p.2) → Paired R (zs.map Prod.fst) (zs.map Prod.snd)
  | [], _ => .nil
  | z :: zs, h => .cons (h z List.mem_cons_self) (paired_of zs fun p hp => h p (List.mem_cons_of_mem _ hp))
theorem sort_paired {β : Type} {R : V → β → Prop} {vs : List V} {ps : List β} (key : β → List Int) (h : Paired R vs ps) :
    Paired R (((vs.zip (ps.map key)).mergeSort (PySem.W.dataLe false byKey)).map Prod.fst) (ps.mergeSort (PySem.W.dataLe false fun p => tupD (key p))) := by
  have len := Paired.length h
  have e1 : vs.zip (ps.map key) = (vs.zip ps).map fun z => (z.1, key z.2) := by
    rw [List.zip_map_right]
    rfl
  have e2 := List.map_mergeSort (r := PySem.W.dataLe false fun z : V × β => tupD (key z.2)) (s := PySem.W.dataLe false byKey) (f := fun z : V × β => (z.1, key z.2)) (l := vs.zip ps) (fun a _ b _ => rfl)
  have e3 := List.map_mergeSort (r := PySem.W.dataLe false fun z : V × β => tupD (key z.2)) (s := PySem.W.dataLe false fun p : β => tupD (key p)) (f := Prod.snd) (l := vs.zip ps) (fun a _ b _ => rfl)
  rw [List.map_snd_zip (by omega)] at e3
  rw [e1, ← e2, List.map_map, ← e3]
  exact paired_of _ fun p hp => paired_zip h p ((List.mergeSort_perm _ _).mem_iff.mp hp)
/-- the state of web_of's loops -/
structure WH (K : PySem.W.Frag) (n : Nat) (js ls : List J2) (Hb : Hp) (sA fo : Addr) (vs : List V) (ps : List (Str × List Nat)) (bs : List Bool) (H' : Hp) : Prop where
  sm : Same Hb H'
  sl : H' sA = some (.lst (bs.map V.bl))
  fl : H' fo = some (.lst vs)
  pr : Paired (Pce K H') vs ps
  wi : Wi n js ls ps bs
theorem map_set' {α β : Type} (g : α → β) : ∀ (l : List α) (i : Nat) (x : α), (l.map g).set i (g x) = (l.set i x).map g
  | [], _, _ => rfl
  | _ :: _, 0, _ => rfl
  | a :: l, i + 1, x => by
    show g a :: (l.map g).set i (g x) = g a :: (l.set i x).map g
    rw [map_set' g l i x]
theorem mark {K : PySem.W.Frag} {n : Nat} {js ls : List J2} {Hb H1 : Hp} {sA fo T t : Addr} {vs : List V} {ps : List (Str × List Nat)} {bs : List Bool} {p : Str × List Nat} {D : Ends} {x0 x1 x2 x3 x4 x7 x8 : Option V}
    (sm : Same Hb H1) (sl : H1 sA = some (.lst (bs.map V.bl))) (fl : H1 fo = some (.lst (vs ++ [.ref T]))) (pr : Paired (Pce K H1) vs ps) (hT : SqT K H1 T [.str p.1, .ref t]) (ht : SqT K H1 t (Vn p.2)) (wi : Wi n js ls ps bs)
    (hp : Wpc n js ls p) (hd : ∀ q ∈ ps, ∀ e, e ∈ q.2 → e ∉ p.2) (bA : Hb sA = none) (ne : sA ≠ fo)
    (nx : ∀ (y8 : Option V) (bs' : List Bool) (H' : Hp), WH K n js ls Hb sA fo (vs ++ [.ref T]) (ps ++ [p]) bs' H' → (∀ e, e < 2 * n → (bs'[e]? = some true ↔ bs[e]? = some true ∨ e ∈ p.2)) → D.nx [x0, x1, x2, x3, x4, some (.ref sA), some (.ref fo), x7, y8] H') :
    tFor (iTup K (tOp (rIxT K) (tOp (rIxL K) (tVar 6) (tUn (rU fun i => .int (-i)) (tC (.int 1)))) (tC (.int 1)))) (gName 8) (tAsg (tC (.bl true)) (gSub (tVar 5) (tVar 8) rSetL)) D [x0, x1, x2, x3, x4, some (.ref sA), some (.ref fo), x7, x8] H1 := by
  have a1 : atI [V.str p.1, V.ref t] 1 = some (.ref t) := at_of (j := 1) rfl rfl
  obtain ⟨a, ha, ca, _⟩ := id hp
  refine ⟨_, rfl, 1, rfl, fo, _, -1, .ref T, rfl, rfl, SqL.of fl, atI_last vs (.ref T), T, _, 1, .ref t, rfl, rfl, hT, a1, t, rfl, ⟨_, ht⟩, ?_⟩
  refine for_it (walk_tup (xs := Vn p.2)) (fun j σ H' => ∃ (y8 : Option V) (bs' : List Bool), σ = [x0, x1, x2, x3, x4, some (.ref sA), some (.ref fo), x7, y8] ∧ Same Hb H' ∧ H' sA = some (.lst (bs'.map V.bl)) ∧ H' fo = some (.lst (vs ++ [.ref T])) ∧
    Paired (Pce K H') vs ps ∧ SqT K H' T [.str p.1, .ref t] ∧ SqT K H' t (Vn p.2) ∧ bs'.length = 2 * n ∧ ∀ e, e < 2 * n → (bs'[e]? = some true ↔ bs[e]? = some true ∨ e ∈ p.2.take j)) ?_ ?_ ?_ ?_
  · exact ⟨x8, bs, rfl, sm, sl, fl, pr, hT, ht, wi.len, fun e he => by simp⟩
  · rintro j σ H' hj ⟨y8, bs', rfl, _, _, _, _, _, ht', _⟩
    exact ht'
  · rintro j x σ H2 H3 hj ⟨y8, bs', rfl, sm', sl', fl', pr', hT', ht', hl', hs'⟩ ⟨rfl, ex⟩
    rw [Vn_len] at hj
    have ev := Vn_at hj
    have eg : p.2[j]? = some (p.2.getD j 0) := by rw [List.getD_eq_getElem?_getD, List.getElem?_eq_getElem hj]; rfl
    generalize p.2.getD j 0 = e0 at ev eg
    obtain rfl : x = V.int (e0 : Nat) := Option.some.inj (Eq.trans (Eq.symm ex) ev)
    have hlt : e0 < 2 * n := ca.lt e0 (List.mem_of_getElem? eg)
    refine gn ?_
    refine ⟨_, rfl, _, rfl, sA, bs'.map V.bl, _, e0, rfl, rfl, sl', Evl.ixN_nat (by rw [List.length_map, hl']; exact hlt), ?_⟩
    refine ⟨_, bs'.set e0 true, rfl, same_put sm' bA, ?_, ?_, L2.Paired.mapP pr' fun _ _ z => z.put sl', sqT_put hT' sl', sqT_put ht' sl', by rw [List.length_set]; exact hl', fun e he => ?_⟩
    · rw [upd_same, map_set' V.bl]
    · rw [upd_ne (Ne.symm ne)]
      exact fl'
    · rw [take_next eg, List.mem_append, List.mem_singleton]
      by_cases c : e = e0
      · subst c
        rw [List.getElem?_set_self (by omega)]
        exact ⟨fun _ => .inr (.inr rfl), fun _ => rfl⟩
      · rw [List.getElem?_set_ne (Ne.symm c), hs' e he]
        constructor
        · rintro (h | h)
          · exact .inl h
          · exact .inr (.inl h)
        · rintro (h | h | h)
          · exact .inl h
          · exact .inr h
          · exact absurd h c
  · rintro σ H' ⟨y8, bs', rfl, sm', sl', fl', pr', hT', ht', hl', hs'⟩
    rw [List.take_of_length_le (by rw [Vn_len]; exact Nat.le_refl _)] at hs'
    exact nx y8 bs' H' ⟨sm', sl', fl', pair_snoc pr' ⟨T, t, rfl, hT', ht'⟩, wi.add hp hd hl' hs'⟩ hs'
theorem body1 {K : PySem.W.Frag} {n i : Nat} {js ls : List J2} {Hb H1 : Hp} {m1 m2 sA fo : Addr} {vs : List V} {ps : List (Str × List Nat)} {bs : List Bool} {D : Ends} {x0 x1 x4 x8 : Option V}
    (g1 : Good n js) (g2 : Good n ls) (W : WH K n js ls Hb sA fo vs ps bs H1) (b1 : Hb m1 = some (.lst (mV n js))) (b2 : Hb m2 = some (.lst (mV n ls))) (bA : Hb sA = none) (bF : Hb fo = none) (ne : sA ≠ fo) (hi : i < 2 * n) (hc : ps.length ≤ i)
    (hn : bs[i]? ≠ some true) (hl : Lst js ls i) (hs : ∀ a, a < i → Lst js ls a → bs[a]? = some true)
    (nx : ∀ (y8 : Option V) (vs' : List V) (ps' : List (Str × List Nat)) (bs' : List Bool) (H' : Hp), WH K n js ls Hb sA fo vs' ps' bs' H' → ps'.length ≤ i + 1 → (∀ a, a < i + 1 → Lst js ls a → bs'[a]? = some true) →
      D.nx [x0, x1, some (.ref m1), some (.ref m2), x4, some (.ref sA), some (.ref fo), some (.int (i : Nat)), y8] H') :
    tSeq (tDrop (tBM K "list" rAppend (tVar 6) (tCons (tCall spPath [] E0 (tCons (tVar 2) (tCons (tVar 3) (tCons (tVar 7) tNil)))) tNil)))
      (tFor (iTup K (tOp (rIxT K) (tOp (rIxL K) (tVar 6) (tUn (rU fun i => .int (-i)) (tC (.int 1)))) (tC (.int 1)))) (gName 8) (tAsg (tC (.bl true)) (gSub (tVar 5) (tVar 8) rSetL))) D
      [x0, x1, some (.ref m1), some (.ref m2), x4, some (.ref sA), some (.ref fo), some (.int (i : Nat)), x8] H1 := by
  have tp := g1.top
  have vl : vs.length = ps.length := Paired.length W.pr
  refine ⟨_, rfl, .inl ⟨rfl, _, SqL.of W.fl⟩, _, rfl, _, rfl, _, rfl, m1, m2, n, i, js, ls, rfl, W.sm _ _ b1, W.sm _ _ b2, g1, g2, hi, fun kd row r t H2 hP s2 hr0 ht0 hr ht => ?_⟩
  refine ⟨fo, _, _, rfl, rfl, s2 _ _ W.fl, Nat.lt_of_le_of_lt (show vs.length ≤ 1000 by omega) (by decide), ?_⟩
  have fl2 := s2 _ _ W.fl
  obtain ⟨wp, ap⟩ := W.wi.path g1 g2 hi hn hl hs hP
  refine mark (p := (oddK row kd, row)) (same_put (W.sm.trans s2) bF) (by rw [upd_ne ne]; exact s2 _ _ W.sl) upd_same (L2.Paired.mapP W.pr fun _ _ z => (z.up s2).put fl2) (sqT_put (SqT.of hr) fl2) (sqT_put (SqT.of ht) fl2) W.wi wp ap bA ne fun y8 bs' H' W' hs' => ?_
  refine nx y8 _ _ bs' H' W' (by rw [List.length_append]; exact Nat.succ_le_succ hc) fun a ha la => ?_
  obtain ⟨b, hb, cb, _⟩ := id wp
  by_cases c : a = i
  · subst c
    exact (hs' a hi).mpr (.inr ((pth_cls g1 g2 hi hP hl).beg))
  · exact (hs' a (by omega)).mpr (.inl (hs a (by omega) la))
theorem body2 {K : PySem.W.Frag} {n i : Nat} {js ls : List J2} {Hb H1 : Hp} {m1 m2 sA fo : Addr} {vs : List V} {ps : List (Str × List Nat)} {bs : List Bool} {D : Ends} {x0 x1 x4 x8 : Option V}
    (g1 : Good n js) (g2 : Good n ls) (W : WH K n js ls Hb sA fo vs ps bs H1) (b1 : Hb m1 = some (.lst (mV n js))) (b2 : Hb m2 = some (.lst (mV n ls))) (bA : Hb sA = none) (bF : Hb fo = none) (ne : sA ≠ fo) (hi : i < 2 * n) (hc : ps.length ≤ 2 * n + i)
    (hn : bs[i]? ≠ some true) (hl : ∀ a, a < 2 * n → Lst js ls a → bs[a]? = some true) (hs : ∀ a, a < i → bs[a]? = some true)
    (nx : ∀ (y8 : Option V) (vs' : List V) (ps' : List (Str × List Nat)) (bs' : List Bool) (H' : Hp), WH K n js ls Hb sA fo vs' ps' bs' H' → ps'.length ≤ 2 * n + (i + 1) → (∀ a, a < 2 * n → Lst js ls a → bs'[a]? = some true) → (∀ a, a < i + 1 → bs'[a]? = some true) →
      D.nx [x0, x1, some (.ref m1), some (.ref m2), x4, some (.ref sA), some (.ref fo), some (.int (i : Nat)), y8] H') :
    tSeq (tDrop (tBM K "list" rAppend (tVar 6) (tCons (tTup (tCons (tC (.str "ring")) (tCons (tCB (fun xs H_1 Q => ∃ p ys, xs = [V.ref p] ∧ (SqL K H_1 p ys ∧ (∀ (l : Addr), H_1 l = none → Q (V.ref l) (upd H_1 l (HO.tup ys))) ∨ SqT K H_1 p ys ∧ Q (V.ref p) H_1))
        (tCons (tCall spAlong [] E0 (tCons (tVar 2) (tCons (tVar 3) (tCons (tVar 7) tNil)))) tNil)) tNil))) tNil)))
      (tFor (iTup K (tOp (rIxT K) (tOp (rIxL K) (tVar 6) (tUn (rU fun i => .int (-i)) (tC (.int 1)))) (tC (.int 1)))) (gName 8) (tAsg (tC (.bl true)) (gSub (tVar 5) (tVar 8) rSetL))) D
      [x0, x1, some (.ref m1), some (.ref m2), x4, some (.ref sA), some (.ref fo), some (.int (i : Nat)), x8] H1 := by
  have tp := g1.top
  have vl : vs.length = ps.length := Paired.length W.pr
  refine ⟨_, rfl, .inl ⟨rfl, _, SqL.of W.fl⟩, _, rfl, _, rfl, _, rfl, m1, m2, n, i, js, ls, rfl, W.sm _ _ b1, W.sm _ _ b2, g1, g2, hi, fun k l H2 R s2 hl0 hll => ?_⟩
  refine ⟨l, _, rfl, .inl ⟨SqL.of hll, fun t ht => ⟨by show 2 ≤ sizeLine; decide, fun T hT => ?_⟩⟩⟩
  have st := s2.trans (Same.new (o := .tup (Vn (rj (mt js) (mt ls) i k))) ht)
  have sT := st.trans (Same.new (o := .tup [.str "ring", .ref t]) hT)
  have fl2 := sT _ _ W.fl
  have ht2 := Same.new (o := .tup [.str "ring", .ref t]) hT _ _ (upd_same (H := H2) (a := t) (o := .tup (Vn (rj (mt js) (mt ls) i k))))
  refine ⟨fo, _, _, rfl, rfl, fl2, Nat.lt_of_le_of_lt (show vs.length ≤ 1000 by omega) (by decide), ?_⟩
  obtain ⟨wp, ap⟩ := W.wi.ring g1 g2 hi hn hl hs R
  refine mark (p := ("ring", rj (mt js) (mt ls) i k)) (same_put (W.sm.trans sT) bF) (by rw [upd_ne ne]; exact sT _ _ W.sl) upd_same (L2.Paired.mapP W.pr fun _ _ z => (z.up sT).put fl2) (sqT_put (SqT.of upd_same) fl2) (sqT_put (SqT.of ht2) fl2) W.wi wp ap bA ne fun y8 bs' H' W' hs' => ?_
  refine nx y8 _ _ bs' H' W' (by rw [List.length_append]; show ps.length + 1 ≤ _; omega) (fun a ha la => (hs' a ha).mpr (.inl (hl a ha la))) fun a ha => ?_
  by_cases c : a = i
  · subst c
    exact (hs' a hi).mpr (.inr ((mem_rj R.toPj).mpr ⟨0, R.pos, rfl⟩))
  · exact (hs' a (by omega)).mpr (.inl (hs a (by omega)))
abbrev Tw (Pt : Addr) : List (Addr × Str) := [(Pt, (("web_of" : Str) ++ ".<locals>.") ++ "<lambda>")]
section
variable {P : Program} {w : World} {K : PySem.W.Frag} {mg : Str → Option Value} {base : Heap}
def spWeb (K : PySem.W.Frag) (Pt : Addr) : Sp := fun vs H Q _ => ∃ (v1 v2 : V) (n : Nat) (js ls : List J2), vs = [v1, v2] ∧ Ly K H v1 n js ∧ Ly K H v2 n ls ∧ Good n js ∧ Good n ls ∧ Tabs (Tw Pt) H ∧
  ∀ (ps : List (Str × List Nat)) (bs : List Bool) (r : Addr) (xs : List V) (H' : Hp), Wi n js ls ps bs → (∀ e, e < 2 * n → ∃ p ∈ ps, e ∈ p.2) → ExtN H H' → Tabs (Tw Pt) H' → (∀ o, H r = some o → ∃ ps, o = .tbl ps) → H' r = some (.lst xs) →
    Paired (Pce K H') xs (ps.mergeSort (PySem.W.dataLe false rowKey)) → Q (.ref r) H'
abbrev N22 : List Str := ["one", "other", "ones", "others", "ends", "seen", "found", "end", "met"]
theorem sc22 : FnScope N22 ["one", "other"] (defScope (top 29)) := ⟨rfl, rfl, rfl, by decide +kernel, rfl, by decide +kernel, by decide +kernel⟩
theorem ok22 {f f17 f20 f21 c Pt : Addr} {fd17 fd20 fd21 : FuncData} {oc : Value} {od an : Option Addr} {osl : Array (Option Value)} {kV doc pm ct : Value}
    (lk : K.lookup f = some ⟨oc, od, .func (PySem.W.fnOf "web_of" "web_of" (defArgs (top 29)) (defBody (top 29)) (defScope (top 29)) .none kV doc pm an (.ref c) ct), osl⟩) (hcd : PySem.W.codeIn K (.ref c) "web_of" = true)
    (TB : TabB base mg c Pt) (B : Bn mg)
    (D17 : Df K mg "mates" f17 fd17 ["lay"]) (G17 : OkF P w K mg base 1 f17 fd17 ["lay"] (spMates K))
    (D20 : Df K mg "row_along" f20 fd20 ["first", "second", "begun"]) (G20 : OkF P w K mg base 1 f20 fd20 ["first", "second", "begun"] spAlong)
    (D21 : Df K mg "path_from" f21 fd21 ["ones", "others", "end"]) (G21 : OkF P w K mg base 2 f21 fd21 ["ones", "others", "end"] spPath) :
    OkF P w K mg base 3 f (PySem.W.fnOf "web_of" "web_of" (defArgs (top 29)) (defBody (top 29)) (defScope (top 29)) .none kV doc pm an (.ref c) ct) ["one", "other"] (spWeb K Pt) := by
  refine okC lk hcd sc22 (fun vs H Q E h => ?_) (fun A outer s H vs Q E hgd hr h => ?_)
  · obtain ⟨v1, v2, n, js, ls, rfl, _⟩ := h; rfl
  · obtain ⟨v1, v2, n, js, ls, rfl, y1, y2, g1, g2, hT, q⟩ := h
    have nd := sc22.nd
    have hr1 : Room 1 _ := hr.mono (by decide)
    have tp := g1.top
    refine ⟨_, pss_cons (ps_par (i := 2) (j := 3) (by rfl) nd rfl rfl (by decide) rfl rfl (pa_cons (cl D17 G17 hgd hr1 (pa_cons (pv 0) pa_nil)) (pa_cons (cl D17 G17 hgd hr1 (pa_cons (pv 1) pa_nil)) pa_nil)) (by rfl))
      (pss_cons (ps_set (i := 4) nd rfl (.inl rfl) (pe_callTy cr_range1 (by rfl) B.range (by decide +kernel) (pa_cons (pe_callB call_len_seq (by rfl) B.len PySem.boot_len (pa_cons (pv 2) pa_nil)) pa_nil)))
      (pss_cons (ps_set (i := 5) nd rfl (.inl rfl) (pe_op op_rep (pe_lst (pa_cons pe_bl pa_nil)) (pe_callB call_len_seq (by rfl) B.len PySem.boot_len (pa_cons (pv 2) pa_nil))))
      (pss_cons (ps_set (i := 6) nd rfl (.inl rfl) (pe_lst pa_nil))
      (pss_cons (ps_for PassesOwn.never rfl (pi_rngV (pv 4)) (pg_name (i := 7) nd rfl (.inl rfl))
        (pss_one (ps_if (PW.pt (pw_and (pt_not (pt_val (pe_ix (r := rIxL K) ix_list (pv 5) (pv 7) (fun _ _ => rfl)))) (pw_and1 (PW.pt (pw_or (pt_cmp (pc_isN (pe_ix (r := rIxL K) ix_list (pv 2) (pv 7) (fun _ _ => rfl))) rfl) (pw_or1 (pt_cmp (pc_isN (pe_ix (r := rIxL K) ix_list (pv 3) (pv 7) (fun _ _ => rfl))) rfl)))))))
          (pss_cons (ps_expr (pe_bm PySem.F.plainAttrs_list PySem.F.slot_list_append PySem.F.type_list_append mt_append (pv 6) (pa_cons (cl D21 G21 hgd hr (pa_cons (pv 2) (pa_cons (pv 3) (pa_cons (pv 7) pa_nil)))) pa_nil)))
          (pss_one (ps_for PassesOwn.never rfl (pi_tup (pe_ix (r := rIxT K) ix_tup (pe_ix (r := rIxL K) ix_list (pv 6) (pe_un un_neg pe_int) (fun _ _ => rfl)) pe_int (fun _ _ => rfl))) (pg_name (i := 8) nd rfl (.inl rfl))
            (pss_one (ps_asg pe_bl (pg_sub (pv 5) (pv 8) set_list)))))) pss_nil)))
      (pss_cons (ps_for PassesOwn.never rfl (pi_rngV (pv 4)) (pg_name (i := 7) nd rfl (.inl rfl))
        (pss_one (ps_if (pt_not (pt_val (pe_ix (r := rIxL K) ix_list (pv 5) (pv 7) (fun _ _ => rfl))))
          (pss_cons (ps_expr (pe_bm PySem.F.plainAttrs_list PySem.F.slot_list_append PySem.F.type_list_append mt_append (pv 6) (pa_cons (pe_tup (pa_cons pe_str (pa_cons (pe_callTy call_tuple_of (by rfl) B.tuple (by decide +kernel) (pa_cons (cl D20 G20 hgd hr1 (pa_cons (pv 2) (pa_cons (pv 3) (pa_cons (pv 7) pa_nil)))) pa_nil)) pa_nil))) pa_nil)))
          (pss_one (ps_for PassesOwn.never rfl (pi_tup (pe_ix (r := rIxT K) ix_tup (pe_ix (r := rIxL K) ix_list (pv 6) (pe_un un_neg pe_int) (fun _ _ => rfl)) pe_int (fun _ _ => rfl))) (pg_name (i := 8) nd rfl (.inl rfl))
            (pss_one (ps_asg pe_bl (pg_sub (pv 5) (pv 8) set_list)))))) pss_nil)))
      (pss_one (ps_ret (pe_sortLam (T := Tw Pt) TB rfl List.mem_cons_self (fun p hp _ => by rw [List.mem_singleton.mp hp]; rfl) hr (by rfl) B.sorted (pv 6) (fun _ _ _ _ => rfl) rfl (by intro z hz e; exact absurd e (by revert z; decide +kernel)) rfl rfl rfl (by decide +kernel) rfl rfl (by decide))))))))), ?_⟩
    refine ⟨_, rfl, v1, n, js, rfl, y1, g1, fun m1 H1 s1 f1 h1 => ?_⟩
    refine ⟨_, rfl, v2, n, ls, rfl, y2.up s1, g2, fun m2 H2 s2 f2 h2 => ⟨_, _, rfl, ?_⟩⟩
    have h1' := s2 _ _ h1
    refine ⟨_, rfl, m1, _, rfl, .inl (SqL.of h1'), _, rfl, fun e he => gn ?_⟩
    rw [mV_len]
    have s3 : Same H2 (upd H2 e (.rng 0 ((2 * n : Nat) : Int))) := Same.new he
    refine ⟨by show 1 ≤ sizeLine; decide, fun l0 hl0 => ?_⟩
    have s4 := s3.trans (Same.new (o := .lst [.bl false]) hl0)
    refine ⟨_, rfl, m1, _, rfl, .inl (SqL.of (s4 _ _ h1')), ?_⟩
    rw [mV_len]
    have aE := Same.new (o := .lst [.bl false]) hl0 _ _ (upd_same (H := H2) (a := e) (o := .rng 0 ((2 * n : Nat) : Int)))
    have aL : upd (upd H2 e (.rng 0 ((2 * n : Nat) : Int))) l0 (.lst [.bl false]) l0 = some (.lst [.bl false]) := upd_same
    have b1 := s4 _ _ h1'
    have b2 := s4 _ _ h2
    have SH : Same H (upd (upd H2 e (.rng 0 ((2 * n : Nat) : Int))) l0 (.lst [.bl false])) := s1.trans (s2.trans s4)
    generalize upd (upd H2 e (.rng 0 ((2 * n : Nat) : Int))) l0 (.lst [.bl false]) = Hb at aE aL b1 b2 SH ⊢
    refine ⟨l0, ((2 * n : Nat) : Int), [.bl false], rfl, rfl, aL, by omega, by omega, ?_, fun sA hsA => gn ?_⟩
    · show 1 * ((2 * n : Nat) : Int).toNat ≤ sizeLine
      exact Nat.le_trans (show 1 * ((2 * n : Nat) : Int).toNat ≤ 24 by omega) (by decide)
    refine ⟨by show 0 ≤ sizeLine; decide, fun fo hfo => gn ?_⟩
    have s5 : Same Hb (upd Hb sA (.lst (List.replicate ((2 * n : Nat) : Int).toNat [V.bl false]).flatten)) := Same.new hsA
    have bfo : Hb fo = none := s5.free hfo
    have nsf : sA ≠ fo := ne_of_none upd_same hfo
    have s6 := s5.trans (Same.new (o := .lst []) hfo)
    have rep : ∀ k : Nat, (List.replicate k [V.bl false]).flatten = (List.replicate k false).map V.bl := by
      intro k
      induction k with
      | zero => rfl
      | succ k ih => rw [List.replicate_succ, List.flatten_cons, ih]; rfl
    have W0 : WH K n js ls Hb sA fo [] [] (List.replicate (2 * n) false) (upd (upd Hb sA (.lst (List.replicate ((2 * n : Nat) : Int).toNat [V.bl false]).flatten)) fo (.lst [])) := by
      refine ⟨s6, ?_, upd_same, .nil, List.length_replicate, fun a ha => ?_, fun p hp => absurd hp (List.not_mem_nil), .nil⟩
      · rw [upd_ne nsf, upd_same, Int.toNat_natCast, rep]
      · constructor
        · intro z
          rw [List.getElem?_replicate] at z
          split at z <;> cases z
        · rintro ⟨p, hp, _⟩
          exact absurd hp (List.not_mem_nil)
    have bAt : ∀ {bs : List Bool}, bs.length = 2 * n → ∀ {a : Nat}, a < 2 * n → ∃ b, (bs.map V.bl)[a]? = some (.bl b) ∧ (b = true ↔ bs[a]? = some true) := by
      intro bs hl a ha
      have hla : a < bs.length := by omega
      refine ⟨bs[a], by rw [List.getElem?_map, List.getElem?_eq_getElem hla]; rfl, ?_⟩
      rw [List.getElem?_eq_getElem hla]
      exact ⟨fun z => by rw [z], fun z => Option.some.inj z⟩
    refine ⟨_, rfl, e, 2 * n, rfl, s6 _ _ aE, by omega, ?_⟩
    refine for_it (walk_range (lo := 0) (n := 2 * n)) (fun i σ H' => ∃ (y7 y8 : Option V) (vs : List V) (ps : List (Str × List Nat)) (bs : List Bool), σ = [some v1, some v2, some (.ref m1), some (.ref m2), some (.ref e), some (.ref sA), some (.ref fo), y7, y8] ∧
      WH K n js ls Hb sA fo vs ps bs H' ∧ ps.length ≤ i ∧ ∀ a, a < i → Lst js ls a → bs[a]? = some true) ⟨none, none, _, _, _, rfl, W0, Nat.le_refl _, fun a ha => absurd ha (Nat.not_lt_zero _)⟩ (fun _ _ _ _ _ => trivial) ?_ ?_
    · rintro i x σ Ha Hb' hi ⟨y7, y8, vs, ps, bs, rfl, W, hc, hs⟩ ⟨rfl, ex⟩
      obtain rfl : x = V.int (i : Nat) := by
        rw [ex]
        show V.int (0 + (i : Int)) = _
        rw [Int.zero_add]
      refine gn ?_
      obtain ⟨b, eb, hb⟩ := bAt W.wi.len hi
      have skip : (∀ a, a < i + 1 → Lst js ls a → bs[a]? = some true) → ∃ (y7' y8' : Option V) (vs' : List V) (ps' : List (Str × List Nat)) (bs' : List Bool), [some v1, some v2, some (V.ref m1), some (.ref m2), some (.ref e), some (.ref sA), some (.ref fo), some (.int (i : Nat)), y8] = [some v1, some v2, some (.ref m1), some (.ref m2), some (.ref e), some (.ref sA), some (.ref fo), y7', y8'] ∧
          WH K n js ls Hb sA fo vs' ps' bs' Hb' ∧ ps'.length ≤ i + 1 ∧ ∀ a, a < i + 1 → Lst js ls a → bs'[a]? = some true := fun h => ⟨_, _, vs, ps, bs, rfl, W, Nat.le_succ_of_le hc, h⟩
      refine ⟨_, rfl, _, rfl, sA, _, _, _, rfl, rfl, SqL.of W.sl, atI_nat eb, b, rfl, ?_⟩
      cases b with
      | true =>
        refine iteF (iteF (skip fun a ha la => ?_))
        by_cases c : a = i
        · rw [c]; exact hb.mp rfl
        · exact hs a (by omega) la
      | false =>
        have hn : bs[i]? ≠ some true := fun z => by cases hb.mpr z
        refine iteT ⟨_, rfl, _, rfl, m1, _, _, _, rfl, rfl, SqL.of (W.sm _ _ b1), atI_nat (mV_at hi), _, rfl, ?_⟩
        rw [oV_none]
        cases ej : mt js i with
        | none =>
          refine iteT (iteT (body1 g1 g2 W b1 b2 hsA bfo nsf hi hc hn (.inl ej) hs fun y8' vs' ps' bs' H' W' c' h' => ?_))
          exact ⟨_, _, vs', ps', bs', rfl, W', c', h'⟩
        | some xj =>
          refine iteF ⟨_, rfl, _, rfl, m2, _, _, _, rfl, rfl, SqL.of (W.sm _ _ b2), atI_nat (mV_at hi), _, rfl, ?_⟩
          rw [oV_none]
          cases el : mt ls i with
          | none =>
            refine iteT (body1 g1 g2 W b1 b2 hsA bfo nsf hi hc hn (.inr el) hs fun y8' vs' ps' bs' H' W' c' h' => ?_)
            exact ⟨_, _, vs', ps', bs', rfl, W', c', h'⟩
          | some xl =>
            refine iteF (skip fun a ha la => ?_)
            by_cases c : a = i
            · subst c
              rcases la with z | z
              · rw [ej] at z; cases z
              · rw [el] at z; cases z
            · exact hs a (by omega) la
    · rintro σ H' ⟨y7, y8, vs, ps, bs, rfl, W, hc, hs⟩
      refine ⟨_, rfl, e, 2 * n, rfl, W.sm _ _ aE, by omega, ?_⟩
      refine for_it (walk_range (lo := 0) (n := 2 * n)) (fun i σ H' => ∃ (y7 y8 : Option V) (vs : List V) (ps : List (Str × List Nat)) (bs : List Bool), σ = [some v1, some v2, some (.ref m1), some (.ref m2), some (.ref e), some (.ref sA), some (.ref fo), y7, y8] ∧
        WH K n js ls Hb sA fo vs ps bs H' ∧ ps.length ≤ 2 * n + i ∧ (∀ a, a < 2 * n → Lst js ls a → bs[a]? = some true) ∧ ∀ a, a < i → bs[a]? = some true) ⟨y7, y8, vs, ps, bs, rfl, W, hc, hs, fun a ha => absurd ha (Nat.not_lt_zero _)⟩ (fun _ _ _ _ _ => trivial) ?_ ?_
      · rintro i x σ Ha Hb' hi ⟨y7, y8, vs, ps, bs, rfl, W, hc, hl, hs⟩ ⟨rfl, ex⟩
        obtain rfl : x = V.int (i : Nat) := by
          rw [ex]
          show V.int (0 + (i : Int)) = _
          rw [Int.zero_add]
        refine gn ?_
        obtain ⟨b, eb, hb⟩ := bAt W.wi.len hi
        refine ⟨_, rfl, _, rfl, sA, _, _, _, rfl, rfl, SqL.of W.sl, atI_nat eb, b, rfl, ?_⟩
        cases b with
        | true =>
          refine iteF ⟨_, _, vs, ps, bs, rfl, W, by omega, hl, fun a ha => ?_⟩
          by_cases c : a = i
          · rw [c]; exact hb.mp rfl
          · exact hs a (by omega)
        | false =>
          have hn : bs[i]? ≠ some true := fun z => by cases hb.mpr z
          refine iteT (body2 g1 g2 W b1 b2 hsA bfo nsf hi hc hn hl hs fun y8' vs' ps' bs' H' W' c' l' h' => ?_)
          exact ⟨_, _, vs', ps', bs', rfl, W', c', l', h'⟩
      · rintro σ H' ⟨y7, y8, vs, ps, bs, rfl, W, hc, hl, hs⟩
        have S : Same H H' := SH.trans W.sm
        refine ⟨_, rfl, hT.ext S, fun H2 eN T2 => ⟨fo, vs, ps.map fun p => nI p.2, rfl, SqL.of (eN _ _ W.fl (fun _ z => nomatch z)), by rw [List.length_map]; exact Paired.length W.pr, fun z hz => ?_, fun r hr0 => ?_⟩⟩
        · rw [List.zip_map_right] at hz
          obtain ⟨z2, hz2, rfl⟩ := List.mem_map.mp hz
          obtain ⟨r, t, e1, k1, k2⟩ := (paired_zip W.pr z2 hz2).ext eN
          have hp : z2.2 ∈ ps := (List.of_mem_zip hz2).2
          obtain ⟨a, _, ca, _⟩ := W.wi.pcs _ hp
          refine ⟨r, _, t, e1, k1, by rw [vn_nI] at k2; exact k2, fun z => ?_⟩
          have : z2.2.2 = [] := List.map_eq_nil_iff.mp z
          have hb := ca.beg
          rw [this] at hb
          exact absurd hb (List.not_mem_nil)
        · have sN := Same.new (o := .lst (((vs.zip (ps.map fun p => nI p.2)).mergeSort (PySem.W.dataLe false byKey)).map Prod.fst)) hr0
          have EN : ExtN H (upd H2 r (.lst (((vs.zip (ps.map fun p => nI p.2)).mergeSort (PySem.W.dataLe false byKey)).map Prod.fst))) := (ExtN.of S).trans (eN.trans (ExtN.of sN))
          refine q ps bs r _ _ W.wi (fun a ha => (W.wi.seen a ha).mp (hs a ha)) EN (T2.ext sN) (fun o ho => ?_) upd_same ?_
          · have ho' := S _ _ ho
            cases o with
            | tbl qs => exact ⟨qs, rfl⟩
            | _ =>
              exfalso
              have := eN _ _ ho' (fun _ z => nomatch z)
              rw [hr0] at this
              cases this
          · exact sort_paired (fun p => nI p.2) (L2.Paired.mapP W.pr fun _ _ z => (z.ext eN).up sN)
end
end K15
-- K15f
set_option Elab.async false
set_option linter.all false
set_option maxRecDepth 100000
set_option maxHeartbeats 4000000
namespace K15
open PySem L2 DC LamX
def szD (p : Str × List Nat) : PyData := .tuple [.str p.1, .int (p.2.length : Nat)]
def byRow (ps : List (Str × List Nat)) : List (Str × List Nat) := ps.mergeSort (PySem.W.dataLe false rowKey)
def sizesD (ps : List (Str × List Nat)) : List PyData := ((byRow ps).map szD).mergeSort (PySem.W.dataLe false id)
def FrT (H : Hp) (r : Addr) : Prop := ∀ o, H r = some o → ∃ ps, o = .tbl ps
theorem sz_alike (ps : List (Str × List Nat)) : PySem.W.AllAlike (ps.map szD) := by
  intro d hd d' hd'
  obtain ⟨p, _, rfl⟩ := List.mem_map.mp hd
  obtain ⟨p', _, rfl⟩ := List.mem_map.mp hd'
  unfold szD
  simp only [PySem.W.alike, PySem.W.alikeAll, Bool.and_self]
theorem sz_sortable (ps : List (Str × List Nat)) : PySem.W.Sortable (ps.map szD) := by
  refine .inl fun d hd => ?_
  obtain ⟨p, _, rfl⟩ := List.mem_map.mp hd
  exact ⟨_, _, rfl⟩
theorem sz_depth (ps : List (Str × List Nat)) : ∀ d ∈ ps.map szD, d.depth ≤ 60 := by
  intro d hd
  obtain ⟨p, _, rfl⟩ := List.mem_map.mp hd
  unfold szD
  simp only [PyData.depth, PyData.depthAll]
  decide
theorem dpAll_snoc {K : PySem.W.Frag} {H : Hp} : ∀ {xs : List V} {ds : List PyData} {x : V} {d : PyData}, DpAll K H xs ds → Dp K H x d → DpAll K H (xs ++ [x]) (ds ++ [d])
  | _, _, _, _, .nil, h => .cons h .nil
  | _, _, _, _, .cons a t, h => .cons a (dpAll_snoc t h)
theorem extN_dp {K : PySem.W.Frag} {H H' : Hp} (e : Same H H') {xs : List V} {ds : List PyData} (h : DpAll K H xs ds) : DpAll K H' xs ds := DpAll.up e h
theorem paired_at {α β : Type} {R : α → β → Prop} : ∀ {xs : List α} {ys : List β}, Paired R xs ys → ∀ {i : Nat} {x : α}, xs[i]? = some x → ∃ y, ys[i]? = some y ∧ R x y
  | _, _, .nil, i, x, h => by simp at h
  | _, _, .cons r t, 0, x, h => by
    obtain rfl := Option.some.inj h
    exact ⟨_, rfl, r⟩
  | _, _, .cons r t, i + 1, x, h => paired_at t (i := i) h
theorem wi_len {n : Nat} {js ls : List J2} {ps : List (Str × List Nat)} {bs : List Bool} (W : Wi n js ls ps bs) : ps.length ≤ 2 * n := by
  have gen : ∀ ps : List (Str × List Nat), (∀ p ∈ ps, Wpc n js ls p) → ps.Pairwise (fun p q => ∀ e, e ∈ p.2 → e ∉ q.2) → ∃ l : List Nat, l.Nodup ∧ l.length = ps.length ∧ (∀ x ∈ l, x < 2 * n) ∧ ∀ x ∈ l, ∃ p ∈ ps, x ∈ p.2 := by
    intro ps
    induction ps with
    | nil => intro _ _; exact ⟨[], .nil, rfl, fun x hx => absurd hx (List.not_mem_nil), fun x hx => absurd hx (List.not_mem_nil)⟩
    | cons p ps ih =>
      intro h d
      have d' := List.pairwise_cons.mp d
      obtain ⟨l, nd, len, lt, mem⟩ := ih (fun q hq => h q (List.mem_cons_of_mem _ hq)) d'.2
      obtain ⟨a, ha, ca, _⟩ := h p List.mem_cons_self
      refine ⟨a :: l, List.nodup_cons.mpr ⟨fun hm => ?_, nd⟩, by rw [List.length_cons, List.length_cons, len], fun x hx => ?_, fun x hx => ?_⟩
      · obtain ⟨q, hq, haq⟩ := mem a hm
        exact d'.1 q hq a ca.beg haq
      · rcases List.mem_cons.mp hx with rfl | hx
        · exact ha
        · exact lt x hx
      · rcases List.mem_cons.mp hx with rfl | hx
        · exact ⟨p, List.mem_cons_self, ca.beg⟩
        · obtain ⟨q, hq, hxq⟩ := mem x hx
          exact ⟨q, List.mem_cons_of_mem _ hq, hxq⟩
  obtain ⟨l, nd, len, lt, _⟩ := gen ps W.pcs W.dis
  have q := nodup_le (m := List.range (2 * n)) nd fun x hx => List.mem_range.mpr (lt x hx)
  rw [len, List.length_range] at q
  exact q
def rLen (K : PySem.W.Frag) : List V → Hp → VK → Prop := fun xs H Q => ∃ p ys, xs = [V.ref p] ∧ (SqL K H p ys ∨ SqT K H p ys) ∧ Q (V.int (ys.length : Nat)) H
def SzP (K : PySem.W.Frag) (H : Hp) (v : V) (p : Str × List Nat) : Prop := ∃ t, v = .ref t ∧ SqT K H t [.str p.1, .int (p.2.length : Nat)]
theorem szP_dp {K : PySem.W.Frag} {H : Hp} : ∀ {vs : List V} {ps : List (Str × List Nat)}, Paired (SzP K H) vs ps → DpAll K H vs (ps.map szD)
  | _, _, .nil => .nil
  | _, _, .cons ⟨t, e, h⟩ r => by
    subst e
    exact .cons (Dp.tup h (.cons (.str _) (.cons (.int _) .nil))) (szP_dp r)
section
variable {P : Program} {w : World} {K : PySem.W.Frag} {mg : Str → Option Value} {base : Heap}
def spSz (K : PySem.W.Frag) (Pt : Addr) : Sp := fun vs H Q _ => ∃ (v1 v2 : V) (n : Nat) (js ls : List J2), vs = [v1, v2] ∧ Ly K H v1 n js ∧ Ly K H v2 n ls ∧ Good n js ∧ Good n ls ∧ Tabs (Tw Pt) H ∧
  ∀ (ps : List (Str × List Nat)) (bs : List Bool) (r : Addr) (xs : List V) (H' : Hp), Wi n js ls ps bs → (∀ e, e < 2 * n → ∃ p ∈ ps, e ∈ p.2) → ExtN H H' → Tabs (Tw Pt) H' → H' r = some (.tup xs) → DpAll K H' xs (sizesD ps) → Q (.ref r) H'
abbrev N23 : List Str := ["one", "other", "kind", "row"]
theorem sc23 : FnScope N23 ["one", "other"] (defScope (top 31)) := ⟨rfl, rfl, rfl, by decide +kernel, rfl, by decide +kernel, by decide +kernel⟩
theorem ok23 {f f22 Pt : Addr} {fd fd22 : FuncData} (F : Fun K "sizes_of" "sizes_of" (top 31) f fd) (B : Bn mg)
    (D22 : Df K mg "web_of" f22 fd22 ["one", "other"]) (G22 : OkF P w K mg base 3 f22 fd22 ["one", "other"] (spWeb K Pt)) : OkF P w K mg base 4 f fd ["one", "other"] (spSz K Pt) := by
  refine ok0 F sc23 (fun vs H Q E h => ?_) (fun cdv A outer s H vs Q E hgd hr h => ?_)
  · obtain ⟨v1, v2, n, js, ls, rfl, _⟩ := h; rfl
  · obtain ⟨v1, v2, n, js, ls, rfl, y1, y2, g1, g2, hT, q⟩ := h
    have nd := sc23.nd
    have tp := g1.top
    refine ⟨_, pss_one (ps_ret (pe_callTy call_tuple_of (by rfl) B.tuple (by decide +kernel) (pa_cons (pe_callB (cr_sortD hr.units) (by rfl) B.sorted (by decide +kernel) (pa_cons
      (pe_lc (own := [("kind", 2), ("row", 3)]) (g := gTup K 2 (gCons (gName 2) (gCons (gName 3) gNil))) (tt := tYes) rfl nd (pi_list (cl D22 G22 hgd hr (pa_cons (pv 0) (pa_cons (pv 1) pa_nil)))) (blkOk_by (N := N23) (sc := defScope (top 31)) (by decide +kernel))
        (fun _ _ _ _ _ => pg_tup (by rfl) (pgs_cons (pg_name (i := 2) nd rfl (Or.inl rfl)) (pgs_cons (pg_name (i := 3) nd rfl (Or.inl rfl)) pgs_nil))) (fun _ _ _ _ _ => pts_nil)
        (fun _ _ _ _ _ => pe_tup (pa_cons (pv 2) (pa_cons (pe_callB (r := rLen K) call_len_seq (by rfl) B.len PySem.boot_len (pa_cons (pv 3) pa_nil)) pa_nil)))) pa_nil)) pa_nil))), ?_⟩
    refine ⟨_, rfl, _, rfl, v1, v2, n, js, ls, rfl, y1, y2, g1, g2, hT, fun ps bs r xs H1 W cov EN T1 fr hr1 hP => ?_⟩
    have len : xs.length = (byRow ps).length := Paired.length hP
    have len2 : (byRow ps).length ≤ 2 * n := by
      unfold byRow
      rw [List.length_mergeSort]
      exact wi_len W
    refine ⟨r, rfl, ⟨_, SqL.of hr1⟩, fun D hD => ?_⟩
    refine lc_it (walk_list (xs := xs)) (fun i H' => ∃ acc : List V, Same H1 H' ∧ H' D = some (.lst acc) ∧ Paired (SzP K H') acc ((byRow ps).take i) ∧ acc.length = i) ⟨[], Same.new hD, upd_same, .nil, rfl⟩ (fun i H' _ hp => by
      obtain ⟨acc, sm, _⟩ := hp
      exact SqL.of (sm _ _ hr1)) ?_ ?_
    · rintro i x Ha Hb hi ⟨acc, sm, hL, hd, hal⟩ ⟨rfl, ex⟩
      obtain ⟨p, ep, rr, t, rfl, k1, k2⟩ := paired_at hP ex
      refine ⟨rr, _, rfl, Same.t sm k1, rfl, _, _, rfl, _, _, rfl, rfl, rfl, ?_⟩
      refine yesT ?_
      refine ⟨_, rfl, _, rfl, t, _, rfl, .inr (Same.t sm k2), by show 2 ≤ sizeLine; decide, fun T hT2 => ?_⟩
      rw [Vn_len]
      have sT := Same.new (o := .tup [.str p.1, .int (p.2.length : Nat)]) hT2
      have hL2 := sT _ _ hL
      have hd2 : Paired (SzP K (upd (upd Hb T (.tup [.str p.1, .int (p.2.length : Nat)])) D (.lst (acc ++ [.ref T])))) (acc ++ [.ref T]) ((byRow ps).take i ++ [p]) :=
        pair_snoc (L2.Paired.mapP hd fun _ _ ⟨t, q, h⟩ => ⟨t, q, sqT_put (Same.t sT h) hL2⟩) ⟨T, rfl, sqT_put (SqT.of upd_same) hL2⟩
      refine ⟨acc, sT _ _ hL, Nat.lt_of_le_of_lt (show acc.length ≤ 1000 by omega) (by decide), acc ++ [.ref T], same_put (sm.trans sT) hD, upd_same, ?_, ?_⟩
      · rw [take_next (l := byRow ps) ep]
        exact hd2
      · rw [List.length_append, hal]
        rfl
    · rintro H' ⟨acc, sm, hL, hd, hal⟩
      rw [len, List.take_of_length_le (Nat.le_refl _)] at hd
      refine ⟨D, acc, _, rfl, SqL.of hL, szP_dp hd, sz_alike _, sz_sortable _, sz_depth _, fun ys pl pm hy hp => ?_⟩
      refine ⟨pl, ys, rfl, .inl ⟨SqL.of upd_same, fun t ht => ?_⟩⟩
      have s2 := (Same.new (o := .lst ys) hp).trans (Same.new (o := .tup ys) ht)
      exact q ps bs t ys _ W cov (EN.trans (ExtN.of (sm.trans s2))) (T1.ext (sm.trans s2)) upd_same (DpAll.up s2 hy)
end
end K15
-- K15g
set_option Elab.async false
set_option linter.all false
set_option maxRecDepth 100000
set_option maxHeartbeats 4000000
namespace K15
open PySem L2 DC LamX
def RwP (K : PySem.W.Frag) (H : Hp) (v : V) (p : Str × List Nat) : Prop := ∃ t, v = .ref t ∧ SqT K H t (Vn p.2)
theorem dp_intsN {K : PySem.W.Frag} {H : Hp} : ∀ cs : List Int, DpAll K H (cs.map V.int) (cs.map PyData.int)
  | [] => .nil
  | c :: cs => .cons (.int c) (dp_intsN cs)
theorem rwP_dp {K : PySem.W.Frag} {H : Hp} : ∀ {vs : List V} {ps : List (Str × List Nat)}, Paired (RwP K H) vs ps → DpAll K H vs (ps.map rowKey)
  | _, _, .nil => .nil
  | _, _, .cons ⟨t, e, h⟩ r => by
    subst e
    exact .cons (Dp.tup h (by rw [vn_nI]; exact dp_intsN _)) (rwP_dp r)
section
variable {P : Program} {w : World} {K : PySem.W.Frag} {mg : Str → Option Value} {base : Heap}
theorem in_row (a : Nat) : ∀ l : List Nat, inV (.int (a : Nat)) (Vn l) = decide (a ∈ l)
  | [] => by simp [inV, Vn]
  | b :: l => by
    have ih := in_row a l
    show (eqV (.int (b : Nat)) (.int (a : Nat)) || inV (.int (a : Nat)) (Vn l)) = _
    rw [ih]
    show ((((b : Nat) : Int) == ((a : Nat) : Int)) || decide (a ∈ l)) = decide (a ∈ b :: l)
    rw [Bool.eq_iff_iff]
    simp only [Bool.or_eq_true, beq_iff_eq, decide_eq_true_eq, List.mem_cons]
    exact or_congr (by omega) Iff.rfl
end
end K15
-- DU
set_option Elab.async false
set_option linter.all false
set_option maxRecDepth 100000
set_option maxHeartbeats 4000000
/-! DU: what is sorted comes out the same from any order of the same things. -/
namespace DC
open PySem PySem.Spec PyProof.Rows L2 Evl
theorem dl_trans (a b c : PyData) (h1 : PySem.W.dataLt a b = true) (h2 : PySem.W.dataLt b c = true) : PySem.W.dataLt a c = true := lex_trans (O := itemOrd) _ _ _ h1 h2
theorem dl_irr (a : PyData) : PySem.W.dataLt a a = false := lex_irrefl (O := itemOrd) _
theorem dl_neg (a b c : PyData) (h : PySem.W.dataLt a c = true) : PySem.W.dataLt a b = true ∨ PySem.W.dataLt b c = true := lex_negTrans (O := itemOrd) _ _ _ h
theorem le_def (a b : PyData) : PySem.W.dataLe false id a b = !PySem.W.dataLt b a := rfl
theorem dle_trans (a b c : PyData) (h1 : PySem.W.dataLe false id a b = true) (h2 : PySem.W.dataLe false id b c = true) : PySem.W.dataLe false id a c = true := by
  rw [le_def, Bool.not_eq_true'] at h1 h2 ⊢
  cases e : PySem.W.dataLt c a with
  | false => rfl
  | true =>
    rcases dl_neg c b a e with z | z
    · rw [h2] at z; cases z
    · rw [h1] at z; cases z
theorem dle_total (a b : PyData) : (PySem.W.dataLe false id a b || PySem.W.dataLe false id b a) = true := by
  rw [le_def, le_def]
  cases e : PySem.W.dataLt b a with
  | false => rfl
  | true =>
    cases e2 : PySem.W.dataLt a b with
    | false => rfl
    | true =>
      have := dl_trans a b a e2 e
      rw [dl_irr] at this
      cases this
theorem sort_same {ds es : List PyData} (p : ds.Perm es) (inj : ∀ a ∈ ds, ∀ b ∈ ds, PySem.W.keyToks a = PySem.W.keyToks b → a = b) : ds.mergeSort (PySem.W.dataLe false id) = es.mergeSort (PySem.W.dataLe false id) := by
  have p1 := List.mergeSort_perm ds (PySem.W.dataLe false id)
  have p2 := List.mergeSort_perm es (PySem.W.dataLe false id)
  refine List.Perm.eq_of_pairwise (le := fun a b => PySem.W.dataLe false id a b = true) (fun a b ha hb h1 h2 => ?_) (List.pairwise_mergeSort dle_trans dle_total ds) (List.pairwise_mergeSort dle_trans dle_total es) ((p1.trans p).trans p2.symm)
  rw [le_def, Bool.not_eq_true'] at h1 h2
  exact inj a (p1.mem_iff.mp ha) b (p.mem_iff.mpr (p2.mem_iff.mp hb)) (lex_total (O := itemOrd) _ _ h2 h1)
end DC
-- CG
set_option Elab.async false
set_option linter.all false
set_option maxRecDepth 100000
set_option maxHeartbeats 4000000
namespace DC
open PySem L2
theorem ends_nd : ∀ {js : List J2}, js.Pairwise DC.Apart → (∀ p ∈ js, p.1 ≠ p.2) → (js.flatMap fun p => [p.1, p.2]).Nodup
  | [], _, _ => List.nodup_nil
  | p :: js, h, n => by
    have h' := List.pairwise_cons.mp h
    have ih := ends_nd (js := js) h'.2 fun q hq => n q (List.mem_cons_of_mem _ hq)
    have no : ∀ e, (e = p.1 ∨ e = p.2) → e ∉ js.flatMap fun p => [p.1, p.2] := by
      intro e he hm
      obtain ⟨q, hq, hm⟩ := List.mem_flatMap.mp hm
      have a := h'.1 q hq
      simp only [List.mem_cons, List.not_mem_nil, or_false] at hm
      unfold DC.Apart at a
      rcases he with rfl | rfl <;> rcases hm with z | z <;> omega
    show (p.1 :: p.2 :: js.flatMap fun p => [p.1, p.2]).Nodup
    refine List.nodup_cons.mpr ⟨?_, List.nodup_cons.mpr ⟨no _ (.inr rfl), ih⟩⟩
    intro hm
    rcases List.mem_cons.mp hm with z | z
    · exact n p (List.mem_cons_self ..) z
    · exact no _ (.inl rfl) z
theorem Good.le {n : Nat} {js : List J2} (g : Good n js) : js.length ≤ n := by
  have h := nodup_le (m := List.range (2 * n)) (ends_nd g.dis fun p hp => Nat.ne_of_lt (g.rng p hp).1) (by
    intro e he
    obtain ⟨p, hp, hm⟩ := List.mem_flatMap.mp he
    have r := g.rng p hp
    simp only [List.mem_cons, List.not_mem_nil, or_false] at hm
    rw [List.mem_range]
    rcases hm with rfl | rfl <;> omega)
  have l : (js.flatMap fun p => [p.1, p.2]).length = 2 * js.length := by
    clear h
    induction js with
    | nil => rfl
    | cons p js ih =>
      have := ih ⟨g.one, g.top, fun q hq => g.rng q (List.mem_cons_of_mem _ hq), (List.pairwise_cons.mp g.asc).2, (List.pairwise_cons.mp g.dis).2⟩
      rw [List.flatMap_cons, List.length_append, this]
      simp only [List.length_cons, List.length_nil]
      omega
  rw [l, List.length_range] at h
  omega
end DC
-- K15h
set_option Elab.async false
set_option linter.all false
set_option maxRecDepth 100000
set_option maxHeartbeats 4000000
namespace K15
open PySem L2 DC LamX
section
variable {P : Program} {w : World} {K : PySem.W.Frag} {mg : Str → Option Value} {base : Heap}
def MtD (js : List J2) (kvs : List (Key × V)) : Prop := ∀ e : Nat, valV kvs (.inl ((e : Nat) : Int)) = (mt js e).map fun x => V.int (x : Nat)
def spLm (K : PySem.W.Frag) : Sp := fun vs H Q _ => ∃ (v : V) (n : Nat) (js : List J2), vs = [v] ∧ Ly K H v n js ∧ Good n js ∧ ∀ (d : Addr) (kvs : List (Key × V)) (H' : Hp), Same H H' → H d = none → H' d = some (.dK kvs) → MtD js kvs → Q (.ref d) H'
abbrev N34 : List Str := ["lay", "found", "near", "far"]
theorem sc34 : FnScope N34 ["lay"] (defScope (top 47)) := ⟨rfl, rfl, rfl, by decide +kernel, rfl, by decide +kernel, by decide +kernel⟩
theorem key_ne {a b : Nat} (h : ¬ a = b) : ¬ ((Sum.inl ((a : Nat) : Int) : Key) = Sum.inl ((b : Nat) : Int)) := fun e => h (by have := Sum.inl.inj e; omega)
theorem mtD_step {xs : List J2} {p : J2} {kvs : List (Key × V)} (h1 : ¬ Seen xs p.1) (h2 : ¬ Seen xs p.2) (hm : MtD xs kvs) :
    MtD (xs ++ [p]) (putK (putK kvs (.inl ((p.1 : Nat) : Int)) (.int (p.2 : Nat))) (.inl ((p.2 : Nat) : Int)) (.int (p.1 : Nat))) := by
  intro e
  rw [valV_put, valV_put, mt_app]
  by_cases c2 : e = p.2
  · subst c2
    rw [if_pos rfl, mt_none h2]
    by_cases c1 : p.2 = p.1
    · rw [if_pos c1, c1]; rfl
    · rw [if_neg c1, if_pos rfl]; rfl
  · rw [if_neg (key_ne c2)]
    by_cases c1 : e = p.1
    · subst c1
      rw [if_pos rfl, mt_none h1, if_pos rfl]; rfl
    · rw [if_neg (key_ne c1), if_neg c1, if_neg c2, Option.or_none]
      exact hm e
theorem ok34 {f : Addr} {fd : FuncData} (F : Fun K "_law_mates" "_law_mates" (top 47) f fd) (B : Bn mg) : OkF P w K mg base 1 f fd ["lay"] (spLm K) := by
  refine ok0 F sc34 (fun vs H Q E h => ?_) (fun cdv A outer s H vs Q E hgd hr h => ?_)
  · obtain ⟨v, n, js, rfl, _⟩ := h; rfl
  · obtain ⟨v, n, js, rfl, ⟨t, u, rfl, hS, tj, ws, rfl, hSj, hPj⟩, g, q⟩ := h
    have nd := sc34.nd
    have tp := g.top
    have hu := hu_of hr
    refine ⟨_, pss_cons (ps_set (i := 1) nd rfl (.inl rfl) pe_dnewK)
      (pss_cons (ps_for PassesOwn.never rfl (pi_tup (pe_ix (r := rIxT K) ix_tup (pv 0) pe_int (fun _ _ => rfl))) (pg_tup (by rfl) (pgs_cons (pg_name (i := 2) nd rfl (.inl rfl)) (pgs_cons (pg_name (i := 3) nd rfl (.inl rfl)) pgs_nil)))
        (pss_cons (ps_dput hu (pv 1) (pv 2) (pv 3) rfl) (pss_one (ps_dput hu (pv 1) (pv 3) (pv 2) rfl))))
      (pss_one (ps_ret (pv 1)))), ?_⟩
    have a1 : atI [V.int (n : Nat), V.ref tj] 1 = some (.ref tj) := at_of (j := 1) rfl rfl
    refine fun d hd => gn ?_
    have s0 : Same H (upd H d (.dK [])) := Same.new hd
    refine ⟨_, rfl, t, _, 1, .ref tj, rfl, rfl, Same.t s0 hS, a1, tj, rfl, ⟨ws, Same.t s0 hSj⟩, ?_⟩
    refine for_it (walk_tup (xs := ws)) (fun i σ H' => ∃ (y2 y3 : Option V) (kvs : List (Key × V)), σ = [some (.ref t), some (.ref d), y2, y3] ∧ Same H H' ∧ H' d = some (.dK kvs) ∧ MtD (js.take i) kvs ∧ kvs.length ≤ 2 * i) ⟨none, none, [], rfl, s0, upd_same, fun e => rfl, Nat.le_refl _⟩ ?_ ?_ ?_
    · rintro i σ H' hi ⟨y2, y3, kvs, rfl, sm, _⟩
      exact Same.t sm hSj
    · rintro i x σ H1 H2 hi ⟨y2, y3, kvs, rfl, sm, hD, hm, hl⟩ ⟨rfl, ex⟩
      obtain ⟨p, hp, j, rfl, hj⟩ := pair_at hPj ex
      obtain ⟨r1, r2, r3, r4, r5⟩ := good_at g hp
      have il : i < js.length := (List.getElem?_eq_some_iff.mp hp).1
      have jl := g.le
      refine ⟨j, _, rfl, Same.t sm hj, rfl, _, _, rfl, _, _, rfl, rfl, ?_⟩
      have z1 := length_putK kvs (Sum.inl ((p.1 : Nat) : Int) : Key) (V.int (p.2 : Nat))
      refine ⟨_, rfl, _, rfl, _, rfl, d, _, rfl, DPut.k (k := .inl ((p.1 : Nat) : Int)) (v := .int (p.2 : Nat)) hD (Nat.lt_of_le_of_lt (show kvs.length ≤ 1000 by omega) (by decide)), ?_⟩
      refine ⟨_, rfl, _, rfl, _, rfl, d, _, rfl, DPut.k (k := .inl ((p.2 : Nat) : Int)) (v := .int (p.1 : Nat)) upd_same (Nat.lt_of_le_of_lt (show (putK kvs (Sum.inl ((p.1 : Nat) : Int) : Key) (V.int (p.2 : Nat))).length ≤ 1000 by omega) (by decide)), ?_⟩
      have z2 := length_putK (putK kvs (Sum.inl ((p.1 : Nat) : Int) : Key) (V.int (p.2 : Nat))) (Sum.inl ((p.2 : Nat) : Int) : Key) (V.int (p.1 : Nat))
      refine ⟨_, _, _, rfl, same_put (same_put sm hd) hd, upd_same, ?_, by omega⟩
      rw [take_next hp]
      exact mtD_step r3 r4 hm
    · rintro σ H' ⟨y2, y3, kvs, rfl, sm, hD, hm, hl⟩
      rw [List.take_of_length_le (by rw [Paired.length hPj]; exact Nat.le_refl _)] at hm
      exact ⟨_, rfl, q d kvs H' sm hd hD hm⟩
end
end K15
-- K15i
set_option Elab.async false
set_option linter.all false
set_option maxRecDepth 100000
set_option maxHeartbeats 4000000
namespace K15
open PySem L2 DC LamX
theorem flat_Vn (l : List Nat) : (Vn l).all flatV = true := by
  unfold Vn
  rw [List.all_map]
  exact List.all_eq_true.mpr fun x _ => rfl
section
variable {P : Program} {w : World} {K : PySem.W.Frag} {mg : Str → Option Value} {base : Heap}
end
end K15
-- DN
set_option Elab.async false
set_option linter.all false
set_option maxRecDepth 100000
set_option maxHeartbeats 4000000
/-! DN: xs.count(y), y and the items numbers, texts, truth values, None. -/
namespace DC
open PySem PySem.Spec PyProof.Rows L2 Evl
section
variable {X : Cx}
theorem count_eqU {x : V} : ∀ {xs : List V} {us : List Value}, Vals xs us → xs.all flatV = true → us.countP (eqU x) = xs.countP fun y => eqV y x
  | _, _, .nil, _ => rfl
  | y :: xs, u :: us, .cons r t, f => by
    have f' := Bool.and_eq_true_iff.mp (List.all_cons.symm.trans f)
    have ih := count_eqU (x := x) t f'.2
    have e := eqU_of (x := x) r f'.1
    rw [List.countP_cons, List.countP_cons, ih, e]
def rCntF (K : PySem.W.Frag) : V → List V → Hp → VK → Prop := fun x xs H Q => ∃ (p : Addr) (ys : List V) (y : V), x = .ref p ∧ xs = [y] ∧ SqL K H p ys ∧ flatV y = true ∧ ys.all flatV = true ∧ Q (.int ((ys.countP fun z => eqV z y : Nat) : Int)) H
theorem mt_countF : MtR X "list.count" (rCntF X.K) := by
  intro pins s σ H x xs v us Q I rx rxs h
  obtain ⟨p, ys, y, rfl, rfl, hs, fy, fs, q⟩ := h
  cases rx
  obtain ⟨u, rfl, ru⟩ := rxs.one
  obtain ⟨its, rv, ⟨⟨cls, dd, data, sl⟩, n, ho, hc, hdn, hd⟩, hlen⟩ := I.list hs
  dsimp only at hc hd
  cases hc
  cases hd
  have body := SeqAt.list_countAt p its.toArray n dd sl u (eqU y)
  refine call_meets PySem.F.slot_list_count ⟨_, ho, rfl⟩ PySem.F.entry_list_count (PySem.F.args_list_count_2 _ _) body ⟨ho, fun z hz => mem_eqAt ru fy rv fs z (by simpa using hz), ?_⟩
  have ec := count_eqU (x := y) rv fs
  refine ⟨.int ((ys.countP fun z => eqV z y : Nat) : Int), H, I.tok _, ⟨s.toks, ?_⟩, q⟩
  rw [← ec]
end
end DC
-- DT
set_option Elab.async false
set_option linter.all false
set_option maxRecDepth 100000
set_option maxHeartbeats 4000000
/-! DT: a tuple written at the top, read by its items. -/
namespace DC
open PySem L2
def absI : Value → Option V
  | .int i _ => some (.int i)
  | .str x _ => some (.str x)
  | .bool b => some (.bl b)
  | .none => some .non
  | .ref a => some (.ref a)
  | _ => none
theorem absI_rel {u : Value} {x : V} (h : absI u = some x) : RelV x u := by
  cases u <;> simp only [absI, Option.some.injEq, reduceCtorEq] at h <;> subst h
  · exact rfl
  · exact rfl
  · exact ⟨_, rfl⟩
  · exact ⟨_, rfl⟩
  · exact rfl
def absAll : List Value → Option (List V)
  | [] => some []
  | u :: us => match absI u, absAll us with
    | some x, some xs => some (x :: xs)
    | _, _ => none
theorem absAll_rel : ∀ {us : List Value} {xs : List V}, absAll us = some xs → Vals xs us
  | [], xs, h => by
    cases (show some [] = some xs from h)
    exact .nil
  | u :: us, xs, h => by
    unfold absAll at h
    split at h
    · rename_i x ys e1 e2
      cases h
      exact .cons (absI_rel e1) (absAll_rel e2)
    · cases h
/-- what a tuple written at the top has -/
def tupIn (K : PySem.W.Frag) (a : Addr) : Option (List V) :=
  match K.lookup a with
  | some o => match o.cls, o.data with
    | .type c, .seq its _ => if c = "tuple" then absAll its.toList else none
    | _, _ => none
  | none => none
theorem tupIn_t {K : PySem.W.Frag} {H : Hp} {a : Addr} {xs : List V} (h : tupIn K a = some xs) (hz : xs.length ≤ sizeLine) : SqT K H a xs := by
  unfold tupIn at h
  split at h
  · rename_i o ho
    split at h
    · rename_i c its n hc hd
      split at h
      · rename_i e
        subst e
        have r := absAll_rel h
        refine .inr ⟨o, its, n, ho, hc, hd, ?_, r⟩
        have e1 : xs.length = its.toList.length := r.length
        have e2 : its.toList.length = its.size := Array.length_toList
        omega
      · cases h
    · cases h
  · cases h
section
open PySem.Spec PyProof.Rows Evl
variable {X : Cx}
/-- pe_bm in a comprehension's block: the written part told apart -/
theorem pe_bmK {K : PySem.W.Frag} {T : String} {name : Str} {id : String} {r : V → List V → Hp → VK → Prop} {o e : Expr} {es : List Expr} {apos cpos : Pos} {to : TE} {t : TA} (hK : X.K = K) (pa : PlainAttrs T) (slot : Slot T name id) (hty : typeOf (.builtin id) = pure (.type "method_descriptor")) (hm : MtR X id r) (ho : PE X o to) (ha : PA X (e :: es) t)
    (hbase : attributeBase o name X.env (eval o X.env) = eval o X.env := by rfl)
    (hfew : ((backTo cpos (starEach (e :: es) X.env)).all (fun x => !x.1) && (backToKw cpos (keywordEach [] X.env)).all (fun x => x.1.isSome)
      && decide ((e :: es).length + ([] : List Keyword).length + (if ([] : List Keyword).isEmpty then 0 else 1) < 30)) = true := by rfl)
    (hline : (apos.endLine == cpos.line) = true := by rfl) (hs : starEach (e :: es) X.env = (false, eval e X.env) :: starEach es X.env := by rfl) (hplain : (backTo cpos (starEach es X.env)).any (·.1) = false := by rfl) :
    PE X (.Call (.Attribute o name apos) (e :: es) [] cpos) (tBM K T r to t) := by
  subst hK
  exact pe_bm pa slot hty hm ho ha hbase hfew hline hs hplain
end
end DC
-- C12
set_option Elab.async false
set_option linter.all false
set_option maxRecDepth 100000
set_option maxHeartbeats 4000000
/-! C12: the web of two lays is one list of pieces, whatever its order; what its pieces lack. -/
namespace DC
open PySem L2
section
variable {f g : Nat → Option Nat} {N a k : Nat}
theorem rj_ex (F : Mt N f) (G : Mt N g) (ha : a < N) : ∃ k, Rj f g a k := by
  have gen : ∀ d k, Pj f g a k → N - k ≤ d → ∃ k, Rj f g a k := by
    intro d
    induction d with
    | zero =>
      intro k P h
      cases e : jt f g a k with
      | none => exact ⟨k, P, .inl e⟩
      | some x =>
        by_cases c : x = a
        · exact ⟨k, P, .inr (by rw [e, c])⟩
        · have := (P.next e c).le F G ha
          omega
    | succ d ih =>
      intro k P h
      cases e : jt f g a k with
      | none => exact ⟨k, P, .inl e⟩
      | some x =>
        by_cases c : x = a
        · exact ⟨k, P, .inr (by rw [e, c])⟩
        · exact ih (k + 1) (P.next e c) (by omega)
  exact gen N 1 .one (by omega)
theorem least_ex {S : Nat → Prop} {x : Nat} (h : S x) : ∃ m, S m ∧ ∀ y, S y → m ≤ y := by
  induction x using Nat.strongRecOn with
  | ind x ih =>
    by_cases c : ∃ y, S y ∧ y < x
    · obtain ⟨y, hy, l⟩ := c
      exact ih y l hy
    · exact ⟨x, h, fun y hy => Nat.le_of_not_lt fun l => c ⟨y, hy, l⟩⟩
theorem cl_lt (F : Mt N f) (G : Mt N g) {e : Nat} (he : e < N) : ∀ {x}, Cl f g e x → x < N :=
  cl_closed (S := fun x => x < N) he fun x y _ n => by
    rcases n with n | n
    · exact (F.lt n).2
    · exact (G.lt n).2
/-- a walk from an end that is free behind comes to no end that it began with -/
theorem path_fin (F : Mt N f) (G : Mt N g) (R : Rj f g a k) (h0 : g a = none) : jt f g a k = none := by
  rcases R.fin with z | z
  · exact z
  · exfalso
    have pos := R.pos
    have ev : k % 2 = 0 := by
      by_cases c : k % 2 = 0
      · exact c
      · rw [show k = 0 + (2 * (k / 2) + 1) by omega] at z
        exact (jt_odd F G (k / 2) 0 a rfl z).elim
    rw [show k = (k - 1) + 1 by omega] at z
    obtain ⟨w, hw, ew⟩ := jt_step z
    have ew' := hh_inv F G ew
    unfold hh at ew'
    rw [if_neg (show ¬ (k - 1) % 2 = 0 by omega), h0] at ew'
    cases ew'
/-- where a path lacks a mate -/
theorem path_lack (F : Mt N f) (G : Mt N g) (R : Rj f g a k) (h0 : g a = none) {i x : Nat} (hi : i < k) (h : jt f g a i = some x) :
    (f x = none ↔ i + 1 = k ∧ i % 2 = 0) ∧ (g x = none ↔ i = 0 ∨ (i + 1 = k ∧ i % 2 = 1)) := by
  have fin := path_fin F G R h0
  have e1 : hh f g i x = none ↔ i + 1 = k := by
    have z := jt_next h
    rw [← z]
    constructor
    · intro n
      by_cases c : i + 1 < k
      · obtain ⟨y, hy⟩ := R.all (i + 1) c
        rw [hy] at n
        cases n
      · omega
    · intro n
      rw [n]
      exact fin
  have e2 : hh f g (i + 1) x = none ↔ i = 0 := by
    cases i with
    | zero =>
      obtain rfl : a = x := Option.some.inj h
      exact ⟨fun _ => rfl, fun _ => h0⟩
    | succ j =>
      obtain ⟨y, hy, ey⟩ := jt_step h
      have b := hh_inv F G ey
      rw [hh_par (show j % 2 = (j + 1 + 1) % 2 by omega)] at b
      constructor
      · intro n
        rw [b] at n
        cases n
      · intro n
        omega
  by_cases c : i % 2 = 0
  · have h1 : hh f g i = f := by unfold hh; rw [if_pos c]
    have h2 : hh f g (i + 1) = g := by unfold hh; rw [if_neg (by omega)]
    rw [h1] at e1
    rw [h2] at e2
    exact ⟨by rw [e1]; omega, by rw [e2]; omega⟩
  · have h1 : hh f g i = g := by unfold hh; rw [if_neg c]
    have h2 : hh f g (i + 1) = f := by unfold hh; rw [if_pos (by omega)]
    rw [h1] at e1
    rw [h2] at e2
    exact ⟨by rw [e2]; omega, by rw [e1]; omega⟩
theorem countP_range_last (p : Nat → Bool) (m : Nat) (h : ∀ i, i < m → p i = false) : (List.range (m + 1)).countP p = if p m = true then 1 else 0 := by
  rw [List.range_succ, List.countP_append, List.countP_eq_zero.mpr fun i hi => by rw [h i (List.mem_range.mp hi)]; decide, List.countP_singleton, Nat.zero_add]
theorem rj_count (P : Pj f g a k) (q : Nat → Bool) : (rj f g a k).countP q = (List.range k).countP fun i => q ((jt f g a i).getD 0) := by
  unfold rj
  rw [List.countP_map]
  rfl
theorem path_cf (F : Mt N f) (G : Mt N g) (R : Rj f g a k) (h0 : g a = none) : (rj f g a k).countP (fun e => (f e).isNone) = if k % 2 = 1 then 1 else 0 := by
  have pos := R.pos
  rw [rj_count R.toPj]
  obtain ⟨m, rfl⟩ : ∃ m, k = m + 1 := ⟨k - 1, by omega⟩
  have key : ∀ i, i < m + 1 → (f ((jt f g a i).getD 0)).isNone = decide (i + 1 = m + 1 ∧ i % 2 = 0) := by
    intro i hi
    obtain ⟨x, hx⟩ := R.all i hi
    have z := (path_lack F G R h0 hi hx).1
    rw [hx, Option.getD_some, Bool.eq_iff_iff, Option.isNone_iff_eq_none, decide_eq_true_eq]
    exact z
  rw [countP_range_last _ m fun i hi => by rw [key i (by omega)]; exact decide_eq_false (by omega), key m (by omega)]
  by_cases c : m % 2 = 0
  · rw [if_pos (decide_eq_true ⟨rfl, c⟩), if_pos (by omega)]
  · rw [if_neg (by rw [decide_eq_true_eq]; omega), if_neg (by omega)]
theorem path_cg (F : Mt N f) (G : Mt N g) (R : Rj f g a k) (h0 : g a = none) : (rj f g a k).countP (fun e => (g e).isNone) = if k % 2 = 1 then 1 else 2 := by
  have pos := R.pos
  rw [rj_count R.toPj]
  have key : ∀ i, i < k → (g ((jt f g a i).getD 0)).isNone = decide (i = 0 ∨ (i + 1 = k ∧ i % 2 = 1)) := by
    intro i hi
    obtain ⟨x, hx⟩ := R.all i hi
    have z := (path_lack F G R h0 hi hx).2
    rw [hx, Option.getD_some, Bool.eq_iff_iff, Option.isNone_iff_eq_none, decide_eq_true_eq]
    exact z
  obtain ⟨m, rfl⟩ : ∃ m, k = m + 1 := ⟨k - 1, by omega⟩
  rw [List.range_succ_eq_map, List.countP_cons, List.countP_map, key 0 (by omega), if_pos (decide_eq_true (.inl rfl))]
  cases m with
  | zero => rfl
  | succ r =>
    have e : (List.range (r + 1)).countP ((fun i => (g ((jt f g a i).getD 0)).isNone) ∘ Nat.succ) = if (r + 1) % 2 = 1 then 1 else 0 := by
      rw [countP_range_last _ r fun i hi => by
        show (g ((jt f g a (i + 1)).getD 0)).isNone = false
        rw [key (i + 1) (by omega)]; exact decide_eq_false (by omega)]
      show (if (g ((jt f g a (r + 1)).getD 0)).isNone = true then 1 else 0) = _
      rw [key (r + 1) (by omega)]
      by_cases c : (r + 1) % 2 = 1
      · rw [if_pos (decide_eq_true (.inr ⟨rfl, c⟩)), if_pos c]
      · rw [if_neg (by rw [decide_eq_true_eq]; omega), if_neg c]
    rw [e]
    split <;> split <;> omega
end
section
variable {n : Nat} {js ls : List J2}
/-- how many ends of a row are free in a lay -/
def cn (js : List J2) (h : List Nat) : Nat := h.countP fun e => (mt js e).isNone
theorem cn_perm {h h' : List Nat} (p : h.Perm h') : cn js h = cn js h' := p.countP_eq _
/-- what kind of piece has these ends -/
def lk (js ls : List J2) (h : List Nat) : Str := if cn js h = 0 ∧ cn ls h = 0 then "ring" else if cn js h = 1 then "odd" else if cn js h = 2 then "open" else "shut"
theorem lk_perm {h h' : List Nat} (p : h.Perm h') : lk js ls h = lk js ls h' := by
  unfold lk
  rw [cn_perm p, cn_perm p]
theorem wpc_cnt (g1 : Good n js) (g2 : Good n ls) {p : Str × List Nat} (h : Wpc n js ls p) :
    (cn js p.2 = 0 ∧ cn ls p.2 = 0 ∧ p.1 = "ring") ∨ (cn js p.2 = 1 ∧ cn ls p.2 = 1 ∧ p.1 = "odd") ∨ (cn js p.2 = 2 ∧ cn ls p.2 = 0 ∧ p.1 = "open") ∨ (cn js p.2 = 0 ∧ cn ls p.2 = 2 ∧ p.1 = "shut") := by
  obtain ⟨a, ha, ca, ⟨la, ⟨kd, ⟨k, ⟨e, R, er, ek⟩ | ⟨e, R, er, ek⟩⟩, e1⟩, _⟩ | ⟨nl, e1, _⟩⟩ := h
  · have c1 := path_cf g2.mt g1.mt R e
    have c2 := path_cg g2.mt g1.mt R e
    rw [← er] at c1 c2
    have len : p.2.length = k := by rw [er, rj_len]
    unfold oddK at e1
    rw [len, ek] at e1
    unfold cn
    rw [c1, c2, e1]
    by_cases c : k % 2 = 1
    · rw [if_pos c, if_pos c, if_pos c]
      exact .inr (.inl ⟨rfl, rfl, rfl⟩)
    · rw [if_neg c, if_neg c, if_neg c]
      exact .inr (.inr (.inl ⟨rfl, rfl, rfl⟩))
  · have e0 := la.resolve_left e
    have c1 := path_cf g1.mt g2.mt R e0
    have c2 := path_cg g1.mt g2.mt R e0
    rw [← er] at c1 c2
    have len : p.2.length = k := by rw [er, rj_len]
    unfold oddK at e1
    rw [len, ek] at e1
    unfold cn
    rw [c1, c2, e1]
    by_cases c : k % 2 = 1
    · rw [if_pos c, if_pos c, if_pos c]
      exact .inr (.inl ⟨rfl, rfl, rfl⟩)
    · rw [if_neg c, if_neg c, if_neg c]
      exact .inr (.inr (.inr ⟨rfl, rfl, rfl⟩))
  · refine .inl ⟨?_, ?_, e1⟩
    · refine List.countP_eq_zero.mpr fun x hx z => nl x hx (.inl (Option.isNone_iff_eq_none.mp z))
    · refine List.countP_eq_zero.mpr fun x hx z => nl x hx (.inr (Option.isNone_iff_eq_none.mp z))
theorem lk_wpc (g1 : Good n js) (g2 : Good n ls) {p : Str × List Nat} (h : Wpc n js ls p) : lk js ls p.2 = p.1 := by
  unfold lk
  rcases wpc_cnt g1 g2 h with ⟨a, b, c⟩ | ⟨a, b, c⟩ | ⟨a, b, c⟩ | ⟨a, b, c⟩ <;> rw [a, b, c] <;> rfl
def swp (k : Str) : Str := if k = "open" then "shut" else if k = "shut" then "open" else k
theorem lk_swap (g1 : Good n js) (g2 : Good n ls) {p : Str × List Nat} (h : Wpc n js ls p) : lk ls js p.2 = swp p.1 := by
  unfold lk swp
  rcases wpc_cnt g1 g2 h with ⟨a, b, c⟩ | ⟨a, b, c⟩ | ⟨a, b, c⟩ | ⟨a, b, c⟩ <;> rw [a, b, c] <;> decide +kernel
theorem pth_eq {a : Nat} {kd kd' : Str} {row row' : List Nat} (h : Pth js ls a kd row) (h' : Pth js ls a kd' row') : kd = kd' ∧ row = row' := by
  obtain ⟨k, ⟨e, R, er, ek⟩ | ⟨e, R, er, ek⟩⟩ := h <;> obtain ⟨k', ⟨e', R', er', ek'⟩ | ⟨e', R', er', ek'⟩⟩ := h'
  · obtain rfl := rj_eq R R'
    exact ⟨ek.trans ek'.symm, er.trans er'.symm⟩
  · exact absurd e e'
  · exact absurd e' e
  · obtain rfl := rj_eq R R'
    exact ⟨ek.trans ek'.symm, er.trans er'.symm⟩
/-- pieces that have an end in common are one -/
theorem wpc_uniq (g1 : Good n js) (g2 : Good n ls) {p q : Str × List Nat} (hp : Wpc n js ls p) (hq : Wpc n js ls q) {e : Nat} (h1 : e ∈ p.2) (h2 : e ∈ q.2) : p = q := by
  obtain ⟨a, ha, ca, A⟩ := hp
  obtain ⟨b, hb, cb, B⟩ := hq
  have aq := ca.meet g1.mt g2.mt cb h1 h2 a ca.beg
  have bp := cb.meet g1.mt g2.mt ca h2 h1 b cb.beg
  rcases A with ⟨la, ⟨kd, P, ep⟩, am⟩ | ⟨nl, ep, ⟨k, R, er⟩, am⟩ <;> rcases B with ⟨lb, ⟨kd', P', eq⟩, bm⟩ | ⟨nl', eq, ⟨k', R', er'⟩, bm⟩
  · obtain rfl : a = b := Nat.le_antisymm (am b bp lb) (bm a aq la)
    obtain ⟨e1, e2⟩ := pth_eq P P'
    subst e1
    refine Prod.ext ?_ e2
    rw [ep, eq, e2]
  · exact absurd la (nl' a aq)
  · exact absurd lb (nl b bp)
  · obtain rfl : a = b := Nat.le_antisymm (am b bp) (bm a aq)
    obtain rfl := rj_eq R R'
    exact Prod.ext (ep.trans eq.symm) (er.trans er'.symm)
theorem wpc_ex (g1 : Good n js) (g2 : Good n ls) {e : Nat} (he : e < 2 * n) : ∃ p, Wpc n js ls p ∧ e ∈ p.2 := by
  have F := g1.mt
  have G := g2.mt
  by_cases c : ∃ x, Cl (mt js) (mt ls) e x ∧ Lst js ls x
  · obtain ⟨x, hx⟩ := c
    obtain ⟨a, ⟨ca, la⟩, least⟩ := least_ex (S := fun x => Cl (mt js) (mt ls) e x ∧ Lst js ls x) hx
    have ha := cl_lt F G he ca
    obtain ⟨kd, row, hP⟩ : ∃ kd row, Pth js ls a kd row := by
      cases ej : mt js a with
      | none =>
        obtain ⟨k, R⟩ := rj_ex G F ha
        exact ⟨_, _, k, .inl ⟨ej, R, rfl, rfl⟩⟩
      | some x =>
        obtain ⟨k, R⟩ := rj_ex F G ha
        exact ⟨_, _, k, .inr ⟨by rw [ej]; exact (fun z => nomatch z), R, rfl, rfl⟩⟩
    have cls := pth_cls g1 g2 ha hP la
    exact ⟨(oddK row kd, row), ⟨a, ha, cls, .inl ⟨la, ⟨kd, hP, rfl⟩, fun x hx lx => least x ⟨cl_trans ca ((cls.mem x).mp hx), lx⟩⟩⟩, (cls.mem e).mpr (cl_symm F G ca)⟩
  · obtain ⟨a, ca, least⟩ := least_ex (S := fun x => Cl (mt js) (mt ls) e x) Cl.base
    have ha := cl_lt F G he ca
    have nol : ∀ x, Cl (mt js) (mt ls) a x → ¬ Lst js ls x := fun x hx lx => c ⟨x, cl_trans ca hx, lx⟩
    obtain ⟨k, R⟩ := rj_ex F G ha
    have fin : jt (mt js) (mt ls) a k = some a := by
      rcases R.fin with z | z
      · exfalso
        have pos := R.pos
        obtain ⟨y, hy⟩ := R.all (k - 1) (by omega)
        have hm : y ∈ rj (mt js) (mt ls) a k := (mem_rj R.toPj).mpr ⟨k - 1, by omega, hy⟩
        have e := jt_next hy
        rw [show k - 1 + 1 = k by omega, z] at e
        refine nol y (rj_cl R.toPj y hm) ?_
        unfold hh at e
        split at e
        · exact .inl e.symm
        · exact .inr e.symm
      · exact z
    have cls := cls_rj F G ha R (.inr fin)
    exact ⟨("ring", rj (mt js) (mt ls) a k), ⟨a, ha, cls, .inr ⟨fun x hx => nol x ((cls.mem x).mp hx), rfl, ⟨k, R, rfl⟩, fun x hx => least x (cl_trans ca ((cls.mem x).mp hx))⟩⟩, (cls.mem e).mpr (cl_symm F G ca)⟩
theorem wpc_beg {p : Str × List Nat} (h : Wpc n js ls p) : ∃ a, a < 2 * n ∧ a ∈ p.2 := by
  obtain ⟨a, ha, ca, _⟩ := h
  exact ⟨a, ha, ca.beg⟩
theorem wpc_lt {p : Str × List Nat} (h : Wpc n js ls p) : ∀ e ∈ p.2, e < 2 * n := by
  obtain ⟨a, ha, ca, _⟩ := h
  exact ca.lt
theorem wpc_nd {p : Str × List Nat} (h : Wpc n js ls p) : p.2.Nodup := by
  obtain ⟨a, ha, ca, _⟩ := h
  exact ca.nd
/-- these are all pieces, each once -/
structure IsWeb (n : Nat) (js ls : List J2) (ps : List (Str × List Nat)) : Prop where
  mem : ∀ p, p ∈ ps ↔ Wpc n js ls p
  nd : ps.Nodup
theorem IsWeb.of (g1 : Good n js) (g2 : Good n ls) {ps : List (Str × List Nat)} (h : ∀ p ∈ ps, Wpc n js ls p) (nd : ps.Nodup) (cov : ∀ e, e < 2 * n → ∃ p ∈ ps, e ∈ p.2) : IsWeb n js ls ps := by
  refine ⟨fun p => ⟨h p, fun hp => ?_⟩, nd⟩
  obtain ⟨a, ha, hm⟩ := wpc_beg hp
  obtain ⟨q, hq, hm'⟩ := cov a ha
  rw [wpc_uniq g1 g2 hp (h q hq) hm hm']
  exact hq
theorem Wi.web {ps : List (Str × List Nat)} {bs : List Bool} (W : Wi n js ls ps bs) (g1 : Good n js) (g2 : Good n ls) (cov : ∀ e, e < 2 * n → ∃ p ∈ ps, e ∈ p.2) : IsWeb n js ls ps := by
  refine .of g1 g2 W.pcs ?_ cov
  refine List.Pairwise.imp_of_mem (fun {p q} hp hq h e => ?_) W.dis
  subst e
  obtain ⟨a, _, hm⟩ := wpc_beg (W.pcs p hp)
  exact h a hm hm
theorem IsWeb.perm {ps qs : List (Str × List Nat)} (A : IsWeb n js ls ps) (B : IsWeb n js ls qs) : ps.Perm qs :=
  (List.perm_ext_iff_of_nodup A.nd B.nd).mpr fun p => (A.mem p).trans (B.mem p).symm
theorem IsWeb.cov {ps : List (Str × List Nat)} (A : IsWeb n js ls ps) (g1 : Good n js) (g2 : Good n ls) : ∀ e, e < 2 * n → ∃ p ∈ ps, e ∈ p.2 := by
  intro e he
  obtain ⟨p, hp, hm⟩ := wpc_ex g1 g2 he
  exact ⟨p, (A.mem p).mpr hp, hm⟩
theorem web_ex (g1 : Good n js) (g2 : Good n ls) : ∃ ps, IsWeb n js ls ps := by
  have gen : ∀ m, m ≤ 2 * n → ∃ ps : List (Str × List Nat), (∀ p ∈ ps, Wpc n js ls p) ∧ ps.Nodup ∧ ∀ e, e < m → ∃ p ∈ ps, e ∈ p.2 := by
    intro m
    induction m with
    | zero => intro _; exact ⟨[], fun p hp => absurd hp (List.not_mem_nil), .nil, fun e he => absurd he (Nat.not_lt_zero _)⟩
    | succ m ih =>
      intro hm
      obtain ⟨ps, h1, h2, h3⟩ := ih (by omega)
      by_cases c : ∃ p ∈ ps, m ∈ p.2
      · refine ⟨ps, h1, h2, fun e he => ?_⟩
        by_cases z : e = m
        · rw [z]; exact c
        · exact h3 e (by omega)
      · obtain ⟨p, hp, hmp⟩ := wpc_ex g1 g2 (show m < 2 * n by omega)
        refine ⟨p :: ps, fun q hq => ?_, List.nodup_cons.mpr ⟨fun hq => c ⟨p, hq, hmp⟩, h2⟩, fun e he => ?_⟩
        · rcases List.mem_cons.mp hq with rfl | hq
          · exact hp
          · exact h1 q hq
        · by_cases z : e = m
          · rw [z]; exact ⟨p, List.mem_cons_self, hmp⟩
          · obtain ⟨q, hq, hm'⟩ := h3 e (by omega)
            exact ⟨q, List.mem_cons_of_mem _ hq, hm'⟩
  obtain ⟨ps, h1, h2, h3⟩ := gen (2 * n) (Nat.le_refl _)
  exact ⟨ps, .of g1 g2 h1 h2 h3⟩
/-! ascending rows -/
def asc (l : List Nat) : List Nat := l.mergeSort fun a b => decide (a ≤ b)
theorem asc_perm (l : List Nat) : (asc l).Perm l := List.mergeSort_perm _ _
theorem asc_pw (l : List Nat) : (asc l).Pairwise (· ≤ ·) := by
  have h := List.pairwise_mergeSort (le := fun a b : Nat => decide (a ≤ b)) (fun a b c h1 h2 => by rw [decide_eq_true_eq] at *; omega) (fun a b => by rw [Bool.or_eq_true, decide_eq_true_eq, decide_eq_true_eq]; omega) l
  exact h.imp fun z => of_decide_eq_true z
theorem asc_eq {l l' : List Nat} (p : l'.Perm l) (h : l'.Pairwise (· ≤ ·)) : l' = asc l :=
  List.Perm.eq_of_pairwise (le := (· ≤ ·)) (fun a b _ _ h1 h2 => Nat.le_antisymm h1 h2) h (asc_pw l) (p.trans (asc_perm l).symm)
theorem asc_same {l l' : List Nat} (p : l'.Perm l) : asc l' = asc l := asc_eq ((asc_perm l').trans p) (asc_pw l')
/-- the heaps of ends that hang together, ascending, each once -/
structure Hps (n : Nat) (js ls : List J2) (hs : List (List Nat)) : Prop where
  mem : ∀ h ∈ hs, ∃ p, Wpc n js ls p ∧ h = asc p.2
  dis : hs.Pairwise fun h h' => ∀ e, e ∈ h → e ∉ h'
  cov : ∀ e, e < 2 * n → ∃ h ∈ hs, e ∈ h
theorem Hps.perm {hs : List (List Nat)} {ps : List (Str × List Nat)} (A : Hps n js ls hs) (W : IsWeb n js ls ps) (g1 : Good n js) (g2 : Good n ls) : hs.Perm (ps.map fun p => asc p.2) := by
  have ne : ∀ p, Wpc n js ls p → ∃ a, a < 2 * n ∧ a ∈ asc p.2 := by
    intro p hp
    obtain ⟨a, ha, hm⟩ := wpc_beg hp
    exact ⟨a, ha, (asc_perm p.2).mem_iff.mpr hm⟩
  refine (List.perm_ext_iff_of_nodup ?_ ?_).mpr fun h => ?_
  · refine List.Pairwise.imp_of_mem (fun {x y} hx hy d e => ?_) A.dis
    subst e
    obtain ⟨p, hp, rfl⟩ := A.mem x hx
    obtain ⟨a, _, hm⟩ := ne p hp
    exact d a hm hm
  · rw [List.Nodup, List.pairwise_map]
    refine List.Pairwise.imp_of_mem (fun {p q} hp hq d e => ?_) W.nd
    obtain ⟨a, _, hm⟩ := ne p ((W.mem p).mp hp)
    have hm' := hm
    rw [e] at hm'
    exact d (wpc_uniq g1 g2 ((W.mem p).mp hp) ((W.mem q).mp hq) ((asc_perm p.2).mem_iff.mp hm) ((asc_perm q.2).mem_iff.mp hm'))
  · constructor
    · intro hh
      obtain ⟨p, hp, rfl⟩ := A.mem h hh
      exact List.mem_map.mpr ⟨p, (W.mem p).mpr hp, rfl⟩
    · intro hh
      obtain ⟨p, hp, rfl⟩ := List.mem_map.mp hh
      have wp := (W.mem p).mp hp
      obtain ⟨a, ha, hm⟩ := ne p wp
      obtain ⟨h', hh', hm'⟩ := A.cov a ha
      obtain ⟨q, hq, rfl⟩ := A.mem h' hh'
      rw [wpc_uniq g1 g2 wp hq ((asc_perm p.2).mem_iff.mp hm) ((asc_perm q.2).mem_iff.mp hm')]
      exact hh'
/-- the web the other way round has the same heaps -/
theorem IsWeb.swap {ps qs : List (Str × List Nat)} (A : IsWeb n js ls ps) (B : IsWeb n ls js qs) (g1 : Good n js) (g2 : Good n ls) : (qs.map fun p => asc p.2).Perm (ps.map fun p => asc p.2) := by
  refine Hps.perm (n := n) (js := js) (ls := ls) ⟨fun h hh => ?_, ?_, ?_⟩ A g1 g2
  · obtain ⟨q, hq, rfl⟩ := List.mem_map.mp hh
    have wq := (B.mem q).mp hq
    obtain ⟨a, ha, ca, _⟩ := id wq
    obtain ⟨p, hp, hm⟩ := wpc_ex g1 g2 ha
    refine ⟨p, hp, asc_same ?_⟩
    obtain ⟨b, hb, cb, _⟩ := id hp
    have e := (cb.mem a).mp hm
    refine (List.perm_ext_iff_of_nodup (wpc_nd wq) (wpc_nd hp)).mpr fun x => ?_
    rw [cb.mem x, ca.mem x]
    exact ⟨fun z => cl_trans e (cl_swap z), fun z => cl_swap (cl_trans (cl_symm g1.mt g2.mt e) z)⟩
  · rw [List.pairwise_map]
    refine List.Pairwise.imp_of_mem (fun {p q} hp hq d e h1 h2 => ?_) B.nd
    exact d (wpc_uniq g2 g1 ((B.mem p).mp hp) ((B.mem q).mp hq) ((asc_perm p.2).mem_iff.mp h1) ((asc_perm q.2).mem_iff.mp h2))
  · intro e he
    obtain ⟨q, hq, hm⟩ := B.cov g2 g1 e he
    exact ⟨asc q.2, List.mem_map.mpr ⟨q, hq, rfl⟩, (asc_perm q.2).mem_iff.mpr hm⟩
end
end DC
-- K15j
set_option Elab.async false
set_option linter.all false
set_option maxRecDepth 100000
set_option maxHeartbeats 4000000
namespace K15
open PySem L2 DC LamX
def cntK (ps : List (Str × List Nat)) (k : Str) : Nat := ps.countP fun p => p.1 == k
def KD : List Str := ["ring", "odd", "open", "shut"]
def kcnt (ps : List (Str × List Nat)) : List V := KD.map fun k => .int ((cntK ps k : Nat) : Int)
def szOrd (ps : List (Str × List Nat)) : List (Str × List Nat) := (byRow ps).mergeSort (PySem.W.dataLe false szD)
theorem sizesD_map (ps : List (Str × List Nat)) : sizesD ps = (szOrd ps).map szD := by
  unfold sizesD szOrd
  exact (List.map_mergeSort (r := PySem.W.dataLe false szD) (s := PySem.W.dataLe false id) (f := szD) (l := byRow ps) (fun a _ b _ => rfl)).symm
theorem szOrd_perm (ps : List (Str × List Nat)) : (szOrd ps).Perm ps := (List.mergeSort_perm _ _).trans (List.mergeSort_perm _ _)
theorem dp_sz {K : PySem.W.Frag} {H : Hp} {x : V} {p : Str × List Nat} (h : Dp K H x (szD p)) : ∃ t, x = .ref t ∧ SqT K H t [.str p.1, .int (p.2.length : Nat)] := by
  unfold szD at h
  cases h with
  | tup hS ha =>
    cases ha with
    | cons h1 t1 =>
      cases h1
      cases t1 with
      | cons h2 t2 =>
        cases h2
        cases t2
        exact ⟨_, rfl, hS⟩
theorem flat_str (l : List Str) : (l.map V.str).all flatV = true := by
  rw [List.all_map]
  exact List.all_eq_true.mpr fun x _ => rfl
theorem count_kd (qs : List (Str × List Nat)) (k : Str) : ((qs.map fun p => V.str p.1).countP fun z => eqV z (.str k)) = cntK qs k := by
  unfold cntK
  rw [List.countP_map]
  rfl
theorem cntK_perm {ps qs : List (Str × List Nat)} (h : ps.Perm qs) (k : Str) : cntK ps k = cntK qs k := h.countP_eq _
section
variable {P : Program} {w : World} {K : PySem.W.Frag} {mg : Str → Option Value} {base : Heap}
end
end K15
-- C13
set_option Elab.async false
set_option linter.all false
set_option maxRecDepth 100000
set_option maxHeartbeats 4000000
/-! C13: a heap grown along both pairings is all that hangs together. -/
namespace DC
open PySem L2
/-- the partner of an end, or itself -/
def ptn (f : Nat → Option Nat) (x : Nat) : Nat := (f x).getD x
def gr (hl : List Nat) (y : Nat) : List Nat := if y ∈ hl then hl else hl ++ [y]
theorem gr_pre (hl : List Nat) (y : Nat) : ∃ t, gr hl y = hl ++ t := by
  unfold gr
  split
  · exact ⟨[], (List.append_nil _).symm⟩
  · exact ⟨[y], rfl⟩
theorem gr_sub {hl : List Nat} {y x : Nat} (h : x ∈ hl) : x ∈ gr hl y := by
  obtain ⟨t, e⟩ := gr_pre hl y
  rw [e]
  exact List.mem_append_left _ h
theorem gr_at {hl : List Nat} {y i x : Nat} (h : hl[i]? = some x) : (gr hl y)[i]? = some x := by
  obtain ⟨t, e⟩ := gr_pre hl y
  rw [e, List.getElem?_append_left (List.getElem?_eq_some_iff.mp h).1]
  exact h
theorem gr_mem (hl : List Nat) (y : Nat) : y ∈ gr hl y := by
  unfold gr
  split
  · assumption
  · exact List.mem_append_right _ List.mem_cons_self
theorem gr_cases {hl : List Nat} {y x : Nat} (h : x ∈ gr hl y) : x ∈ hl ∨ x = y := by
  unfold gr at h
  split at h
  · exact .inl h
  · rcases List.mem_append.mp h with h | h
    · exact .inl h
    · exact .inr (List.mem_singleton.mp h)
theorem gr_nd {hl : List Nat} {y : Nat} (h : hl.Nodup) : (gr hl y).Nodup := by
  unfold gr
  split
  · exact h
  · rename_i c
    rw [List.nodup_append]
    exact ⟨h, List.nodup_cons.mpr ⟨List.not_mem_nil, .nil⟩, fun a ha b hb e => by
      obtain rfl := List.mem_singleton.mp hb
      subst e
      exact c ha⟩
theorem gr_len (hl : List Nat) (y : Nat) : hl.length ≤ (gr hl y).length := by
  obtain ⟨t, e⟩ := gr_pre hl y
  rw [e, List.length_append]
  omega
section
variable {f g : Nat → Option Nat} {N a : Nat}
theorem ptn_cl {h : Nat → Option Nat} (hh : h = f ∨ h = g) {x : Nat} (c : Cl f g a x) : Cl f g a (ptn h x) := by
  unfold ptn
  cases e : h x with
  | none => exact c
  | some y =>
    refine c.step ?_
    rcases hh with rfl | rfl
    · exact .inl e
    · exact .inr e
structure Hh (f g : Nat → Option Nat) (a : Nat) (hl : List Nat) (at_ j : Nat) : Prop where
  nd : hl.Nodup
  cl : ∀ x ∈ hl, Cl f g a x
  mem : a ∈ hl
  le : at_ ≤ hl.length
  clo : ∀ i x, i < at_ → hl[i]? = some x → ptn f x ∈ hl ∧ ptn g x ∈ hl
  cnt : at_ = j ∨ (at_ = hl.length ∧ at_ ≤ j)
theorem Hh.zero : Hh f g a [a] 0 0 := ⟨List.nodup_cons.mpr ⟨List.not_mem_nil, .nil⟩, fun x hx => by obtain rfl := List.mem_singleton.mp hx; exact .base, List.mem_cons_self, Nat.zero_le _, fun i x h => absurd h (Nat.not_lt_zero _), .inl rfl⟩
theorem Hh.stay {hl : List Nat} {at_ j : Nat} (h : Hh f g a hl at_ j) (c : ¬ at_ < hl.length) : Hh f g a hl at_ (j + 1) := by
  have e := Nat.le_antisymm h.le (Nat.le_of_not_lt c)
  exact ⟨h.nd, h.cl, h.mem, h.le, h.clo, .inr ⟨e, by rcases h.cnt with z | z <;> omega⟩⟩
theorem Hh.next {hl : List Nat} {at_ j x : Nat} (h : Hh f g a hl at_ j) (hx : hl[at_]? = some x) : Hh f g a (gr (gr hl (ptn f x)) (ptn g x)) (at_ + 1) (j + 1) := by
  have lt := (List.getElem?_eq_some_iff.mp hx).1
  have cx := h.cl x (List.mem_of_getElem? hx)
  refine ⟨gr_nd (gr_nd h.nd), fun y hy => ?_, gr_sub (gr_sub h.mem), ?_, fun i y hi hy => ?_, ?_⟩
  · rcases gr_cases hy with hy | rfl
    · rcases gr_cases hy with hy | rfl
      · exact h.cl y hy
      · exact ptn_cl (.inl rfl) cx
    · exact ptn_cl (.inr rfl) cx
  · have := gr_len hl (ptn f x)
    have := gr_len (gr hl (ptn f x)) (ptn g x)
    omega
  · by_cases c : i = at_
    · subst c
      obtain rfl : x = y := Option.some.inj ((gr_at (gr_at hx)).symm.trans hy)
      exact ⟨gr_sub (gr_mem _ _), gr_mem _ _⟩
    · obtain ⟨z, hz⟩ : ∃ z, hl[i]? = some z := ⟨_, List.getElem?_eq_getElem (by omega)⟩
      obtain rfl : z = y := Option.some.inj ((gr_at (gr_at hz)).symm.trans hy)
      obtain ⟨a1, a2⟩ := h.clo i z (by omega) hz
      exact ⟨gr_sub (gr_sub a1), gr_sub (gr_sub a2)⟩
  · rcases h.cnt with z | z
    · exact .inl (by omega)
    · omega
theorem Hh.lt {hl : List Nat} {at_ j : Nat} (h : Hh f g a hl at_ j) (F : Mt N f) (G : Mt N g) (ha : a < N) : ∀ x ∈ hl, x < N := fun x hx => cl_lt F G ha (h.cl x hx)
theorem Hh.len {hl : List Nat} {at_ j : Nat} (h : Hh f g a hl at_ j) (F : Mt N f) (G : Mt N g) (ha : a < N) : hl.length ≤ N := by
  have q := nodup_le (m := List.range N) h.nd fun x hx => List.mem_range.mpr (h.lt F G ha x hx)
  rw [List.length_range] at q
  exact q
theorem Hh.fin {hl : List Nat} {at_ : Nat} (h : Hh f g a hl at_ N) (F : Mt N f) (G : Mt N g) (ha : a < N) : Cls N f g a hl := by
  have len := h.len F G ha
  have full : at_ = hl.length := by
    rcases h.cnt with z | z
    · have := h.le
      omega
    · exact z.1
  refine ⟨fun x => ⟨h.cl x, fun c => ?_⟩, h.nd, h.lt F G ha⟩
  refine cl_closed (S := fun x => x ∈ hl) h.mem (fun x y hx n => ?_) c
  obtain ⟨i, hi, e⟩ := List.mem_iff_getElem.mp hx
  have hx' : hl[i]? = some x := by rw [List.getElem?_eq_getElem hi, e]
  obtain ⟨a1, a2⟩ := h.clo i x (by omega) hx'
  rcases n with n | n
  · unfold ptn at a1
    rw [n] at a1
    exact a1
  · unfold ptn at a2
    rw [n] at a2
    exact a2
end
section
variable {n : Nat} {js ls : List J2}
theorem cls_wpc (g1 : Good n js) (g2 : Good n ls) {a : Nat} (ha : a < 2 * n) {hl : List Nat} (c : Cls (2 * n) (mt js) (mt ls) a hl) : ∃ p, Wpc n js ls p ∧ hl.Perm p.2 := by
  obtain ⟨p, hp, hm⟩ := wpc_ex g1 g2 ha
  refine ⟨p, hp, ?_⟩
  obtain ⟨b, hb, cb, _⟩ := id hp
  have e := (cb.mem a).mp hm
  refine (List.perm_ext_iff_of_nodup c.nd (wpc_nd hp)).mpr fun x => ?_
  rw [cb.mem x, c.mem x]
  exact ⟨fun z => cl_trans e z, fun z => cl_trans (cl_symm g1.mt g2.mt e) z⟩
theorem Hps.of_perm {hs hs' : List (List Nat)} (A : Hps n js ls hs) (p : hs'.Perm hs) : Hps n js ls hs' :=
  ⟨fun h hh => A.mem h (p.mem_iff.mp hh), (p.pairwise_iff (fun {x y} d e h1 h2 => d e h2 h1)).mpr A.dis, fun e he => by
    obtain ⟨h, hh, hm⟩ := A.cov e he
    exact ⟨h, p.mem_iff.mpr hh, hm⟩⟩
theorem perm_map_ex {α β : Type} {g : α → β} {l m : List β} (h : l.Perm m) : ∀ ps0 : List α, m = ps0.map g → ∃ ps : List α, l = ps.map g ∧ ps.Perm ps0 := by
  induction h with
  | nil =>
    intro ps0 e
    exact ⟨[], rfl, by rw [List.map_eq_nil_iff.mp e.symm]⟩
  | cons x h ih =>
    intro ps0 e
    cases ps0 with
    | nil => cases e
    | cons p ps0 =>
      rw [List.map_cons, List.cons.injEq] at e
      obtain ⟨ps, e1, e2⟩ := ih ps0 e.2
      exact ⟨p :: ps, by rw [List.map_cons, e.1, e1], e2.cons _⟩
  | swap x y l =>
    intro ps0 e
    match ps0, e with
    | p :: q :: r, e =>
      rw [List.map_cons, List.map_cons, List.cons.injEq, List.cons.injEq] at e
      exact ⟨q :: p :: r, by rw [List.map_cons, List.map_cons, e.1, e.2.1, e.2.2], .swap ..⟩
  | trans h1 h2 ih1 ih2 =>
    intro ps0 e
    obtain ⟨ps1, e1, q1⟩ := ih2 ps0 e
    obtain ⟨ps2, e2, q2⟩ := ih1 ps1 e1
    exact ⟨ps2, e2, q2.trans q1⟩
theorem IsWeb.of_perm {ps qs : List (Str × List Nat)} (A : IsWeb n js ls ps) (p : qs.Perm ps) : IsWeb n js ls qs := ⟨fun x => p.mem_iff.trans (A.mem x), p.nodup_iff.mpr A.nd⟩
theorem Hps.web {hs : List (List Nat)} (A : Hps n js ls hs) (g1 : Good n js) (g2 : Good n ls) : ∃ ps : List (Str × List Nat), IsWeb n js ls ps ∧ hs = ps.map fun p => asc p.2 := by
  obtain ⟨ps0, W⟩ := web_ex g1 g2
  obtain ⟨ps, e, p⟩ := perm_map_ex (A.perm W g1 g2) ps0 rfl
  exact ⟨ps, W.of_perm p, e⟩
theorem IsWeb.len {ps : List (Str × List Nat)} (A : IsWeb n js ls ps) (g1 : Good n js) (g2 : Good n ls) : ps.length ≤ 2 * n := by
  have gen : ∀ ps : List (Str × List Nat), (∀ p ∈ ps, Wpc n js ls p) → ps.Nodup → ∃ l : List Nat, l.Nodup ∧ l.length = ps.length ∧ (∀ x ∈ l, x < 2 * n) ∧ ∀ x ∈ l, ∃ p ∈ ps, x ∈ p.2 := by
    intro ps
    induction ps with
    | nil => intro _ _; exact ⟨[], .nil, rfl, fun x hx => absurd hx (List.not_mem_nil), fun x hx => absurd hx (List.not_mem_nil)⟩
    | cons p ps ih =>
      intro h d
      have d' := List.nodup_cons.mp d
      obtain ⟨l, nd, len, lt, mem⟩ := ih (fun q hq => h q (List.mem_cons_of_mem _ hq)) d'.2
      obtain ⟨a, ha, hm⟩ := wpc_beg (h p List.mem_cons_self)
      refine ⟨a :: l, List.nodup_cons.mpr ⟨fun ml => ?_, nd⟩, by rw [List.length_cons, List.length_cons, len], fun x hx => ?_, fun x hx => ?_⟩
      · obtain ⟨q, hq, haq⟩ := mem a ml
        rw [wpc_uniq g1 g2 (h p List.mem_cons_self) (h q (List.mem_cons_of_mem _ hq)) hm haq] at d'
        exact d'.1 hq
      · rcases List.mem_cons.mp hx with rfl | hx
        · exact ha
        · exact lt x hx
      · rcases List.mem_cons.mp hx with rfl | hx
        · exact ⟨p, List.mem_cons_self, hm⟩
        · obtain ⟨q, hq, hxq⟩ := mem x hx
          exact ⟨q, List.mem_cons_of_mem _ hq, hxq⟩
  obtain ⟨l, nd, len, lt, _⟩ := gen ps (fun p hp => (A.mem p).mp hp) A.nd
  have q := nodup_le (m := List.range (2 * n)) nd fun x hx => List.mem_range.mpr (lt x hx)
  rw [len, List.length_range] at q
  exact q
/-- the heaps found so far, and the ends left -/
structure Ho (n : Nat) (js ls : List J2) (hs : List (List Nat)) (es : List Nat) (i : Nat) : Prop where
  mem : ∀ h ∈ hs, ∃ p, Wpc n js ls p ∧ h = asc p.2
  dis : hs.Pairwise fun h h' => ∀ e, e ∈ h → e ∉ h'
  lt : ∀ e ∈ es, e < 2 * n
  out : ∀ e ∈ es, ∀ h ∈ hs, e ∉ h
  cov : ∀ e, e < 2 * n → e ∈ es ∨ ∃ h ∈ hs, e ∈ h
  len : es.length ≤ 2 * n - i
  cnt : hs.length ≤ i
theorem Ho.zero : Ho n js ls [] (List.range (2 * n)) 0 :=
  ⟨fun h hh => absurd hh List.not_mem_nil, .nil, fun e he => List.mem_range.mp he, fun e he h hh => absurd hh List.not_mem_nil, fun e he => .inl (List.mem_range.mpr he), by rw [List.length_range]; omega, Nat.le_refl _⟩
theorem Ho.stay {hs : List (List Nat)} {i : Nat} (h : Ho n js ls hs [] i) : Ho n js ls hs [] (i + 1) := ⟨h.mem, h.dis, h.lt, h.out, h.cov, Nat.zero_le _, Nat.le_succ_of_le h.cnt⟩
theorem Ho.next {hs : List (List Nat)} {a : Nat} {er hl : List Nat} {i : Nat} (h : Ho n js ls hs (a :: er) i) (g1 : Good n js) (g2 : Good n ls) (c : Cls (2 * n) (mt js) (mt ls) a hl) :
    Ho n js ls (hs ++ [asc hl]) ((a :: er).filter fun e => !decide (e ∈ hl)) (i + 1) := by
  have ha := h.lt a List.mem_cons_self
  obtain ⟨p, hp, pp⟩ := cls_wpc g1 g2 ha c
  have ea : asc hl = asc p.2 := asc_same pp
  refine ⟨fun x hx => ?_, ?_, fun e he => h.lt e (List.mem_filter.mp he).1, fun e he x hx => ?_, fun e he => ?_, ?_, ?_⟩
  · rcases List.mem_append.mp hx with hx | hx
    · exact h.mem x hx
    · exact ⟨p, hp, (List.mem_singleton.mp hx).trans ea⟩
  · refine List.pairwise_append.mpr ⟨h.dis, List.pairwise_singleton _ _, fun x hx y hy e he he' => ?_⟩
    obtain rfl := List.mem_singleton.mp hy
    obtain ⟨q, hq, rfl⟩ := h.mem x hx
    rw [ea] at he'
    have e1 := (asc_perm q.2).mem_iff.mp he
    have e2 := (asc_perm p.2).mem_iff.mp he'
    obtain rfl := wpc_uniq g1 g2 hq hp e1 e2
    exact h.out a List.mem_cons_self _ hx ((asc_perm q.2).mem_iff.mpr (pp.mem_iff.mp c.beg))
  · obtain ⟨he, hn⟩ := List.mem_filter.mp he
    rcases List.mem_append.mp hx with hx | hx
    · exact h.out e he x hx
    · obtain rfl := List.mem_singleton.mp hx
      intro z
      have := (asc_perm hl).mem_iff.mp z
      rw [decide_eq_true this] at hn
      cases hn
  · rcases h.cov e he with z | ⟨x, hx, hm⟩
    · by_cases c : e ∈ hl
      · exact .inr ⟨asc hl, List.mem_append_right _ List.mem_cons_self, (asc_perm hl).mem_iff.mpr c⟩
      · exact .inl (List.mem_filter.mpr ⟨z, by rw [decide_eq_false c]; rfl⟩)
    · exact .inr ⟨x, List.mem_append_left _ hx, hm⟩
  · have e1 : ((a :: er).filter fun e => !decide (e ∈ hl)) = er.filter fun e => !decide (e ∈ hl) := List.filter_cons_of_neg (by rw [decide_eq_true c.beg]; decide)
    rw [e1]
    have := List.length_filter_le (fun e => !decide (e ∈ hl)) er
    have := h.len
    rw [List.length_cons] at this
    omega
  · rw [List.length_append]
    exact Nat.succ_le_succ h.cnt
theorem Ho.fin {hs : List (List Nat)} {es : List Nat} (h : Ho n js ls hs es (2 * n)) : Hps n js ls hs := by
  refine ⟨h.mem, h.dis, fun e he => ?_⟩
  have : es = [] := List.length_eq_zero_iff.mp (by have := h.len; omega)
  subst this
  rcases h.cov e he with z | z
  · exact absurd z List.not_mem_nil
  · exact z
end
end DC
-- K15k
set_option Elab.async false
set_option linter.all false
set_option maxRecDepth 100000
set_option maxHeartbeats 4000000
namespace K15
open PySem L2 DC LamX
/-- a heap in the heap -/
def HpT (K : PySem.W.Frag) (H : Hp) (v : V) (h : List Nat) : Prop := ∃ t, v = .ref t ∧ SqT K H t (Vn h)
theorem hpT_dp {K : PySem.W.Frag} {H : Hp} : ∀ {vs : List V} {hs : List (List Nat)}, Paired (HpT K H) vs hs → DpAll K H vs (hs.map fun h => tupD (nI h))
  | _, _, .nil => .nil
  | _, _, .cons ⟨t, e, h⟩ r => by
    subst e
    exact .cons (Dp.tup h (by rw [vn_nI]; exact dp_intsN _)) (hpT_dp r)
theorem nI_inj {a b : List Nat} (h : nI a = nI b) : a = b := by
  have e := congrArg (fun l : List Int => l.map Int.toNat) h
  unfold nI at e
  simp only [List.map_map] at e
  have id1 : ∀ l : List Nat, l.map (Int.toNat ∘ fun y : Nat => ((y : Nat) : Int)) = l := by
    intro l
    induction l with
    | nil => rfl
    | cons x l ih => rw [List.map_cons, ih]; rfl
  rw [id1, id1] at e
  exact e
theorem sorted_nI {hl : List Nat} {ns : List Int} (p : ns.Perm (nI hl)) (h : ns.Pairwise (· ≤ ·)) : ns = nI (asc hl) := by
  refine List.Perm.eq_of_pairwise (le := (· ≤ ·)) (fun a b _ _ h1 h2 => Int.le_antisymm h1 h2) h ?_ (p.trans ?_)
  · unfold nI
    rw [List.pairwise_map]
    exact (asc_pw hl).imp fun z => by omega
  · unfold nI
    exact ((asc_perm hl).map _).symm
theorem gr_V (hl : List Nat) (y : Nat) : Vn (gr hl y) = Vn hl ++ (List.replicate (if (!decide (y ∈ hl)) = true then (1 : Int) else 0).toNat [V.int (y : Nat)]).flatten := by
  unfold gr
  by_cases c : y ∈ hl
  · rw [if_pos c, decide_eq_true c]
    exact (List.append_nil _).symm
  · rw [if_neg c, decide_eq_false c, vn_app]
    rfl
theorem nonempty_hp {n : Nat} {js ls : List J2} {h : List Nat} (m : ∃ p, Wpc n js ls p ∧ h = asc p.2) : h ≠ [] := by
  obtain ⟨p, hp, rfl⟩ := m
  intro z
  obtain ⟨a, _, hm⟩ := wpc_beg hp
  have := (asc_perm p.2).mem_iff.mpr hm
  rw [z] at this
  exact absurd this List.not_mem_nil
/-- a heap of a piece -/
def HpP (K : PySem.W.Frag) (H : Hp) (v : V) (p : Str × List Nat) : Prop := HpT K H v (asc p.2)
theorem paired_map {α β γ : Type} {R : α → γ → Prop} {g : β → γ} : ∀ {vs : List α} {ps : List β}, Paired R vs (ps.map g) → Paired (fun v p => R v (g p)) vs ps
  | _, [], h => by
    cases h
    exact .nil
  | _, p :: ps, h => by
    rw [List.map_cons] at h
    cases h with
    | cons a t => exact .cons a (paired_map t)
def hst (f g : Nat → Option Nat) (hl : List Nat) (x : Nat) : Nat → List Nat
  | 0 => hl
  | 1 => gr hl (ptn f x)
  | _ => gr (gr hl (ptn f x)) (ptn g x)
theorem gr_len1 (hl : List Nat) (y : Nat) : (gr hl y).length ≤ hl.length + 1 := by
  unfold gr
  split
  · omega
  · rw [List.length_append]
    exact Nat.le_refl _
/-- partners told by a dict -/
theorem ptn_val {js : List J2} {kvs : List (Key × V)} (m : MtD js kvs) (x : Nat) : (valV kvs (.inl ((x : Nat) : Int))).getD (V.int (x : Nat)) = V.int (ptn (mt js) x : Nat) := by
  rw [m x]
  unfold ptn
  cases mt js x <;> rfl
section
variable {P : Program} {w : World} {K : PySem.W.Frag} {mg : Str → Option Value} {base : Heap}
def spHeaps (K : PySem.W.Frag) : Sp := fun vs H Q _ => ∃ (v1 v2 : V) (n : Nat) (js ls : List J2), vs = [v1, v2] ∧ Ly K H v1 n js ∧ Ly K H v2 n ls ∧ Good n js ∧ Good n ls ∧
  ∀ (ps : List (Str × List Nat)) (r : Addr) (xs : List V) (H' : Hp), Same H H' → H r = none → H' r = some (.lst xs) → Paired (HpP K H') xs ps → IsWeb n js ls ps → ps.length ≤ 2 * n → Q (.ref r) H'
abbrev N35 : List Str := ["one", "other", "mates_v", "left", "found", "turn", "heap", "at", "walk", "known", "end"]
theorem sc35' : FnScope N35 ["one", "other"] (defScope (top 48)) := ⟨rfl, rfl, rfl, by decide +kernel, rfl, by decide +kernel, by decide +kernel⟩
/-- one partner more -/
theorem heap_more {n : Nat} {Hc Hg : Hp} {D : Ends} {hg dk : Addr} {hl : List Nat} {kv : List (Key × V)} {ms : List J2} {at_ x : Nat} {z0 z1 z2 z3 z4 z5 z8 z10 : Option V} (sg : Same Hc Hg) (hG : Hg hg = some (.lst (Vn hl))) (hx : hl[at_]? = some x) (hz : hl.length ≤ 1000) (hdk : Hg dk = some (.dK kv)) (hm : MtD ms kv)
    (nx : ∀ (z : Option V) (hg' : Addr) (Hg' : Hp), Same Hc Hg' → Hg' hg' = some (.lst (Vn (gr hl (ptn (mt ms) x)))) → Hc hg' = none → D.nx [z0, z1, z2, z3, z4, z5, some (.ref hg'), some (.int (at_ : Nat)), z8, some (.ref dk), z] Hg') :
    (tSeq (tAsg (tDGet2 (tVar 9) (tOp (rIxL K) (tVar 6) (tVar 7)) (tOp (rIxL K) (tVar 6) (tVar 7))) (gName 10))
      (tAsg (tOp rCat (tVar 6) (tOp rRep (tLst (tCons (tVar 10) tNil)) (tCB (fun xs H Q => (∃ i, xs = [.int i] ∧ Q (.int i) H) ∨ ∃ k, xs = [.bl k] ∧ Q (.int (if k then 1 else 0)) H) (tCons (tOp (rIn K true) (tVar 10) (tVar 6)) tNil)))) (gName 6))) D
      [z0, z1, z2, z3, z4, z5, some (.ref hg), some (.int (at_ : Nat)), z8, some (.ref dk), z10] Hg := by
  have eat : atI (Vn hl) ((at_ : Nat) : Int) = some (.int (x : Nat)) := by
    have h2 := (List.getElem?_eq_some_iff.mp hx).1
    refine atI_nat ?_
    rw [Vn_at h2, List.getD_eq_getElem?_getD, hx]
    rfl
  refine ⟨_, rfl, dk, rfl, .inl ⟨_, .inl hdk⟩, ?_⟩
  refine ⟨_, rfl, _, rfl, hg, _, _, _, rfl, rfl, SqL.of hG, eat, ?_⟩
  refine ⟨_, rfl, _, rfl, hg, _, _, _, rfl, rfl, SqL.of hG, eat, ?_⟩
  refine ⟨_, DGet.k (k := .inl ((x : Nat) : Int)) hdk, ?_⟩
  rw [ptn_val hm]
  refine gn ?_
  refine ⟨_, rfl, _, rfl, by show 1 ≤ sizeLine; decide, fun l1 hl1 => ?_⟩
  have sl1 := Same.new (o := .lst [.int ((ptn (mt ms) x : Nat) : Int)]) hl1
  refine ⟨_, rfl, _, rfl, hg, _, rfl, .inl (SqL.of (sl1 _ _ hG)), rfl, flat_Vn _, ?_⟩
  refine .inr ⟨_, rfl, ?_⟩
  rw [if_pos rfl, in_row]
  refine ⟨l1, _, _, rfl, rfl, upd_same, ?_, ?_, ?_, fun l2 hl2 => ?_⟩
  · split <;> omega
  · split <;> omega
  · refine Nat.le_trans (show _ ≤ 1 from ?_) (show 1 ≤ sizeLine by decide)
    split
    · exact Nat.le_refl 1
    · exact Nat.zero_le 1
  have sl2 := Same.new (o := .lst (List.replicate (if (!decide (ptn (mt ms) x ∈ hl)) = true then (1 : Int) else 0).toNat [V.int ((ptn (mt ms) x : Nat) : Int)]).flatten) hl2
  refine ⟨hg, l2, _, _, rfl, rfl, sl2 _ _ (sl1 _ _ hG), upd_same, ?_, fun l3 hl3 => ?_⟩
  · rw [Vn_len]
    refine Nat.le_trans (show _ ≤ 1001 from ?_) (show 1001 ≤ sizeLine by decide)
    have : (List.replicate (if (!decide (ptn (mt ms) x ∈ hl)) = true then (1 : Int) else 0).toNat [V.int ((ptn (mt ms) x : Nat) : Int)]).flatten.length ≤ 1 := by
      split
      · exact Nat.le_refl 1
      · exact Nat.zero_le 1
    omega
  rw [← gr_V]
  refine gn ?_
  have sl3 := Same.new (o := .lst (Vn (gr hl (ptn (mt ms) x)))) hl3
  exact nx _ l3 _ (sg.trans (sl1.trans (sl2.trans sl3))) upd_same ((sg.trans (sl1.trans sl2)).free hl3)
theorem okHeaps {f f34 : Addr} {fd fd34 : FuncData} (F : Fun K "_law_heaps" "_law_heaps" (top 48) f fd) (B : Bn mg)
    (D34 : Df K mg "_law_mates" f34 fd34 ["lay"]) (G34 : OkF P w K mg base 1 f34 fd34 ["lay"] (spLm K)) : OkF P w K mg base 2 f fd ["one", "other"] (spHeaps K) := by
  refine ok0 F sc35' (fun vs H Q E h => ?_) (fun cdv A outer s H vs Q E hgd hr h => ?_)
  · obtain ⟨v1, v2, n, js, ls, rfl, _⟩ := h; rfl
  · obtain ⟨v1, v2, n, js, ls, rfl, y1, y2, g1, g2, q⟩ := h
    have nd := sc35'.nd
    have tp := g1.top
    have hu := hu_of hr
    have F1 := g1.mt
    have F2 := g2.mt
    refine ⟨_, pss_cons (ps_par3 (i := 2) (j := 3) (l := 4) (by rfl) nd rfl rfl rfl (by decide) (by decide) (by decide) rfl rfl rfl
        (pa_cons (pe_lst (pa_cons (cl D34 G34 hgd hr (pa_cons (pv 0) pa_nil)) (pa_cons (cl D34 G34 hgd hr (pa_cons (pv 1) pa_nil)) pa_nil)))
        (pa_cons (pe_listRg rfl (by rfl) B.list (prg_1 (by rfl) B.range (pe_op op_mul pe_int (pe_ix (r := rIxT K) ix_tup (pv 0) pe_int (fun _ _ => rfl)))))
        (pa_cons (pe_lst pa_nil) pa_nil))) (by rfl))
      (pss_cons (ps_for PassesOwn.never rfl (pi_range1 (by rfl) B.range (pa_cons (pe_op op_mul pe_int (pe_ix (r := rIxT K) ix_tup (pv 0) pe_int (fun _ _ => rfl))) pa_nil)) (pg_name (i := 5) nd rfl (.inl rfl))
        (pss_one (ps_if (pt_cmpR (op_neD hr.units) (pv 3) (pe_lst pa_nil) (nomark _))
          (pss_cons (ps_asg (pe_tup (pa_cons (pe_lst (pa_cons (pe_ix (r := rIxL K) ix_list (pv 3) pe_int (fun _ _ => rfl)) pa_nil)) (pa_cons pe_int pa_nil))) (pg_tup (by rfl) (pgs_cons (pg_name (i := 6) nd rfl (.inr rfl)) (pgs_cons (pg_name (i := 7) nd rfl (.inl rfl)) pgs_nil))))
          (pss_cons (ps_for PassesOwn.never rfl (pi_range1 (by rfl) B.range (pa_cons (pe_op op_mul pe_int (pe_ix (r := rIxT K) ix_tup (pv 0) pe_int (fun _ _ => rfl))) pa_nil)) (pg_name (i := 8) nd rfl (.inl rfl))
            (pss_one (ps_if (pt_cmpR op_lt (pv 7) (pe_callB call_len_seq (by rfl) B.len PySem.boot_len (pa_cons (pv 6) pa_nil)) (nomark _))
              (pss_cons (ps_for PassesOwn.never rfl (pi_list (pv 2)) (pg_name (i := 9) nd rfl (.inl rfl))
                (pss_cons (ps_set (i := 10) nd rfl (.inl rfl) (pe_dget2 hu (pv 9) (pe_ix (r := rIxL K) ix_list (pv 6) (pv 7) (fun _ _ => rfl)) (pe_ix (r := rIxL K) ix_list (pv 6) (pv 7) (fun _ _ => rfl)) ⟨rfl, rfl, rfl, rfl⟩))
                (pss_one (ps_set (i := 6) nd rfl (.inr rfl) (pe_op op_cat (pv 6) (pe_op op_rep (pe_lst (pa_cons (pv 10) pa_nil)) (pe_callTy call_int1 (by rfl) B.int (by decide +kernel) (pa_cons (pe_cmpR (r := rIn K true) op_notIn_seq (pv 10) (pv 6) (by rfl)) pa_nil))))))))
              (pss_one (ps_set (i := 7) nd rfl (.inl rfl) (pe_op op_add (pv 7) pe_int))))
              pss_nil)))
          (pss_cons (ps_expr (pe_bm PySem.F.plainAttrs_list PySem.F.slot_list_append PySem.F.type_list_append mt_append (pv 4) (pa_cons (pe_callTy call_tuple_of (by rfl) B.tuple (by decide +kernel) (pa_cons (pe_callB cr_sortedI (by rfl) B.sorted (by decide +kernel) (pa_cons (pv 6) pa_nil)) pa_nil)) pa_nil)))
          (pss_one (ps_setLc (i := 3) (own := [("end", 10)]) (g := gName 10) rfl nd rfl rfl (sw_true rfl rfl rfl (by decide +kernel)) (pi_list (pv 3)) (blkOk_by (N := N35) (sc := defScope (top 48)) (by decide +kernel)) (fun _ _ _ _ _ => pg_name (i := 10) nd rfl (Or.inl rfl))
              (fun _ _ _ _ _ => pts_one (pt_cmpR (r := rIn K true) op_notIn_seq (pv 10) (pv 6) (by rfl))) (fun _ _ _ _ _ => pv 10))))))
          pss_nil)))
      (pss_one (ps_ret (pe_callB (cr_sortD hr.units) (by rfl) B.sorted (by decide +kernel) (pa_cons (pv 4) pa_nil))))), ?_⟩
    obtain ⟨t, u, rfl, hS, _⟩ := id y1
    have a0 : atI [V.int (n : Nat), u] 0 = some (.int (n : Nat)) := at_of (j := 0) rfl rfl
    refine ⟨_, rfl, .ref t, n, js, rfl, y1, g1, fun d1 k1 H1 s1 fd1 hd1 m1 => ?_⟩
    refine ⟨_, rfl, v2, n, ls, rfl, y2.up s1, g2, fun d2 k2 H2 s2 fd2 hd2 m2 => ?_⟩
    refine ⟨by show 2 ≤ sizeLine; decide, fun mv hmv => ?_⟩
    have s3 := Same.new (o := .lst [.ref d1, .ref d2]) hmv
    have S3 := s1.trans (s2.trans s3)
    refine ⟨_, rfl, t, _, 0, .int (n : Nat), rfl, rfl, Same.t S3 hS, a0, ?_⟩
    refine ⟨2, (n : Int), rfl, rfl, .inl ⟨by decide, by decide⟩, _, rfl, RgOk.of_le (by omega) (by omega) (by omega) (by omega), fun l0 hl0 => ?_⟩
    have s4 := Same.new (o := .lst (rgV 0 (2 * (n : Int)))) hl0
    refine ⟨by show 0 ≤ sizeLine; decide, fun fo hfo => ?_⟩
    have s5 := Same.new (o := .lst []) hfo
    have bl0 : upd (upd H2 mv (.lst [.ref d1, .ref d2])) l0 (.lst (rgV 0 (2 * (n : Int)))) l0 = some (.lst (Vn (List.range (2 * n)))) := by
      rw [upd_same]
      unfold rgV Vn
      rw [show (2 * (n : Int) - 0).toNat = 2 * n by omega]
      congr 2
      refine List.map_congr_left fun i _ => ?_
      rw [Int.zero_add]
    have bmv : upd (upd H2 mv (.lst [.ref d1, .ref d2])) l0 (.lst (rgV 0 (2 * (n : Int)))) mv = some (.lst [.ref d1, .ref d2]) := s4 _ _ upd_same
    have bd1 := s4 _ _ (s3 _ _ (s2 _ _ hd1))
    have bd2 := s4 _ _ (s3 _ _ hd2)
    have SHb : Same H (upd (upd H2 mv (.lst [.ref d1, .ref d2])) l0 (.lst (rgV 0 (2 * (n : Int))))) := S3.trans s4
    clear s4 S3
    generalize upd (upd H2 mv (.lst [.ref d1, .ref d2])) l0 (.lst (rgV 0 (2 * (n : Int)))) = Hb at *
    have bS := Same.t SHb hS
    have fHfo : H fo = none := SHb.free hfo
    refine ⟨_, _, _, rfl, ?_⟩
    refine ⟨_, rfl, t, _, 0, .int (n : Nat), rfl, rfl, Same.t s5 bS, a0, ?_⟩
    refine ⟨2, (n : Int), rfl, rfl, .inl ⟨by decide, by decide⟩, _, rfl, by omega, by omega, ?_⟩
    rw [show (2 * (n : Int)).toNat = 2 * n by omega]
    refine for_it (walk_range (lo := 0) (n := 2 * n)) (fun i σ H' => ∃ (x5 x6 x7 x8 x9 x10 : Option V) (l : Addr) (hs : List (List Nat)) (es : List Nat) (xs : List V),
      σ = [some (.ref t), some v2, some (.ref mv), some (.ref l), some (.ref fo), x5, x6, x7, x8, x9, x10] ∧ Same Hb H' ∧ H' l = some (.lst (Vn es)) ∧ H' fo = some (.lst xs) ∧ Paired (HpT K H') xs hs ∧ l ≠ fo ∧ Ho n js ls hs es i)
      ⟨_, _, _, _, _, _, l0, [], _, [], rfl, s5, s5 _ _ bl0, upd_same, .nil, ne_of_none bl0 hfo, .zero⟩ (fun _ _ _ _ _ => trivial) ?_ ?_
    · rintro i x σ Ha Hb' hi ⟨x5, x6, x7, x8, x9, x10, l, hs, es, xs, rfl, sm, hL, hF, hP, nlf, O⟩ ⟨rfl, ex⟩
      have xlen : xs.length = hs.length := Paired.length hP
      have ocnt := O.cnt
      refine gn ?_
      refine ⟨_, rfl, Nat.zero_le _, fun p hp => ?_⟩
      have sp := Same.new (o := .lst []) hp
      have hL1 := sp _ _ hL
      refine ⟨intD (nI es), intD [], Dp.lst (SqL.of hL1) (by rw [vn_nI]; exact dp_ints _), Dp.lst (SqL.of upd_same) .nil, shaped_ints _, rfl, _, rfl, ?_⟩
      cases es with
      | nil =>
        refine iteF ?_
        exact ⟨_, _, _, _, _, _, l, hs, [], xs, rfl, sm.trans sp, hL1, sp _ _ hF, L2.Paired.mapP hP fun _ _ ⟨t, q, h⟩ => ⟨t, q, Same.t sp h⟩, nlf, O.stay⟩
      | cons a er =>
        have ha := O.lt a List.mem_cons_self
        have elen := O.len
        refine iteT ?_
        refine ⟨_, rfl, l, _, 0, .int (a : Nat), rfl, rfl, SqL.of hL1, at_of (j := 0) rfl rfl, by show 1 ≤ sizeLine; decide, fun h0 hh0 => ⟨by show 2 ≤ sizeLine; decide, fun T hT => ?_⟩⟩
        have sh0 := Same.new (o := .lst [.int (a : Nat)]) hh0
        have sT := Same.new (o := .tup [.ref h0, .int 0]) hT
        have nh0 : h0 ≠ fo := Ne.symm (ne_of_none (sp _ _ hF) hh0)
        have sc := sp.trans (sh0.trans sT)
        refine ⟨T, _, rfl, SqT.of upd_same, rfl, _, _, rfl, _, _, rfl, rfl, ?_⟩
        have hh0' := sT _ _ (upd_same (H := upd Hb' p (.lst [])) (a := h0) (o := .lst [.int (a : Nat)]))
        clear sh0 sT hL1
        generalize upd (upd (upd Hb' p (.lst [])) h0 (.lst [.int (a : Nat)])) T (.tup [.ref h0, .int 0]) = Hc at *
        have smc := sm.trans sc
        have hLc := sc _ _ hL
        have hFc := sc _ _ hF
        refine ⟨_, rfl, t, _, 0, .int (n : Nat), rfl, rfl, Same.t smc bS, a0, ?_⟩
        refine ⟨2, (n : Int), rfl, rfl, .inl ⟨by decide, by decide⟩, _, rfl, by omega, by omega, ?_⟩
        rw [show (2 * (n : Int)).toNat = 2 * n by omega]
        refine for_it (walk_range (lo := 0) (n := 2 * n)) (fun j σ H' => ∃ (y8 y9 y10 : Option V) (hp : Addr) (at_ : Nat) (hl : List Nat),
          σ = [some (.ref t), some v2, some (.ref mv), some (.ref l), some (.ref fo), some x, some (.ref hp), some (.int (at_ : Nat)), y8, y9, y10] ∧ Same Hc H' ∧ H' hp = some (.lst (Vn hl)) ∧ hp ≠ fo ∧ Hh (mt js) (mt ls) a hl at_ j)
          ⟨_, _, _, h0, 0, [a], rfl, fun _ _ h => h, hh0', nh0, .zero⟩ (fun _ _ _ _ _ => trivial) ?_ ?_
        · rintro j x8' σ He Hf hj ⟨y8, y9, y10, hp, at_, hl, rfl, sme, hH, nh, M⟩ ⟨rfl, ex8⟩
          have hlen := M.len F1 F2 ha
          refine gn ?_
          refine ⟨_, rfl, _, rfl, hp, _, rfl, .inl (SqL.of hH), _, _, rfl, rfl, _, rfl, ?_⟩
          rw [Vn_len]
          refine ite2 (fun d => ?_) (fun d => ?_)
          · have dlt : at_ < hl.length := by have := of_decide_eq_true d; omega
            obtain ⟨xe, hx⟩ : ∃ x, hl[at_]? = some x := ⟨_, List.getElem?_eq_getElem dlt⟩
            refine ⟨_, rfl, mv, rfl, ⟨_, SqL.of (sme _ _ (smc _ _ bmv))⟩, ?_⟩
            refine for_it (walk_list (xs := [V.ref d1, V.ref d2])) (fun t' σ H' => ∃ (z9 z10 : Option V) (hg : Addr), σ = [some (.ref t), some v2, some (.ref mv), some (.ref l), some (.ref fo), some x, some (.ref hg), some (.int (at_ : Nat)), some x8', z9, z10] ∧ Same Hc H' ∧
              H' hg = some (.lst (Vn (hst (mt js) (mt ls) hl xe t'))) ∧ hg ≠ fo) ⟨y9, y10, hp, rfl, sme, hH, nh⟩ (fun t' σ H' _ hp => by
                obtain ⟨_, _, _, _, sg, _⟩ := hp
                exact SqL.of (sg _ _ (smc _ _ bmv))) ?_ ?_
            · rintro i2 v σ Hg Hg' hi2 ⟨z9, z10, hg, rfl, sg, hG, nhg⟩ ⟨rfl, ev⟩
              have hi3 : i2 < 2 := hi2
              refine gn ?_
              match i2, hi3, ev, hG with
              | 0, _, ev, hG =>
                obtain rfl : V.ref d1 = v := Option.some.inj ev
                exact heap_more (n := n) (K := K) sg (show Hg' hg = some (.lst (Vn hl)) from hG) hx (show hl.length ≤ 1000 by omega) (sg _ _ (smc _ _ bd1)) m1 fun z hg' Hg' s' h' f' => ⟨_, z, hg', rfl, s', h', fun e => by rw [e, hFc] at f'; cases f'⟩
              | 1, _, ev, hG =>
                obtain rfl : V.ref d2 = v := Option.some.inj ev
                have hG' : Hg' hg = some (.lst (Vn (gr hl (ptn (mt js) xe)))) := hG
                have := gr_len1 hl (ptn (mt js) xe)
                exact heap_more (n := n) (K := K) sg hG' (gr_at hx) (by omega) (sg _ _ (smc _ _ bd2)) m2 fun z hg' Hg' s' h' f' => ⟨_, z, hg', rfl, s', h', fun e => by rw [e, hFc] at f'; cases f'⟩
            · rintro σ H' ⟨z9, z10, hg, rfl, sg, hG, nhg⟩
              refine ⟨_, rfl, _, 1, rfl, rfl, gn ?_⟩
              exact ⟨_, _, _, hg, at_ + 1, _, rfl, sg, hG, nhg, M.next hx⟩
          · exact ⟨_, _, _, hp, at_, hl, rfl, sme, hH, nh, M.stay (fun z => d (decide_eq_true (by omega)))⟩
        · rintro σ H' ⟨y8, y9, y10, hp, at_, hl, rfl, sme, hH, nh, M⟩
          have C := M.fin F1 F2 ha
          have hlen := M.len F1 F2 ha
          have hFe := sme _ _ hFc
          refine ⟨_, rfl, .inl ⟨rfl, _, SqL.of hFe⟩, _, rfl, hp, nI hl, rfl, by rw [← vn_nI]; exact SqL.of hH, fun ns p1 pm pw hp1 => ?_⟩
          obtain rfl := sorted_nI pm pw
          have sp1 := Same.new (o := .lst ((nI (asc hl)).map V.int)) hp1
          refine ⟨p1, _, rfl, .inl ⟨SqL.of upd_same, fun t1 ht1 => ?_⟩⟩
          have st1 := Same.new (o := .tup ((nI (asc hl)).map V.int)) ht1
          have s1t := sp1.trans st1
          have hFt := s1t _ _ hFe
          refine ⟨fo, _, _, rfl, rfl, hFt, Nat.lt_of_le_of_lt (show xs.length ≤ 1000 by omega) (by decide), ?_⟩
          have sAll : Same Hb (upd (upd (upd H' p1 (.lst ((nI (asc hl)).map V.int))) t1 (.tup ((nI (asc hl)).map V.int))) fo (.lst (xs ++ [.ref t1]))) := same_put (smc.trans (sme.trans s1t)) hfo
          have hLt : upd (upd (upd H' p1 (.lst ((nI (asc hl)).map V.int))) t1 (.tup ((nI (asc hl)).map V.int))) fo (.lst (xs ++ [.ref t1])) l = some (.lst (Vn (a :: er))) := by
            rw [upd_ne nlf]
            exact s1t _ _ (sme _ _ hLc)
          have hHt : upd (upd (upd H' p1 (.lst ((nI (asc hl)).map V.int))) t1 (.tup ((nI (asc hl)).map V.int))) fo (.lst (xs ++ [.ref t1])) hp = some (.lst (Vn hl)) := by
            rw [upd_ne nh]
            exact s1t _ _ hH
          have hPt : Paired (HpT K (upd (upd (upd H' p1 (.lst ((nI (asc hl)).map V.int))) t1 (.tup ((nI (asc hl)).map V.int))) fo (.lst (xs ++ [.ref t1])))) (xs ++ [.ref t1]) (hs ++ [asc hl]) :=
            pair_snoc (L2.Paired.mapP hP fun _ _ ⟨t, q, h⟩ => ⟨t, q, sqT_put (Same.t (sc.trans (sme.trans s1t)) h) hFt⟩) ⟨t1, rfl, sqT_put (SqT.of (by rw [upd_same, vn_nI])) hFt⟩
          have hFz : upd (upd (upd H' p1 (.lst ((nI (asc hl)).map V.int))) t1 (.tup ((nI (asc hl)).map V.int))) fo (.lst (xs ++ [.ref t1])) fo = some (.lst (xs ++ [.ref t1])) := upd_same
          clear hFt
          generalize upd (upd (upd H' p1 (.lst ((nI (asc hl)).map V.int))) t1 (.tup ((nI (asc hl)).map V.int))) fo (.lst (xs ++ [.ref t1])) = Hz at *
          refine ⟨_, rfl, l, rfl, ⟨_, SqL.of hLt⟩, fun D hD => ?_⟩
          refine lc_it (walk_list (xs := Vn (a :: er))) (fun i H' => Same Hz H' ∧ H' D = some (.lst (Vn (((a :: er).take i).filter fun e => !decide (e ∈ hl))))) ⟨Same.new hD, upd_same⟩ (fun i H' _ hp => SqL.of (hp.1 _ _ hLt)) ?_ ?_
          · rintro i2 v Hx Hy hi2 ⟨sx, hLx⟩ ⟨rfl, ev⟩
            rw [Vn_len] at hi2
            have ev2 := Vn_at hi2
            have eg : (a :: er)[i2]? = some ((a :: er).getD i2 0) := by rw [List.getD_eq_getElem?_getD, List.getElem?_eq_getElem hi2]; rfl
            generalize (a :: er).getD i2 0 = e at ev2 eg
            obtain rfl : v = V.int (e : Nat) := Option.some.inj (ev.symm.trans ev2)
            refine ⟨rfl, _, rfl, _, rfl, hp, _, rfl, .inl (SqL.of (sx _ _ hHt)), rfl, flat_Vn _, _, rfl, ?_⟩
            show if (!inV (V.int (e : Nat)) (Vn hl)) = true then _ else _
            rw [in_row, take_next eg, List.filter_append]
            by_cases hc : e ∈ hl
            · rw [decide_eq_true hc]
              refine iteF ⟨sx, ?_⟩
              rw [List.filter_cons_of_neg (by rw [decide_eq_true hc]; decide), List.filter_nil, List.append_nil]
              exact hLx
            · rw [decide_eq_false hc]
              refine iteT ⟨_, rfl, _, hLx, ?_, same_put sx hD, ?_⟩
              · rw [Vn_len]
                refine Nat.lt_of_le_of_lt (Nat.le_trans (List.length_filter_le _ _) (Nat.le_trans (List.length_take_le' _ _) (show (a :: er).length ≤ 1000 by omega))) (by decide)
              · rw [upd_same, List.filter_cons_of_pos (by rw [decide_eq_false hc]; rfl), List.filter_nil, vn_app]
                rfl
          · rintro Hq ⟨sq, hLq⟩
            rw [List.take_of_length_le (by rw [Vn_len]; exact Nat.le_refl _)] at hLq
            refine gn ?_
            exact ⟨_, _, _, _, _, _, D, _, _, _, rfl, sAll.trans sq, hLq, sq _ _ hFz, L2.Paired.mapP hPt fun _ _ ⟨t, q, h⟩ => ⟨t, q, Same.t sq h⟩, Ne.symm (ne_of_none hFz hD), O.next g1 g2 C⟩
    · rintro σ H' ⟨x5, x6, x7, x8, x9, x10, l, hs, es, xs, rfl, sm, hL, hF, hP, nlf, O⟩
      refine ⟨_, rfl, fo, xs, hs.map fun h => tupD (nI h), rfl, SqL.of hF, hpT_dp hP, ?_, ?_, ?_, fun ys p pm hd hp => ?_⟩
      · intro d hd d' hd'
        obtain ⟨x, _, rfl⟩ := List.mem_map.mp hd
        obtain ⟨x', _, rfl⟩ := List.mem_map.mp hd'
        exact alike_tup _ _
      · refine .inl fun d hd => ?_
        obtain ⟨x, hx, rfl⟩ := List.mem_map.mp hd
        have ne := nonempty_hp (O.mem x hx)
        cases x with
        | nil => exact absurd rfl ne
        | cons y ys => exact ⟨_, _, rfl⟩
      · intro d hd
        obtain ⟨x, hx, rfl⟩ := List.mem_map.mp hd
        unfold tupD
        simp only [PyData.depth, depth_ints]
        decide
      · obtain ⟨hs', hP', ph⟩ := paired_perm pm hP
        obtain ⟨ps, W, rfl⟩ := (O.fin.of_perm ph).web g1 g2
        have sN := Same.new (o := .lst ys) hp
        have hP2 : Paired (HpT K (upd H' p (.lst ys))) ys (ps.map fun p => asc p.2) := L2.Paired.mapP hP' fun _ _ ⟨t, q, h⟩ => ⟨t, q, Same.t sN h⟩
        exact q ps p ys _ (SHb.trans (sm.trans sN)) (SHb.free (sm.free hp)) upd_same (paired_map (R := HpT K (upd H' p (.lst ys))) (g := fun p : Str × List Nat => asc p.2) hP2) W (W.len g1 g2)
end
end K15
-- K15l
set_option Elab.async false
set_option linter.all false
set_option maxRecDepth 100000
set_option maxHeartbeats 4000000
namespace K15
open PySem L2 DC LamX
/-- those of a row that are free in a lay -/
def lacks (js : List J2) (h : List Nat) : List Nat := h.filter fun e => (mt js e).isNone
theorem lacks_len (js : List J2) (h : List Nat) : (lacks js h).length = cn js h := by
  unfold lacks cn
  rw [List.countP_eq_length_filter]
theorem val_none {js : List J2} {kvs : List (Key × V)} (m : MtD js kvs) (e : Nat) : (!(valV kvs (.inl ((e : Nat) : Int))).isSome) = (mt js e).isNone := by
  rw [m e]
  cases mt js e <;> rfl
def kdV (a : Nat) : Option V := if a = 1 then some (.str "odd") else if a = 2 then some (.str "open") else if a = 0 then some (.str "shut") else none
theorem kd_disp (a : Nat) (k : Str) (ha : kdV a = some (.str k)) :
    valV (mergeK [] [((.inl 1 : Key), V.str "odd"), (.inl 2, .str "open"), (.inl 0, .str "shut")]) (.inl ((a : Nat) : Int)) = some (.str k) := by
  unfold kdV at ha
  split at ha
  · rename_i c; subst c; rw [← ha]; rfl
  · split at ha
    · rename_i c; subst c; rw [← ha]; rfl
    · split at ha
      · rename_i c; subst c; rw [← ha]; rfl
      · cases ha
theorem eqv_two (a b : Nat) : PyData.eqv (intD [((a : Nat) : Int), ((b : Nat) : Int)]) (intD [0, 0]) = decide (a = 0 ∧ b = 0) := by
  unfold intD
  simp only [List.map_cons, List.map_nil, PyData.eqv, PyData.eqvAll, Bool.and_true]
  rw [Bool.eq_iff_iff]
  simp only [Bool.and_eq_true, beq_iff_eq, decide_eq_true_eq]
  omega
section
variable {P : Program} {w : World} {K : PySem.W.Frag} {mg : Str → Option Value} {base : Heap}
def spKind (K : PySem.W.Frag) : Sp := fun vs H Q _ => ∃ (v1 v2 v3 : V) (n : Nat) (js ls : List J2) (p : Str × List Nat), vs = [v1, v2, v3] ∧ Ly K H v1 n js ∧ Ly K H v2 n ls ∧ Good n js ∧ Good n ls ∧ HpP K H v3 p ∧ Wpc n js ls p ∧
  ∀ H', Same H H' → Q (.str p.1) H'
abbrev N36 : List Str := ["one", "other", "heap", "near", "far", "lacks", "end"]
theorem sc36' : FnScope N36 ["one", "other", "heap"] (defScope (top 49)) := ⟨rfl, rfl, rfl, by decide +kernel, rfl, by decide +kernel, by decide +kernel⟩
theorem okKind {f f34 : Addr} {fd fd34 : FuncData} (F : Fun K "_law_kind" "_law_kind" (top 49) f fd) (B : Bn mg)
    (D34 : Df K mg "_law_mates" f34 fd34 ["lay"]) (G34 : OkF P w K mg base 1 f34 fd34 ["lay"] (spLm K)) : OkF P w K mg base 2 f fd ["one", "other", "heap"] (spKind K) := by
  refine ok0 F sc36' (fun vs H Q E h => ?_) (fun cdv A outer s H vs Q E hgd hr h => ?_)
  · obtain ⟨v1, v2, v3, n, js, ls, p, rfl, _⟩ := h; rfl
  · obtain ⟨v1, v2, v3, n, js, ls, p, rfl, y1, y2, g1, g2, ⟨t, rfl, hS⟩, hp, q⟩ := h
    have nd := sc36'.nd
    have tp := g1.top
    have hu := hu_of hr
    have hlen : (asc p.2).length ≤ 24 := by
      have q := nodup_le (m := List.range (2 * n)) (wpc_nd hp) fun x hx => List.mem_range.mpr (wpc_lt hp x hx)
      rw [List.length_range] at q
      rw [(asc_perm p.2).length_eq]
      omega
    refine ⟨_, pss_cons (ps_asg (pe_tup (pa_cons (cl D34 G34 hgd hr (pa_cons (pv 0) pa_nil)) (pa_cons (cl D34 G34 hgd hr (pa_cons (pv 1) pa_nil)) pa_nil))) (pg_tup (by rfl) (pgs_cons (pg_name (i := 3) nd rfl (.inr rfl)) (pgs_cons (pg_name (i := 4) nd rfl (.inr rfl)) pgs_nil))))
      (pss_cons (ps_set (i := 5) nd rfl (.inl rfl) (pe_lst (pa_cons (pe_callB (r := rLen K) call_len_seq (by rfl) B.len PySem.boot_len (pa_cons
          (pe_lc (own := [("end", 6)]) (g := gName 6) rfl nd (pi_tup (pv 2)) (blkOk_by (N := N36) (sc := defScope (top 49)) (by decide +kernel))
            (fun _ _ _ _ _ => pg_name (i := 6) nd rfl (Or.inl rfl)) (fun _ _ _ _ _ => pts_one (pt_cmp (pc_dnotin hu (pv 6) (pv 3)) rfl)) (fun _ _ _ _ _ => pv 6)) pa_nil))
        (pa_cons (pe_callB (r := rLen K) call_len_seq (by rfl) B.len PySem.boot_len (pa_cons
          (pe_lc (own := [("end", 6)]) (g := gName 6) rfl nd (pi_tup (pv 2)) (blkOk_by (N := N36) (sc := defScope (top 49)) (by decide +kernel))
            (fun _ _ _ _ _ => pg_name (i := 6) nd rfl (Or.inl rfl)) (fun _ _ _ _ _ => pts_one (pt_cmp (pc_dnotin hu (pv 6) (pv 4)) rfl)) (fun _ _ _ _ _ => pv 6)) pa_nil)) pa_nil))))
      (pss_cons (ps_if (pt_cmpR (op_eqD hr.units) (pv 5) (pe_lst (pa_cons pe_int (pa_cons pe_int pa_nil))) (nomark _)) (pss_one (ps_ret pe_str)) pss_nil)
      (pss_one (ps_ret (pe_dget hu (pe_disp (pps_cons pe_int pe_str (pps_cons pe_int pe_str (pps_cons pe_int pe_str pps_nil))) rfl rfl (by simp) (by decide)) (pe_ix (r := rIxL K) ix_list (pv 5) pe_int (fun _ _ => rfl)) (fun _ _ => rfl)))))), ?_⟩
    refine ⟨_, rfl, v1, n, js, rfl, y1, g1, fun d1 k1 H1 s1 fd1 hd1 m1 => ?_⟩
    refine ⟨_, rfl, v2, n, ls, rfl, y2.up s1, g2, fun d2 k2 H2 s2 fd2 hd2 m2 => ?_⟩
    refine ⟨by show 2 ≤ sizeLine; decide, fun T hT => ?_⟩
    have sT := Same.new (o := .tup [.ref d1, .ref d2]) hT
    refine ⟨T, _, rfl, SqT.of upd_same, rfl, _, _, rfl, _, _, rfl, rfl, ?_⟩
    have b1 := sT _ _ (s2 _ _ hd1)
    have b2 := sT _ _ hd2
    have S0 := s1.trans (s2.trans sT)
    clear sT
    generalize upd H2 T (.tup [.ref d1, .ref d2]) = Hb at *
    have bS := Same.t S0 hS
    -- one count
    have body : ∀ {Hc : Hp} {z5 z6 : Option V} {js' : List J2} {d : Addr} {kv : List (Key × V)} {Q' : V → Hp → Prop} {i : Nat}, Same Hb Hc → Hb d = some (.dK kv) → MtD js' kv → (i = 3 ∧ d = d1 ∨ i = 4 ∧ d = d2) →
        (∀ (D : Addr) (Hd : Hp), Same Hc Hd → Hd D = some (.lst (Vn (lacks js' (asc p.2)))) → Q' (.ref D) Hd) →
        tLc (iTup K (tVar 2)) (gName 6) (tB (tDNotIn (tVar 6) (tVar i))) (tVar 6) [6] [some v1, some v2, some (.ref t), some (.ref d1), some (.ref d2), z5, z6] Hc Q' := by
      intro Hc z5 z6 js' d kv Q' i sc hd hm hi nx
      refine ⟨_, rfl, t, rfl, ⟨_, Same.t sc bS⟩, fun D hD => ?_⟩
      refine lc_it (walk_tup (xs := Vn (asc p.2))) (fun j H' => Same Hc H' ∧ H' D = some (.lst (Vn (lacks js' ((asc p.2).take j))))) ⟨Same.new hD, upd_same⟩ (fun j H' _ hp => Same.t hp.1 (Same.t sc bS)) ?_ ?_
      · rintro j v Hx Hy hj ⟨sx, hLx⟩ ⟨rfl, ev⟩
        rw [Vn_len] at hj
        have ev2 := Vn_at hj
        have eg : (asc p.2)[j]? = some ((asc p.2).getD j 0) := by rw [List.getD_eq_getElem?_getD, List.getElem?_eq_getElem hj]; rfl
        generalize (asc p.2).getD j 0 = e at ev2 eg
        obtain rfl : v = V.int (e : Nat) := Option.some.inj (ev.symm.trans ev2)
        have hdy := sx _ _ (sc _ _ hd)
        have finT : (mt js' e).isNone = true → (Vn (lacks js' ((asc p.2).take j))).length < sizeLine ∧ Vn (lacks js' ((asc p.2).take j)) ++ [V.int (e : Nat)] = Vn (lacks js' ((asc p.2).take (j + 1))) := by
          intro c
          refine ⟨?_, ?_⟩
          · rw [Vn_len]
            refine Nat.lt_of_le_of_lt (Nat.le_trans (List.length_filter_le _ _) (Nat.le_trans (List.length_take_le' _ _) (show (asc p.2).length ≤ 1000 by omega))) (by decide)
          · unfold lacks
            rw [take_next eg, List.filter_append, vn_app]
            have : ([e].filter fun e => (mt js' e).isNone) = [e] := by simp only [List.filter_cons, c, if_true, List.filter_nil]
            rw [this]
            rfl
        have finF : (mt js' e).isNone = false → lacks js' ((asc p.2).take j) = lacks js' ((asc p.2).take (j + 1)) := by
          intro c
          unfold lacks
          rw [take_next eg, List.filter_append]
          have : ([e].filter fun e => (mt js' e).isNone) = [] := by simp only [List.filter_cons, c, Bool.false_eq_true, if_false, List.filter_nil]
          rw [this, List.append_nil]
        rcases hi with ⟨rfl, rfl⟩ | ⟨rfl, rfl⟩
        · refine ⟨rfl, _, rfl, _, rfl, _, _, rfl, DGet.k (k := .inl ((e : Nat) : Int)) hdy, _, rfl, ?_⟩
          show if (!(valV kv (.inl ((e : Nat) : Int))).isSome) = true then _ else _
          rw [val_none hm]
          cases c : (mt js' e).isNone with
          | true =>
            obtain ⟨f1, f2⟩ := finT c
            exact iteT ⟨_, rfl, _, hLx, f1, same_put sx hD, by rw [upd_same, f2]⟩
          | false => exact iteF ⟨sx, by rw [← finF c]; exact hLx⟩
        · refine ⟨rfl, _, rfl, _, rfl, _, _, rfl, DGet.k (k := .inl ((e : Nat) : Int)) hdy, _, rfl, ?_⟩
          show if (!(valV kv (.inl ((e : Nat) : Int))).isSome) = true then _ else _
          rw [val_none hm]
          cases c : (mt js' e).isNone with
          | true =>
            obtain ⟨f1, f2⟩ := finT c
            exact iteT ⟨_, rfl, _, hLx, f1, same_put sx hD, by rw [upd_same, f2]⟩
          | false => exact iteF ⟨sx, by rw [← finF c]; exact hLx⟩
      · rintro H' ⟨sx, hLx⟩
        rw [List.take_of_length_le (by rw [Vn_len]; exact Nat.le_refl _)] at hLx
        exact nx D H' sx hLx
    dsimp only [tSeq, tAsg, tLst, tCons, tCB]
    refine body (i := 3) (d := d1) (kv := k1) (js' := js) (fun _ _ h => h) b1 m1 (.inl ⟨rfl, rfl⟩) fun D1 Hd1 t1 hD1 => ?_
    refine ⟨D1, _, rfl, .inl (SqL.of hD1), ?_⟩
    refine body (i := 4) (d := d2) (kv := k2) (js' := ls) t1 b2 m2 (.inr ⟨rfl, rfl⟩) fun D2 Hd2 t2 hD2 => ?_
    refine ⟨D2, _, rfl, .inl (SqL.of hD2), by show 2 ≤ sizeLine; decide, fun L hL => gn ?_⟩
    rw [Vn_len, Vn_len, lacks_len, lacks_len, cn_perm (asc_perm p.2), cn_perm (asc_perm p.2)]
    have sL := Same.new (o := .lst [.int (cn js p.2 : Nat), .int (cn ls p.2 : Nat)]) hL
    refine ⟨_, rfl, by show 2 ≤ sizeLine; decide, fun L2 hL2 => ?_⟩
    have sL2 := Same.new (o := .lst [.int 0, .int 0]) hL2
    have hLL := sL2 _ _ (upd_same (H := Hd2) (a := L) (o := .lst [.int (cn js p.2 : Nat), .int (cn ls p.2 : Nat)]))
    have SA := S0.trans (t1.trans (t2.trans (sL.trans sL2)))
    refine ⟨intD [((cn js p.2 : Nat) : Int), ((cn ls p.2 : Nat) : Int)], intD [0, 0], Dp.lst (SqL.of hLL) (dp_ints [((cn js p.2 : Nat) : Int), ((cn ls p.2 : Nat) : Int)]), Dp.lst (SqL.of upd_same) (dp_ints [0, 0]), shaped_ints _, shaped_ints _, _, rfl, ?_⟩
    have rest : ∀ k, p.1 = k → kdV (cn js p.2) = some (.str k) → tDGet (tDisp [(tC (.int 1), tC (.str "odd")), (tC (.int 2), tC (.str "open")), (tC (.int 0), tC (.str "shut"))]) (tOp (rIxL K) (tVar 5) (tC (.int 0)))
        [some v1, some v2, some (.ref t), some (.ref d1), some (.ref d2), some (.ref L), none] (upd (upd Hd2 L (.lst [.int (cn js p.2 : Nat), .int (cn ls p.2 : Nat)])) L2 (.lst [.int 0, .int 0])) Q := by
      intro k ek hk
      refine fun pp hpp => ⟨upd_same, [((.inl 1 : Key), V.str "odd"), (.inl 2, .str "open"), (.inl 0, .str "shut")], rfl, by decide, ?_⟩
      have sp := same_put (o := .dK (mergeK [] [((.inl 1 : Key), V.str "odd"), (.inl 2, .str "open"), (.inl 0, .str "shut")])) (Same.new (o := .dK []) hpp) hpp
      refine ⟨_, rfl, L, _, 0, .int (cn js p.2 : Nat), rfl, rfl, SqL.of (sp _ _ hLL), at_of (j := 0) rfl rfl, pp, .str k, rfl, ?_, ?_⟩
      · rw [← kd_disp (cn js p.2) k hk]
        exact DGet.k (k := .inl ((cn js p.2 : Nat) : Int)) upd_same
      · rw [← ek]
        exact q _ (SA.trans sp)
    rw [eqv_two]
    rcases wpc_cnt g1 g2 hp with ⟨c1, c2, c3⟩ | ⟨c1, c2, c3⟩ | ⟨c1, c2, c3⟩ | ⟨c1, c2, c3⟩
    · rw [decide_eq_true (And.intro c1 c2)]
      refine iteT ?_
      have := q _ SA
      rw [c3] at this
      exact this
    · rw [decide_eq_false (by omega)]
      exact iteF (rest _ c3 (by rw [c1]; rfl))
    · rw [decide_eq_false (by omega)]
      exact iteF (rest _ c3 (by rw [c1]; rfl))
    · rw [decide_eq_false (by omega)]
      exact iteF (rest _ c3 (by rw [c1]; rfl))
end
end K15
-- K15m
set_option Elab.async false
set_option linter.all false
set_option maxRecDepth 100000
set_option maxHeartbeats 4000000
namespace K15
open PySem L2 DC LamX
theorem sz_inj (p q : Str × List Nat) (h : PySem.W.keyToks (szD p) = PySem.W.keyToks (szD q)) : szD p = szD q := by
  unfold szD at h ⊢
  simp only [PySem.W.keyToks, PySem.W.keyToksAll, List.singleton_append, List.cons.injEq, Sum.inr.injEq, Sum.inl.injEq, true_and, and_true] at h
  rw [PySem.W.str_of_cps h.1, h.2]
theorem sz_same {ps qs : List (Str × List Nat)} (h : (ps.map szD).Perm (qs.map szD)) : (ps.map szD).mergeSort (PySem.W.dataLe false id) = (qs.map szD).mergeSort (PySem.W.dataLe false id) := by
  refine sort_same h fun a ha b hb e => ?_
  obtain ⟨p, _, rfl⟩ := List.mem_map.mp ha
  obtain ⟨q, _, rfl⟩ := List.mem_map.mp hb
  exact sz_inj p q e
theorem sizesD_of (ps : List (Str × List Nat)) : (ps.map szD).mergeSort (PySem.W.dataLe false id) = sizesD ps := by
  unfold sizesD byRow
  exact sz_same ((List.mergeSort_perm _ _).symm.map _)
theorem sizesD_perm {ps qs : List (Str × List Nat)} (h : ps.Perm qs) : sizesD ps = sizesD qs := by
  rw [← sizesD_of, ← sizesD_of]
  exact sz_same (h.map _)
theorem toks_ints : ∀ a b : List Int, PySem.W.keyToksAll (a.map PyData.int) = PySem.W.keyToksAll (b.map PyData.int) → a = b
  | [], [], _ => rfl
  | [], y :: ys, h => by
    simp only [List.map_nil, List.map_cons, PySem.W.keyToksAll, List.cons.injEq, Sum.inl.injEq] at h
    exact absurd h.1 (by decide)
  | x :: xs, [], h => by
    simp only [List.map_nil, List.map_cons, PySem.W.keyToksAll, List.cons.injEq, Sum.inl.injEq] at h
    exact absurd h.1 (by decide)
  | x :: xs, y :: ys, h => by
    simp only [List.map_cons, PySem.W.keyToksAll, PySem.W.keyToks, List.singleton_append, List.cons.injEq, Sum.inl.injEq, true_and] at h
    rw [h.1, toks_ints xs ys h.2]
theorem tup_inj (a b : List Int) (h : PySem.W.keyToks (tupD a) = PySem.W.keyToks (tupD b)) : tupD a = tupD b := by
  unfold tupD at h ⊢
  simp only [PySem.W.keyToks] at h
  rw [toks_ints a b h]
theorem row_same {as bs : List (List Int)} (h : (as.map tupD).Perm (bs.map tupD)) : (as.map tupD).mergeSort (PySem.W.dataLe false id) = (bs.map tupD).mergeSort (PySem.W.dataLe false id) := by
  refine sort_same h fun a ha b hb e => ?_
  obtain ⟨p, _, rfl⟩ := List.mem_map.mp ha
  obtain ⟨q, _, rfl⟩ := List.mem_map.mp hb
  exact tup_inj p q e
theorem rowsD_of (ps : List (Str × List Nat)) : (ps.map rowKey).mergeSort (PySem.W.dataLe false id) = (byRow ps).map rowKey := by
  unfold byRow
  exact (List.map_mergeSort (r := PySem.W.dataLe false rowKey) (s := PySem.W.dataLe false id) (f := rowKey) (l := ps) (fun a _ b _ => rfl)).symm
theorem rowsD_perm {ps qs : List (Str × List Nat)} (h : ps.Perm qs) : (byRow ps).map rowKey = (byRow qs).map rowKey := by
  rw [← rowsD_of, ← rowsD_of]
  have e : ∀ rs : List (Str × List Nat), rs.map rowKey = (rs.map fun p => nI p.2).map tupD := by
    intro rs
    rw [List.map_map]
    rfl
  rw [e, e]
  exact row_same ((h.map _).map _)
theorem HpP.up {K : PySem.W.Frag} {H H' : Hp} (e : Same H H') {v : V} {p : Str × List Nat} : HpP K H v p → HpP K H' v p
  | ⟨t, q, h⟩ => ⟨t, q, Same.t e h⟩
section
variable {P : Program} {w : World} {K : PySem.W.Frag} {mg : Str → Option Value} {base : Heap}
def spLp (K : PySem.W.Frag) : Sp := fun vs H Q _ => ∃ (v1 v2 : V) (n : Nat) (js ls : List J2), vs = [v1, v2] ∧ Ly K H v1 n js ∧ Ly K H v2 n ls ∧ Good n js ∧ Good n ls ∧
  ∀ (ps : List (Str × List Nat)) (r : Addr) (xs : List V) (H' : Hp), Same H H' → H r = none → H' r = some (.lst xs) → DpAll K H' xs (sizesD ps) → IsWeb n js ls ps → ps.length ≤ 2 * n → Q (.ref r) H'
abbrev N37 : List Str := ["one", "other", "heap"]
theorem sc37' : FnScope N37 ["one", "other"] (defScope (top 50)) := ⟨rfl, rfl, rfl, by decide +kernel, rfl, by decide +kernel, by decide +kernel⟩
theorem okLp {f f35 f36 : Addr} {fd fd35 fd36 : FuncData} (F : Fun K "_law_pieces" "_law_pieces" (top 50) f fd) (B : Bn mg)
    (D35 : Df K mg "_law_heaps" f35 fd35 ["one", "other"]) (G35 : OkF P w K mg base 2 f35 fd35 ["one", "other"] (spHeaps K))
    (D36 : Df K mg "_law_kind" f36 fd36 ["one", "other", "heap"]) (G36 : OkF P w K mg base 2 f36 fd36 ["one", "other", "heap"] (spKind K)) : OkF P w K mg base 3 f fd ["one", "other"] (spLp K) := by
  refine ok0 F sc37' (fun vs H Q E h => ?_) (fun cdv A outer s H vs Q E hgd hr h => ?_)
  · obtain ⟨v1, v2, n, js, ls, rfl, _⟩ := h; rfl
  · obtain ⟨v1, v2, n, js, ls, rfl, y1, y2, g1, g2, q⟩ := h
    have nd := sc37'.nd
    have tp := g1.top
    refine ⟨_, pss_one (ps_ret (pe_callB (cr_sortD hr.units) (by rfl) B.sorted (by decide +kernel) (pa_cons
      (pe_lc (own := [("heap", 2)]) (g := gName 2) (tt := tYes) rfl nd (pi_list (cl D35 G35 hgd hr (pa_cons (pv 0) (pa_cons (pv 1) pa_nil)))) (blkOk_by (N := N37) (sc := defScope (top 50)) (by decide +kernel))
        (fun _ _ _ _ _ => pg_name (i := 2) nd rfl (Or.inl rfl)) (fun _ _ _ _ _ => pts_nil)
        (fun _ _ _ _ _ => pe_tup (pa_cons (cl D36 G36 hgd hr (pa_cons (pv 0) (pa_cons (pv 1) (pa_cons (pv 2) pa_nil)))) (pa_cons (pe_callB (r := rLen K) call_len_seq (by rfl) B.len PySem.boot_len (pa_cons (pv 2) pa_nil)) pa_nil)))) pa_nil))), ?_⟩
    refine ⟨_, rfl, _, rfl, v1, v2, n, js, ls, rfl, y1, y2, g1, g2, fun ps r xs H1 s1 fr hr1 hP W len2 => ?_⟩
    have len : xs.length = ps.length := Paired.length hP
    refine ⟨r, rfl, ⟨_, SqL.of hr1⟩, fun D hD => ?_⟩
    refine lc_it (walk_list (xs := xs)) (fun i H' => ∃ acc : List V, Same H1 H' ∧ H' D = some (.lst acc) ∧ Paired (SzP K H') acc (ps.take i) ∧ acc.length = i) ⟨[], Same.new hD, upd_same, .nil, rfl⟩ (fun i H' _ hp => by
      obtain ⟨acc, sm, _⟩ := hp
      exact SqL.of (sm _ _ hr1)) ?_ ?_
    · rintro i x Ha Hb hi ⟨acc, sm, hL, hd, hal⟩ ⟨rfl, ex⟩
      obtain ⟨p, ep, hx⟩ := paired_at hP ex
      have wp := (W.mem p).mp (List.mem_of_getElem? ep)
      refine ⟨rfl, ?_⟩
      refine yesT ?_
      refine ⟨_, rfl, _, rfl, _, rfl, v1, v2, x, n, js, ls, p, rfl, (y1.up s1).up sm, (y2.up s1).up sm, g1, g2, hx.up sm, wp, fun Hk sk => ?_⟩
      obtain ⟨t, rfl, ht⟩ := (hx.up sm).up sk
      refine ⟨_, rfl, t, _, rfl, .inr ht, by show 2 ≤ sizeLine; decide, fun T hT2 => ?_⟩
      rw [Vn_len, (asc_perm p.2).length_eq]
      have sT := Same.new (o := .tup [.str p.1, .int (p.2.length : Nat)]) hT2
      have hL2 := sT _ _ (sk _ _ hL)
      have hd2 : Paired (SzP K (upd (upd Hk T (.tup [.str p.1, .int (p.2.length : Nat)])) D (.lst (acc ++ [.ref T])))) (acc ++ [.ref T]) (ps.take i ++ [p]) :=
        pair_snoc (L2.Paired.mapP hd fun _ _ ⟨t, q, h⟩ => ⟨t, q, sqT_put (Same.t (sk.trans sT) h) hL2⟩) ⟨T, rfl, sqT_put (SqT.of upd_same) hL2⟩
      refine ⟨acc, hL2, Nat.lt_of_le_of_lt (show acc.length ≤ 1000 by omega) (by decide), acc ++ [.ref T], same_put (sm.trans (sk.trans sT)) hD, upd_same, ?_, ?_⟩
      · rw [take_next (l := ps) ep]
        exact hd2
      · rw [List.length_append, hal]
        rfl
    · rintro H' ⟨acc, sm, hL, hd, hal⟩
      rw [len, List.take_of_length_le (Nat.le_refl _)] at hd
      refine ⟨D, acc, _, rfl, SqL.of hL, szP_dp hd, sz_alike _, sz_sortable _, sz_depth _, fun ys pl pm hy hp => ?_⟩
      rw [sizesD_of] at hy
      have s2 := Same.new (o := .lst ys) hp
      exact q ps pl ys _ (s1.trans (sm.trans s2)) (s1.free (sm.free hp)) upd_same (DpAll.up s2 hy) W len2
end
end K15
-- K15o
set_option Elab.async false
set_option linter.all false
set_option maxRecDepth 100000
set_option maxHeartbeats 4000000
namespace K15
open PySem L2 DC LamX
section
variable {K : PySem.W.Frag} {H H' : Hp}
theorem extN_l {a : Addr} {xs : List V} (e : ExtN H H') (h : SqL K H a xs) : SqL K H' a xs := by
  rcases h with (h | ⟨o, h⟩) | h
  · exact .inl (.inl (e _ _ h (fun _ z => nomatch z)))
  · exact .inl (.inr ⟨o, e _ _ h (fun _ z => nomatch z)⟩)
  · exact .inr h
mutual
theorem dpX (e : ExtN H H') : ∀ {d : PyData} {v : V}, Dp K H v d → Dp K H' v d
  | _, _, .non => .non
  | _, _, .bl b => .bl b
  | _, _, .int i => .int i
  | _, _, .str x => .str x
  | _, _, .lst h a => .lst (extN_l e h) (dpAllX e a)
  | _, _, .tup h a => .tup (extN_t e h) (dpAllX e a)
theorem dpAllX (e : ExtN H H') : ∀ {ds : List PyData} {vs : List V}, DpAll K H vs ds → DpAll K H' vs ds
  | _, _, .nil => .nil
  | _, _, .cons a b => .cons (dpX e a) (dpAllX e b)
end
theorem lyX (e : ExtN H H') {v : V} {n : Nat} {js : List J2} : Ly K H v n js → Ly K H' v n js
  | ⟨t, u, q, h, tj, ws, qj, hj, hp⟩ => ⟨t, u, q, extN_t e h, tj, ws, qj, extN_t e hj, L2.Paired.mapP hp fun _ _ ⟨t, q, h⟩ => ⟨t, q, extN_t e h⟩⟩
theorem lstX (e : ExtN H H') {a : Addr} {xs : List V} (h : H a = some (.lst xs)) : H' a = some (.lst xs) := e _ _ h (fun _ z => nomatch z)
theorem tupX (e : ExtN H H') {a : Addr} {xs : List V} (h : H a = some (.tup xs)) : H' a = some (.tup xs) := e _ _ h (fun _ z => nomatch z)
theorem dkX (e : ExtN H H') {a : Addr} {xs : List (Key × V)} (h : H a = some (.dK xs)) : H' a = some (.dK xs) := e _ _ h (fun _ z => nomatch z)
end
def layD (n : Nat) (js : List J2) : PyData := .tuple [.int (n : Nat), .tuple (js.map fun p => .tuple [.int (p.1 : Nat), .int (p.2 : Nat)])]
theorem js_dp {K : PySem.W.Frag} {H : Hp} : ∀ {vs : List V} {js : List J2}, Paired (Pr K H) vs js → DpAll K H vs (js.map fun p => .tuple [.int (p.1 : Nat), .int (p.2 : Nat)])
  | _, _, .nil => .nil
  | _, _, .cons ⟨t, e, h⟩ r => by
    subst e
    exact .cons (Dp.tup h (.cons (.int _) (.cons (.int _) .nil))) (js_dp r)
theorem ly_dp {K : PySem.W.Frag} {H : Hp} {v : V} {n : Nat} {js : List J2} (h : Ly K H v n js) : Dp K H v (layD n js) := by
  obtain ⟨t, u, rfl, hS, tj, ws, rfl, hj, hp⟩ := h
  exact Dp.tup hS (.cons (.int _) (.cons (Dp.tup hj (js_dp hp)) .nil))
theorem smAll_of : ∀ {ds : List PyData}, (∀ d ∈ ds, sm d = true) → smAll ds = true
  | [], _ => by simp only [smAll]
  | d :: ds, h => by
    simp only [smAll, h d List.mem_cons_self, smAll_of fun x hx => h x (List.mem_cons_of_mem _ hx), Bool.and_self]
theorem wtAll_le {B : Nat} : ∀ {ds : List PyData}, (∀ d ∈ ds, wt d ≤ B) → wtAll ds ≤ ds.length * (B + 2)
  | [], _ => by simp only [wtAll, List.length_nil, Nat.zero_mul, Nat.le_refl]
  | d :: ds, h => by
    have h1 := h d List.mem_cons_self
    have ih := wtAll_le (ds := ds) fun x hx => h x (List.mem_cons_of_mem _ hx)
    simp only [wtAll, List.length_cons]
    rw [Nat.add_mul]
    omega
theorem depthAll_le {B : Nat} : ∀ {ds : List PyData}, (∀ d ∈ ds, d.depth ≤ B) → PyData.depthAll ds ≤ B
  | [], _ => by simp only [PyData.depthAll, Nat.zero_le]
  | d :: ds, h => by
    have h1 := h d List.mem_cons_self
    have ih := depthAll_le (ds := ds) fun x hx => h x (List.mem_cons_of_mem _ hx)
    simp only [PyData.depthAll]
    omega
structure Short (d : PyData) (B D : Nat) : Prop where
  s : sm d = true
  w : wt d ≤ B
  p : d.depth ≤ D
theorem short_int {n : Nat} (h : n < 10 ^ 20) : Short (.int (n : Nat)) 21 0 := ⟨by simp only [sm, decide_eq_true_eq]; exact h, by simp only [wt, Nat.le_refl], by simp only [PyData.depth, Nat.le_refl]⟩
theorem short_tuple {ds : List PyData} {B D L : Nat} (h : ∀ d ∈ ds, Short d B D) (hl : ds.length ≤ L) : Short (.tuple ds) (L * (B + 2) + 4) (D + 1) := by
  refine ⟨by simp only [sm]; exact smAll_of fun d hd => (h d hd).s, ?_, ?_⟩
  · simp only [wt]
    have := wtAll_le (B := B) (ds := ds) fun d hd => (h d hd).w
    have := Nat.mul_le_mul_right (B + 2) hl
    omega
  · simp only [PyData.depth]
    have := depthAll_le (B := D) (ds := ds) fun d hd => (h d hd).p
    omega
theorem short_list {ds : List PyData} {B D L : Nat} (h : ∀ d ∈ ds, Short d B D) (hl : ds.length ≤ L) : Short (.list ds) (L * (B + 2) + 4) (D + 1) := by
  refine ⟨by simp only [sm]; exact smAll_of fun d hd => (h d hd).s, ?_, ?_⟩
  · simp only [wt]
    have := wtAll_le (B := B) (ds := ds) fun d hd => (h d hd).w
    have := Nat.mul_le_mul_right (B + 2) hl
    omega
  · simp only [PyData.depth]
    have := depthAll_le (B := D) (ds := ds) fun d hd => (h d hd).p
    omega
theorem Short.mono {d : PyData} {B D B' D' : Nat} (h : Short d B D) (hB : B ≤ B') (hD : D ≤ D') : Short d B' D' := ⟨h.s, Nat.le_trans h.w hB, Nat.le_trans h.p hD⟩
theorem short_lay {n : Nat} {js : List J2} (g : Good n js) : Short (layD n js) 2000 4 := by
  have tp := g.top
  have le := g.le
  unfold layD
  have h2 : Short (.tuple (js.map fun p => .tuple [.int (p.1 : Nat), .int (p.2 : Nat)])) (12 * (50 + 2) + 4) 2 := by
    refine short_tuple (B := 50) (D := 1) (fun d hd => ?_) (by rw [List.length_map]; omega)
    obtain ⟨p, hp, rfl⟩ := List.mem_map.mp hd
    have r := g.rng p hp
    refine (short_tuple (B := 21) (D := 0) (L := 2) (fun d hd => ?_) (Nat.le_refl _)).mono (by decide) (by decide)
    simp only [List.mem_cons, List.not_mem_nil, or_false] at hd
    rcases hd with rfl | rfl
    · exact short_int (by omega)
    · exact short_int (by omega)
  refine (short_tuple (B := 628) (D := 2) (L := 2) (fun d hd => ?_) (Nat.le_refl _)).mono (by decide) (by decide)
  simp only [List.mem_cons, List.not_mem_nil, or_false] at hd
  rcases hd with rfl | rfl
  · exact (short_int (by omega)).mono (by decide) (by decide)
  · exact h2
section
variable {n : Nat} {js ls : List J2} {ps : List (Str × List Nat)}
theorem short_str {k : Str} (h : k = "ring" ∨ k = "odd" ∨ k = "open" ∨ k = "shut") : Short (.str k) 1002 0 := by
  refine ⟨?_, by simp only [wt, Nat.le_refl], by simp only [PyData.depth, Nat.le_refl]⟩
  rcases h with rfl | rfl | rfl | rfl <;> decide +kernel
theorem wpc_kind (g1 : Good n js) (g2 : Good n ls) {p : Str × List Nat} (h : Wpc n js ls p) : p.1 = "ring" ∨ p.1 = "odd" ∨ p.1 = "open" ∨ p.1 = "shut" := by
  rcases wpc_cnt g1 g2 h with ⟨_, _, c⟩ | ⟨_, _, c⟩ | ⟨_, _, c⟩ | ⟨_, _, c⟩
  · exact .inl c
  · exact .inr (.inl c)
  · exact .inr (.inr (.inl c))
  · exact .inr (.inr (.inr c))
theorem wpc_len {p : Str × List Nat} (h : Wpc n js ls p) : p.2.length ≤ 2 * n := by
  have q := nodup_le (m := List.range (2 * n)) (wpc_nd h) fun x hx => List.mem_range.mpr (wpc_lt h x hx)
  rw [List.length_range] at q
  exact q
end
end K15
-- DD
set_option Elab.async false
set_option linter.all false
set_option maxRecDepth 100000
set_option maxHeartbeats 4000000
/-! DD: displays of data (tuples and lists of ints and texts), read as a whole. -/
namespace DC
open PySem L2
mutual
inductive Dsp : TE → PyData → Prop
  | int (i : Int) : Dsp (tC (.int i)) (.int i)
  | str (x : Str) : Dsp (tC (.str x)) (.str x)
  | tup {t : TA} {ds : List PyData} : DspA t ds → ds.length ≤ 1000 → Dsp (tTup t) (.tuple ds)
  | lst {t : TA} {ds : List PyData} : DspA t ds → ds.length ≤ 1000 → Dsp (tLst t) (.list ds)
inductive DspA : TA → List PyData → Prop
  | nil : DspA tNil []
  | cons {te : TE} {d : PyData} {t : TA} {ds : List PyData} : Dsp te d → DspA t ds → DspA (tCons te t) (d :: ds)
end
mutual
theorem dsp_ok {K : PySem.W.Frag} : ∀ {te : TE} {d : PyData}, Dsp te d → ∀ {σ : L2.St} {H : Hp} {Q : V → Hp → Prop}, (∀ v H', Same H H' → Dp K H' v d → Q v H') → te σ H Q
  | _, _, .int i, σ, H, Q, q => q _ _ (fun _ _ h => h) (.int i)
  | _, _, .str x, σ, H, Q, q => q _ _ (fun _ _ h => h) (.str x)
  | _, _, .tup (ds := ds) a hz, σ, H, Q, q => dspA_ok (K := K) a fun xs H1 s1 h1 => ⟨by rw [dpAll_len h1]; exact Nat.le_trans hz (by decide), fun p hp => q _ _ (s1.trans (Same.new hp)) (Dp.tup (SqT.of upd_same) (DpAll.up (Same.new hp) h1))⟩
  | _, _, .lst (ds := ds) a hz, σ, H, Q, q => dspA_ok (K := K) a fun xs H1 s1 h1 => ⟨by rw [dpAll_len h1]; exact Nat.le_trans hz (by decide), fun p hp => q _ _ (s1.trans (Same.new hp)) (Dp.lst (SqL.of upd_same) (DpAll.up (Same.new hp) h1))⟩
theorem dspA_ok {K : PySem.W.Frag} : ∀ {t : TA} {ds : List PyData}, DspA t ds → ∀ {σ : L2.St} {H : Hp} {Q : List V → Hp → Prop}, (∀ xs H', Same H H' → DpAll K H' xs ds → Q xs H') → t σ H Q
  | _, _, .nil, σ, H, Q, q => q [] H (fun _ _ h => h) .nil
  | _, _, .cons a b, σ, H, Q, q => dsp_ok (K := K) a fun v H1 s1 h1 => dspA_ok (K := K) b fun xs H2 s2 h2 => q (v :: xs) H2 (s1.trans s2) (.cons (Dp.up s2 h1) h2)
end
/-- the one thing of a call's arguments that is left -/
theorem dsp_one {K : PySem.W.Frag} {te : TE} {d : PyData} (a : Dsp te d) {σ : L2.St} {H : Hp} {Q : List V → Hp → Prop} (q : ∀ v H', Same H H' → Dp K H' v d → Q [v] H') : tCons te tNil σ H Q :=
  dspA_ok (K := K) (.cons a .nil) fun xs H' s h => by
    cases h with
    | cons h1 h2 =>
      cases h2
      exact q _ _ s h1
theorem dsp_set {K : PySem.W.Frag} {te : TE} {d : PyData} (a : Dsp te d) {i : Nat} {D : Ends} {σ : L2.St} {H : Hp} (q : ∀ v H', Same H H' → Dp K H' v d → D.nx (σ.set i (some v)) H') : tAsg te (gName i) D σ H :=
  dsp_ok (K := K) a fun v H' s h => q v H' s h
theorem dsp_cons {K : PySem.W.Frag} {te : TE} {d : PyData} (a : Dsp te d) {ta : TA} {σ : L2.St} {H : Hp} {Q : List V → Hp → Prop} (q : ∀ v H', Same H H' → Dp K H' v d → ta σ H' fun xs H2 => Q (v :: xs) H2) : tCons te ta σ H Q :=
  dsp_ok (K := K) a fun v H' s h => q v H' s h
theorem lst_i {t : TA} {σ : L2.St} {H : Hp} {Q : V → Hp → Prop} (h : t σ H fun xs H1 => xs.length ≤ sizeLine ∧ ∀ p, H1 p = none → Q (.ref p) (upd H1 p (.lst xs))) : tLst t σ H Q := h
theorem cons_i {te : TE} {ta : TA} {σ : L2.St} {H : Hp} {Q : List V → Hp → Prop} (h : te σ H fun x H1 => ta σ H1 fun xs H2 => Q (x :: xs) H2) : tCons te ta σ H Q := h
theorem call_i {sp : Sp} {dvs : List V} {E : XK} {t : TA} {σ : L2.St} {H : Hp} {Q : V → Hp → Prop} (h : t σ H fun vs H1 => sp (vs ++ dvs) H1 Q E) : tCall sp dvs E t σ H Q := h
theorem seq_i {a b : TS} {D : Ends} {σ : L2.St} {H : Hp} (h : a { D with nx := b D } σ H) : tSeq a b D σ H := h
theorem asg_i {te : TE} {g : TG} {D : Ends} {σ : L2.St} {H : Hp} (h : te σ H fun x H1 => g x σ H1 D.nx) : tAsg te g D σ H := h
theorem var_i {i : Nat} {v : V} {σ : L2.St} {H : Hp} {Q : V → Hp → Prop} (e : σ[i]? = some (some v)) (h : Q v H) : tVar i σ H Q := ⟨v, e, h⟩
abbrev tI (i : Int) : TE := tC (.int i)
abbrev tP (a b : Int) : TE := tTup (tCons (tI a) (tCons (tI b) tNil))
theorem dsP {a b : Nat} {x y : Int} (hx : x = (a : Nat)) (hy : y = (b : Nat)) : Dsp (tP x y) (.tuple [.int (a : Nat), .int (b : Nat)]) := by
  subst hx hy
  exact .tup (.cons (.int _) (.cons (.int _) .nil)) (show 2 ≤ 1000 by decide)
theorem dsI : ∀ is : List Int, DspA (is.foldr (fun i t => tCons (tI i) t) tNil) (is.map PyData.int)
  | [] => .nil
  | i :: is => .cons (.int i) (dsI is)
theorem dp_tup2 {K : PySem.W.Frag} {H : Hp} {v : V} {d e : PyData} (h : Dp K H v (.tuple [d, e])) : ∃ t x y, v = .ref t ∧ SqT K H t [x, y] ∧ Dp K H x d ∧ Dp K H y e := by
  cases h with
  | tup hS ha =>
    cases ha with
    | cons h1 t1 =>
      cases t1 with
      | cons h2 t2 =>
        cases t2
        exact ⟨_, _, _, rfl, hS, h1, h2⟩
end DC
-- DWT
set_option Elab.async false
set_option linter.all false
set_option maxRecDepth 100000
set_option maxHeartbeats 4000000
/-! DWT: a law's end over OkG where one lambda is made: its maker's table of code objects is written. -/
namespace DC
open PySem PySem.Spec PyProof.Rows L2 Evl LamX
/-- the main module as the top's name for the built-ins tells it -/
def BmAt (mg : Str → Option Value) (h : Heap) : Prop :=
  ∃ (bm : Addr) (ob : Obj), mg "__builtins__" = some (.ref bm) ∧ bm ≠ builtinsNs ∧ h.get? bm = some ob ∧ ob.cls = .type "module" ∧ ob.dict = some builtinsNs ∧ ob.data = .plain
/-- a maker's code object at c, its table at T, empty still -/
structure TabHd (K : PySem.W.Frag) (h : Heap) (c T : Addr) : Prop where
  emp : h.get? T = some { cls := .none, data := .fields #[] }
  out : K.lookup T = none
  hd : PySem.W.CodeHd h c T
/-- the heap that is looked at: the table, and what is told of the script -/
def HT0 (T a : Addr) (u : Option HO) : Hp := fun b => if b = T then some (.tbl #[]) else if b = a then u else none
theorem HT0.t {T a : Addr} {u : Option HO} : HT0 T a u T = some (.tbl #[]) := if_pos rfl
theorem HT0.a {T a : Addr} {u : Option HO} (h : a ≠ T) : HT0 T a u a = u := by
  unfold HT0
  rw [if_neg h, if_pos rfl]
theorem HT0.n {T a b : Addr} {u : Option HO} (h : b ≠ T) (h2 : b ≠ a) : HT0 T a u b = none := by
  unfold HT0
  rw [if_neg h, if_neg h2]
theorem endT {P : Program} {w : World} {K : PySem.W.Frag} {mg mb : Str → Option Value} {cx : CXT} {k : Nat} {fa a c T : Addr} {fd : FuncData} {x : Str} {sp : Sp}
    {s₁ : Shared} {vs : List Value} {ns : List Int} (KX : K.In s₁.heap) (hns : s₁.heap.Ns mainGlobals mg) (hb : s₁.heap.Ns builtinsNs mb)
    (hbb : ∀ x : Str, x ≠ "__name__" → mb x = bootBuiltins x) (hlim : s₁.heap.NoLimit) (hg : s₁.gens = #[]) (th : TabHd K s₁.heap c T) (hbm : BmAt mg s₁.heap)
    (ha : s₁.heap.get? a = some { cls := .type "list", data := .seq vs.toArray }) (hi : IntsAre vs ns) (hl : ns.length ≤ sizeLine) (hr : Room k callerA)
    (F : ∀ base : Heap, K.In base → base.Ns mainGlobals mg → TabB base mg c T → OkG P w K mg base cx k fa fd [x] sp)
    (hbind : ∀ (s : Shared) (u : Value), BindsTo s fd ⟨[u], []⟩ [(x, u)])
    (hsp : ∀ H : Hp, H T = some (.tbl #[]) → SqL K H a (ns.map V.int) → sp [.ref a] H (fun v _ => v = .bl true) fun _ _ _ => False)
    (hcx : ∀ H e s', cx [] H s₁ (fun _ _ _ => False) e s' → False) :
    codeAny (model P w) callerA (.call (.ref fa) ⟨[.ref a], []⟩)
      (fun r s' => r = .ok (.ret (.bool true)) ∧ OldK s₁.heap s'.heap ∧ s'.os = s₁.os ∧ AllBare s'.gens) s₁ := by
  have vals := vals_ints hi
  have vlen := hi.length
  have naT : a ≠ T := by
    rintro rfl
    have e := ha.symm.trans th.emp
    cases (show Data.seq vs.toArray _ = Data.fields #[] from congrArg Obj.data (Option.some.inj e))
  obtain ⟨u, hu, hS, hK⟩ : ∃ u : Option HO, (u = none ∨ u = some (.frz { cls := .type "list", data := .seq vs.toArray } (.lst (ns.map V.int)))) ∧ SqL K (HT0 T a u) a (ns.map V.int) ∧ (u ≠ none → K.lookup a = none) := by
    cases hk : K.lookup a with
    | some o =>
      have e := KX a o hk
      rw [ha] at e
      cases e
      exact ⟨none, .inl rfl, .inr ⟨_, vs.toArray, _, hk, rfl, rfl, rfl, by rw [List.size_toArray, vlen]; exact hl, by simpa using vals⟩, fun z => absurd rfl z⟩
    | none => exact ⟨_, .inr rfl, .inl (.inr ⟨_, HT0.a naT⟩), fun _ => rfl⟩
  have hok : HOk P w (HT0 T a u) s₁.heap := by
    intro b o z
    by_cases bT : b = T
    · subst bT
      cases HT0.t.symm.trans z
      exact th.emp
    · by_cases ba : b = a
      · subst ba
        rw [HT0.a naT] at z
        rcases hu with rfl | rfl
        · cases z
        · cases z
          exact ⟨ha, by rw [List.length_map]; exact hl, vs, _, vals, ha⟩
      · cases (HT0.n bT ba).symm.trans z
  -- what is neither a list nor an empty thing of fields is not looked at
  have off : ∀ {b : Addr} {o : Obj}, s₁.heap.get? b = some o → (∀ z m, o.data = .seq z m → False) → (o.data = .fields #[] → False) → HT0 T a u b = none := by
    intro b o e n1 n2
    refine HT0.n ?_ ?_
    · rintro rfl
      obtain rfl := Option.some.inj (th.emp.symm.trans e)
      exact n2 rfl
    · rintro rfl
      obtain rfl := Option.some.inj (ha.symm.trans e)
      exact n1 _ _ rfl
  have keepN : ∀ {b : Addr} {o : Obj}, s₁.heap.get? b = some o → HT0 T a u b = none → (hidT s₁.heap (HT0 T a u)).get? b = some o := fun e n => hidT_get e n
  have nsK : ∀ {b : Addr} {m : Str → Option Value}, s₁.heap.Ns b m → (hidT s₁.heap (HT0 T a u)).Ns b m := by
    rintro b m ⟨o, es, ep, e, d, r⟩
    exact ⟨o, es, ep, keepN e (off e (fun _ _ z => by rw [d] at z; cases z) fun z => by rw [d] at z; cases z), d, r⟩
  have hKb : K.In (hidT s₁.heap (HT0 T a u)) := by
    intro b o e
    refine keepN (KX b o e) ?_
    by_cases bT : b = T
    · subst bT
      rw [th.out] at e
      cases e
    · by_cases ba : b = a
      · subst ba
        rw [HT0.a naT]
        rcases hu with rfl | rfl
        · rfl
        · rw [hK (fun z => nomatch z)] at e
          cases e
      · exact HT0.n bT ba
  have nGT : mainGlobals ≠ T := by
    intro z
    obtain ⟨o, es, ep, e, d, _⟩ := hns
    rw [z] at e
    obtain rfl := Option.some.inj (th.emp.symm.trans e)
    cases d
  have tb : TabB (hidT s₁.heap (HT0 T a u)) mg c T := by
    refine ⟨?_, ?_, nGT⟩
    · obtain ⟨o, us, file, tf, flags, tg, inF, text, tt, e1, r1, r2, r3, rest⟩ := th.hd
      refine ⟨o, us, file, tf, flags, tg, inF, text, tt, keepN e1 (off e1 (fun _ _ z => ?_) fun z => ?_), r1, r2, r3, rest⟩
      · rw [r2] at z; cases z
      · rw [r2] at z
        cases z
        simp at r3
    · obtain ⟨bm, ob, b1, b2, b3, b4, b5, b6⟩ := hbm
      have kp := keepN b3 (off b3 (fun _ _ z => by rw [b6] at z; cases z) fun z => by rw [b6] at z; cases z)
      refine ⟨bm, ob, b1, b2, ?_, ?_, kp, b4, b5, b6⟩
      · rintro rfl
        obtain ⟨o, es, ep, e, d, _⟩ := hns
        obtain rfl := Option.some.inj (b3.symm.trans e)
        rw [b6] at d
        cases d
      · rintro rfl
        obtain rfl := Option.some.inj (th.emp.symm.trans b3)
        cases b6
  obtain ⟨mc, l1, l2⟩ := hlim
  have hM : Mod K mg (hidT s₁.heap (HT0 T a u)) := ⟨hKb, nsK hns, ⟨mb, nsK hb, hbb⟩, ⟨mc, nsK l1, l2⟩⟩
  have nil : ∀ b : Addr, b ∉ ([] : List Addr) := fun b z => nomatch z
  have e0 : Env0 P w K mg (hidT s₁.heap (HT0 T a u)) callerA [] s₁ (HT0 T a u) :=
    ⟨rfl, hM, fun b o e => of_hidT e, Nat.le_of_eq (hidT_size _ _), trivial, fun b hb => absurd (show b ∈ ([] : List Addr) from hb) (nil b), hok, .of_eq hg⟩
  have run := (F _ hKb (nsK hns) tb).go callerA [] s₁ (HT0 T a u) ⟨[.ref a], []⟩ [.ref a] [.ref a] _ _ rfl hr e0 (hbind s₁ (.ref a)) (.cons rfl .nil) (hsp _ HT0.t hS)
  refine codeAny_mono run ?_
  intro r s' h
  match r, h with
  | .error e, h => exact (hcx _ e s' h).elim
  | .ok (.ret z), ⟨v, H', os, bare, un, hok', r', q⟩ =>
    obtain rfl : v = .bl true := q
    obtain rfl : z = Value.bool true := r'
    -- the table may have grown, all else stands
    have rest : ∀ b o, b ≠ T → s₁.heap.get? b = some o → s'.heap.get? b = some o := by
      intro b o bT e
      by_cases ba : b = a
      · subst ba
        rcases hu with rfl | rfl
        · exact un.keep b o e (HT0.a naT) (fun z => absurd (show b ∈ ([] : List Addr) from z) (nil b)) (nil b)
        · obtain ⟨e2, _⟩ := hok' b _ (un.frzs b _ _ (HT0.a naT))
          rw [ha] at e
          obtain rfl := Option.some.inj e
          exact e2
      · exact un.keep b o e (HT0.n bT ba) (fun z => absurd (show b ∈ ([] : List Addr) from z) (nil b)) (nil b)
    obtain ⟨more, hmore⟩ := un.tbls T #[] HT0.t
    have grown := hok' T _ hmore
    refine ⟨rfl, ⟨fun b o e => ?_, fun b o e => ?_⟩, os, bare⟩
    · by_cases bT : b = T
      · subst bT
        obtain rfl := Option.some.inj (th.emp.symm.trans e)
        refine .inr (.inl ⟨(th.hd.tab th.emp).isCodeTable, rfl, #[], more, rfl, ?_⟩)
        rw [Array.empty_append]
        have g := grown
        rw [Array.empty_append] at g
        exact g
      · exact .inl (rest b o bT e)
    · by_cases bT : b = T
      · subst bT
        exact ⟨_, grown⟩
      · exact ⟨o, rest b o bT e⟩

theorem walkT {l : PySem.W.OpenLaw} {n k : Nat} {q : Program} {loose : List Str} {XP : (Str → Option Value) → Heap → Prop} {YP : World → Heap → Prop}
    {d : DefRec} {K : Params → PySem.W.Frag} {cx : World → CXT} {sp : World → Addr → Sp} {x : Str}
    (hn : l.most = some n) (hn2 : n ≤ sizeLine) (hdf : d.params.defaults = []) (hr : Room k callerA)
    (hY : ∀ (w : World) (h : Heap), YP w h → (K w.params).In h)
    (F : ∀ (w : World) (mg : Str → Option Value) (fa : Addr) (h : Heap), YP w h → (K w.params).In h → h.Ns mainGlobals mg → mg d.name = some (.ref fa) →
      ∃ (fd : FuncData) (c T : Addr), TabHd (K w.params) h c T ∧ (∀ (s : Shared) (u : Value), BindsTo s fd ⟨[u], []⟩ [(x, u)]) ∧
        ∀ base : Heap, (K w.params).In base → base.Ns mainGlobals mg → TabB base mg c T → OkG l.prog w (K w.params) mg base (cx w) k fa fd [x] (sp w T))
    (hsp : ∀ (w : World) (T : Addr) (H : Hp) (a : Addr) (ns : List Int), ns.length ≤ n → H T = some (.tbl #[]) → SqL (K w.params) H a (ns.map V.int) → sp w T [.ref a] H (fun v _ => v = .bl true) fun _ _ _ => False)
    (hcx : ∀ (w : World) (H : Hp) (s : Shared) (e : Value) (s' : Shared), cx w [] H s (fun _ _ _ => False) e s' → False) :
    PySem.W.WalkO q loose XP YP l.row.toRowW d [] (fun f vs => PySem.call f vs) := by
  refine Att.attach_callB hn hdf ?_
  intro w s₀ s₁ mg mb fa o pm cd doc a vs ns G Y ho hd hcd hmg hobj hints hlen hbits hg
  have KX := hY w _ Y
  obtain ⟨fd, c, T, th, hb, hF⟩ := F w mg fa _ Y KX G.T.g hmg
  exact endT KX G.T.g G.T.b G.T.builtins G.T.nolimit hg th G.T.bmain hobj hints (Nat.le_trans hlen hn2) hr hF hb (fun H hH hS => hsp w T H a ns hlen hH hS) (fun H e s' => hcx w H s₁ e s')
end DC
-- K15r
set_option Elab.async false
set_option linter.all false
set_option maxRecDepth 100000
set_option maxHeartbeats 4000000
namespace K15
open PySem L2 DC LamX
theorem dp_pr {K : PySem.W.Frag} {H : Hp} {v : V} {p : J2} (h : Dp K H v (.tuple [.int (p.1 : Nat), .int (p.2 : Nat)])) : Pr K H v p := by
  obtain ⟨t, x, y, rfl, hS, h1, h2⟩ := dp_tup2 h
  cases h1
  cases h2
  exact ⟨t, rfl, hS⟩
theorem dp_prs {K : PySem.W.Frag} {H : Hp} : ∀ {vs : List V} {js : List J2}, DpAll K H vs (js.map fun p => .tuple [.int (p.1 : Nat), .int (p.2 : Nat)]) → Paired (Pr K H) vs js
  | _, [], h => by
    cases h
    exact .nil
  | _, p :: js, h => by
    rw [List.map_cons] at h
    cases h with
    | cons a t => exact .cons (dp_pr a) (dp_prs t)
theorem dp_ly {K : PySem.W.Frag} {H : Hp} {v : V} {n : Nat} {js : List J2} (h : Dp K H v (layD n js)) : Ly K H v n js := by
  obtain ⟨t, x, y, rfl, hS, h1, h2⟩ := dp_tup2 h
  cases h1
  cases h2 with
  | tup hT ha => exact ⟨t, _, rfl, hS, _, _, rfl, hT, dp_prs ha⟩
theorem dsL {n : Nat} {zn : Int} (hn : zn = (n : Nat)) {t : TA} {js : List J2} (h : DspA t (js.map fun p => .tuple [.int (p.1 : Nat), .int (p.2 : Nat)])) (hl : js.length ≤ 1000) : Dsp (tTup (tCons (tI zn) (tCons (tTup t) tNil))) (layD n js) := by
  subst hn
  exact .tup (.cons (.int _) (.cons (.tup h (by rw [List.length_map]; exact hl)) .nil)) (by show 2 ≤ 1000; decide)
theorem lyM {K : PySem.W.Frag} {H H' : Hp} {m lm : Addr} (s : SameX m H H') (hm : MAt H m lm) {v : V} {n : Nat} {js : List J2} : Ly K H v n js → Ly K H' v n js
  | ⟨t, u, q, h, tj, ws, qj, hj, hp⟩ => ⟨t, u, q, sqT_m s hm h, tj, ws, qj, sqT_m s hm hj, L2.Paired.mapP hp fun _ _ ⟨t, q, h⟩ => ⟨t, q, sqT_m s hm h⟩⟩
theorem tabsM {H H' : Hp} {m lm : Addr} {T : List (Addr × Str)} (s : SameX m H H') (hm : MAt H m lm) (t : Tabs T H) : Tabs T H' := by
  obtain ⟨cs, b, x, hd, _⟩ := hm
  have ne : ∀ {a : Addr} {u : HO}, H a = some u → (∀ kvs, u ≠ .dK kvs) → a ≠ m := by
    rintro a u e hu rfl
    rw [hd] at e
    exact hu _ (Option.some.inj e).symm
  intro p hp
  obtain ⟨ps, h1, h2, h3⟩ := t p hp
  refine ⟨ps, s _ _ (ne h1 (fun _ z => nomatch z)) h1, h2, fun pos cv hc => ?_⟩
  obtain ⟨c, e1, e2⟩ := h3 pos cv hc
  exact ⟨c, e1, s _ _ (ne e2 (fun _ z => nomatch z)) e2⟩
theorem matX {H H' : Hp} {m l : Addr} (e : ExtN H H') : MAt H m l → MAt H' m l
  | ⟨cs, a, x, h1, h2, r⟩ => ⟨cs, a, x, dkX e h1, lstX e h2, r⟩
section
variable {n : Nat} {js ls : List J2} {a k : Nat} {row : List Nat} {kd : Str}
end
end K15
-- K15ta
set_option Elab.async false
set_option linter.all false
set_option maxRecDepth 100000
set_option maxHeartbeats 4000000
namespace K15
open PySem L2 DC
abbrev Lot := List (Str × Nat)
def szs (ps : List (Str × List Nat)) : Lot := ps.map fun p => (p.1, p.2.length)
def PcOk (p : Str × Nat) : Prop := (p.1 = "odd" ∧ p.2 % 2 = 1) ∨ ((p.1 = "ring" ∨ p.1 = "open" ∨ p.1 = "shut") ∧ 2 ≤ p.2 ∧ p.2 % 2 = 0)
def szSum (l : Lot) : Nat := (l.map fun p => p.2).sum
theorem pc_pos {p : Str × Nat} (h : PcOk p) : 1 ≤ p.2 := by
  rcases h with ⟨_, h⟩ | ⟨_, h, _⟩ <;> omega
section
variable {P : Program} {w : World} {K : PySem.W.Frag} {mg : Str → Option Value} {base : Heap}
end
end K15

set_option Elab.async false
set_option linter.all false
set_option maxRecDepth 100000
set_option maxHeartbeats 4000000
namespace K15
open PySem L2 DC
def pcost (k : Str) (s : Nat) : Int := if k = "ring" then ((s / 2 : Nat) : Int) - 1 else ((s / 2 : Nat) : Int)
section
variable {P : Program} {w : World} {K : PySem.W.Frag} {mg : Str → Option Value} {base : Heap}
def spPco : Sp := fun vs H Q _ => ∃ (k : Str) (s : Nat), vs = [.str k, .int (s : Nat)] ∧ Q (.int (pcost k s)) H
theorem sc23' : FnScope ["kind", "size"] ["kind", "size"] (defScope (top 30)) := ⟨rfl, rfl, rfl, by decide +kernel, rfl, by decide +kernel, by decide +kernel⟩
theorem okPco {f : Addr} {fd : FuncData} (F : Fun K "piece_cost" "piece_cost" (top 30) f fd) : OkF P w K mg base 1 f fd ["kind", "size"] spPco := by
  refine ok0 F sc23' (fun vs H Q E h => ?_) (fun cdv A outer s H vs Q E hgd hr h => ?_)
  · obtain ⟨k, s, rfl, _⟩ := h; rfl
  · obtain ⟨k, s, rfl, q⟩ := h
    refine ⟨_, pss_one (ps_ret (pe_ifExp (pt_cmpR op_eq (pv 0) pe_str (nomark _)) (pe_op op_sub (pe_op op_fdiv (pv 1) pe_int) pe_int) (pe_op op_fdiv (pv 1) pe_int))), ?_⟩
    refine ⟨_, rfl, rfl, _, rfl, ?_⟩
    unfold pcost at q
    by_cases c : k = "ring"
    · rw [if_pos c] at q
      rw [decide_eq_true (show V.str k = V.str "ring" by rw [c])]
      exact iteT ⟨_, rfl, (s : Nat), 2, rfl, rfl, ⟨by decide, by decide⟩, _, 1, rfl, rfl, q⟩
    · rw [if_neg c] at q
      rw [decide_eq_false (show ¬ V.str k = V.str "ring" from fun z => c (V.str.inj z))]
      exact iteF ⟨_, rfl, (s : Nat), 2, rfl, rfl, ⟨by decide, by decide⟩, q⟩
end
end K15

set_option Elab.async false
set_option linter.all false
set_option maxRecDepth 100000
set_option maxHeartbeats 4000000
namespace K15
open PySem L2 DC LamX
theorem szSum_cons (p : Str × Nat) (l : Lot) : szSum (p :: l) = p.2 + szSum l := by
  unfold szSum
  rw [List.map_cons, List.sum_cons]
section
variable {f g : Nat → Option Nat} {b s : Nat}
end
section
variable {n b s : Nat} {js ls A : List J2}
end
section
variable {n : Nat} {js ls : List J2}
end
end K15

set_option Elab.async false
set_option linter.all false
set_option maxRecDepth 100000
set_option maxHeartbeats 4000000
namespace K15
open PySem L2 DC LamX
theorem flat_nd : ∀ {ps : List (Str × List Nat)}, (∀ p ∈ ps, p.2.Nodup) → ps.Pairwise (fun p q => ∀ e, e ∈ p.2 → e ∉ q.2) → (ps.flatMap fun p => p.2).Nodup
  | [], _, _ => List.nodup_nil
  | p :: ps, h, d => by
    have d' := List.pairwise_cons.mp d
    rw [List.flatMap_cons]
    refine List.nodup_append.mpr ⟨h p List.mem_cons_self, flat_nd (fun q hq => h q (List.mem_cons_of_mem _ hq)) d'.2, fun a ha b hb e => ?_⟩
    subst e
    obtain ⟨q, hq, hm⟩ := List.mem_flatMap.mp hb
    exact d'.1 q hq a ha hm
theorem flat_len : ∀ ps : List (Str × List Nat), (ps.flatMap fun p => p.2).length = szSum (szs ps)
  | [] => rfl
  | p :: ps => by
    rw [List.flatMap_cons, List.length_append, flat_len ps]
    show _ = szSum ((p.1, p.2.length) :: szs ps)
    rw [szSum_cons]
section
variable {n : Nat} {js ls : List J2} {ps qs : List (Str × List Nat)}
theorem web_sum (W : IsWeb n js ls ps) (g1 : Good n js) (g2 : Good n ls) : szSum (szs ps) = 2 * n := by
  have dis : ps.Pairwise (fun p q => ∀ e, e ∈ p.2 → e ∉ q.2) := by
    refine List.Pairwise.imp_of_mem (fun {p q} hp hq hne e h1 h2 => ?_) W.nd
    exact hne (wpc_uniq g1 g2 ((W.mem p).mp hp) ((W.mem q).mp hq) h1 h2)
  have nd := flat_nd (fun p hp => wpc_nd ((W.mem p).mp hp)) dis
  have pm : (ps.flatMap fun p => p.2).Perm (List.range (2 * n)) := by
    refine (List.perm_ext_iff_of_nodup nd List.nodup_range).mpr fun e => ?_
    rw [List.mem_flatMap, List.mem_range]
    constructor
    · rintro ⟨p, hp, he⟩
      exact wpc_lt ((W.mem p).mp hp) e he
    · intro he
      exact W.cov g1 g2 e he
  rw [← flat_len, pm.length_eq, List.length_range]
theorem pc_wpc (g1 : Good n js) (g2 : Good n ls) {p : Str × List Nat} (h : Wpc n js ls p) : PcOk (p.1, p.2.length) := by
  obtain ⟨a, ha, c, ⟨hl, ⟨kd, hP, ek⟩, _⟩ | ⟨hn, ek, ⟨k, R, er⟩, _⟩⟩ := h
  · have hk : kd = "open" ∨ kd = "shut" := by
      obtain ⟨_, ⟨_, _, _, e⟩ | ⟨_, _, _, e⟩⟩ := hP
      · exact .inl e
      · exact .inr e
    have pos : 0 < p.2.length := List.length_pos_of_mem c.beg
    unfold oddK at ek
    by_cases o : p.2.length % 2 = 1
    · rw [if_pos o] at ek
      exact .inl ⟨ek, o⟩
    · rw [if_neg o] at ek
      refine .inr ⟨?_, by show 2 ≤ p.2.length; omega, by show p.2.length % 2 = 0; omega⟩
      show p.1 = "ring" ∨ p.1 = "open" ∨ p.1 = "shut"
      rw [ek]
      exact .inr hk
  · have pos := R.pos
    have hlen : p.2.length = k := by rw [er, rj_len]
    have ev : k % 2 = 0 := by
      rcases R.fin with z | z
      · exfalso
        obtain ⟨y, hy⟩ := R.all (k - 1) (by omega)
        have hm : y ∈ p.2 := by
          rw [er]
          exact (mem_rj R.toPj).mpr ⟨k - 1, by omega, hy⟩
        have e := jt_next hy
        rw [show k - 1 + 1 = k by omega, z] at e
        refine hn y hm ?_
        unfold hh at e
        split at e
        · exact .inl e.symm
        · exact .inr e.symm
      · by_cases o : k % 2 = 0
        · exact o
        · rw [show k = 0 + (2 * (k / 2) + 1) by omega] at z
          exact (jt_odd g1.mt g2.mt (k / 2) 0 a rfl z).elim
    refine .inr ⟨.inl ek, ?_, ?_⟩
    · show 2 ≤ p.2.length
      omega
    · show p.2.length % 2 = 0
      omega
end
end K15
-- C16
set_option Elab.async false
set_option linter.all false
set_option maxRecDepth 100000
set_option maxHeartbeats 4000000
/-! C16: what a web costs, reckoned. -/
namespace DC
open PySem L2
def hpx (f g : Nat → Option Nat) : Nat → List Nat → Nat → List Nat
  | 0, hl, _ => hl
  | k + 1, hl, at_ => match hl[at_]? with
    | some x => hpx f g k (gr (gr hl (ptn f x)) (ptn g x)) (at_ + 1)
    | none => hl
theorem hpx_ok {f g : Nat → Option Nat} {a : Nat} : ∀ (k : Nat) {hl : List Nat} {at_ j : Nat}, Hh f g a hl at_ j → ∃ at', Hh f g a (hpx f g k hl at_) at' (j + k)
  | 0, hl, at_, j, h => ⟨at_, h⟩
  | k + 1, hl, at_, j, h => by
    unfold hpx
    cases e : hl[at_]? with
    | some x =>
      obtain ⟨at', h'⟩ := hpx_ok k (h.next e)
      exact ⟨at', by rw [show j + (k + 1) = j + 1 + k by omega]; exact h'⟩
    | none =>
      have c : ¬ at_ < hl.length := fun z => by
        rw [List.getElem?_eq_getElem z] at e
        cases e
      have gen : ∀ i, Hh f g a hl at_ (j + i) := by
        intro i
        induction i with
        | zero => exact h
        | succ i ih => exact ih.stay c
      exact ⟨at_, gen (k + 1)⟩
def hpsx (n : Nat) (js ls : List J2) : Nat → List Nat → List (List Nat) → List (List Nat)
  | 0, _, acc => acc
  | _ + 1, [], acc => acc
  | k + 1, a :: er, acc => hpsx n js ls k ((a :: er).filter fun e => !decide (e ∈ hpx (mt js) (mt ls) (2 * n) [a] 0)) (acc ++ [hpx (mt js) (mt ls) (2 * n) [a] 0])
section
variable {n : Nat} {js ls : List J2}
theorem hpsx_ok (g1 : Good n js) (g2 : Good n ls) : ∀ (k : Nat) {es : List Nat} {acc : List (List Nat)} {i : Nat}, Ho n js ls (acc.map asc) es i → i + k = 2 * n → Hps n js ls ((hpsx n js ls k es acc).map asc)
  | 0, es, acc, i, h, e => by
    obtain rfl : i = 2 * n := by omega
    exact h.fin
  | k + 1, [], acc, i, h, e => by
    unfold hpsx
    have gen : ∀ d, Ho n js ls (acc.map asc) [] (i + d) := by
      intro d
      induction d with
      | zero => exact h
      | succ d ih => exact ih.stay
    have := gen (k + 1)
    rw [e] at this
    exact this.fin
  | k + 1, a :: er, acc, i, h, e => by
    unfold hpsx
    have ha := h.lt a List.mem_cons_self
    obtain ⟨at', hh⟩ := hpx_ok (f := mt js) (g := mt ls) (2 * n) (Hh.zero (f := mt js) (g := mt ls) (a := a))
    rw [Nat.zero_add] at hh
    have c := hh.fin g1.mt g2.mt ha
    have h' := h.next g1 g2 c
    refine hpsx_ok g1 g2 k (i := i + 1) ?_ (by omega)
    rw [List.map_append]
    exact h'
def hset (n : Nat) (js ls : List J2) : List (List Nat) := hpsx n js ls (2 * n) (List.range (2 * n)) []
theorem hset_ok (g1 : Good n js) (g2 : Good n ls) : Hps n js ls ((hset n js ls).map asc) := hpsx_ok g1 g2 (2 * n) Ho.zero (Nat.zero_add _)
def isRg (js ls : List J2) (h : List Nat) : Bool := cn js h == 0 && cn ls h == 0
def isOd (js : List J2) (h : List Nat) : Bool := cn js h == 1
def rgs (n : Nat) (js ls : List J2) : Nat := (hset n js ls).countP (isRg js ls)
def ods (n : Nat) (js ls : List J2) : Nat := (hset n js ls).countP (isOd js)
def cst (n : Nat) (js ls : List J2) : Nat := n - rgs n js ls - ods n js ls / 2
theorem cnt_asc (q : List Nat → Bool) (hq : ∀ {h h' : List Nat}, h.Perm h' → q h = q h') {ps : List (Str × List Nat)} (g1 : Good n js) (g2 : Good n ls) (W : IsWeb n js ls ps) : (hset n js ls).countP q = ps.countP fun p => q p.2 := by
  have pm := (hset_ok g1 g2).perm W g1 g2
  have e := pm.countP_eq q
  rw [List.countP_map, List.countP_map] at e
  have c1 : (hset n js ls).countP (q ∘ asc) = (hset n js ls).countP q := List.countP_congr fun x _ => by
    show q (asc x) = true ↔ q x = true
    rw [hq (asc_perm x)]
  have c2 : ps.countP (q ∘ fun p => asc p.2) = ps.countP fun p => q p.2 := List.countP_congr fun x _ => by
    show q (asc x.2) = true ↔ q x.2 = true
    rw [hq (asc_perm x.2)]
  rw [← c1, e, c2]
theorem rgs_web {ps : List (Str × List Nat)} (g1 : Good n js) (g2 : Good n ls) (W : IsWeb n js ls ps) : rgs n js ls = ps.countP fun p => p.1 == (("ring" : Str)) := by
  unfold rgs
  rw [cnt_asc (isRg js ls) (fun p => by unfold isRg; rw [cn_perm p, cn_perm p]) g1 g2 W]
  refine List.countP_congr fun p hp => ?_
  have h := wpc_cnt g1 g2 ((W.mem p).mp hp)
  unfold isRg
  rcases h with ⟨a, b, c⟩ | ⟨a, b, c⟩ | ⟨a, b, c⟩ | ⟨a, b, c⟩ <;> rw [a, b, c] <;> decide +kernel
theorem ods_web {ps : List (Str × List Nat)} (g1 : Good n js) (g2 : Good n ls) (W : IsWeb n js ls ps) : ods n js ls = ps.countP fun p => p.1 == (("odd" : Str)) := by
  unfold ods
  rw [cnt_asc (isOd js) (fun p => by unfold isOd; rw [cn_perm p]) g1 g2 W]
  refine List.countP_congr fun p hp => ?_
  have h := wpc_cnt g1 g2 ((W.mem p).mp hp)
  unfold isOd
  rcases h with ⟨a, b, c⟩ | ⟨a, b, c⟩ | ⟨a, b, c⟩ | ⟨a, b, c⟩ <;> rw [a, c] <;> decide +kernel
end
end DC
-- K15u
set_option Elab.async false
set_option linter.all false
set_option maxRecDepth 100000
set_option maxHeartbeats 4000000
namespace K15
open PySem L2 DC LamX
/-! costs -/
def lcost (l : Lot) : Int := (l.map fun p => pcost p.1 p.2).sum
theorem isum_perm {l m : List Int} (h : l.Perm m) : l.sum = m.sum := by
  induction h with
  | nil => rfl
  | cons x _ ih => rw [List.sum_cons, List.sum_cons, ih]
  | swap x y l =>
    rw [List.sum_cons, List.sum_cons, List.sum_cons, List.sum_cons]
    omega
  | trans _ _ h1 h2 => exact h1.trans h2
theorem lcost_sum : ∀ {l : Lot}, (∀ p ∈ l, PcOk p) → 2 * lcost l + 2 * ((l.countP fun p => p.1 == (("ring" : Str)) : Nat) : Int) + ((l.countP fun p => p.1 == (("odd" : Str)) : Nat) : Int) = (szSum l : Nat)
  | [], _ => rfl
  | p :: l, h => by
    have ih := lcost_sum (l := l) fun q hq => h q (List.mem_cons_of_mem _ hq)
    have hp := h p List.mem_cons_self
    have ec : lcost (p :: l) = pcost p.1 p.2 + lcost l := by
      unfold lcost
      rw [List.map_cons, List.sum_cons]
    rw [ec, szSum_cons, List.countP_cons, List.countP_cons]
    rcases hp with ⟨e, o⟩ | ⟨e, h2, o⟩
    · have c1 : (p.1 == (("ring" : Str))) = false := by rw [e]; decide +kernel
      have c2 : (p.1 == (("odd" : Str))) = true := by rw [e]; decide +kernel
      have c3 : pcost p.1 p.2 = ((p.2 / 2 : Nat) : Int) := by
        unfold pcost
        rw [if_neg (by rw [e]; decide +kernel)]
      rw [c1, c2, c3]
      simp only [Bool.false_eq_true, if_false, if_true]
      omega
    · rcases e with e | e | e
      · have c1 : (p.1 == (("ring" : Str))) = true := by rw [e]; decide +kernel
        have c2 : (p.1 == (("odd" : Str))) = false := by rw [e]; decide +kernel
        have c3 : pcost p.1 p.2 = ((p.2 / 2 : Nat) : Int) - 1 := by
          unfold pcost
          rw [if_pos e]
        rw [c1, c2, c3]
        simp only [Bool.false_eq_true, if_false, if_true]
        omega
      all_goals
        have c1 : (p.1 == (("ring" : Str))) = false := by rw [e]; decide +kernel
        have c2 : (p.1 == (("odd" : Str))) = false := by rw [e]; decide +kernel
        have c3 : pcost p.1 p.2 = ((p.2 / 2 : Nat) : Int) := by
          unfold pcost
          rw [if_neg (by rw [e]; decide +kernel)]
        rw [c1, c2, c3]
        simp only [Bool.false_eq_true, if_false]
        omega
theorem lcost_nn : ∀ {l : Lot}, (∀ p ∈ l, PcOk p) → 0 ≤ lcost l
  | [], _ => Int.le_refl _
  | p :: l, h => by
    have ih := lcost_nn (l := l) fun q hq => h q (List.mem_cons_of_mem _ hq)
    have ec : lcost (p :: l) = pcost p.1 p.2 + lcost l := by
      unfold lcost
      rw [List.map_cons, List.sum_cons]
    have hp := h p List.mem_cons_self
    have : 0 ≤ pcost p.1 p.2 := by
      unfold pcost
      by_cases c : p.1 = "ring"
      · rw [if_pos c]
        have h2 : 2 ≤ p.2 := by
          rcases hp with ⟨e, _⟩ | ⟨_, h2, _⟩
          · rw [c] at e
            exact absurd e (by decide +kernel)
          · exact h2
        omega
      · rw [if_neg c]
        omega
    omega
section
variable {n : Nat} {js ls : List J2} {ps : List (Str × List Nat)}
theorem web_cost (g1 : Good n js) (g2 : Good n ls) (W : IsWeb n js ls ps) : lcost (szs ps) = (cst n js ls : Nat) ∧ (n : Int) - ((cntK ps "ring" : Nat) : Int) - ((cntK ps "odd" : Nat) : Int) / 2 = (cst n js ls : Nat) := by
  have ok : ∀ p ∈ szs ps, PcOk p := by
    intro p hp
    obtain ⟨q, hq, rfl⟩ := List.mem_map.mp hp
    exact pc_wpc g1 g2 ((W.mem q).mp hq)
  have h := lcost_sum ok
  have h0 := lcost_nn ok
  rw [web_sum W g1 g2] at h
  have e1 : (szs ps).countP (fun p => p.1 == (("ring" : Str))) = cntK ps "ring" := by
    unfold szs cntK
    rw [List.countP_map]
    rfl
  have e2 : (szs ps).countP (fun p => p.1 == (("odd" : Str))) = cntK ps "odd" := by
    unfold szs cntK
    rw [List.countP_map]
    rfl
  have r1 : rgs n js ls = cntK ps "ring" := rgs_web g1 g2 W
  have r2 : ods n js ls = cntK ps "odd" := ods_web g1 g2 W
  rw [e1, e2] at h
  unfold cst
  rw [r1, r2]
  omega
end
section
variable {P : Program} {w : World} {K : PySem.W.Frag} {mg : Str → Option Value} {base : Heap}
def spCo (K : PySem.W.Frag) (Pt : Addr) : Sp := fun vs H Q _ => ∃ (v1 v2 : V) (n : Nat) (js ls : List J2), vs = [v1, v2] ∧ Ly K H v1 n js ∧ Ly K H v2 n ls ∧ Good n js ∧ Good n ls ∧ Tabs (Tw Pt) H ∧
  ∀ (H' : Hp), ExtN H H' → Tabs (Tw Pt) H' → Q (.int (cst n js ls : Nat)) H'
abbrev NCo : List Str := ["one", "other", "kind", "size"]
theorem sc25 : FnScope NCo ["one", "other"] (defScope (top 33)) := ⟨rfl, rfl, rfl, by decide +kernel, rfl, by decide +kernel, by decide +kernel⟩
theorem okCo {f fS fP Pt : Addr} {fd fdS fdP : FuncData} (F : Fun K "cost_of" "cost_of" (top 33) f fd) (B : Bn mg)
    (DS : Df K mg "sizes_of" fS fdS ["one", "other"]) (GS : OkF P w K mg base 4 fS fdS ["one", "other"] (spSz K Pt))
    (DP : Df K mg "piece_cost" fP fdP ["kind", "size"]) (GP : OkF P w K mg base 1 fP fdP ["kind", "size"] spPco) : OkF P w K mg base 5 f fd ["one", "other"] (spCo K Pt) := by
  refine ok0 F sc25 (fun vs H Q E h => ?_) (fun cdv A outer s H vs Q E hgd hr h => ?_)
  · obtain ⟨v1, v2, n, js, ls, rfl, _⟩ := h; rfl
  · obtain ⟨v1, v2, n, js, ls, rfl, y1, y2, g1, g2, hT, q⟩ := h
    have nd := sc25.nd
    have hr1 : Room 1 _ := hr.mono (by decide)
    refine ⟨_, pss_one (ps_ret (pe_callB (cr_sum rfl) (by rfl) B.sum (by decide +kernel) (pa_cons
      (pe_lc (own := [("kind", 2), ("size", 3)]) (g := gTup K 2 (gCons (gName 2) (gCons (gName 3) gNil))) (tt := tYes) rfl nd (pi_tup (cl DS GS hgd hr (pa_cons (pv 0) (pa_cons (pv 1) pa_nil)))) (blkOk_by (N := NCo) (sc := defScope (top 33)) (by decide +kernel))
        (fun _ _ _ _ _ => pg_tup (by rfl) (pgs_cons (pg_name (i := 2) nd rfl (Or.inl rfl)) (pgs_cons (pg_name (i := 3) nd rfl (Or.inl rfl)) pgs_nil))) (fun _ _ _ _ _ => pts_nil)
        (fun _ _ _ _ _ => cl DP GP hgd hr1 (pa_cons (pv 2) (pa_cons (pv 3) pa_nil)))) pa_nil))), ?_⟩
    refine ⟨_, rfl, _, rfl, v1, v2, n, js, ls, rfl, y1, y2, g1, g2, hT, fun ps bs r xs H1 W' cov EN T1 hr1 hd => ?_⟩
    have W := W'.web g1 g2 cov
    have tp := g1.top
    rw [sizesD_map] at hd
    have len : xs.length = (szOrd ps).length := by rw [dpAll_len hd, List.length_map]
    have len2 : (szOrd ps).length ≤ 24 := by
      rw [(szOrd_perm ps).length_eq]
      have := W.len g1 g2
      omega
    refine ⟨r, rfl, ⟨_, SqT.of hr1⟩, fun D hD => ?_⟩
    refine lc_it (walk_tup (xs := xs)) (fun i H' => Same H1 H' ∧ H' D = some (.lst (((szs ((szOrd ps).take i)).map fun p => pcost p.1 p.2).map V.int))) ⟨Same.new hD, upd_same⟩ (fun i H' _ hp => SqT.of (hp.1 _ _ hr1)) ?_ ?_
    · rintro i x Ha Hb hi ⟨sm, hL⟩ ⟨rfl, ex⟩
      obtain ⟨d, ed, dd⟩ := dpAll_at hd ex
      rw [List.getElem?_map] at ed
      obtain ⟨p, ep, rfl⟩ := Option.map_eq_some_iff.mp ed
      obtain ⟨t, rfl, hS⟩ := dp_sz dd
      refine ⟨t, _, rfl, Same.t sm hS, rfl, _, _, rfl, _, _, rfl, rfl, rfl, ?_⟩
      refine yesT ?_
      refine ⟨_, rfl, _, rfl, p.1, p.2.length, rfl, _, hL, ?_, same_put sm hD, ?_⟩
      · rw [List.length_map, List.length_map]
        unfold szs
        rw [List.length_map]
        exact Nat.lt_of_le_of_lt (Nat.le_trans (List.length_take_le' _ _) (show (szOrd ps).length ≤ 1000 by omega)) (by decide)
      · rw [upd_same, take_next (l := szOrd ps) ep]
        unfold szs
        rw [List.map_append, List.map_append, List.map_append]
        rfl
    · rintro H' ⟨sm, hL⟩
      rw [len, List.take_of_length_le (Nat.le_refl _)] at hL
      refine ⟨D, _, rfl, SqL.of hL, ?_⟩
      have e : ((szs (szOrd ps)).map fun p => pcost p.1 p.2).sum = (cst n js ls : Nat) := by
        rw [← (web_cost g1 g2 W).1]
        unfold lcost szs
        exact isum_perm ((((szOrd_perm ps).map _).map _))
      rw [e]
      exact q _ (EN.trans (ExtN.of sm)) (T1.ext sm)
def spLcs (K : PySem.W.Frag) : Sp := fun vs H Q _ => ∃ (v1 v2 : V) (n : Nat) (js ls : List J2), vs = [v1, v2] ∧ Ly K H v1 n js ∧ Ly K H v2 n ls ∧ Good n js ∧ Good n ls ∧
  ∀ (H' : Hp), Same H H' → Q (.int (cst n js ls : Nat)) H'
abbrev NLcs : List Str := ["one", "other", "some", "piece"]
theorem sc51 : FnScope NLcs ["one", "other"] (defScope (top 51)) := ⟨rfl, rfl, rfl, by decide +kernel, rfl, by decide +kernel, by decide +kernel⟩
theorem okLcs {f fP : Addr} {fd fdP : FuncData} (F : Fun K "_law_cost" "_law_cost" (top 51) f fd) (B : Bn mg)
    (DP : Df K mg "_law_pieces" fP fdP ["one", "other"]) (GP : OkF P w K mg base 3 fP fdP ["one", "other"] (spLp K)) : OkF P w K mg base 4 f fd ["one", "other"] (spLcs K) := by
  refine ok0 F sc51 (fun vs H Q E h => ?_) (fun cdv A outer s H vs Q E hgd hr h => ?_)
  · obtain ⟨v1, v2, n, js, ls, rfl, _⟩ := h; rfl
  · obtain ⟨v1, v2, n, js, ls, rfl, y1, y2, g1, g2, q⟩ := h
    have nd := sc51.nd
    refine ⟨_, pss_cons (ps_setLc (i := 2) (own := [("piece", 3)]) (g := gName 3) (tt := tYes) rfl nd rfl rfl (sw_true rfl rfl rfl (by decide +kernel)) (pi_list (cl DP GP hgd hr (pa_cons (pv 0) (pa_cons (pv 1) pa_nil)))) (blkOk_by (N := NLcs) (sc := defScope (top 51)) (by decide +kernel))
          (fun _ _ _ _ _ => pg_name (i := 3) nd rfl (Or.inl rfl)) (fun _ _ _ _ _ => pts_nil) (fun _ _ _ _ _ => pe_ix (r := rIxT K) ix_tup (pv 3) pe_int (fun _ _ => rfl)))
      (pss_one (ps_ret (pe_op op_sub (pe_op op_sub (pe_ix (r := rIxT K) ix_tup (pv 0) pe_int (fun _ _ => rfl)) (pe_bm PySem.F.plainAttrs_list PySem.F.slot_list_count PySem.F.type_list_count mt_countF (pv 2) (pa_cons pe_str pa_nil)))
        (pe_op op_fdiv (pe_bm PySem.F.plainAttrs_list PySem.F.slot_list_count PySem.F.type_list_count mt_countF (pv 2) (pa_cons pe_str pa_nil)) pe_int)))), ?_⟩
    obtain ⟨t1, u1, rfl, hS1, hJ1⟩ := id y1
    have a0 : atI [V.int (n : Nat), u1] 0 = some (.int (n : Nat)) := at_of (j := 0) rfl rfl
    refine ⟨_, rfl, _, rfl, .ref t1, v2, n, js, ls, rfl, y1, y2, g1, g2, fun ps r xs H1 s1 fr hr1 hd W len3 => ?_⟩
    have tp := g1.top
    rw [sizesD_map] at hd
    have len : xs.length = (szOrd ps).length := by rw [dpAll_len hd, List.length_map]
    have len2 : (szOrd ps).length ≤ 24 := by
      rw [(szOrd_perm ps).length_eq]
      omega
    refine ⟨r, rfl, ⟨_, SqL.of hr1⟩, fun D hD => ?_⟩
    refine lc_it (walk_list (xs := xs)) (fun i H' => Same H1 H' ∧ H' D = some (.lst (((szOrd ps).take i).map fun p => V.str p.1))) ⟨Same.new hD, upd_same⟩ (fun i H' _ hp => SqL.of (hp.1 _ _ hr1)) ?_ ?_
    · rintro i x Ha Hb hi ⟨sm, hL⟩ ⟨rfl, ex⟩
      obtain ⟨d, ed, dd⟩ := dpAll_at hd ex
      rw [List.getElem?_map] at ed
      obtain ⟨p, ep, rfl⟩ := Option.map_eq_some_iff.mp ed
      obtain ⟨t, rfl, hS⟩ := dp_sz dd
      refine ⟨rfl, ?_⟩
      refine yesT ?_
      refine ⟨_, rfl, t, _, 0, .str p.1, rfl, rfl, Same.t sm hS, at_of (j := 0) rfl rfl, _, hL, ?_, same_put sm hD, ?_⟩
      · rw [List.length_map]
        exact Nat.lt_of_le_of_lt (Nat.le_trans (List.length_take_le' _ _) (show (szOrd ps).length ≤ 1000 by omega)) (by decide)
      · rw [upd_same, take_next (l := szOrd ps) ep, List.map_append]
        rfl
    · rintro H2 ⟨s2, hL⟩
      rw [len, List.take_of_length_le (Nat.le_refl _)] at hL
      refine gn ?_
      have S2 := s1.trans s2
      have fl : ((szOrd ps).map fun p => V.str p.1).all flatV = true := by
        have := flat_str ((szOrd ps).map fun p => p.1)
        rw [List.map_map] at this
        exact this
      refine ⟨_, rfl, t1, _, 0, _, rfl, rfl, Same.t S2 hS1, a0, ?_⟩
      refine ⟨_, rfl, .inl ⟨rfl, _, SqL.of hL⟩, D, _, .str "ring", rfl, rfl, SqL.of hL, rfl, fl, ?_⟩
      rw [count_kd, cntK_perm (szOrd_perm ps)]
      refine ⟨_, _, rfl, rfl, ?_⟩
      refine ⟨_, rfl, .inl ⟨rfl, _, SqL.of hL⟩, D, _, .str "odd", rfl, rfl, SqL.of hL, rfl, fl, ?_⟩
      rw [count_kd, cntK_perm (szOrd_perm ps)]
      refine ⟨_, 2, rfl, rfl, ⟨by decide, by decide⟩, _, _, rfl, rfl, ?_⟩
      have e := (web_cost g1 g2 W).2
      dsimp only
      rw [e]
      exact q _ S2
end
end K15
-- C15b
set_option Elab.async false
set_option linter.all false
set_option maxRecDepth 100000
set_option maxHeartbeats 4000000
namespace K15
open PySem L2 DC
def mk2 (a b : Nat) : J2 := (min a b, max a b)
def sm2 (p q : J2) : List J2 := if p.1 < q.1 then [p, q] else [q, p]
def stAt (n : Nat) (js : List J2) (k : Nat) (j : J2) : List (List J2 × List J2) :=
  ([j], []) :: ((frees n js).flatMap fun e => [([j], [mk2 j.1 e]), ([j], [mk2 j.2 e])]) ++ (js.drop (k + 1)).flatMap fun o => [([j, o], sm2 (mk2 j.1 o.1) (mk2 j.2 o.2)), ([j, o], sm2 (mk2 j.1 o.2) (mk2 j.2 o.1))]
def stJ (n : Nat) (js : List J2) : List (List J2 × List J2) :=
  ((List.range js.length).flatMap fun k => stAt n js k (js.getD k (0, 0))) ++ (List.range (frees n js).length).flatMap fun k => ((frees n js).drop (k + 1)).map fun b => ([], [((frees n js).getD k 0, b)])
def insJ (p : J2) : List J2 → List J2
  | [] => [p]
  | q :: l => if p.1 ≤ q.1 then p :: q :: l else q :: insJ p l
def srtJ (l : List J2) : List J2 := l.foldr insJ []
def aftJ (js : List J2) (st : List J2 × List J2) : List J2 := srtJ ((js.filter fun p => !decide (p ∈ st.1)) ++ st.2)
end K15
-- DS2
set_option Elab.async false
set_option linter.all false
set_option maxRecDepth 100000
set_option maxHeartbeats 4000000
/-! DS2: sorted of a tuple of data of one shape. -/
namespace DC
open PySem PySem.Spec PyProof.Rows L2 Evl
theorem collect_tuple {prog : Program} {w : World} {A : Around} {E : Value → Shared → Prop} {s : Shared} {l : Addr} {vs : List Value} {Q : List Value → Shared → Prop}
    (hl : s.heap.IsTuple l vs.toArray) (h : Q vs { heap := (s.heap.push (seqObj "list" #[] 0)).update s.heap.objs.size (Obj.mapSeq fun x => x ++ vs.toArray), gens := s.gens, drawn := s.drawn, toks := s.toks, os := s.os })
    (hsz : vs.length ≤ sizeLine) : wpAny (model prog w) A (collect (.ref l)) Q E s := by
  obtain ⟨o, ho, hc, n, hd⟩ := hl
  refine wpAny_bind (wpAny_runValue (codeAny_builtin entry_proto_collect' ?_))
  refine wpAny_bind (wpAny_newList (wpAny_pure ⟨Code.quiet_builtin _ (by decide +kernel), codeAny_builtin entry_list_iadd' ?_⟩))
  have ho' := Heap.get?_push_of_some (seqObj "list" #[] 0) ho
  show wpAny _ _ (Builtin.List.listExtendWith (.ref s.heap.objs.size) (.ref l) (.ref s.heap.objs.size)) _ _ _
  unfold Builtin.List.listExtendWith
  refine wpAny_bind (wpAny_typeOf (v := .ref l) (T := "tuple") (show ∃ o, _ from ⟨o, ho', hc⟩) ?_)
  have e : (Builtin.List.listSameRef (Value.ref s.heap.objs.size) (Value.ref l) || Value.type "tuple" == Value.type "list" || Value.type "tuple" == Value.type "tuple") = true := by
    have : (Value.type "tuple" == Value.type "tuple") = true := rfl
    rw [this, Bool.or_true]
  rw [if_pos e]
  refine wpAny_bind (listItems_at ho' hd ?_)
  refine wpAny_bind (listItems_at (Heap.get?_push_size _ rfl) rfl ?_)
  rw [if_neg (by show ¬ ((!true && _) = true); rw [Bool.not_true, Bool.false_and]; decide)]
  refine wpAny_bind (listUpdate_at (xs := #[]) (n := 0) (Heap.get?_push_size _ rfl) rfl ?_ (Nat.zero_le _) (by
    show (#[] ++ vs.toArray).size ≤ _
    rw [Array.size_append, List.size_toArray]
    exact Nat.le_trans (show 0 + vs.length ≤ sizeLine by omega) (Nat.le_succ _)))
  refine wpAny_pure ?_
  show wpAny (model prog w) A (load s.heap.objs.size >>= _) Q E _
  refine wpAny_bind (wpAny_load (get?_update_seq (c := "list") (xs := #[]) (n := 0) (Heap.get?_push_size _ rfl) _) ?_)
  refine wpAny_pure ?_
  have e2 : (#[] ++ vs.toArray).toList = vs := by simp
  show Q (#[] ++ vs.toArray).toList _
  rw [e2]
  exact h
theorem sorted_of_sortT {prog : Program} {w : World} {A : Around} {E : Value → Shared → Prop} {s : Shared} {l : Addr} {vs : List Value} {kw : List (Str × Value)} {Q : Value → Shared → Prop}
    (hl : s.heap.IsTuple l vs.toArray) (hL : vs.length ≤ sizeLine) (ha1 : argsOk "sorted" { pos := [Value.ref l], kw := kw }) (ha2 : ∀ x : Addr, argsOk "list.sort" { pos := [Value.ref x], kw := kw })
    (body : ∀ E' : Value → Shared → Prop, wpAny (model prog w) A.in1.in1 (Builtin.«list.sort» { pos := [Value.ref (s.heap.objs.size + 1)], kw := kw }) (fun f s' => f = Fin.done (Flow.ret Value.none) ∧ Q (Value.ref (s.heap.objs.size + 1)) s') E'
      { heap := PySem.W.copyHeap s.heap vs, gens := s.gens, drawn := s.drawn, toks := s.toks, os := s.os }) : wpAny (model prog w) A (call (Value.builtin "sorted") [Value.ref l] kw) Q E s := by
  refine call_function_entry_kw kind_sorted plain_sorted entry_sorted ha1 ?_
  refine wpAny_bind (wpAny_pure ?_)
  refine wpAny_bind (collect_tuple hl ?_ hL)
  refine wpAny_bind (wpAny_newList ?_ hL)
  have hsz : ((s.heap.push (seqObj "list" #[] 0)).update s.heap.objs.size (Obj.mapSeq fun x => x ++ vs.toArray)).objs.size = s.heap.objs.size + 1 := by
    rw [Heap.size_update, size_push']
  show wpAny (model prog w) A.in1 (do
      let _ ← holding [Value.ref ((s.heap.push (seqObj "list" #[] 0)).update s.heap.objs.size (Obj.mapSeq fun x => x ++ vs.toArray)).objs.size] (call (Value.builtin "list.sort") [Value.ref ((s.heap.push (seqObj "list" #[] 0)).update s.heap.objs.size (Obj.mapSeq fun x => x ++ vs.toArray)).objs.size] kw)
      ret (Value.ref ((s.heap.push (seqObj "list" #[] 0)).update s.heap.objs.size (Obj.mapSeq fun x => x ++ vs.toArray)).objs.size)) _ E { heap := PySem.W.copyHeap s.heap vs, gens := s.gens, drawn := s.drawn, toks := s.toks, os := s.os }
  rw [hsz]
  refine wpAny_bind (wpAny_holding (wpAny_call_entry_kw slot_list_sort ⟨seqObj "list" vs.toArray 0, PySem.W.copyHeap_at s.heap vs, rfl⟩ entry_list_sort ?_ (ha2 (s.heap.objs.size + 1))))
  refine wpAny_mono (body E) (fun f s' hf => ?_) (fun _ _ e => e)
  obtain ⟨rfl, hq⟩ := hf
  exact ⟨Value.none, rfl, wpAny_pure ⟨Value.ref (s.heap.objs.size + 1), rfl, hq⟩⟩
theorem sorted_dataT {prog : Program} {w : World} {A : Around} {E : Value → Shared → Prop} {s : Shared} {β : Type} {vs : List Value} {bs : List β} {enc : β → PyData} {R : Value → β → Prop} {l : Addr} {Q : Value → Shared → Prop}
    (hl : s.heap.IsTuple l vs.toArray) (e : PySem.W.EachIs R vs bs) (er : PySem.W.EachIs (fun v b => ∃ as, Reads s.heap v (enc b) as) vs bs) (hal : PySem.W.AllAlike (bs.map enc)) (hk : PySem.W.Sortable (bs.map enc)) (hL : bs.length ≤ sizeLine)
    (hu : ∀ b ∈ bs, A.units + 2 + (enc b).depth < cLine)
    (h : ∀ out : List Value, out.length = bs.length → PySem.W.EachIs R out (bs.mergeSort (PySem.W.dataLe false enc)) → Q (Value.ref (s.heap.objs.size + 1)) { heap := sortedAll s.heap vs out.toArray, gens := s.gens, drawn := s.drawn, toks := s.toks, os := s.os }) :
    wpAny (model prog w) A (call (Value.builtin "sorted") [Value.ref l]) Q E s := by
  have er' : PySem.W.EachIs (fun v b => ∃ as, Reads (PySem.W.sortingHeap (PySem.W.copyHeap s.heap vs) (s.heap.objs.size + 1) vs) v (enc b) as) vs bs :=
    PySem.W.EachIs.mono (fun _ _ x => match x with | ⟨as, r⟩ => ⟨as, Reads.keeps (fun _ _ => PySem.W.sorting_copy_old) r⟩) er
  have hvs : vs.length ≤ sizeLine := by rw [PySem.W.EachIs.length e]; exact hL
  refine sorted_of_sortT hl hvs (args_sorted1 (Value.ref l)) (fun x => args_list_sort (Value.ref x)) fun E' => ?_
  refine PySem.W.list_sort_vals (PySem.W.copyHeap_at s.heap vs) (PySem.W.SortsAt.data (PySem.W.each_map enc er') hal hk (PySem.W.bound_map hu)) hvs ⟨rfl, ?_⟩
  refine h _ ?_ (PySem.W.sortVals_data false e er' hal)
  rw [PySem.W.sortVals_length false rfl]
  exact PySem.W.EachIs.length e
def rSortDT (K : PySem.W.Frag) : List V → Hp → VK → Prop := fun vs H Q => ∃ (a : Addr) (xs : List V) (ds : List PyData), vs = [.ref a] ∧ SqT K H a xs ∧ DpAll K H xs ds ∧ PySem.W.AllAlike ds ∧ PySem.W.Sortable ds ∧ (∀ d ∈ ds, d.depth ≤ 60) ∧
  ∀ (ys : List V) (p : Addr), ys.Perm xs → DpAll K H ys (ds.mergeSort (PySem.W.dataLe false id)) → H p = none → Q (.ref p) (upd H p (.lst ys))
theorem cr_sortDT {X : Cx} (hu : X.A.units + 64 < cLine) : CallR X (.builtin "sorted") (rSortDT X.K) := by
  intro pins s σ H vs us Q I r h
  obtain ⟨a, xs, ds, rfl, hs, hd, hal, hk, hp, q⟩ := h
  obtain ⟨its, rv, hl, hz⟩ := I.tuple hs
  rw [Vals.ref1 r]
  have len := dpAll_len hd
  have snd : (xs.zip ds).map Prod.snd = ds := by rw [List.map_snd_zip]; omega
  have fst : (xs.zip ds).map Prod.fst = xs := by rw [List.map_fst_zip]; omega
  have hb : (xs.zip ds).length = xs.length := by rw [List.length_zip]; omega
  have e1 := each_vals rv len
  have hdp := dpAll_zip hd
  refine sorted_dataT (bs := xs.zip ds) (enc := Prod.snd) (R := fun (v : Value) (b : V × PyData) => RelV b.1 v) hl e1 ?_ (by rw [snd]; exact hal) (by rw [snd]; exact hk) (by rw [hb]; exact hz) (fun b hb => ?_) fun out ho eo => ?_
  · have gen : ∀ {us : List Value} {bs : List (V × PyData)}, PySem.W.EachIs (fun (v : Value) (b : V × PyData) => RelV b.1 v) us bs → (∀ b ∈ bs, Dp X.K H b.1 b.2) → PySem.W.EachIs (fun v (b : V × PyData) => ∃ as, Reads s.heap v b.2 as) us bs := by
      intro us bs e
      induction e with
      | nil => intro _; exact .nil
      | cons r t ih => intro h; exact .cons (Dp.reads I _ _ _ (h _ List.mem_cons_self) r) (ih fun b hb => h b (List.mem_cons_of_mem _ hb))
    exact gen e1 hdp
  · have : b.2 ∈ ds := by
      rw [← snd]
      exact List.mem_map.mpr ⟨b, hb, rfl⟩
    have := hp _ this
    omega
  · obtain ⟨ep, he'⟩ := PyProof.Rows.sortedAll_at s.heap its out.toArray
    have pm : ((xs.zip ds).mergeSort (PySem.W.dataLe false Prod.snd)).Perm (xs.zip ds) := List.mergeSort_perm _ _
    have p2 : (((xs.zip ds).mergeSort (PySem.W.dataLe false Prod.snd)).map Prod.fst).Perm xs := by
      have := pm.map Prod.fst
      rw [fst] at this
      exact this
    have hlen : (((xs.zip ds).mergeSort (PySem.W.dataLe false Prod.snd)).map Prod.fst).length ≤ sizeLine := by
      rw [p2.length_eq]
      exact hz
    have ms : ((xs.zip ds).mergeSort (PySem.W.dataLe false Prod.snd)).map Prod.snd = ds.mergeSort (PySem.W.dataLe false id) := by
      have z := List.map_mergeSort (r := PySem.W.dataLe false (Prod.snd : V × PyData → PyData)) (s := PySem.W.dataLe false id) (f := Prod.snd) (l := xs.zip ds) (fun a _ b _ => rfl)
      rw [snd] at z
      exact z
    refine ⟨.ref _, upd H (s.heap.objs.size + 1) (.lst (((xs.zip ds).mergeSort (PySem.W.dataLe false Prod.snd)).map Prod.fst)), I.laid (t' := s.toks) (fun _ _ => PyProof.Rows.sortedAll_old) (Nat.le_succ _) ⟨hlen, out, ep, each_back eo, he'⟩, rfl, q _ _ p2 ?_ (I.hok.fresh (Nat.le_succ _))⟩
    rw [← ms]
    exact dpAll_of _ fun p hp => hdp p (pm.mem_iff.mp hp)
end DC
-- C15d
set_option Elab.async false
set_option linter.all false
set_option maxRecDepth 100000
set_option maxHeartbeats 4000000
namespace K15
open PySem L2 DC LamX
def pairD (p : J2) : PyData := .tuple [.int (p.1 : Nat), .int (p.2 : Nat)]
theorem pairs_alike (js ls : List J2) : PySem.W.AllAlike (js.map pairD) := by
  intro d hd d' hd'
  obtain ⟨p, _, rfl⟩ := List.mem_map.mp hd
  obtain ⟨q, _, rfl⟩ := List.mem_map.mp hd'
  unfold pairD
  simp only [PySem.W.alike, PySem.W.alikeAll, Bool.and_self]
theorem pairs_sortable (js : List J2) : PySem.W.Sortable (js.map pairD) := by
  refine .inl fun d hd => ?_
  obtain ⟨p, _, rfl⟩ := List.mem_map.mp hd
  exact ⟨_, _, rfl⟩
theorem pairs_depth (js : List J2) : ∀ d ∈ js.map pairD, d.depth ≤ 60 := by
  intro d hd
  obtain ⟨p, _, rfl⟩ := List.mem_map.mp hd
  unfold pairD
  simp only [PyData.depth, PyData.depthAll]
  decide
theorem alikeAll_pairs : ∀ js ls : List J2, PySem.W.alikeAll (js.map pairD) (ls.map pairD) = true
  | [], [] => by simp only [List.map_nil, PySem.W.alikeAll]
  | [], _ :: _ => by simp only [List.map_nil, List.map_cons, PySem.W.alikeAll]
  | _ :: _, [] => by simp only [List.map_nil, List.map_cons, PySem.W.alikeAll]
  | p :: js, q :: ls => by
    have ih := alikeAll_pairs js ls
    simp only [List.map_cons, PySem.W.alikeAll, ih, Bool.and_true]
    unfold pairD
    simp only [PySem.W.alike, PySem.W.alikeAll, Bool.and_self]
theorem lay_eq (n : Nat) (js : List J2) : layD n js = .tuple [.int (n : Nat), .tuple (js.map pairD)] := rfl
theorem depth_pairs : ∀ js : List J2, PyData.depthAll (js.map pairD) ≤ 1
  | [] => by simp only [List.map_nil, PyData.depthAll]; decide
  | p :: js => by
    have ih := depth_pairs js
    simp only [List.map_cons, PyData.depthAll]
    have : (pairD p).depth ≤ 1 := by
      unfold pairD
      simp only [PyData.depth, PyData.depthAll]
      decide
    omega
theorem toks_prs : ∀ (a b : List J2) (r r' : List (Int ⊕ List Nat)), PySem.W.keyToksAll (a.map pairD) ++ r = PySem.W.keyToksAll (b.map pairD) ++ r' → a = b ∧ r = r'
  | [], [], r, r', h => ⟨rfl, List.append_cancel_left h⟩
  | [], q :: b, r, r', h => by
    simp only [List.map_nil, List.map_cons, PySem.W.keyToksAll, List.cons_append, List.nil_append, List.cons.injEq, Sum.inl.injEq] at h
    exact absurd h.1 (by decide)
  | p :: a, [], r, r', h => by
    simp only [List.map_nil, List.map_cons, PySem.W.keyToksAll, List.cons_append, List.nil_append, List.cons.injEq, Sum.inl.injEq] at h
    exact absurd h.1 (by decide)
  | p :: a, q :: b, r, r', h => by
    simp only [List.map_cons, PySem.W.keyToksAll, pairD, PySem.W.keyToks, List.cons_append, List.nil_append, List.append_assoc, List.cons.injEq, Sum.inl.injEq, true_and] at h
    obtain ⟨h1, h2, h3⟩ := h
    have ih := toks_prs a b r r' (by first | exact h3 | exact h3.2)
    refine ⟨?_, ih.2⟩
    rw [ih.1, show p = q from Prod.ext (by omega) (by omega)]
end K15
-- K15v
set_option Elab.async false
set_option linter.all false
set_option maxRecDepth 100000
set_option maxHeartbeats 4000000
namespace K15
open PySem L2 DC LamX
structure TM (K : PySem.W.Frag) (H H' : Hp) : Prop where
  t : ∀ {a : Addr} {xs : List V}, SqT K H a xs → SqT K H' a xs
section
variable {K : PySem.W.Frag} {H H' H'' : Hp} {v : V}
theorem TM.of (e : Same H H') : TM K H H' := ⟨fun h => Same.t e h⟩
theorem TM.put {l : Addr} {ys : List V} {o : HO} (h : H l = some (.lst ys)) : TM K H (upd H l o) := ⟨fun z => sqT_put z h⟩
theorem TM.trans (a : TM K H H') (b : TM K H' H'') : TM K H H'' := ⟨fun z => b.t (a.t z)⟩
theorem TM.refl : TM K H H := ⟨fun z => z⟩
theorem TM.sx {m lm : Addr} (s : SameX m H H') (hm : MAt H m lm) : TM K H H' := ⟨fun h => sqT_m s hm h⟩
theorem TM.ex (e : ExtN H H') : TM K H H' := ⟨fun h => extN_t e h⟩
theorem TM.pr (e : TM K H H') {p : J2} : Pr K H v p → Pr K H' v p
  | ⟨t, q, h⟩ => ⟨t, q, e.t h⟩
theorem TM.prs (e : TM K H H') {us : List V} {js : List J2} (h : Paired (Pr K H) us js) : Paired (Pr K H') us js := L2.Paired.mapP h fun _ _ z => e.pr z
theorem TM.js (e : TM K H H') {js : List J2} : Js K H v js → Js K H' v js
  | ⟨t, vs, q, h, r⟩ => ⟨t, vs, q, e.t h, e.prs r⟩
theorem TM.jss (e : TM K H H') {us : List V} {js : List (List J2)} (h : Paired (Js K H) us js) : Paired (Js K H') us js := L2.Paired.mapP h fun _ _ z => e.js z
theorem TM.ly (e : TM K H H') {n : Nat} {js : List J2} : Ly K H v n js → Ly K H' v n js
  | ⟨t, u, q, h, r⟩ => ⟨t, u, q, e.t h, e.js r⟩
def Lyn (K : PySem.W.Frag) (H : Hp) (n : Nat) : V → List J2 → Prop := fun v js => Ly K H v n js
theorem TM.lys (e : TM K H H') {n : Nat} {us : List V} {js : List (List J2)} (h : Paired (Lyn K H n) us js) : Paired (Lyn K H' n) us js := L2.Paired.mapP h fun _ _ z => e.ly z
end
theorem pair_app {α β : Type} {R : α → β → Prop} : ∀ {xs : List α} {ys : List β} {xs' : List α} {ys' : List β}, Paired R xs ys → Paired R xs' ys' → Paired R (xs ++ xs') (ys ++ ys')
  | _, _, _, _, .nil, r => r
  | _, _, _, _, .cons a b, r => .cons a (pair_app b r)
theorem sIx_nat (n d b : Nat) : HT.sIx n d (some ((b : Nat) : Int)) = min b n := by
  simp only [HT.sIx]
  rw [if_neg (by omega), Int.toNat_natCast]
theorem cut_ab {xs : List V} {a b : Nat} (ha : a ≤ xs.length) (hb : b ≤ xs.length) : cutV xs (some ((a : Nat) : Int)) (some ((b : Nat) : Int)) = (xs.drop a).take (b - a) := by
  show (xs.drop (HT.sIx _ 0 _)).take (HT.sIx _ _ _ - HT.sIx _ 0 _) = _
  rw [sIx_nat, sIx_nat, Nat.min_eq_left ha, Nat.min_eq_left hb]
theorem cut_a {xs : List V} {a : Nat} (ha : a ≤ xs.length) : cutV xs (some ((a : Nat) : Int)) none = xs.drop a := by
  show (xs.drop (HT.sIx _ 0 _)).take (xs.length - HT.sIx _ 0 _) = _
  rw [sIx_nat, Nat.min_eq_left ha]
  exact List.take_of_length_le (by rw [List.length_drop]; exact Nat.le_refl _)
section
variable {P : Program} {w : World} {K : PySem.W.Frag} {mg : Str → Option Value} {base : Heap}
theorem vn_drop (l : List Nat) (a : Nat) : (Vn l).drop a = Vn (l.drop a) := by
  unfold Vn
  exact List.map_drop.symm
theorem vn_take (l : List Nat) (a : Nat) : (Vn l).take a = Vn (l.take a) := by
  unfold Vn
  exact List.map_take.symm
end
end K15
-- K15w
set_option Elab.async false
set_option linter.all false
set_option maxRecDepth 100000
set_option maxHeartbeats 4000000
namespace K15
open PySem L2 DC LamX
theorem extN_put {H H' : Hp} {D : Addr} {o : HO} (e : ExtN H H') (h : H D = none) : ExtN H (upd H' D o) := fun b u q n => by
  have ne : b ≠ D := fun z => by
    rw [z, h] at q
    cases q
  rw [upd_ne ne]
  exact e b u q n
theorem tabs_put {H : Hp} {T : List (Addr × Str)} {l : Addr} {ys : List V} {o : HO} (t : Tabs T H) (hl : H l = some (.lst ys)) : Tabs T (upd H l o) := by
  have ne : ∀ {a : Addr} {u : HO}, H a = some u → (∀ kvs, u ≠ .lst kvs) → a ≠ l := by
    rintro a u e hu rfl
    rw [hl] at e
    exact hu _ (Option.some.inj e).symm
  intro p hp
  obtain ⟨ps, h1, h2, h3⟩ := t p hp
  refine ⟨ps, ?_, h2, fun pos cv hc => ?_⟩
  · rw [upd_ne (ne h1 (fun _ z => nomatch z))]
    exact h1
  · obtain ⟨c, e1, e2⟩ := h3 pos cv hc
    refine ⟨c, e1, ?_⟩
    rw [upd_ne (ne e2 (fun _ z => nomatch z))]
    exact e2
theorem rg_vn (m : Nat) : rgV 0 ((m : Nat) : Int) = Vn (List.range m) := by
  unfold rgV Vn
  rw [show (((m : Nat) : Int) - 0).toNat = m by omega]
  refine List.map_congr_left fun i _ => ?_
  rw [Int.zero_add]
section
variable {P : Program} {w : World} {K : PySem.W.Frag} {mg : Str → Option Value} {base : Heap}
end
end K15
-- K15x
set_option Elab.async false
set_option linter.all false
set_option maxRecDepth 100000
set_option maxHeartbeats 8000000
namespace K15
open PySem L2 DC LamX
theorem js_dpp {K : PySem.W.Frag} {H : Hp} {us : List V} {js : List J2} (h : Paired (Pr K H) us js) : DpAll K H us (js.map pairD) := js_dp h
def rTupOf (K : PySem.W.Frag) : List V → Hp → VK → Prop := fun xs H Q => ∃ p ys, xs = [V.ref p] ∧ ((SqL K H p ys ∧ ∀ l : Addr, H l = none → Q (V.ref l) (upd H l (HO.tup ys))) ∨ SqT K H p ys ∧ Q (V.ref p) H)
theorem vn_snoc (l : List Nat) (x : Nat) : Vn (l ++ [x]) = Vn l ++ [.int (x : Nat)] := vn_app l [x]
section
variable {P : Program} {w : World} {K : PySem.W.Frag} {mg : Str → Option Value} {base : Heap}
end
end K15
-- DRev
set_option Elab.async false
set_option linter.all false
set_option maxRecDepth 100000
set_option maxHeartbeats 4000000
/-! DRev: t[::-1] of a tuple of two. -/
namespace DC
open PySem PySem.Spec PyProof.Rows L2 Evl
theorem sliceApplied_rev2 {prog : Program} {w : World} {A : Around} {E : Value → Shared → Prop} {s : Shared} {sl : Addr} {vl vu vs : Value} {Q : Int × Int × Nat → Shared → Prop}
    (hs : s.heap.IsSliceOf sl vl vu vs) (pl : IsPart vl none) (pu : IsPart vu none) (ps : IsPart vs (some (-1))) (q : Q (1, -1, 2) s) :
    wpAny (model prog w) A (Builtin.Slice.sliceApplied (.ref sl) (pure ((2 : Nat) : Int))) Q E s := by
  obtain ⟨os, hos, hcs, hds⟩ := hs
  unfold Builtin.Slice.sliceApplied Builtin.Slice.sliceFields
  refine wpAny_bind (wpAny_bind (wpAny_field hos hds rfl (wpAny_bind (wpAny_field hos hds rfl (wpAny_bind (wpAny_field hos hds rfl (wpAny_pure ?_)))))))
  refine wpAny_bind (HT.slicePart_ ps ?_)
  dsimp only
  rw [if_neg (by decide)]
  refine wpAny_bind (HT.slicePart_ pl (wpAny_bind (HT.slicePart_ pu (wpAny_bind (wpAny_pure ?_)))))
  exact wpAny_pure q
theorem getItem_tuple_rev2 {prog : Program} {w : World} {A : Around} {E : Value → Shared → Prop} {s : Shared} {t sl : Addr} {x y : Value} {vl vu vs : Value} {Q : Value → Shared → Prop}
    (ht : IsTup s.heap t #[x, y]) (hs : s.heap.IsSliceOf sl vl vu vs) (pl : IsPart vl none) (pu : IsPart vu none) (ps : IsPart vs (some (-1)))
    (q : Q (Value.ref s.heap.objs.size) { heap := s.heap.push { cls := Value.type "tuple", data := Data.seq #[y, x] }, gens := s.gens, drawn := s.drawn, toks := s.toks, os := s.os }) :
    wpAny (model prog w) A (getItem (Value.ref t) (Value.ref sl)) Q E s := by
  obtain ⟨os, hos, hcs, hds⟩ := id hs
  refine wpAny_holding (wpAny_bind (wpAny_sequenceKey ht.typeIs (by decide) ?_))
  refine wpAny_bind (wpAny_callSpecial?_slot ht.typeIs slot_tuple_getitem (wpAny_call_entry slot_tuple_getitem ht.typeIs entry_tuple_getitem ?_ (args_tuple_getitem (Value.ref t) (Value.ref sl))))
  show wpAny _ _ (Builtin.Tuple.tupleItemsOf (.ref t) >>= _) _ _ _
  refine wpAny_bind (tupleItemsOf_ ht ?_)
  refine wpAny_bind (wpAny_typeOf (v := .ref sl) (T := "slice") (show ∃ o, _ from ⟨os, hos, hcs⟩) ?_)
  rw [if_pos (by decide)]
  refine wpAny_bind (sliceApplied_rev2 hs pl pu ps ?_)
  dsimp only
  rw [if_neg (by show ¬ (false = true); decide)]
  refine wpAny_bind (wpAny_newObj_type ?_ (by show 2 ≤ sizeLine; decide))
  exact wpAny_pure ⟨_, rfl, wpAny_pure q⟩
def tRevT (K : PySem.W.Frag) (te : TE) : TE := fun σ H Q => te σ H fun x H1 => ∃ (a : Addr) (u v : V), x = V.ref a ∧ SqT K H1 a [u, v] ∧ ∀ p : Addr, H1 p = none → Q (V.ref p) (upd H1 p (HO.tup [v, u]))
theorem pe_revT {X : Cx} {e : Expr} {te : TE} {k : Nat} {p1 p2 p3 pos : Pos} (he : PE X e te) : PE X (.Subscript e (.Slice none none (some (.UnaryOp .USub (.Constant (.int 1) k p1) p2)) p3) pos) (tRevT X.K te) := by
  constructor
  intro pins s σ H Q I h
  refine Subscript_ (thn (he.run pins s σ H _ I h) ?_)
  rintro v s1 ⟨x, H1, I1, r1, a, u, z, rfl, hx, q⟩
  cases r1
  refine wpAny_Slice (thn (po_none.run pins s1 σ H1 (fun o H2 => o = none ∧ H2 = H1) I1 ⟨rfl, rfl⟩) ?_)
  rintro vl s2 ⟨l, H2, I2, pl, rfl, rfl⟩
  refine thn (po_none.run pins s2 σ H2 (fun o H3 => o = none ∧ H3 = H2) I2 ⟨rfl, rfl⟩) ?_
  rintro vu s3 ⟨l', H3, I3, pu, rfl, rfl⟩
  refine thn ((po_some (pe_un un_neg pe_int)).run pins s3 σ H3 (fun o H4 => o = some (-1) ∧ H4 = H3) I3 ⟨1, rfl, -1, rfl, rfl, rfl⟩) ?_
  rintro vs s4 ⟨o, H4, I4, ps, rfl, rfl⟩
  have I5 := Inv.kept (t' := s4.toks) I4 (fun b ob q => Heap.get?_push_of_some { cls := Value.type "slice", data := Data.fields #[vl, vu, vs] } q)
  obtain ⟨its, r, ht, hz⟩ := I5.tuple hx
  cases r with
  | cons ra r =>
    cases r with
    | cons rb r =>
      cases r
      refine tail_any (T := "tuple") ht.typeIs slot_tuple_getitem.lookup (getItem_tuple_rev2 ht (Heap.IsSliceOf.new _ _ _ _) pl pu ps ?_) rfl
      exact ⟨V.ref _, upd H4 _ (.tup [z, u]), Inv.laid (t' := s4.toks) I5 (fun b ob q => Heap.get?_push_of_some _ q) (Nat.le_refl _) ⟨by show 2 ≤ sizeLine; decide, [_, _], .cons rb (.cons ra .nil), IsTup.new _ _⟩, rfl, q _ (HOk.fresh I5.hok (Nat.le_refl _))⟩
end DC
-- K15ya
set_option Elab.async false
set_option linter.all false
set_option maxRecDepth 100000
set_option maxHeartbeats 4000000
/-! K16ya: steps as data -/
namespace K15
open PySem L2 DC LamX
abbrev Stp2 := List J2 × List J2
def stD (s : Stp2) : PyData := .tuple [.tuple (s.1.map pairD), .tuple (s.2.map pairD)]
def Stp (K : PySem.W.Frag) (H : Hp) (v : V) (s : Stp2) : Prop := ∃ t a b, v = .ref t ∧ SqT K H t [a, b] ∧ Js K H a s.1 ∧ Js K H b s.2
section
variable {K : PySem.W.Frag} {H H' H0 : Hp} {v : V}
theorem TM.stp (e : TM K H H') {s : Stp2} : Stp K H v s → Stp K H' v s
  | ⟨t, a, b, q, h, h1, h2⟩ => ⟨t, a, b, q, e.t h, e.js h1, e.js h2⟩
theorem TM.stps (e : TM K H H') {us : List V} {l : List Stp2} (h : Paired (Stp K H) us l) : Paired (Stp K H') us l := L2.Paired.mapP h fun _ _ z => e.stp z
theorem jsD_dp {js : List J2} : Js K H v js → Dp K H v (.tuple (js.map pairD))
  | ⟨t, ws, q, h, r⟩ => by
    subst q
    exact Dp.tup h (js_dpp r)
theorem stp_dp {s : Stp2} : Stp K H v s → Dp K H v (stD s)
  | ⟨t, a, b, q, h, h1, h2⟩ => by
    subst q
    exact Dp.tup h (.cons (jsD_dp h1) (.cons (jsD_dp h2) .nil))
theorem stps_dp : ∀ {us : List V} {l : List Stp2}, Paired (Stp K H) us l → DpAll K H us (l.map stD)
  | _, _, .nil => .nil
  | _, _, .cons a t => .cons (stp_dp a) (stps_dp t)
theorem dp_jsD {js : List J2} (h : Dp K H v (.tuple (js.map pairD))) : Js K H v js := by
  cases h with
  | tup hS a => exact ⟨_, _, rfl, hS, dp_prs a⟩
theorem dp_stp {s : Stp2} (h : Dp K H v (stD s)) : Stp K H v s := by
  obtain ⟨t, x, y, rfl, hS, h1, h2⟩ := dp_tup2 h
  exact ⟨t, x, y, rfl, hS, dp_jsD h1, dp_jsD h2⟩
theorem dp_stps : ∀ {us : List V} {l : List Stp2}, DpAll K H us (l.map stD) → Paired (Stp K H) us l
  | _, [], h => by
    cases h
    exact .nil
  | _, s :: l, h => by
    rw [List.map_cons] at h
    cases h with
    | cons a t => exact .cons (dp_stp a) (dp_stps t)
/-- the list of steps made so far, at L -/
structure FI (K : PySem.W.Frag) (H0 H' : Hp) (L : Addr) (l : List Stp2) (B : Nat) : Prop where
  sm : Same H0 H'
  ex : ∃ us, H' L = some (.lst us) ∧ Paired (Stp K H') us l ∧ us.length ≤ B
theorem FI.up {L : Addr} {l : List Stp2} {B : Nat} (f : FI K H0 H L l B) (s : Same H H') : FI K H0 H' L l B := by
  obtain ⟨us, h, p, b⟩ := f.ex
  exact ⟨f.sm.trans s, us, s _ _ h, (TM.of s).stps p, b⟩
theorem FI.mono {L : Addr} {l : List Stp2} {B B' : Nat} (f : FI K H0 H L l B) (s : B ≤ B') : FI K H0 H L l B' := by
  obtain ⟨us, h, p, b⟩ := f.ex
  exact ⟨f.sm, us, h, p, Nat.le_trans b s⟩
theorem FI.put {L : Addr} {l : List Stp2} {B : Nat} {st : Stp2} {us : List V} (f : FI K H0 H L l B) (h0 : H0 L = none) (hL : H L = some (.lst us)) (hs : Stp K H v st) : FI K H0 (upd H L (.lst (us ++ [v]))) L (l ++ [st]) (B + 1) := by
  obtain ⟨us', h, p, b⟩ := f.ex
  rw [hL] at h
  obtain rfl : us = us' := by
    injection h with h
    injection h
  refine ⟨same_put f.sm h0, _, upd_same, pair_snoc ((TM.put hL).stps p) ((TM.put hL).stp hs), ?_⟩
  rw [List.length_append, List.length_singleton]
  omega
end
theorem st_alike (l : List Stp2) : PySem.W.AllAlike (l.map stD) := by
  intro d hd d' hd'
  obtain ⟨js, _, rfl⟩ := List.mem_map.mp hd
  obtain ⟨ls, _, rfl⟩ := List.mem_map.mp hd'
  unfold stD
  simp only [PySem.W.alike, PySem.W.alikeAll, alikeAll_pairs, Bool.and_self]
theorem st_sortable (l : List Stp2) : PySem.W.Sortable (l.map stD) := by
  refine .inl fun d hd => ?_
  obtain ⟨p, _, rfl⟩ := List.mem_map.mp hd
  exact ⟨_, _, rfl⟩
theorem st_depth (l : List Stp2) : ∀ d ∈ l.map stD, d.depth ≤ 60 := by
  intro d hd
  obtain ⟨s, _, rfl⟩ := List.mem_map.mp hd
  unfold stD
  have h1 := depth_pairs s.1
  have h2 := depth_pairs s.2
  simp only [PyData.depth, PyData.depthAll]
  omega
theorem st_sorted (l : List Stp2) : (l.map stD).mergeSort (PySem.W.dataLe false id) = (l.mergeSort (PySem.W.dataLe false stD)).map stD :=
  (List.map_mergeSort (r := PySem.W.dataLe false stD) (s := PySem.W.dataLe false id) (f := stD) (l := l) (fun a _ b _ => rfl)).symm
/-! two numbers, two pairs, sorted -/
theorem two_int {ns : List Int} {a c : Nat} (p : ns.Perm [((a : Nat) : Int), ((c : Nat) : Int)]) (h : ns.Pairwise (· ≤ ·)) : ns = [((min a c : Nat) : Int), ((max a c : Nat) : Int)] := by
  have q : ns.Perm [((min a c : Nat) : Int), ((max a c : Nat) : Int)] := by
    refine p.trans ?_
    by_cases z : a ≤ c
    · rw [Nat.min_eq_left z, Nat.max_eq_right z]
    · rw [Nat.min_eq_right (by omega), Nat.max_eq_left (by omega)]
      exact List.Perm.swap _ _ _
  refine List.Perm.eq_of_pairwise (le := (· ≤ ·)) (fun a b _ _ h1 h2 => Int.le_antisymm h1 h2) h ?_ q
  refine List.pairwise_cons.mpr ⟨fun x hx => ?_, List.pairwise_singleton _ _⟩
  obtain rfl := List.mem_singleton.mp hx
  omega
theorem le6 {a b c d : Nat} (h : a < c) : PySem.W.dataLe false id (pairD (a, b)) (pairD (c, d)) = true := by
  have e := congrFun (congrFun (PySem.W.dataLe_ii (fun p : J2 => ((p.1 : Nat) : Int)) (fun p : J2 => ((p.2 : Nat) : Int))) (a, b)) (c, d)
  show PySem.W.dataLe false (fun p : J2 => PyData.tuple [.int ((p.1 : Nat) : Int), .int ((p.2 : Nat) : Int)]) (a, b) (c, d) = true
  rw [e]
  refine decide_eq_true (.inl ?_)
  show ((a : Nat) : Int) < ((c : Nat) : Int)
  omega
theorem pair_inj (p q : J2) (h : PySem.W.keyToks (pairD p) = PySem.W.keyToks (pairD q)) : pairD p = pairD q := by
  have := toks_prs [p] [q] [] [] (by
    simp only [List.map_cons, List.map_nil, PySem.W.keyToksAll, h])
  rw [(List.cons.inj this.1).1]
theorem two_sort {p q : J2} (h : p.1 ≠ q.1) : ([p, q].map pairD).mergeSort (PySem.W.dataLe false id) = (sm2 p q).map pairD := by
  have e : ([p, q].map pairD).Perm ((sm2 p q).map pairD) := by
    refine List.Perm.map _ ?_
    unfold sm2
    by_cases c : p.1 < q.1
    · rw [if_pos c]
    · rw [if_neg c]
      exact List.Perm.swap _ _ _
  rw [sort_same e fun a ha b hb e => by
    obtain ⟨js, _, rfl⟩ := List.mem_map.mp ha
    obtain ⟨ls, _, rfl⟩ := List.mem_map.mp hb
    exact pair_inj js ls e]
  refine List.mergeSort_of_pairwise ?_
  unfold sm2
  by_cases c : p.1 < q.1
  · rw [if_pos c]
    refine List.pairwise_cons.mpr ⟨fun x hx => ?_, List.pairwise_singleton _ _⟩
    obtain rfl := List.mem_singleton.mp hx
    exact le6 c
  · rw [if_neg c]
    refine List.pairwise_cons.mpr ⟨fun x hx => ?_, List.pairwise_singleton _ _⟩
    obtain rfl := List.mem_singleton.mp hx
    exact le6 (by omega)
end K15
-- K15y
set_option Elab.async false
set_option linter.all false
set_option maxRecDepth 100000
set_option maxHeartbeats 8000000
/-! K16y: _law_steps -/
namespace K15
open PySem L2 DC LamX
theorem imin (a b : Nat) : (if ((b : Nat) : Int) < ((a : Nat) : Int) then ((b : Nat) : Int) else ((a : Nat) : Int)) = ((min a b : Nat) : Int) := by
  split <;> omega
theorem imax (a b : Nat) : (if ((b : Nat) : Int) > ((a : Nat) : Int) then ((b : Nat) : Int) else ((a : Nat) : Int)) = ((max a b : Nat) : Int) := by
  split <;> omega
def pre1 (n : Nat) (js : List J2) (i : Nat) : List Stp2 := (List.range i).flatMap fun k => stAt n js k (js.getD k (0, 0))
def pre2 (fr : List Nat) (i : Nat) : List Stp2 := (List.range i).flatMap fun k => (fr.drop (k + 1)).map fun b => ([], [(fr.getD k 0, b)])
theorem pre1_succ (n : Nat) (js : List J2) (i : Nat) : pre1 n js (i + 1) = pre1 n js i ++ stAt n js i (js.getD i (0, 0)) := by
  unfold pre1
  rw [List.range_succ, List.flatMap_append]
  simp only [List.flatMap_cons, List.flatMap_nil, List.append_nil]
theorem pre2_succ (fr : List Nat) (i : Nat) : pre2 fr (i + 1) = pre2 fr i ++ (fr.drop (i + 1)).map fun b => ([], [(fr.getD i 0, b)]) := by
  unfold pre2
  rw [List.range_succ, List.flatMap_append]
  simp only [List.flatMap_cons, List.flatMap_nil, List.append_nil]
def sA (p : J2) (e : Nat) (near : Nat) : Stp2 := ([p], [mk2 near e])
def sB (p q : J2) (s : J2) : Stp2 := ([p, q], sm2 (mk2 p.1 s.1) (mk2 p.2 s.2))
theorem stAt_eq (n : Nat) (js : List J2) (k : Nat) (p : J2) : stAt n js k p = ([p], []) :: ((frees n js).flatMap fun e => [p.1, p.2].map (sA p e)) ++ (js.drop (k + 1)).flatMap fun q => [(q.1, q.2), (q.2, q.1)].map (sB p q) := rfl
section
variable {P : Program} {w : World} {K : PySem.W.Frag} {mg : Str → Option Value} {base : Heap}
def stS (n : Nat) (js : List J2) : List Stp2 := (stJ n js).mergeSort (PySem.W.dataLe false stD)
def spSteps (K : PySem.W.Frag) : Sp := fun vs H Q _ => ∃ (v : V) (n : Nat) (js : List J2), vs = [v] ∧ Ly K H v n js ∧ Good n js ∧ n ≤ 5 ∧
  ∀ (r : Addr) (us : List V) (H' : Hp), Same H H' → H r = none → H' r = some (.lst us) → Paired (Stp K H') us (stS n js) → us.length ≤ 300 → Q (.ref r) H'
abbrev NSt : List Str := ["lay", "known", "end", "loose", "found", "k", "joint", "near", "other", "swap", "made", "far"]
end
end K15
-- K15za
set_option Elab.async false
set_option linter.all false
set_option maxRecDepth 100000
set_option maxHeartbeats 8000000
namespace DC
open PySem L2
def rNotInDT (K : PySem.W.Frag) : V → V → Hp → VK → Prop := fun x y H Q => ∃ d ds, Dp K H x d ∧ Dp K H y (.tuple ds) ∧ SeqAt.shaped d = true ∧ SeqAt.shaped (.tuple ds) = true ∧ Q (.bl (!ds.any fun z => PyData.eqv z d)) H
theorem op_notInDT {X : Cx} (hu : X.A.units + 65 < cLine) : OpR X (compareOp CmpOp.NotIn) (rNotInDT X.K) := by
  intro pins s σ H x y v u Q I rx ry h
  obtain ⟨d, ds, hd, he, sd, se, q⟩ := h
  obtain ⟨as, r1⟩ := Dp.reads I d x v hd rx
  obtain ⟨bs, r2⟩ := Dp.reads I (.tuple ds) y u he ry
  exact SeqAt.notIn_tuple_reads r2 r1 (SeqAt.canLay_of_shaped se) (SeqAt.canLay_of_shaped sd) (PyProof.Rows.room_in_shaped sd hu) ⟨V.bl _, H, I, rfl, q⟩
end DC
namespace K15
open PySem L2 DC LamX
theorem u65 {k : Nat} {A : Around} (r : Room k A) : A.units + 65 < cLine := by
  have := r.un
  omega
theorem lay_pairs : ∀ l : List J2, PyData.canLayAll0 (l.map pairD) = true
  | [] => by simp only [List.map_nil, PyData.canLayAll0]
  | p :: l => by
    simp only [List.map_cons, pairD, PyData.canLayAll0, PyData.canLay0, Bool.and_self, Bool.true_and]
    exact lay_pairs l
theorem shaped_pairs (l : List J2) : SeqAt.shaped (.tuple (l.map pairD)) = true := by
  unfold SeqAt.shaped
  have := depth_pairs l
  rw [Bool.and_eq_true]
  refine ⟨by simp only [PyData.canLay0]; exact lay_pairs l, decide_eq_true ?_⟩
  simp only [PyData.depth]
  omega
theorem shaped_pair (p : J2) : SeqAt.shaped (pairD p) = true := by
  unfold SeqAt.shaped pairD
  rw [Bool.and_eq_true]
  refine ⟨by simp only [PyData.canLay0, PyData.canLayAll0, Bool.and_self], decide_eq_true ?_⟩
  simp only [PyData.depth, PyData.depthAll]
  decide
theorem eqv_pair (p q : J2) : (pairD p).eqv (pairD q) = decide (p = q) := by
  unfold pairD
  simp only [PyData.eqv, PyData.eqvAll, Bool.and_true]
  rw [Bool.eq_iff_iff]
  simp only [Bool.and_eq_true, beq_iff_eq, decide_eq_true_eq]
  constructor
  · rintro ⟨a, b⟩
    exact Prod.ext (by omega) (by omega)
  · rintro rfl
    exact ⟨rfl, rfl⟩
theorem any_pair (l : List J2) (p : J2) : (l.map pairD).any (fun z => PyData.eqv z (pairD p)) = decide (p ∈ l) := by
  induction l with
  | nil => rfl
  | cons q l ih =>
    rw [List.map_cons, List.any_cons, ih, eqv_pair, Bool.eq_iff_iff]
    simp only [Bool.or_eq_true, decide_eq_true_eq, List.mem_cons]
    constructor
    · rintro (h | h)
      · exact .inl h.symm
      · exact .inr h
    · rintro (h | h)
      · exact .inl h.symm
      · exact .inr h
theorem insJ_perm (p : J2) : ∀ l : List J2, (insJ p l).Perm (p :: l)
  | [] => List.Perm.refl _
  | q :: l => by
    unfold insJ
    split
    · exact List.Perm.refl _
    · exact ((insJ_perm p l).cons q).trans (List.Perm.swap p q l)
theorem srtJ_perm : ∀ l : List J2, (srtJ l).Perm l
  | [] => List.Perm.refl _
  | p :: l => (insJ_perm p (srtJ l)).trans ((srtJ_perm l).cons p)
section
variable {P : Program} {w : World} {K : PySem.W.Frag} {mg : Str → Option Value} {base : Heap}
end
end K15
-- K15fr
set_option Elab.async false
set_option linter.all false
set_option maxRecDepth 100000
set_option maxHeartbeats 4000000
namespace K15
open PySem L2 DC
section
variable {P : Program} {w : World} {K : PySem.W.Frag} {mg : Str → Option Value} {base : Heap}
def nm (p : J2) : J2 := if p.1 < p.2 then p else (p.2, p.1)
def spJt (K : PySem.W.Frag) : Sp := fun vs H Q _ => ∃ a b : Nat, vs = [.int a, .int b] ∧ ∀ t H', Same H H' → H t = none → H' t = some (.tup [.int ((nm (a, b)).1 : Nat), .int ((nm (a, b)).2 : Nat)]) → Q (.ref t) H'
theorem scJt : FnScope ["one", "other"] ["one", "other"] (defScope (top 15)) := ⟨rfl, rfl, rfl, by decide +kernel, rfl, by decide +kernel, by decide +kernel⟩
theorem okJt {f : Addr} {fd : FuncData} (F : Fun K "joint_of" "joint_of" (top 15) f fd) (B : Bn mg) : OkF P w K mg base 1 f fd ["one", "other"] (spJt K) := by
  refine ok0 F scJt (fun vs H Q E h => ?_) (fun cdv A outer s H vs Q E hgd hr h => ?_)
  · obtain ⟨a, b, rfl, _⟩ := h; rfl
  · obtain ⟨a, b, rfl, q⟩ := h
    refine ⟨_, pss_one (ps_ret (pe_ifExp (pt_cmpR op_lt (pv 0) (pv 1) (nomark _)) (pe_tup (pa_cons (pv 0) (pa_cons (pv 1) pa_nil))) (pe_tup (pa_cons (pv 1) (pa_cons (pv 0) pa_nil))))), ?_⟩
    refine ⟨_, rfl, _, rfl, (a : Int), (b : Int), rfl, rfl, _, rfl, ite2 (fun d => ?_) (fun d => ?_)⟩
    · have z : a < b := by
        have := of_decide_eq_true d
        omega
      refine ⟨_, rfl, _, rfl, by show 2 ≤ sizeLine; decide, fun T hT => q T _ (Same.new hT) hT ?_⟩
      rw [upd_same, show nm (a, b) = (a, b) from if_pos z]
    · have z : ¬ a < b := fun z => d (decide_eq_true (by omega))
      refine ⟨_, rfl, _, rfl, by show 2 ≤ sizeLine; decide, fun T hT => q T _ (Same.new hT) hT ?_⟩
      rw [upd_same, show nm (a, b) = (b, a) from if_neg z]
theorem frees_step (n : Nat) (js : List J2) (i : Nat) : ((List.range (i + 1)).filter fun e => (mt js e).isNone) = ((List.range i).filter fun e => (mt js e).isNone) ++ (if (mt js i).isNone = true then [i] else []) := by
  rw [List.range_succ, List.filter_append]
  congr 1
  by_cases c : (mt js i).isNone = true
  · rw [if_pos c]
    simp [List.filter_cons, c]
  · rw [if_neg c]
    simp only [List.filter_cons, List.filter_nil]
    rw [if_neg c]
def spFree (K : PySem.W.Frag) : Sp := fun vs H Q _ => ∃ (v : V) (n : Nat) (js : List J2), vs = [v] ∧ Ly K H v n js ∧ Good n js ∧ ∀ (r : Addr) (H' : Hp), Same H H' → H r = none → H' r = some (.lst (Vn (frees n js))) → Q (.ref r) H'
theorem scFree : FnScope ["lay", "end", "mate"] ["lay"] (defScope (top 17)) := ⟨rfl, rfl, rfl, by decide +kernel, rfl, by decide +kernel, by decide +kernel⟩
theorem okFree {f f17 : Addr} {fd fd17 : FuncData} (F : Fun K "free_of" "free_of" (top 17) f fd) (B : Bn mg)
    (D17 : Df K mg "mates" f17 fd17 ["lay"]) (G17 : OkF P w K mg base 1 f17 fd17 ["lay"] (spMates K)) : OkF P w K mg base 2 f fd ["lay"] (spFree K) := by
  refine ok0 F scFree (fun vs H Q E h => ?_) (fun cdv A outer s H vs Q E hgd hr h => ?_)
  · obtain ⟨v, n, js, rfl, _⟩ := h; rfl
  · obtain ⟨v, n, js, rfl, hLy, g, q⟩ := h
    have nd := scFree.nd
    have tp := g.top
    refine ⟨_, pss_one (ps_ret (pe_lc (own := [("end", 1), ("mate", 2)]) (g := gTup K 2 (gCons (gName 1) (gCons (gName 2) gNil))) rfl nd (pi_enum (by rfl) B.enum (pa_cons (cl D17 G17 hgd hr (pa_cons (pv 0) pa_nil)) pa_nil)) (blkOk_by (N := ["lay", "end", "mate"]) (sc := defScope (top 17)) (by decide +kernel))
      (fun _ _ _ _ _ => pg_tup (by rfl) (pgs_cons (pg_name (i := 1) nd rfl (Or.inl rfl)) (pgs_cons (pg_name (i := 2) nd rfl (Or.inl rfl)) pgs_nil))) (fun _ _ _ _ _ => pts_one (pt_cmp (pc_isN (pv 2)) rfl)) (fun _ _ _ _ _ => pv 1))), ?_⟩
    refine ⟨_, rfl, v, n, js, rfl, hLy, g, fun r H1 s1 hr0 h1 => ?_⟩
    refine ⟨r, _, rfl, SqL.of h1, fun D hD => ?_⟩
    refine lc_it (walk_enum (xs := mV n js)) (fun i H' => Same H1 H' ∧ H' D = some (.lst (Vn ((List.range i).filter fun e => (mt js e).isNone)))) ⟨Same.new hD, upd_same⟩ (fun i H' _ hp => SqL.of (hp.1 _ _ h1)) ?_ ?_
    · rintro i x Ha Hb hi ⟨sm, hL⟩ ⟨T, x1, x2, rfl, nT, rfl, e1, e2⟩
      cases e1
      rw [mV_len] at hi
      obtain rfl : x2 = oV (mt js i) := (Option.some.inj ((mV_at hi).symm.trans e2)).symm
      have sT := Same.new (o := .tup [.int (i : Nat), oV (mt js i)]) nT
      refine ⟨T, _, rfl, SqT.of upd_same, rfl, _, _, rfl, _, _, rfl, rfl, rfl, ?_⟩
      rw [frees_step n js i]
      cases hm : mt js i with
      | none =>
        rw [hm] at sT
        refine ⟨_, rfl, true, rfl, iteT ⟨_, rfl, _, sT _ _ hL, ?_, same_put (sm.trans sT) hD, ?_⟩⟩
        · rw [Vn_len]
          refine Nat.lt_of_le_of_lt (Nat.le_trans (List.length_filter_le _ _) (by rw [List.length_range]; exact (show i ≤ 1000 by omega))) (by decide)
        · rw [upd_same]
          unfold Vn
          rw [List.map_append]
          rfl
      | some x =>
        rw [hm] at sT
        refine ⟨_, rfl, false, rfl, iteF ⟨sm.trans sT, ?_⟩⟩
        rw [if_neg (by simp), List.append_nil]
        exact sT _ _ hL
    · rintro H' ⟨sm, hL⟩
      rw [mV_len] at hL
      exact q D H' (s1.trans sm) (s1.free hD) hL
end
end K15
-- K15n
set_option Elab.async false
set_option linter.all false
set_option maxRecDepth 100000
set_option maxHeartbeats 4000000
namespace K15
open PySem L2 DC LamX
section
variable {P : Program} {w : World} {K : PySem.W.Frag} {mg : Str → Option Value} {base : Heap}
def spAlike (K : PySem.W.Frag) : Sp := fun vs H Q _ => ∃ (l : Addr) (n : Nat) (xs : List V), vs = [.ref l] ∧ H l = some (.lst xs) ∧ (xs.length = 2 ∨ xs.length = 3) ∧ (∀ x ∈ xs, ∃ t u, x = .ref t ∧ SqT K H t [.int (n : Nat), u]) ∧ ∀ H', Same H H' → Q .non H'
theorem sc15 : FnScope ["lays", "lay"] ["lays"] (defScope (top 14)) := ⟨rfl, rfl, rfl, by decide +kernel, rfl, by decide +kernel, by decide +kernel⟩
theorem ok15 {f : Addr} {fd : FuncData} (F : Fun K "need_alike" "need_alike" (top 14) f fd) (hA : mg "any" = none) : OkF P w K mg base 1 f fd ["lays"] (spAlike K) := by
  refine ok0 F sc15 (fun vs H Q E h => ?_) (fun cdv A outer s H vs Q E hgd hr h => ?_)
  · obtain ⟨l, n, xs, rfl, _⟩ := h; rfl
  · obtain ⟨l, n, xs, rfl, hl, h23, hx, q⟩ := h
    have nd := sc15.nd
    refine ⟨_, pss_one (ps_if (pt_val (pe_callB (cr_any rfl) (by rfl) hA (by decide +kernel) (pa_cons
      (pe_lc (own := [("lay", 1)]) (g := gName 1) (tt := tYes) rfl nd (pi_list (pv 0)) (blkOk_by (N := ["lays", "lay"]) (sc := defScope (top 14)) (by decide +kernel)) (fun _ _ _ _ _ => pg_name (i := 1) nd rfl (Or.inl rfl)) (fun _ _ _ _ _ => pts_nil)
        (fun _ _ _ _ _ => pe_cmpR op_ne (pe_ix (r := rIxT K) ix_tup (pv 1) pe_int (fun _ _ => rfl)) (pe_ix (r := rIxT K) ix_tup (pe_ix (r := rIxL K) ix_list (pv 0) pe_int (fun _ _ => rfl)) pe_int (fun _ _ => rfl)) (nomark _))) pa_nil))) (pss_one ps_never) pss_nil), ?_⟩
    have a0 : ∀ u : V, atI [V.int (n : Nat), u] 0 = some (.int (n : Nat)) := fun u => at_of (j := 0) rfl rfl
    obtain ⟨x0, e0⟩ : ∃ x0, xs[0]? = some x0 := ⟨xs[0], List.getElem?_eq_getElem (by omega)⟩
    obtain ⟨t0, u0, rfl, h0⟩ := hx x0 (List.mem_of_getElem? e0)
    have al : atI xs 0 = some (.ref t0) := at_of (j := 0) rfl e0
    refine ⟨_, rfl, l, rfl, ⟨_, SqL.of hl⟩, fun D hD => ?_⟩
    refine lc_it (walk_list (xs := xs)) (fun i H' => Same H H' ∧ H' D = some (.lst ((List.replicate i false).map V.bl))) ⟨Same.new hD, upd_same⟩ (fun i H' _ hp => SqL.of (hp.1 _ _ hl)) ?_ ?_
    · rintro i x Ha Hb hi ⟨sm, hL⟩ ⟨rfl, ex⟩
      obtain ⟨t, u, rfl, hS⟩ := hx x (List.mem_of_getElem? ex)
      refine ⟨rfl, ?_⟩
      refine yesT ?_
      refine ⟨_, rfl, t, _, 0, .int (n : Nat), rfl, rfl, Same.t sm hS, a0 u, _, rfl, l, _, 0, .ref t0, rfl, rfl, SqL.of (sm _ _ hl), al, t0, _, 0, .int (n : Nat), rfl, rfl, Same.t sm h0, a0 u0, rfl, _, hL, ?_, same_put sm hD, ?_⟩
      · rw [List.length_map, List.length_replicate]
        exact Nat.lt_of_le_of_lt (show i ≤ 1000 by omega) (by decide)
      · rw [upd_same, decide_eq_true rfl, List.replicate_succ', List.map_append]
        rfl
    · rintro H' ⟨sm, hL⟩
      rcases h23 with z | z <;> rw [z] at hL
      · exact ⟨D, [false, false], rfl, SqL.of hL, false, rfl, iteF (q _ sm)⟩
      · exact ⟨D, [false, false, false], rfl, SqL.of hL, false, rfl, iteF (q _ sm)⟩
def spTwo (K : PySem.W.Frag) : Sp := fun vs H Q _ => ∃ (v1 v2 : V) (n : Nat) (js ls : List J2), vs = [v1, v2] ∧ Ly K H v1 n js ∧ Ly K H v2 n ls ∧ Good n js ∧ Good n ls ∧ ∀ v H', Same H H' → Q v H'
theorem sc14 : FnScope ["one", "other"] ["one", "other"] (defScope (top 13)) := ⟨rfl, rfl, rfl, by decide +kernel, rfl, by decide +kernel, by decide +kernel⟩
theorem ok14 {f f13 f15 : Addr} {fd fd13 fd15 : FuncData} (F : Fun K "need_two" "need_two" (top 13) f fd)
    (D13 : Df K mg "need_lay" f13 fd13 ["lay"]) (G13 : OkF P w K mg base 5 f13 fd13 ["lay"] (spLay K))
    (D15 : Df K mg "need_alike" f15 fd15 ["lays"]) (G15 : OkF P w K mg base 1 f15 fd15 ["lays"] (spAlike K)) : OkF P w K mg base 6 f fd ["one", "other"] (spTwo K) := by
  refine ok0 F sc14 (fun vs H Q E h => ?_) (fun cdv A outer s H vs Q E hgd hr h => ?_)
  · obtain ⟨v1, v2, n, js, ls, rfl, _⟩ := h; rfl
  · obtain ⟨v1, v2, n, js, ls, rfl, y1, y2, g1, g2, q⟩ := h
    have hr1 : Room 1 _ := hr.mono (by decide)
    refine ⟨_, pss_cons (ps_expr (cl D13 G13 hgd hr (pa_cons (pv 0) pa_nil))) (pss_cons (ps_expr (cl D13 G13 hgd hr (pa_cons (pv 1) pa_nil)))
      (pss_cons (ps_expr (cl D15 G15 hgd hr1 (pa_cons (pe_lst (pa_cons (pv 0) (pa_cons (pv 1) pa_nil))) pa_nil))) (pss_one (ps_ret (pe_tup (pa_cons (pv 0) (pa_cons (pv 1) pa_nil))))))), ?_⟩
    refine ⟨_, rfl, v1, n, js, rfl, y1, g1, fun H1 s1 => ?_⟩
    refine ⟨_, rfl, v2, n, ls, rfl, y2.up s1, g2, fun H2 s2 => ?_⟩
    have S2 := s1.trans s2
    obtain ⟨t1, u1, rfl, h1, _⟩ := y1
    obtain ⟨t2, u2, rfl, h2, _⟩ := y2
    refine ⟨_, rfl, _, rfl, by show 2 ≤ sizeLine; decide, fun l hl => ?_⟩
    have s3 := S2.trans (Same.new (o := .lst [.ref t1, .ref t2]) hl)
    refine ⟨l, n, _, rfl, upd_same, .inl rfl, fun x hx => ?_, fun H3 s4 => ?_⟩
    · simp only [List.mem_cons, List.not_mem_nil, or_false] at hx
      rcases hx with rfl | rfl
      · exact ⟨t1, u1, rfl, Same.t s3 h1⟩
      · exact ⟨t2, u2, rfl, Same.t s3 h2⟩
    exact ⟨_, rfl, _, rfl, by show 2 ≤ sizeLine; decide, fun T hT => q _ _ ((s3.trans s4).trans (Same.new hT))⟩
end
end K15
-- K15p
set_option Elab.async false
set_option linter.all false
set_option maxRecDepth 100000
set_option maxHeartbeats 8000000
namespace DC
open PySem L2
theorem it_gen {J : It} {n : Nat} {G : Hp → Prop} {Y : Nat → Hp → V → Hp → Prop} (w : Walk J n G Y) {H0 : Hp} {Qd : Hp → Prop} {body : V → Hp → (Hp → Prop) → Prop} (Pv : Nat → Hp → Prop) (h0 : Pv 0 H0) (hG : ∀ i H, i ≤ n → Pv i H → G H)
    (hs : ∀ i x H H', i < n → Pv i H → Y i H x H' → body x H' (Pv (i + 1))) (hd : ∀ H, Pv n H → Qd H) :
    ∃ W : Nat → Nat → Hp → Prop, (∃ m, W 0 m H0) ∧ ∀ i m H, W i m H →
      (J.stop i H ∧ Qd H) ∨ (J.go i H ∧ ∃ Nx : Hp → Prop, (∀ H', Nx H' → ∃ m', m' < m ∧ W (i + 1) m' H') ∧ ∀ x H', J.yld i H x H' → body x H' Nx) := by
  let Z : Nat → Nat → Hp → Prop := fun a b h => b + a = n ∧ Pv a h
  refine ⟨Z, ⟨n, Nat.add_zero n, h0⟩, fun a b h z => ?_⟩
  obtain ⟨e, p⟩ := z
  have c := hG a h (by omega) p
  rcases Nat.lt_or_ge a n with lt | ge
  · right
    exact ⟨w.goes a h lt c, Pv (a + 1), fun h2 p2 => ⟨b - 1, by omega, by show b - 1 + (a + 1) = n; omega, p2⟩, fun x h2 y => hs a x h h2 lt p (w.yields a h x h2 lt c y)⟩
  · left
    obtain rfl : a = n := by omega
    exact ⟨w.stops h c, hd h p⟩
theorem pi_listK {X : Cx} {K : PySem.W.Frag} {tg a : Expr} {t : TE} (h : PE X a t) (e : X.K = K := by rfl) : PI X tg a (iList K t) := by
  subst e
  exact pi_list h
end DC
namespace K15
open PySem L2 DC LamX
section
variable {P : Program} {w : World} {K : PySem.W.Frag} {mg : Str → Option Value} {base : Heap}
def cutS (p : J2) : Stp2 := ([p], [])
def spCuts (K : PySem.W.Frag) : Sp := fun vs H Q _ => ∃ (v : V) (js : List J2), vs = [v] ∧ Js K H v js ∧ js.length ≤ 24 ∧ ∀ (r : Addr) (us : List V) (H' : Hp), Same H H' → H r = none → H' r = some (.lst us) → Paired (Stp K H') us (js.map cutS) → Q (.ref r) H'
abbrev NCu : List Str := ["joints", "joint"]
theorem scCu : FnScope NCu ["joints"] (defScope (top 23)) := ⟨rfl, rfl, rfl, by decide +kernel, rfl, by decide +kernel, by decide +kernel⟩
theorem okCu {f : Addr} {fd : FuncData} (F : Fun K "cuts" "cuts" (top 23) f fd) : OkF P w K mg base 1 f fd ["joints"] (spCuts K) := by
  refine ok0 F scCu (fun vs H Q E h => ?_) (fun cdv A outer s H vs Q E hgd hr h => ?_)
  · obtain ⟨v, js, rfl, _⟩ := h; rfl
  · obtain ⟨v, js, rfl, ⟨t, ws, rfl, hS, hP⟩, hl, q⟩ := h
    have nd := scCu.nd
    have lw : ws.length = js.length := Paired.length hP
    refine ⟨_, (pss_one (ps_ret (pe_lc (own := [("joint", 1)]) (g := gName 1) (tt := tYes) rfl nd (pi_tup (pv 0)) (blkOk_by (N := NCu) (sc := defScope (top 23)) (by decide +kernel)) (fun _ _ _ _ _ => pg_name (i := 1) nd rfl (Or.inl rfl)) (fun _ _ _ _ _ => pts_nil) (fun _ _ _ _ _ => (pe_tup (pa_cons (pe_tup (pa_cons (pv 1) pa_nil)) (pa_cons (pe_tup pa_nil) pa_nil))))))), ?_⟩
    refine ⟨_, rfl, t, rfl, ⟨ws, hS⟩, fun D hD => ?_⟩
    refine lc_it (walk_tup (xs := ws)) (fun i H' => ∃ acc : List V, Same H H' ∧ H' D = some (.lst acc) ∧ Paired (Stp K H') acc ((js.take i).map cutS)) ⟨[], Same.new hD, upd_same, .nil⟩ (fun i H' _ hp => by
      obtain ⟨acc, sm, _⟩ := hp
      exact Same.t sm hS) ?_ ?_
    · rintro i x Ha Hb hi ⟨acc, sm, hL, hA⟩ ⟨rfl, ex⟩
      obtain ⟨p, ep, hx⟩ := paired_at hP ex
      have hx := hx.up sm
      have la := Paired.length hA
      refine ⟨rfl, ?_⟩
      refine yesT ?_
      refine ⟨_, rfl, by show 1 ≤ sizeLine; decide, fun T1 hT1 => ⟨by show 0 ≤ sizeLine; decide, fun T2 hT2 => ⟨by show 2 ≤ sizeLine; decide, fun T3 hT3 => ?_⟩⟩⟩
      have u1 := Same.new (o := .tup [x]) hT1
      have u2 := Same.new (o := .tup []) hT2
      have u3 := Same.new (o := .tup [.ref T1, .ref T2]) hT3
      have u := u1.trans (u2.trans u3)
      have hSt : Stp K (upd (upd (upd Hb T1 (.tup [x])) T2 (.tup [])) T3 (.tup [.ref T1, .ref T2])) (.ref T3) (cutS p) :=
        ⟨T3, _, _, rfl, SqT.of upd_same, ⟨T1, [x], rfl, SqT.of ((u2.trans u3) _ _ upd_same), .cons (hx.up u) .nil⟩, ⟨T2, [], rfl, SqT.of (u3 _ _ upd_same), .nil⟩⟩
      have tm := TM.put (K := K) (o := .lst (acc ++ [.ref T3])) (u _ _ hL)
      refine ⟨acc, u _ _ hL, ?_, acc ++ [.ref T3], same_put (sm.trans u) hD, upd_same, ?_⟩
      · rw [List.length_map, List.length_take] at la
        exact Nat.lt_of_le_of_lt (show acc.length ≤ 1000 by omega) (by decide)
      · rw [take_next ep, List.map_append]
        exact pair_snoc (tm.stps ((TM.of u).stps hA)) (tm.stp hSt)
    · rintro H' ⟨acc, sm, hL, hA⟩
      rw [List.take_of_length_le (by omega)] at hA
      exact q D acc H' sm hD hL hA
def spJoins (K : PySem.W.Frag) : Sp := fun vs H Q _ => ∃ (l : Addr) (fr : List Nat), vs = [.ref l] ∧ H l = some (.lst (Vn fr)) ∧ fr.length ≤ 24 ∧ ∀ (r : Addr) (us : List V) (H' : Hp), Same H H' → H r = none → H' r = some (.lst us) → Paired (Stp K H') us (pre2 fr fr.length) → us.length ≤ 600 → Q (.ref r) H'
abbrev NJn : List Str := ["free", "at", "low", "high"]
theorem scJn : FnScope NJn ["free"] (defScope (top 22)) := ⟨rfl, rfl, rfl, by decide +kernel, rfl, by decide +kernel, by decide +kernel⟩
theorem okJn {f : Addr} {fd : FuncData} (F : Fun K "joins" "joins" (top 22) f fd) (B : Bn mg) : OkF P w K mg base 1 f fd ["free"] (spJoins K) := by
  refine ok0 F scJn (fun vs H Q E h => ?_) (fun cdv A outer s H vs Q E hgd hr h => ?_)
  · obtain ⟨l, fr, rfl, _⟩ := h; rfl
  · obtain ⟨l, fr, rfl, hl, hf, q⟩ := h
    have nd := scJn.nd
    have lenV : (Vn fr).length = fr.length := Vn_len fr
    refine ⟨_, (pss_one (ps_ret (pe_lc2 (own := [("at", 1), ("low", 2), ("high", 3)]) (vs1 := [3]) (g := gTup K 2 (gCons (gName 1) (gCons (gName 2) gNil))) (g1 := gName 3) (tt := tYes) (tt1 := tYes) rfl nd (pi_enum (by rfl) B.enum (pa_cons (pv 0) pa_nil)) (blkOk_by (N := NJn) (sc := defScope (top 22)) (by decide +kernel)) (by decide) (fun _ _ _ _ _ => (pg_tup (by rfl) (pgs_cons (pg_name (i := 1) nd rfl (Or.inl rfl)) (pgs_cons (pg_name (i := 2) nd rfl (Or.inl rfl)) pgs_nil)))) (fun _ _ _ _ _ => pts_nil) (fun _ _ _ _ _ => pi_listK (K := K) (pe_slice (r := rSlL K) sl_list (pv 0) (po_some (pe_op op_add (pv 1) pe_int)) po_none)) (fun _ _ _ _ _ => pg_name (i := 3) nd rfl (Or.inl rfl)) (fun _ _ _ _ _ => pts_nil) (fun _ _ _ _ _ => (pe_tup (pa_cons (pe_tup pa_nil) (pa_cons (pe_tup (pa_cons (pe_tup (pa_cons (pv 2) (pa_cons (pv 3) pa_nil))) pa_nil)) pa_nil))))))), ?_⟩
    refine ⟨_, rfl, l, Vn fr, rfl, SqL.of hl, fun D hD => ?_⟩
    refine it_gen (walk_enum (xs := Vn fr)) (fun i H' => ∃ acc : List V, Same H H' ∧ H' D = some (.lst acc) ∧ Paired (Stp K H') acc (pre2 fr i) ∧ acc.length ≤ 24 * i) ⟨[], Same.new hD, upd_same, .nil, Nat.le_refl _⟩ (fun i H' _ hp => by
      obtain ⟨acc, sm, _⟩ := hp
      exact SqL.of (sm _ _ hl)) ?_ ?_
    · rintro i x Ha Hb hi ⟨acc, sm, hL, hA, hal⟩ ⟨T, x1, x2, rfl, nT, rfl, e1, e2⟩
      cases e1
      have hi' : i < fr.length := by omega
      obtain rfl : x2 = V.int (fr.getD i 0 : Nat) := Option.some.inj (Eq.trans (Eq.symm e2) (Vn_at hi'))
      have sT := Same.new (o := .tup [.int (i : Nat), .int (fr.getD i 0 : Nat)]) nT
      refine ⟨T, _, rfl, SqT.of upd_same, rfl, _, _, rfl, _, _, rfl, rfl, rfl, ?_⟩
      refine yesT ?_
      refine ⟨_, rfl, _, rfl, ((i : Nat) : Int), 1, rfl, rfl, _, rfl, l, _, rfl, SqL.of (sT _ _ (sm _ _ hl)), fun p hp => ?_⟩
      have ecut : cutV (Vn fr) (some (((i : Nat) : Int) + 1)) none = Vn (fr.drop (i + 1)) := by
        have := cut_a (xs := Vn fr) (a := i + 1) (by rw [Vn_len]; omega)
        rw [show ((i + 1 : Nat) : Int) = ((i : Nat) : Int) + 1 by omega] at this
        rw [this, vn_drop]
      rw [ecut]
      have sp := Same.new (o := .lst (Vn (fr.drop (i + 1)))) hp
      have hLp := sp _ _ (sT _ _ hL)
      have Dp : D ≠ p := ne_of_none (sT _ _ hL) hp
      have SS := sm.trans (sT.trans sp)
      have hAp := (TM.of (sT.trans sp)).stps hA
      have hpp := upd_same (H := upd Ha T (.tup [.int (i : Nat), .int (fr.getD i 0 : Nat)])) (a := p) (o := .lst (Vn (fr.drop (i + 1))))
      clear sT sp hp nT
      generalize upd (upd Ha T (.tup [.int (i : Nat), .int (fr.getD i 0 : Nat)])) p (.lst (Vn (fr.drop (i + 1)))) = Hc at hLp SS hAp hpp ⊢
      refine ⟨p, rfl, ⟨_, SqL.of hpp⟩, ?_⟩
      refine it_gen (walk_list (xs := Vn (fr.drop (i + 1)))) (fun d H' => ∃ acc : List V, Same H H' ∧ H' D = some (.lst acc) ∧ H' p = some (.lst (Vn (fr.drop (i + 1)))) ∧ Paired (Stp K H') acc (pre2 fr i ++ ((fr.drop (i + 1)).take d).map fun b => ([], [(fr.getD i 0, b)])) ∧ acc.length ≤ 24 * i + d) ⟨acc, SS, hLp, hpp, by rw [List.take_zero, List.map_nil, List.append_nil]; exact hAp, hal⟩ (fun d H' _ hp => by
        obtain ⟨acc, sm, _, h, _⟩ := hp
        exact SqL.of h) ?_ ?_
      · rintro d y Hd He hd ⟨acc, sm, hL, hp, hA, hal⟩ ⟨rfl, ey⟩
        rw [Vn_len] at hd
        have hd2 := hd
        rw [List.length_drop] at hd2
        obtain rfl : y = V.int ((fr.drop (i + 1)).getD d 0 : Nat) := Option.some.inj (Eq.trans (Eq.symm ey) (Vn_at hd))
        refine ⟨rfl, ?_⟩
        refine yesT ?_
        refine ⟨by show 0 ≤ sizeLine; decide, fun T1 hT1 => ⟨_, rfl, _, rfl, by show 2 ≤ sizeLine; decide, fun T2 hT2 => ⟨by show 1 ≤ sizeLine; decide, fun T3 hT3 => ⟨by show 2 ≤ sizeLine; decide, fun T4 hT4 => ?_⟩⟩⟩⟩
        have u1 := Same.new (o := .tup []) hT1
        have u2 := Same.new (o := .tup [.int (fr.getD i 0 : Nat), .int ((fr.drop (i + 1)).getD d 0 : Nat)]) hT2
        have u3 := Same.new (o := .tup [.ref T2]) hT3
        have u4 := Same.new (o := .tup [.ref T1, .ref T3]) hT4
        have u34 := u3.trans u4
        have u := u1.trans (u2.trans u34)
        have hSt : Stp K (upd (upd (upd (upd He T1 (.tup [])) T2 (.tup [.int (fr.getD i 0 : Nat), .int ((fr.drop (i + 1)).getD d 0 : Nat)])) T3 (.tup [.ref T2])) T4 (.tup [.ref T1, .ref T3])) (.ref T4) ([], [(fr.getD i 0, (fr.drop (i + 1)).getD d 0)]) :=
          ⟨T4, _, _, rfl, SqT.of upd_same, ⟨T1, [], rfl, SqT.of ((u2.trans u34) _ _ upd_same), .nil⟩, ⟨T3, [.ref T2], rfl, SqT.of (u4 _ _ upd_same), .cons ⟨T2, rfl, SqT.of (u34 _ _ upd_same)⟩ .nil⟩⟩
        have tm := TM.put (K := K) (o := .lst (acc ++ [.ref T4])) (u _ _ hL)
        refine ⟨acc, u _ _ hL, Nat.lt_of_le_of_lt (show acc.length ≤ 1000 by omega) (by decide), acc ++ [.ref T4], same_put (sm.trans u) hD, upd_same, by rw [upd_ne (Ne.symm Dp)]; exact u _ _ hp, ?_, by rw [List.length_append]; exact Nat.succ_le_succ hal⟩
        have en : (fr.drop (i + 1))[d]? = some ((fr.drop (i + 1)).getD d 0) := by
          rw [List.getD_eq_getElem?_getD, List.getElem?_eq_getElem hd]
          rfl
        rw [take_next en, List.map_append, ← List.append_assoc]
        exact pair_snoc (tm.stps ((TM.of u).stps hA)) (tm.stp hSt)
      · rintro H' ⟨acc, sm, hL, hp, hA, hal⟩
        rw [Vn_len, List.take_of_length_le (Nat.le_refl _), ← pre2_succ] at hA
        rw [Vn_len, List.length_drop] at hal
        exact ⟨acc, sm, hL, hA, by omega⟩
    · rintro H' ⟨acc, sm, hL, hA, hal⟩
      rw [lenV] at hA hal
      exact q D acc H' sm hD hL hA (by omega)
def spPg (K : PySem.W.Frag) : Sp := fun vs H Q _ => ∃ (v1 v2 : V) (p q : J2), vs = [v1, v2] ∧ Pr K H v1 p ∧ Pr K H v2 q ∧ ∀ (r : Addr) (us : List V) (H' : Hp), Same H H' → H r = none → H' r = some (.lst us) → Paired (Js K H') us [[(p.1, q.1), nm (p.2, q.2)], [(p.1, q.2), nm (p.2, q.1)]] → Q (.ref r) H'
abbrev NPg : List Str := ["one", "other", "low", "high", "left", "right"]
theorem scPg : FnScope NPg ["one", "other"] (defScope (top 19)) := ⟨rfl, rfl, rfl, by decide +kernel, rfl, by decide +kernel, by decide +kernel⟩
theorem okPg {f fJ : Addr} {fd fdJ : FuncData} (F : Fun K "pairings" "pairings" (top 19) f fd)
    (DJ : Df K mg "joint_of" fJ fdJ ["one", "other"]) (GJ : OkF P w K mg base 1 fJ fdJ ["one", "other"] (spJt K)) : OkF P w K mg base 2 f fd ["one", "other"] (spPg K) := by
  refine ok0 F scPg (fun vs H Q E h => ?_) (fun cdv A outer s H vs Q E hgd hr h => ?_)
  · obtain ⟨v1, v2, p, q, rfl, _⟩ := h; rfl
  · obtain ⟨v1, v2, p, q, rfl, ⟨a, rfl, ha⟩, ⟨b, rfl, hb⟩, fin⟩ := h
    have nd := scPg.nd
    have hr1 : Room 1 _ := hr.mono (by decide)
    refine ⟨_, (pss_cons (ps_asg (pv 0) (pg_tup (by rfl) (pgs_cons (pg_name (i := 2) nd rfl (.inl rfl)) (pgs_cons (pg_name (i := 3) nd rfl (.inl rfl)) pgs_nil)))) (pss_cons (ps_asg (pv 1) (pg_tup (by rfl) (pgs_cons (pg_name (i := 4) nd rfl (.inl rfl)) (pgs_cons (pg_name (i := 5) nd rfl (.inl rfl)) pgs_nil)))) (pss_one (ps_ret (pe_lst (pa_cons (pe_tup (pa_cons (pe_tup (pa_cons (pv 2) (pa_cons (pv 4) pa_nil))) (pa_cons (cl DJ GJ hgd hr1 (pa_cons (pv 3) (pa_cons (pv 5) pa_nil))) pa_nil))) (pa_cons (pe_tup (pa_cons (pe_tup (pa_cons (pv 2) (pa_cons (pv 5) pa_nil))) (pa_cons (cl DJ GJ hgd hr1 (pa_cons (pv 3) (pa_cons (pv 4) pa_nil))) pa_nil))) pa_nil))))))), ?_⟩
    refine ⟨_, rfl, a, _, rfl, ha, rfl, _, _, rfl, _, _, rfl, rfl, ?_⟩
    refine ⟨_, rfl, b, _, rfl, hb, rfl, _, _, rfl, _, _, rfl, rfl, ?_⟩
    refine ⟨_, rfl, _, rfl, by show 2 ≤ sizeLine; decide, fun T1 hT1 => ?_⟩
    have u1 := Same.new (o := .tup [.int (p.1 : Nat), .int (q.1 : Nat)]) hT1
    refine ⟨_, rfl, _, rfl, p.2, q.2, rfl, fun T2 H2 s2 fr2 hT2 => ⟨by show 2 ≤ sizeLine; decide, fun T3 hT3 => ?_⟩⟩
    have u3 := Same.new (o := .tup [.ref T1, .ref T2]) hT3
    refine ⟨_, rfl, _, rfl, by show 2 ≤ sizeLine; decide, fun T4 hT4 => ?_⟩
    have u4 := Same.new (o := .tup [.int (p.1 : Nat), .int (q.2 : Nat)]) hT4
    refine ⟨_, rfl, _, rfl, p.2, q.1, rfl, fun T5 H5 s5 fr5 hT5 => ⟨by show 2 ≤ sizeLine; decide, fun T6 hT6 => ⟨by show 2 ≤ sizeLine; decide, fun L hL => ?_⟩⟩⟩
    have u6 := Same.new (o := .tup [.ref T4, .ref T5]) hT6
    have uL := Same.new (o := .lst [.ref T3, .ref T6]) hL
    have s3L := u4.trans (s5.trans (u6.trans uL))
    have s56 := u6.trans uL
    exact fin L _ _ (u1.trans (s2.trans (u3.trans s3L))) ((u1.trans (s2.trans (u3.trans (u4.trans (s5.trans u6))))).free hL) upd_same (.cons ⟨T3, _, rfl, SqT.of (s3L _ _ upd_same), .cons ⟨T1, rfl, SqT.of ((s2.trans (u3.trans s3L)) _ _ upd_same)⟩ (.cons ⟨T2, rfl, SqT.of ((u3.trans s3L) _ _ hT2)⟩ .nil)⟩
      (.cons ⟨T6, _, rfl, SqT.of (uL _ _ upd_same), .cons ⟨T4, rfl, SqT.of ((s5.trans s56) _ _ upd_same)⟩ (.cons ⟨T5, rfl, SqT.of (s56 _ _ hT5)⟩ .nil)⟩ .nil))
def spAre (K : PySem.W.Frag) : Sp := fun vs H Q _ => ∃ (v : V) (n : Nat) (js : List J2), vs = [v, .int n] ∧ Js K H v js ∧ Good n js ∧ ∀ H', Same H H' → Q (.bl true) H'
end
end K15
-- K15s
set_option Elab.async false
set_option linter.all false
set_option maxRecDepth 100000
set_option maxHeartbeats 8000000
namespace K15
open PySem L2 DC LamX
inductive IsSt (n : Nat) (js : List J2) : Stp2 → Prop
  | cut (p : J2) (h : p ∈ js) : IsSt n js ([p], [])
  | shift (p : J2) (e near : Nat) (h : p ∈ js) (he : e ∈ frees n js) (hn : near = p.1 ∨ near = p.2) : IsSt n js ([p], [mk2 near e])
  | dbl (p q : J2) (h : p ∈ js) (h' : q ∈ js) (a : p.1 < q.1) (ap : Apart p q) : IsSt n js ([p, q], [(p.1, q.1), mk2 p.2 q.2])
  | dbl2 (p q : J2) (h : p ∈ js) (h' : q ∈ js) (a : p.1 < q.1) (ap : Apart p q) : IsSt n js ([p, q], [(p.1, q.2), mk2 p.2 q.1])
  | join (a b : Nat) (ha : a ∈ frees n js) (hb : b ∈ frees n js) (h : a < b) : IsSt n js ([], [(a, b)])
theorem frees_asc (n : Nat) (js : List J2) : (frees n js).Pairwise (· < ·) := by
  unfold frees
  exact List.pairwise_lt_range.filter _
theorem free_lt {n : Nat} {js : List J2} {e : Nat} (h : e ∈ frees n js) : e < 2 * n ∧ mt js e = none := by
  unfold frees at h
  obtain ⟨h1, h2⟩ := List.mem_filter.mp h
  exact ⟨List.mem_range.mp h1, Option.isNone_iff_eq_none.mp h2⟩
theorem mt_end {n : Nat} {js : List J2} (g : Good n js) {p : J2} (h : p ∈ js) {x : Nat} (hx : x = p.1 ∨ x = p.2) : mt js x ≠ none := by
  obtain ⟨h1, h2⟩ := mt_of g.dis (fun q hq => Nat.ne_of_lt (g.rng q hq).1) h
  rcases hx with rfl | rfl
  · rw [h1]; exact fun z => nomatch z
  · rw [h2]; exact fun z => nomatch z
theorem sm2_lt {p q : J2} (h : p.1 < q.1) : sm2 p q = [p, q] := if_pos h
theorem mk2_lt {a b : Nat} (h : a < b) : mk2 a b = (a, b) := by
  unfold mk2
  rw [Nat.min_eq_left (by omega), Nat.max_eq_right (by omega)]
theorem nm_mk2 (a b : Nat) : nm (a, b) = mk2 a b := by
  unfold nm mk2
  by_cases h : a < b
  · rw [if_pos h, Nat.min_eq_left (by omega), Nat.max_eq_right (by omega)]
  · rw [if_neg h, Nat.min_eq_right (by omega), Nat.max_eq_left (by omega)]
theorem isSt_of {n : Nat} {js : List J2} (g : Good n js) {st : Stp2} (h : st ∈ stJ n js) : IsSt n js st := by
  unfold stJ at h
  rcases List.mem_append.mp h with h | h
  · obtain ⟨k, hk, h⟩ := List.mem_flatMap.mp h
    have hk := List.mem_range.mp hk
    have ek : js.getD k (0, 0) = js[k] := by
      rw [List.getD_eq_getElem?_getD, List.getElem?_eq_getElem hk]
      rfl
    have pm : js[k] ∈ js := List.getElem_mem hk
    rw [ek] at h
    unfold stAt at h
    rcases List.mem_append.mp h with h | h
    · rcases List.mem_cons.mp h with rfl | h
      · exact .cut _ pm
      · obtain ⟨e, he, h⟩ := List.mem_flatMap.mp h
        simp only [List.mem_cons, List.not_mem_nil, or_false] at h
        rcases h with rfl | rfl
        · exact .shift _ e _ pm he (.inl rfl)
        · exact .shift _ e _ pm he (.inr rfl)
    · obtain ⟨o, ho, h⟩ := List.mem_flatMap.mp h
      obtain ⟨m, hm, rfl⟩ := List.getElem_of_mem ho
      rw [List.getElem_drop] at h
      rw [List.length_drop] at hm
      have l2 : k + 1 + m < js.length := by omega
      have qm : js[k + 1 + m] ∈ js := List.getElem_mem l2
      have lt := List.pairwise_iff_getElem.mp g.asc k (k + 1 + m) hk l2 (by omega)
      have ap := List.pairwise_iff_getElem.mp g.dis k (k + 1 + m) hk l2 (by omega)
      have rp := g.rng _ pm
      have rq := g.rng _ qm
      simp only [List.mem_cons, List.not_mem_nil, or_false] at h
      rcases h with rfl | rfl
      · rw [mk2_lt lt, sm2_lt (p := (js[k].1, js[k + 1 + m].1)) (q := mk2 js[k].2 js[k + 1 + m].2) (by unfold mk2; dsimp only; omega)]
        exact .dbl _ _ pm qm lt ap
      · rw [mk2_lt (show js[k].1 < js[k + 1 + m].2 by omega), sm2_lt (p := (js[k].1, js[k + 1 + m].2)) (q := mk2 js[k].2 js[k + 1 + m].1) (by unfold mk2; dsimp only; omega)]
        exact .dbl2 _ _ pm qm lt ap
  · obtain ⟨k, hk, h⟩ := List.mem_flatMap.mp h
    have hk := List.mem_range.mp hk
    have ek : (frees n js).getD k 0 = (frees n js)[k] := by
      rw [List.getD_eq_getElem?_getD, List.getElem?_eq_getElem hk]
      rfl
    obtain ⟨b, hb, rfl⟩ := List.mem_map.mp h
    rw [ek]
    obtain ⟨m, hm, rfl⟩ := List.getElem_of_mem hb
    rw [List.getElem_drop]
    rw [List.length_drop] at hm
    exact .join _ _ (List.getElem_mem hk) (List.getElem_mem (by omega)) (List.pairwise_iff_getElem.mp (frees_asc n js) k (k + 1 + m) hk (by omega) (by omega))
theorem good_nil {n : Nat} {js : List J2} (g : Good n js) : Good n [] := ⟨g.one, g.top, fun _ h => absurd h List.not_mem_nil, .nil, .nil⟩
theorem good_one {n : Nat} {js : List J2} (g : Good n js) {p : J2} (h : p.1 < p.2 ∧ p.2 < 2 * n) : Good n [p] := ⟨g.one, g.top, fun q hq => by obtain rfl := List.mem_singleton.mp hq; exact h, List.pairwise_singleton _ _, List.pairwise_singleton _ _⟩
theorem good_two {n : Nat} {js : List J2} (g : Good n js) {p q : J2} (h : p.1 < p.2 ∧ p.2 < 2 * n) (h' : q.1 < q.2 ∧ q.2 < 2 * n) (a : p.1 < q.1) (ap : Apart p q) : Good n [p, q] := by
  refine ⟨g.one, g.top, fun r hr => ?_, List.pairwise_cons.mpr ⟨fun r hr => ?_, List.pairwise_singleton _ _⟩, List.pairwise_cons.mpr ⟨fun r hr => ?_, List.pairwise_singleton _ _⟩⟩
  · simp only [List.mem_cons, List.not_mem_nil, or_false] at hr
    rcases hr with rfl | rfl
    · exact h
    · exact h'
  · obtain rfl := List.mem_singleton.mp hr; exact a
  · obtain rfl := List.mem_singleton.mp hr; exact ap
theorem isSt_good {n : Nat} {js : List J2} (g : Good n js) {st : Stp2} (s : IsSt n js st) : Good n st.1 ∧ Good n st.2 := by
  cases s with
  | cut p h => exact ⟨good_one g (g.rng p h), good_nil g⟩
  | shift p e near h he hn =>
    refine ⟨good_one g (g.rng p h), good_one g ?_⟩
    have r := g.rng p h
    obtain ⟨e1, e2⟩ := free_lt he
    have ne : near ≠ e := fun z => mt_end g h (by rw [← z]; exact hn) e2
    unfold mk2
    dsimp only
    rcases hn with rfl | rfl <;> omega
  | dbl p q h h' a ap =>
    have rp := g.rng p h
    have rq := g.rng q h'
    unfold DC.Apart at ap
    refine ⟨good_two g rp rq a ap, good_two g ⟨a, by omega⟩ ?_ ?_ ?_⟩
    · unfold mk2; dsimp only; omega
    · unfold mk2; dsimp only; omega
    · unfold mk2 DC.Apart; dsimp only; omega
  | dbl2 p q h h' a ap =>
    have rp := g.rng p h
    have rq := g.rng q h'
    unfold DC.Apart at ap
    refine ⟨good_two g rp rq a ap, good_two g ⟨by omega, by omega⟩ ?_ ?_ ?_⟩
    · unfold mk2; dsimp only; omega
    · unfold mk2; dsimp only; omega
    · unfold mk2 DC.Apart; dsimp only; omega
  | join a b ha hb h =>
    exact ⟨good_nil g, good_one g ⟨h, (free_lt hb).1⟩⟩
theorem pre2_mem {fr : List Nat} {i : Nat} {st : Stp2} : st ∈ pre2 fr i → ∃ a b, st = ([], [(a, b)]) := by
  intro h
  unfold pre2 at h
  obtain ⟨k, _, h⟩ := List.mem_flatMap.mp h
  obtain ⟨b, _, rfl⟩ := List.mem_map.mp h
  exact ⟨_, _, rfl⟩
theorem pre2_in {fr : List Nat} (asc : fr.Pairwise (· < ·)) {a b : Nat} (ha : a ∈ fr) (hb : b ∈ fr) (h : a < b) : ([], [(a, b)]) ∈ pre2 fr fr.length := by
  obtain ⟨i, hi, rfl⟩ := List.getElem_of_mem ha
  obtain ⟨j, hj, rfl⟩ := List.getElem_of_mem hb
  have ij : i < j := by
    rcases Nat.lt_trichotomy i j with z | z | z
    · exact z
    · subst z
      omega
    · have := List.pairwise_iff_getElem.mp asc j i hj hi z
      omega
  unfold pre2
  refine List.mem_flatMap.mpr ⟨i, List.mem_range.mpr hi, List.mem_map.mpr ⟨fr[j], ?_, ?_⟩⟩
  · rw [show fr[j] = (fr.drop (i + 1))[j - (i + 1)]'(by rw [List.length_drop]; omega) from by rw [List.getElem_drop]; congr 1; omega]
    exact List.getElem_mem _
  · rw [List.getD_eq_getElem?_getD, List.getElem?_eq_getElem hi]
    rfl
theorem st_inj {a b : Stp2} (h : PySem.W.keyToks (stD a) = PySem.W.keyToks (stD b)) : a = b := by
  unfold stD at h
  simp only [PySem.W.keyToks, PySem.W.keyToksAll, List.cons_append, List.append_assoc, List.cons.injEq, Sum.inl.injEq, true_and] at h
  obtain ⟨h1, h2⟩ := toks_prs a.1 b.1 _ _ h
  simp only [List.cons_append, List.append_assoc, List.cons.injEq, Sum.inl.injEq, true_and] at h2
  obtain ⟨h3, _⟩ := toks_prs a.2 b.2 _ _ h2
  exact Prod.ext h1 h3
theorem eqv_prs : ∀ l m : List J2, PyData.eqvAll (l.map pairD) (m.map pairD) = decide (l = m)
  | [], [] => by simp only [List.map_nil, PyData.eqvAll]; rfl
  | [], q :: m => by simp only [List.map_nil, List.map_cons, PyData.eqvAll]; rfl
  | p :: l, [] => by simp only [List.map_nil, List.map_cons, PyData.eqvAll]; rfl
  | p :: l, q :: m => by
    simp only [List.map_cons, PyData.eqvAll]
    rw [eqv_pair, eqv_prs l m, Bool.eq_iff_iff]
    simp only [Bool.and_eq_true, decide_eq_true_eq, List.cons.injEq]
theorem eqv_st (a b : Stp2) : (stD a).eqv (stD b) = decide (a = b) := by
  unfold stD
  simp only [PyData.eqv, PyData.eqvAll, Bool.and_true]
  rw [eqv_prs, eqv_prs, Bool.eq_iff_iff]
  simp only [Bool.and_eq_true, decide_eq_true_eq]
  exact ⟨fun h => Prod.ext h.1 h.2, fun h => by rw [h]; exact ⟨rfl, rfl⟩⟩
theorem any_st (l : List Stp2) (s : Stp2) : (l.map stD).any (fun z => PyData.eqv z (stD s)) = decide (s ∈ l) := by
  induction l with
  | nil => rfl
  | cons q l ih =>
    rw [List.map_cons, List.any_cons, ih, eqv_st, Bool.eq_iff_iff]
    simp only [Bool.or_eq_true, decide_eq_true_eq, List.mem_cons]
    exact or_congr_left eq_comm
end K15
-- TI
/-! TI: the triangle inequality by counting: subgroups of the vectors over a field of five. -/
set_option Elab.async false
set_option linter.all false
set_option maxRecDepth 100000
set_option maxHeartbeats 4000000
namespace TI
abbrev F := Fin 5
def allV : Nat → List (List F)
  | 0 => [[]]
  | m + 1 => (List.finRange 5).flatMap fun a => (allV m).map fun t => a :: t
theorem mem_allV : ∀ {m : Nat} {t : List F}, t ∈ allV m ↔ t.length = m
  | 0, t => by
    unfold allV
    rw [List.mem_singleton, List.length_eq_zero_iff]
  | m + 1, t => by
    unfold allV
    rw [List.mem_flatMap]
    constructor
    · rintro ⟨a, _, h⟩
      obtain ⟨t', h', rfl⟩ := List.mem_map.mp h
      rw [List.length_cons, mem_allV.mp h']
    · intro h
      cases t with
      | nil => simp at h
      | cons a t => exact ⟨a, List.mem_finRange a, List.mem_map.mpr ⟨t, mem_allV.mpr (by simpa using h), rfl⟩⟩
theorem len_allV : ∀ m : Nat, (allV m).length = 5 ^ m
  | 0 => rfl
  | m + 1 => by
    unfold allV
    have : ∀ l : List F, (l.flatMap fun a => (allV m).map fun t => a :: t).length = l.length * 5 ^ m := by
      intro l
      induction l with
      | nil => simp
      | cons a l ih =>
        rw [List.flatMap_cons, List.length_append, ih, List.length_map, len_allV m, List.length_cons, Nat.add_mul]
        omega
    rw [this, List.length_finRange, Nat.pow_succ]
    omega
theorem nodup_allV : ∀ m : Nat, (allV m).Nodup
  | 0 => by
    unfold allV
    exact List.nodup_cons.mpr ⟨List.not_mem_nil, List.nodup_nil⟩
  | m + 1 => by
    unfold allV
    have ih := nodup_allV m
    have : ∀ l : List F, l.Nodup → (l.flatMap fun a => (allV m).map fun t => a :: t).Nodup := by
      intro l
      induction l with
      | nil => intro _; exact List.nodup_nil
      | cons a l ih2 =>
        intro h
        have h' := List.nodup_cons.mp h
        rw [List.flatMap_cons]
        refine List.nodup_append.mpr ⟨?_, ih2 h'.2, ?_⟩
        · exact List.Pairwise.map _ (fun x y hne e => hne (List.cons.inj e).2) ih
        · intro x hx y hy e
          subst e
          obtain ⟨t, _, rfl⟩ := List.mem_map.mp hx
          obtain ⟨b, hb, hm⟩ := List.mem_flatMap.mp hy
          obtain ⟨t', _, e⟩ := List.mem_map.mp hm
          rw [(List.cons.inj e).1] at hb
          exact h'.1 hb
    exact this _ (List.nodup_finRange 5)
theorem nodup_len {α : Type} [DecidableEq α] : ∀ {l m : List α}, l.Nodup → (∀ x ∈ l, x ∈ m) → l.length ≤ m.length
  | [], _, _, _ => Nat.zero_le _
  | a :: l, m, h, s => by
    have h' := List.nodup_cons.mp h
    have ha := s a List.mem_cons_self
    have := nodup_len (l := l) (m := m.erase a) h'.2 fun x hx => (List.mem_erase_of_ne (show x ≠ a from fun e => h'.1 (e ▸ hx))).mpr (s x (List.mem_cons_of_mem _ hx))
    rw [List.length_erase_of_mem ha] at this
    have pos := List.length_pos_of_mem ha
    rw [List.length_cons]
    omega
/-- an injection of the vectors of one length into those of another -/
theorem pigeon {m k : Nat} (f : List F → List F) (h : ∀ t, t.length = m → (f t).length = k) (inj : ∀ t t', t.length = m → t'.length = m → f t = f t' → t = t') : m ≤ k := by
  have nd : ((allV m).map f).Nodup := by
    have := nodup_allV m
    refine List.pairwise_map.mpr (List.Pairwise.imp_of_mem (fun {x y} hx hy ne e => ne (inj x y (mem_allV.mp hx) (mem_allV.mp hy) e)) this)
  have le := nodup_len (m := allV k) nd fun x hx => by
    obtain ⟨t, ht, rfl⟩ := List.mem_map.mp hx
    exact mem_allV.mpr (h t (mem_allV.mp ht))
  rw [List.length_map, len_allV, len_allV] at le
  exact Nat.le_of_not_lt fun c => Nat.not_le_of_lt (Nat.pow_lt_pow_right (by decide) c) le
def sub (x y : List F) : List F := List.zipWith (fun a b => a - b) x y
theorem sub_len {N : Nat} {x y : List F} (hx : x.length = N) (hy : y.length = N) : (sub x y).length = N := by
  unfold sub
  rw [List.length_zipWith, hx, hy, Nat.min_self]
theorem f1 : ∀ a b c : F, a - c = b - c → a = b := by decide
theorem f2 : ∀ a b c d : F, a - b = c - d → a - c = b - d := by decide
theorem f3 : ∀ a b c : F, a - b = a - c → b = c := by decide
theorem sub_right : ∀ {x y z : List F}, x.length = z.length → y.length = z.length → sub x z = sub y z → x = y
  | [], [], _, _, _, _ => rfl
  | a :: x, b :: y, c :: z, h1, h2, e => by
    have e := List.cons.inj (show (a - c) :: sub x z = (b - c) :: sub y z from e)
    rw [f1 a b c e.1, sub_right (by simpa using h1) (by simpa using h2) e.2]
  | [], b :: y, z, h1, h2, _ => by rw [← h1] at h2; simp at h2
  | a :: x, [], z, h1, h2, _ => by rw [← h2] at h1; simp at h1
  | a :: x, b :: y, [], h1, _, _ => by simp at h1
theorem sub_left : ∀ {x y z : List F}, y.length = x.length → z.length = x.length → sub x y = sub x z → y = z
  | [], y, z, h1, h2, _ => by
    rw [List.length_eq_zero_iff.mp (show y.length = 0 by simpa using h1), List.length_eq_zero_iff.mp (show z.length = 0 by simpa using h2)]
  | a :: x, b :: y, c :: z, h1, h2, e => by
    have e := List.cons.inj (show (a - b) :: sub x y = (a - c) :: sub x z from e)
    rw [f3 a b c e.1, sub_left (by simpa using h1) (by simpa using h2) e.2]
  | a :: x, [], z, h1, _, _ => by simp at h1
  | a :: x, b :: y, [], _, h2, _ => by simp at h2
theorem sub_swap : ∀ {x y z w : List F}, y.length = x.length → z.length = x.length → w.length = x.length → sub x y = sub z w → sub x z = sub y w
  | [], y, z, w, h1, h2, h3, _ => by
    rw [List.length_eq_zero_iff.mp (show y.length = 0 by simpa using h1), List.length_eq_zero_iff.mp (show z.length = 0 by simpa using h2), List.length_eq_zero_iff.mp (show w.length = 0 by simpa using h3)]
  | a :: x, b :: y, c :: z, d :: w, h1, h2, h3, e => by
    have e := List.cons.inj (show (a - b) :: sub x y = (c - d) :: sub z w from e)
    show (a - c) :: sub x z = (b - d) :: sub y w
    rw [f2 a b c d e.1, sub_swap (by simpa using h1) (by simpa using h2) (by simpa using h3) e.2]
  | a :: x, [], _, _, h1, _, _, _ => by simp at h1
  | a :: x, b :: y, [], _, _, h2, _, _ => by simp at h2
  | a :: x, b :: y, c :: z, [], _, _, h3, _ => by simp at h3
/-- two subgroups, a third that holds what both hold: the dimensions -/
theorem tri {N d1 d2 d3 : Nat} {K1 K2 K3 : List F → Prop} (e1 e2 u : List F → List F)
    (h1 : ∀ t, t.length = d1 → K1 (e1 t) ∧ (e1 t).length = N) (i1 : ∀ t t', t.length = d1 → t'.length = d1 → e1 t = e1 t' → t = t')
    (h2 : ∀ t, t.length = d2 → K2 (e2 t) ∧ (e2 t).length = N) (i2 : ∀ t t', t.length = d2 → t'.length = d2 → e2 t = e2 t' → t = t')
    (c1 : ∀ x y, x.length = N → y.length = N → K1 x → K1 y → K1 (sub x y)) (c2 : ∀ x y, x.length = N → y.length = N → K2 x → K2 y → K2 (sub x y))
    (c3 : ∀ x, x.length = N → K1 x → K2 x → K3 x)
    (hu : ∀ x, x.length = N → K3 x → (u x).length = d3) (iu : ∀ x y, x.length = N → y.length = N → K3 x → K3 y → u x = u y → x = y) : d1 + d2 ≤ N + d3 := by
  classical
  let R : List F → List F × List F → Prop := fun w p => K1 p.1 ∧ K2 p.2 ∧ p.1.length = N ∧ p.2.length = N ∧ sub p.1 p.2 = w
  let ch : List F → List F × List F := fun w => if h : ∃ p, R w p then Classical.choose h else ([], [])
  have hch : ∀ w p, R w p → R w (ch w) := by
    intro w p hp
    have h : ∃ p, R w p := ⟨p, hp⟩
    show R w (if h : ∃ p, R w p then Classical.choose h else ([], []))
    rw [dif_pos h]
    exact Classical.choose_spec h
  let X : List F → List F := fun t => e1 (t.take d1)
  let Y : List F → List F := fun t => e2 (t.drop d1)
  let Wt : List F → List F := fun t => sub (X t) (Y t)
  have base : ∀ t, t.length = d1 + d2 → R (Wt t) (X t, Y t) := fun t ht => by
    obtain ⟨k1, l1⟩ := h1 (t.take d1) (by rw [List.length_take]; omega)
    obtain ⟨k2, l2⟩ := h2 (t.drop d1) (by rw [List.length_drop]; omega)
    exact ⟨k1, k2, l1, l2, rfl⟩
  have diff : ∀ t, t.length = d1 + d2 → K3 (sub (X t) (ch (Wt t)).1) ∧ (sub (X t) (ch (Wt t)).1).length = N ∧ (X t).length = N ∧ (Y t).length = N ∧ (ch (Wt t)).1.length = N ∧ (Wt t).length = N := fun t ht => by
    have b := base t ht
    obtain ⟨k1, k2, l1, l2, _⟩ := b
    obtain ⟨q1, q2, m1, m2, e⟩ := hch _ _ (base t ht)
    have sw : sub (X t) (ch (Wt t)).1 = sub (Y t) (ch (Wt t)).2 := sub_swap (by rw [l2, l1]) (by rw [m1, l1]) (by rw [m2, l1]) e.symm
    refine ⟨c3 _ (sub_len l1 m1) (c1 _ _ l1 m1 k1 q1) ?_, sub_len l1 m1, l1, l2, m1, sub_len l1 l2⟩
    rw [sw]
    exact c2 _ _ l2 m2 k2 q2
  refine pigeon (m := d1 + d2) (k := N + d3) (fun t => Wt t ++ u (sub (X t) (ch (Wt t)).1)) (fun t ht => ?_) (fun t t' ht ht' e => ?_)
  · obtain ⟨k, l, _, _, _, lw⟩ := diff t ht
    rw [List.length_append, lw, hu _ l k]
  · obtain ⟨k, l, lx, ly, lc, lw⟩ := diff t ht
    obtain ⟨k', l', lx', ly', lc', lw'⟩ := diff t' ht'
    obtain ⟨ew, eu⟩ := List.append_inj e (by rw [lw, lw'])
    have ed := iu _ _ l l' k k' eu
    rw [← ew] at ed
    have ex : X t = X t' := sub_right (by rw [lx, lc]) (by rw [lx', lc]) ed
    have ey : Y t = Y t' := by
      have ew2 : sub (X t) (Y t) = sub (X t') (Y t') := ew
      rw [← ex] at ew2
      exact sub_left (by rw [ly, lx]) (by rw [ly', lx]) ew2
    have a1 := i1 _ _ (by rw [List.length_take]; omega) (by rw [List.length_take]; omega) ex
    have a2 := i2 _ _ (by rw [List.length_drop]; omega) (by rw [List.length_drop]; omega) ey
    rw [← List.take_append_drop d1 t, a1, a2, List.take_append_drop]
end TI
-- TJ
set_option Elab.async false
set_option linter.all false
set_option maxRecDepth 100000
set_option maxHeartbeats 4000000
/-! TJ: what a vector of K (both pairings read the same off it) is along a row. -/
namespace TI
open DC
/-- what a pairing reads off a vector at an end: the mate's number, or the end's own, doubled -/
def vl (f : Nat → Option Nat) (x : Nat → F) (e : Nat) : F := match f e with
  | some q => x q
  | none => 2 * x e
def At (f g : Nat → Option Nat) (x : Nat → F) (e : Nat) : Prop := vl f x e = vl g x e
section
variable {N : Nat} {f g : Nat → Option Nat} {a k : Nat} {x : Nat → F}
theorem vl_some {e q : Nat} (h : f e = some q) : vl f x e = x q := by
  unfold vl
  rw [h]
theorem vl_none {e : Nat} (h : f e = none) : vl f x e = 2 * x e := by
  unfold vl
  rw [h]
theorem at_hh {i e : Nat} (h : At f g x e) : vl (hh f g i) x e = vl (hh f g (i + 1)) x e := by
  unfold hh
  by_cases c : i % 2 = 0
  · rw [if_pos c, if_neg (by omega)]
    exact h
  · rw [if_neg c, if_pos (by omega)]
    exact h.symm
theorem hh_at {i e : Nat} (h : vl (hh f g i) x e = vl (hh f g (i + 1)) x e) : At f g x e := by
  unfold hh at h
  by_cases c : i % 2 = 0
  · rw [if_pos c, if_neg (by omega)] at h
    exact h
  · rw [if_neg c, if_pos (by omega)] at h
    exact h.symm
/-- two on, the same -/
theorem two_on (F1 : Mt N f) (G1 : Mt N g) {i p q r : Nat} (hp : jt f g a i = some p) (hq : jt f g a (i + 1) = some q) (hr : jt f g a (i + 2) = some r) (h : At f g x q) : x r = x p := by
  have h1 : hh f g i p = some q := by rw [← jt_next hp]; exact hq
  have h2 : hh f g (i + 1) q = some r := by rw [← jt_next hq]; exact hr
  have h3 := hh_inv F1 G1 h1
  have e := at_hh (i := i) h
  rw [vl_some h3, vl_some h2] at e
  exact e.symm
theorem path_on (F1 : Mt N f) (G1 : Mt N g) (h0 : g a = none) (hx : ∀ i e, i + 1 < k → jt f g a i = some e → At f g x e) : ∀ i e, i < k → jt f g a i = some e → x e = if i % 2 = 0 then x a else 2 * x a
  | 0, e, _, h => by
    obtain rfl : a = e := Option.some.inj h
    rfl
  | 1, e, hi, h => by
    have h1 : hh f g 0 a = some e := by rw [← jt_next (k := 0) (f := f) (g := g) (a := a) rfl]; exact h
    have A := hx 0 a hi rfl
    have e1 : f a = some e := h1
    unfold At at A
    rw [vl_some e1, vl_none h0] at A
    rw [if_neg (by decide)]
    exact A
  | i + 2, e, hi, h => by
    obtain ⟨q, hq, _⟩ := jt_step h
    obtain ⟨p, hp, _⟩ := jt_step hq
    have := two_on F1 G1 hp hq h (hx (i + 1) q hi hq)
    rw [this, path_on F1 G1 h0 hx i p (by omega) hp]
    by_cases c : i % 2 = 0
    · rw [if_pos c, if_pos (by omega)]
    · rw [if_neg c, if_neg (by omega)]
theorem ring_on (F1 : Mt N f) (G1 : Mt N g) {b : Nat} (hb : jt f g a 1 = some b) (hx : ∀ i e, i + 1 < k → jt f g a i = some e → At f g x e) : ∀ i e, i < k → jt f g a i = some e → x e = if i % 2 = 0 then x a else x b
  | 0, e, _, h => by
    obtain rfl : a = e := Option.some.inj h
    rfl
  | 1, e, hi, h => by
    rw [hb] at h
    obtain rfl := Option.some.inj h
    rfl
  | i + 2, e, hi, h => by
    obtain ⟨q, hq, _⟩ := jt_step h
    obtain ⟨p, hp, _⟩ := jt_step hq
    have := two_on F1 G1 hp hq h (hx (i + 1) q hi hq)
    rw [this, ring_on F1 G1 hb hx i p (by omega) hp]
    by_cases c : i % 2 = 0
    · rw [if_pos c, if_pos (by omega)]
    · rw [if_neg c, if_neg (by omega)]
theorem z5 : ∀ z : F, z = 2 * (2 * z) → z = 0 := by decide
/-- an even path tells nothing but 0 -/
theorem even_zero (F1 : Mt N f) (G1 : Mt N g) (R : Rj f g a k) (h0 : g a = none) (ev : k % 2 = 0) (hx : ∀ i e, i < k → jt f g a i = some e → At f g x e) : x a = 0 := by
  have fin := path_fin F1 G1 R h0
  have pos := R.pos
  obtain ⟨m, rfl⟩ : ∃ m, k = m + 2 := ⟨k - 2, by omega⟩
  obtain ⟨q, hq⟩ := R.all (m + 1) (by omega)
  obtain ⟨p, hp, _⟩ := jt_step hq
  have on := path_on (k := m + 2) (x := x) F1 G1 h0 fun i e hi h => hx i e (by omega) h
  have h1 : hh f g m p = some q := by rw [← jt_next hp]; exact hq
  have h2 : hh f g (m + 1) q = none := by rw [← jt_next hq]; exact fin
  have h3 := hh_inv F1 G1 h1
  have e := at_hh (i := m) (hx (m + 1) q (by omega) hq)
  rw [vl_some h3, vl_none h2, on m p (by omega) hp, on (m + 1) q (by omega) hq, if_pos (by omega), if_neg (by omega)] at e
  exact z5 _ e
end
end TI
-- TK
set_option Elab.async false
set_option linter.all false
set_option maxRecDepth 100000
set_option maxHeartbeats 4000000
/-! TK: the vectors of K along a row, the other way round; the pieces of a web. -/
namespace TI
open PySem L2 DC
section
variable {N : Nat} {f g : Nat → Option Nat} {a k : Nat} {x : Nat → F}
theorem path_mk (F1 : Mt N f) (G1 : Mt N g) (R : Rj f g a k) (h0 : g a = none) {α : F} (hx : ∀ i e, i < k → jt f g a i = some e → x e = if i % 2 = 0 then α else 2 * α) (ev : k % 2 = 0 → α = 0) : ∀ i e, i < k → jt f g a i = some e → At f g x e
  | 0, e, hi, h => by
    obtain rfl : a = e := Option.some.inj h
    have xa : x a = α := hx 0 a hi rfl
    unfold At
    rw [vl_none h0, xa]
    by_cases c : 1 < k
    · obtain ⟨b, hb⟩ := R.all 1 c
      have e1 : f a = some b := by
        have := jt_next (f := f) (g := g) (a := a) (k := 0) rfl
        rw [← show hh f g 0 a = f a from rfl, ← this]
        exact hb
      rw [vl_some e1, hx 1 b c hb, if_neg (by decide)]
    · have e1 : f a = none := by
        have fin := path_fin F1 G1 R h0
        have k1 : k = 0 + 1 := by omega
        rw [k1, jt_next (f := f) (g := g) (a := a) (k := 0) rfl] at fin
        exact fin
      rw [vl_none e1, xa]
  | j + 1, e, hi, h => by
    obtain ⟨p, hp, h1⟩ := jt_step h
    have h3 := hh_inv F1 G1 h1
    refine hh_at (i := j) ?_
    rw [vl_some h3, hx j p (by omega) hp]
    by_cases c : j + 2 < k
    · obtain ⟨r, hr⟩ := R.all (j + 2) c
      have h2 : hh f g (j + 1) e = some r := by rw [← jt_next h]; exact hr
      rw [vl_some h2, hx (j + 2) r c hr]
      by_cases d : j % 2 = 0
      · rw [if_pos d, if_pos (by omega)]
      · rw [if_neg d, if_neg (by omega)]
    · have fin := path_fin F1 G1 R h0
      have k1 : k = j + 1 + 1 := by omega
      rw [k1, jt_next h] at fin
      rw [vl_none fin, hx (j + 1) e hi h]
      by_cases d : j % 2 = 0
      · have z := ev (by omega)
        rw [if_pos d, if_neg (by omega), z]
        decide
      · rw [if_neg d, if_pos (by omega)]
theorem ring_mk (F1 : Mt N f) (G1 : Mt N g) (R : Rj f g a k) (h0 : jt f g a k = some a) (ev : k % 2 = 0) {α β : F} (hx : ∀ i e, i < k → jt f g a i = some e → x e = if i % 2 = 0 then α else β) : ∀ i e, i < k → jt f g a i = some e → At f g x e
  | 0, e, hi, h => by
    obtain rfl : a = e := Option.some.inj h
    have pos := R.pos
    obtain ⟨b, hb⟩ := R.all 1 (by omega)
    have e1 : f a = some b := by
      have := jt_next (f := f) (g := g) (a := a) (k := 0) rfl
      rw [← show hh f g 0 a = f a from rfl, ← this]
      exact hb
    obtain ⟨m, rfl⟩ : ∃ m, k = m + 1 := ⟨k - 1, by omega⟩
    obtain ⟨q, hq, h2⟩ := jt_step h0
    have h3 := hh_inv F1 G1 h2
    have e2 : g a = some q := by
      unfold hh at h3
      rw [if_neg (by omega)] at h3
      exact h3
    unfold At
    rw [vl_some e1, vl_some e2, hx 1 b (by omega) hb, hx m q (by omega) hq, if_neg (by decide), if_neg (by omega)]
  | j + 1, e, hi, h => by
    obtain ⟨p, hp, h1⟩ := jt_step h
    have h3 := hh_inv F1 G1 h1
    refine hh_at (i := j) ?_
    rw [vl_some h3, hx j p (by omega) hp]
    by_cases c : j + 2 < k
    · obtain ⟨r, hr⟩ := R.all (j + 2) c
      have h2 : hh f g (j + 1) e = some r := by rw [← jt_next h]; exact hr
      rw [vl_some h2, hx (j + 2) r c hr]
      by_cases d : j % 2 = 0
      · rw [if_pos d, if_pos (by omega)]
      · rw [if_neg d, if_neg (by omega)]
    · have k1 : k = j + 1 + 1 := by omega
      have h2 : hh f g (j + 1) e = some a := by rw [← jt_next h, ← k1]; exact h0
      rw [vl_some h2, hx 0 a (by omega) rfl, if_pos (by omega), if_pos (by omega)]
end
/-- a piece of a web, walked -/
structure Fm (js ls : List J2) (p : Str × List Nat) (f g : Nat → Option Nat) (a k : Nat) : Prop where
  fg : (f = mt js ∧ g = mt ls) ∨ (f = mt ls ∧ g = mt js)
  R : Rj f g a k
  row : p.2 = rj f g a k
  kind : (g a = none ∧ ((k % 2 = 1 ∧ p.1 = "odd") ∨ (k % 2 = 0 ∧ p.1 ≠ "odd" ∧ p.1 ≠ "ring"))) ∨ (p.1 = "ring" ∧ jt f g a k = some a ∧ k % 2 = 0)
theorem fm_ex {n : Nat} {js ls : List J2} (g1 : Good n js) (g2 : Good n ls) {p : Str × List Nat} (h : Wpc n js ls p) : ∃ f g a k, Fm js ls p f g a k := by
  obtain ⟨a, ha, c, ⟨hl, ⟨kd, ⟨k, hk⟩, ek⟩, _⟩ | ⟨hn, ek, ⟨k, R, er⟩, _⟩⟩ := h
  · have fin : ∀ f g : Nat → Option Nat, ((f = mt js ∧ g = mt ls) ∨ (f = mt ls ∧ g = mt js)) → g a = none → Rj f g a k → p.2 = rj f g a k → (kd = "open" ∨ kd = "shut") → ∃ f g a k, Fm js ls p f g a k := by
      intro f g fg h0 R er hkd
      refine ⟨f, g, a, k, fg, R, er, .inl ⟨h0, ?_⟩⟩
      have hlen : p.2.length = k := by rw [er, rj_len]
      unfold oddK at ek
      rw [hlen] at ek
      by_cases o : k % 2 = 1
      · rw [if_pos o] at ek
        exact .inl ⟨o, ek⟩
      · rw [if_neg o] at ek
        refine .inr ⟨by omega, ?_, ?_⟩ <;> rw [ek] <;> rcases hkd with rfl | rfl <;> decide +kernel
    rcases hk with ⟨e, R, er, ekd⟩ | ⟨e, R, er, ekd⟩
    · exact fin _ _ (.inr ⟨rfl, rfl⟩) e R er (.inl ekd)
    · refine fin _ _ (.inl ⟨rfl, rfl⟩) ?_ R er (.inr ekd)
      rcases hl with z | z
      · exact absurd z e
      · exact z
  · have pos := R.pos
    have cy : jt (mt js) (mt ls) a k = some a := by
      rcases R.fin with z | z
      · exfalso
        obtain ⟨y, hy⟩ := R.all (k - 1) (by omega)
        have hm : y ∈ p.2 := by
          rw [er]
          exact (mem_rj R.toPj).mpr ⟨k - 1, by omega, hy⟩
        have e := jt_next hy
        rw [show k - 1 + 1 = k by omega, z] at e
        refine hn y hm ?_
        unfold hh at e
        split at e
        · exact .inl e.symm
        · exact .inr e.symm
      · exact z
    refine ⟨mt js, mt ls, a, k, .inl ⟨rfl, rfl⟩, R, er, .inr ⟨ek, cy, ?_⟩⟩
    by_cases o : k % 2 = 0
    · exact o
    · rw [show k = 0 + (2 * (k / 2) + 1) by omega] at cy
      exact (jt_odd g1.mt g2.mt (k / 2) 0 a rfl cy).elim
end TI
-- TL
set_option Elab.async false
set_option linter.all false
set_option maxRecDepth 100000
set_option maxHeartbeats 4000000
/-! TL: as many free choices as a web's rings, twice, and its odd pieces. -/
namespace TI
open PySem L2 DC
abbrev Pc := Str × List Nat
def wd (p : Pc) : Nat := if p.1 = "ring" then 2 else if p.1 = "odd" then 1 else 0
def dm (ps : List Pc) : Nat := (ps.map wd).sum
def pval (p : Pc) (t : List F) (i : Nat) : F := if p.1 = "ring" then (if i % 2 = 0 then t.getD 0 0 else t.getD 1 0) else if p.1 = "odd" then (if i % 2 = 0 then t.getD 0 0 else 2 * t.getD 0 0) else 0
def val : List Pc → List F → Nat → F
  | [], _, _ => 0
  | p :: ps, t, e => if e ∈ p.2 then pval p (t.take (wd p)) (p.2.idxOf e) else val ps (t.drop (wd p)) e
def pick (x : Nat → F) (p : Pc) : List F := if p.1 = "ring" then [x (p.2.getD 0 0), x (p.2.getD 1 0)] else if p.1 = "odd" then [x (p.2.getD 0 0)] else []
def picks (x : Nat → F) (ps : List Pc) : List F := ps.flatMap (pick x)
theorem pick_len (x : Nat → F) (p : Pc) : (pick x p).length = wd p := by
  unfold pick wd
  by_cases c : p.1 = "ring"
  · rw [if_pos c, if_pos c]
    rfl
  · rw [if_neg c, if_neg c]
    by_cases d : p.1 = "odd"
    · rw [if_pos d, if_pos d]
      rfl
    · rw [if_neg d, if_neg d]
      rfl
theorem dm_cons (p : Pc) (ps : List Pc) : dm (p :: ps) = wd p + dm ps := by
  unfold dm
  rw [List.map_cons, List.sum_cons]
theorem picks_len (x : Nat → F) : ∀ ps : List Pc, (picks x ps).length = dm ps
  | [] => rfl
  | p :: ps => by
    unfold picks
    rw [List.flatMap_cons, List.length_append, pick_len, dm_cons]
    have := picks_len x ps
    unfold picks at this
    rw [this]
/-- a row that can be told by its first ends -/
structure Rw (p : Pc) : Prop where
  nd : p.2.Nodup
  pos : 0 < p.2.length
  two : p.1 = "ring" → 2 ≤ p.2.length
def Dis (ps : List Pc) : Prop := ps.Pairwise fun p q => ∀ e, e ∈ p.2 → e ∉ q.2
theorem idx_at {l : List Nat} (h : l.Nodup) {i : Nat} (hi : i < l.length) : l.idxOf (l.getD i 0) = i := by
  have e : l.getD i 0 = l[i] := by
    rw [List.getD_eq_getElem?_getD, List.getElem?_eq_getElem hi]
    rfl
  rw [e]
  exact h.idxOf_getElem i hi
theorem mem_at {l : List Nat} {i : Nat} (hi : i < l.length) : l.getD i 0 ∈ l := by
  rw [List.getD_eq_getElem?_getD, List.getElem?_eq_getElem hi]
  exact List.getElem_mem _
theorem val_on : ∀ {ps : List Pc} {t : List F}, Dis ps → ∀ p ∈ ps, ∃ tp : List F, ∀ e ∈ p.2, val ps t e = pval p tp (p.2.idxOf e)
  | [], _, _, p, h => absurd h List.not_mem_nil
  | q :: ps, t, hd, p, h => by
    have hd' := List.pairwise_cons.mp hd
    rcases List.mem_cons.mp h with rfl | h
    · refine ⟨t.take (wd p), fun e he => ?_⟩
      show (if e ∈ p.2 then _ else _) = _
      rw [if_pos he]
    · obtain ⟨tp, htp⟩ := val_on (t := t.drop (wd q)) hd'.2 p h
      refine ⟨tp, fun e he => ?_⟩
      show (if e ∈ q.2 then _ else _) = _
      rw [if_neg fun z => hd'.1 p h e z he]
      exact htp e he
theorem pick_congr {x y : Nat → F} {p : Pc} (r : Rw p) (h : ∀ e ∈ p.2, x e = y e) : pick x p = pick y p := by
  unfold pick
  by_cases c : p.1 = "ring"
  · rw [if_pos c, if_pos c, h _ (mem_at r.pos), h _ (mem_at (r.two c))]
  · rw [if_neg c, if_neg c]
    by_cases d : p.1 = "odd"
    · rw [if_pos d, if_pos d, h _ (mem_at r.pos)]
    · rw [if_neg d, if_neg d]
theorem picks_val : ∀ {ps : List Pc} {t : List F}, Dis ps → (∀ p ∈ ps, Rw p) → t.length = dm ps → picks (val ps t) ps = t
  | [], t, _, _, h => (List.length_eq_zero_iff.mp h).symm
  | p :: ps, t, hd, hr, h => by
    have hd' := List.pairwise_cons.mp hd
    rw [dm_cons] at h
    have r := hr p List.mem_cons_self
    have ih := picks_val (ps := ps) (t := t.drop (wd p)) hd'.2 (fun q hq => hr q (List.mem_cons_of_mem _ hq)) (by rw [List.length_drop]; omega)
    have hv : ∀ e ∈ p.2, val (p :: ps) t e = pval p (t.take (wd p)) (p.2.idxOf e) := fun e he => by
      show (if e ∈ p.2 then _ else _) = _
      rw [if_pos he]
    have e1 : pick (val (p :: ps) t) p = t.take (wd p) := by
      have l : (t.take (wd p)).length = wd p := by rw [List.length_take]; omega
      generalize t.take (wd p) = tp at hv l
      unfold pick
      unfold wd at l
      by_cases c : p.1 = "ring"
      · rw [if_pos c] at l ⊢
        rw [hv _ (mem_at r.pos), hv _ (mem_at (r.two c)), idx_at r.nd r.pos, idx_at r.nd (r.two c)]
        unfold pval
        rw [if_pos c, if_pos c, if_pos (by decide), if_neg (by decide)]
        match tp, l with
        | [u, v], _ => rfl
      · rw [if_neg c] at l ⊢
        by_cases d : p.1 = "odd"
        · rw [if_pos d] at l ⊢
          rw [hv _ (mem_at r.pos), idx_at r.nd r.pos]
          unfold pval
          rw [if_neg c, if_pos d, if_pos (by decide)]
          match tp, l with
          | [u], _ => rfl
        · rw [if_neg d] at l ⊢
          match tp, l with
          | [], _ => rfl
    have e2 : picks (val (p :: ps) t) ps = picks (val ps (t.drop (wd p))) ps := by
      unfold picks
      have gen : ∀ l : List Pc, (∀ q ∈ l, q ∈ ps) → l.flatMap (pick (val (p :: ps) t)) = l.flatMap (pick (val ps (t.drop (wd p)))) := by
        intro l
        induction l with
        | nil => intro _; rfl
        | cons q l ih2 =>
          intro hl
          rw [List.flatMap_cons, List.flatMap_cons, ih2 fun z hz => hl z (List.mem_cons_of_mem _ hz)]
          have hq := hl q List.mem_cons_self
          rw [pick_congr (hr q (List.mem_cons_of_mem _ hq)) fun e he => ?_]
          show (if e ∈ p.2 then _ else _) = _
          rw [if_neg fun z => hd'.1 q hq e z he]
      exact gen ps fun _ h => h
    show pick (val (p :: ps) t) p ++ picks (val (p :: ps) t) ps = t
    rw [e1, e2, ih, List.take_append_drop]
section
variable {n : Nat} {js ls : List J2} {ps : List Pc}
theorem row_ix {f g : Nat → Option Nat} {a k N : Nat} (F1 : Mt N f) (G1 : Mt N g) (R : Rj f g a k) {i e : Nat} (hi : i < k) (h : jt f g a i = some e) : (rj f g a k).idxOf e = i ∧ (rj f g a k).getD i 0 = e := by
  have at_ : (rj f g a k)[i]? = some e := by
    unfold rj
    rw [List.getElem?_map, List.getElem?_range hi]
    show some ((jt f g a i).getD 0) = _
    rw [h]
    rfl
  have l : i < (rj f g a k).length := by rw [rj_len]; exact hi
  have ge : (rj f g a k).getD i 0 = e := by
    rw [List.getD_eq_getElem?_getD, at_]
    rfl
  refine ⟨?_, ge⟩
  have := idx_at (R.toPj.nodup F1 G1) l
  rw [ge] at this
  exact this
theorem fm_mt {f g : Nat → Option Nat} {a k : Nat} {p : Pc} (g1 : Good n js) (g2 : Good n ls) (m : Fm js ls p f g a k) : Mt (2 * n) f ∧ Mt (2 * n) g := by
  rcases m.fg with ⟨rfl, rfl⟩ | ⟨rfl, rfl⟩
  · exact ⟨g1.mt, g2.mt⟩
  · exact ⟨g2.mt, g1.mt⟩
theorem fm_rw {f g : Nat → Option Nat} {a k : Nat} {p : Pc} (g1 : Good n js) (g2 : Good n ls) (m : Fm js ls p f g a k) : Rw p := by
  obtain ⟨F1, G1⟩ := fm_mt g1 g2 m
  have pos := m.R.pos
  refine ⟨?_, ?_, fun hr => ?_⟩
  · rw [m.row]
    exact m.R.toPj.nodup F1 G1
  · rw [m.row, rj_len]
    exact pos
  · rw [m.row, rj_len]
    rcases m.kind with ⟨_, ⟨_, z⟩ | ⟨_, _, z⟩⟩ | ⟨_, _, z⟩
    · rw [hr] at z
      exact absurd z (by decide +kernel)
    · exact absurd hr z
    · omega
theorem fm_at {f g : Nat → Option Nat} {a k : Nat} {p : Pc} (m : Fm js ls p f g a k) {x : Nat → F} {e : Nat} : At f g x e ↔ At (mt js) (mt ls) x e := by
  rcases m.fg with ⟨rfl, rfl⟩ | ⟨rfl, rfl⟩
  · exact Iff.rfl
  · exact ⟨fun h => h.symm, fun h => h.symm⟩
/-- what is chosen so is read the same off both -/
theorem val_K (g1 : Good n js) (g2 : Good n ls) (W : IsWeb n js ls ps) (dis : Dis ps) (t : List F) : ∀ e, e < 2 * n → At (mt js) (mt ls) (val ps t) e := by
  intro e he
  obtain ⟨p, hp, hm⟩ := W.cov g1 g2 e he
  obtain ⟨f, g, a, k, m⟩ := fm_ex g1 g2 ((W.mem p).mp hp)
  obtain ⟨F1, G1⟩ := fm_mt g1 g2 m
  obtain ⟨tp, htp⟩ := val_on (t := t) dis p hp
  refine (fm_at m).mp ?_
  have hm2 := hm
  rw [m.row] at hm2
  obtain ⟨i, hi, hj⟩ := (mem_rj m.R.toPj).mp hm2
  have hx : ∀ i e, i < k → jt f g a i = some e → val ps t e = pval p tp i := fun i e hi hj => by
    have q : e ∈ p.2 := by
      rw [m.row]
      exact (mem_rj m.R.toPj).mpr ⟨i, hi, hj⟩
    rw [htp e q, m.row, (row_ix F1 G1 m.R hi hj).1]
  rcases m.kind with ⟨h0, ⟨o, ek⟩ | ⟨o, nk1, nk2⟩⟩ | ⟨ek, cy, ev⟩
  · refine path_mk F1 G1 m.R h0 (α := tp.getD 0 0) (fun i e hi hj => ?_) (fun z => by omega) i e hi hj
    rw [hx i e hi hj]
    unfold pval
    rw [if_neg (by rw [ek]; decide +kernel), if_pos ek]
  · refine path_mk F1 G1 m.R h0 (α := 0) (fun i e hi hj => ?_) (fun _ => rfl) i e hi hj
    rw [hx i e hi hj]
    unfold pval
    rw [if_neg nk2, if_neg nk1]
    split <;> rfl
  · refine ring_mk F1 G1 m.R cy ev (α := tp.getD 0 0) (β := tp.getD 1 0) (fun i e hi hj => ?_) i e hi hj
    rw [hx i e hi hj]
    unfold pval
    rw [if_pos ek]
/-- what is read the same off both is told by its choices -/
theorem K_uniq (g1 : Good n js) (g2 : Good n ls) (W : IsWeb n js ls ps) {x y : Nat → F} (hx : ∀ e, e < 2 * n → At (mt js) (mt ls) x e) (hy : ∀ e, e < 2 * n → At (mt js) (mt ls) y e) (he : picks x ps = picks y ps) : ∀ e, e < 2 * n → x e = y e := by
  intro e hlt
  obtain ⟨p, hp, hm⟩ := W.cov g1 g2 e hlt
  have ep : pick x p = pick y p := by
    have gen : ∀ l : List Pc, p ∈ l → picks x l = picks y l → pick x p = pick y p := by
      intro l
      induction l with
      | nil => intro h _; exact absurd h List.not_mem_nil
      | cons q l ih =>
        intro h e
        obtain ⟨e1, e2⟩ := List.append_inj (show pick x q ++ picks x l = pick y q ++ picks y l from e) (by rw [pick_len, pick_len])
        rcases List.mem_cons.mp h with rfl | h
        · exact e1
        · exact ih h e2
    exact gen ps hp he
  have wp := (W.mem p).mp hp
  obtain ⟨f, g, a, k, m⟩ := fm_ex g1 g2 wp
  obtain ⟨F1, G1⟩ := fm_mt g1 g2 m
  have r := fm_rw g1 g2 m
  have pos := m.R.pos
  rw [m.row] at hm
  obtain ⟨i, hi, hj⟩ := (mem_rj m.R.toPj).mp hm
  have inR : ∀ i e, i < k → jt f g a i = some e → e < 2 * n := fun i e hi hj => wpc_lt wp e (by rw [m.row]; exact (mem_rj m.R.toPj).mpr ⟨i, hi, hj⟩)
  have ax : ∀ i e, i < k → jt f g a i = some e → At f g x e := fun i e hi hj => (fm_at m).mpr (hx e (inR i e hi hj))
  have ay : ∀ i e, i < k → jt f g a i = some e → At f g y e := fun i e hi hj => (fm_at m).mpr (hy e (inR i e hi hj))
  have r0 : p.2.getD 0 0 = a := by
    rw [m.row]
    exact (row_ix F1 G1 m.R pos rfl).2
  rcases m.kind with ⟨h0, ⟨o, ek⟩ | ⟨o, nk1, nk2⟩⟩ | ⟨ek, cy, ev⟩
  · have e1 : x a = y a := by
      have nr : ¬ p.1 = "ring" := by
        rw [ek]
        decide +kernel
      unfold pick at ep
      rw [if_neg nr, if_pos ek, if_neg nr, if_pos ek, r0] at ep
      exact (List.cons.inj ep).1
    rw [path_on F1 G1 h0 (fun i e hi => ax i e (by omega)) i e hi hj, path_on F1 G1 h0 (fun i e hi => ay i e (by omega)) i e hi hj, e1]
  · have e1 := even_zero F1 G1 m.R h0 o ax
    have e2 := even_zero F1 G1 m.R h0 o ay
    rw [path_on F1 G1 h0 (fun i e hi => ax i e (by omega)) i e hi hj, path_on F1 G1 h0 (fun i e hi => ay i e (by omega)) i e hi hj, e1, e2]
  · obtain ⟨b, hb⟩ := m.R.all 1 (by omega)
    have r1 : p.2.getD 1 0 = b := by
      rw [m.row]
      exact (row_ix F1 G1 m.R (by omega) hb).2
    have e12 : x a = y a ∧ x b = y b := by
      unfold pick at ep
      rw [if_pos ek, if_pos ek, r0, r1] at ep
      exact ⟨(List.cons.inj ep).1, (List.cons.inj (List.cons.inj ep).2).1⟩
    rw [ring_on F1 G1 hb (fun i e hi => ax i e (by omega)) i e hi hj, ring_on F1 G1 hb (fun i e hi => ay i e (by omega)) i e hi hj, e12.1, e12.2]
end
/-! the inequality -/
def fn (l : List F) : Nat → F := fun e => l.getD e 0
def mk (N : Nat) (x : Nat → F) : List F := (List.range N).map x
theorem mk_len (N : Nat) (x : Nat → F) : (mk N x).length = N := by
  unfold mk
  rw [List.length_map, List.length_range]
theorem fn_mk {N : Nat} {x : Nat → F} {e : Nat} (h : e < N) : fn (mk N x) e = x e := by
  unfold fn mk
  rw [List.getD_eq_getElem?_getD, List.getElem?_map, List.getElem?_range h]
  rfl
theorem fn_ext {N : Nat} {x y : List F} (hx : x.length = N) (hy : y.length = N) (h : ∀ e, e < N → fn x e = fn y e) : x = y := by
  refine List.ext_getElem (by rw [hx, hy]) fun i h1 h2 => ?_
  have := h i (by omega)
  unfold fn at this
  rw [List.getD_eq_getElem?_getD, List.getD_eq_getElem?_getD, List.getElem?_eq_getElem h1, List.getElem?_eq_getElem h2] at this
  exact this
theorem fn_sub {N : Nat} {x y : List F} (hx : x.length = N) (hy : y.length = N) {e : Nat} (h : e < N) : fn (sub x y) e = fn x e - fn y e := by
  have l := sub_len hx hy
  unfold fn
  rw [List.getD_eq_getElem?_getD, List.getD_eq_getElem?_getD, List.getD_eq_getElem?_getD, List.getElem?_eq_getElem (by omega), List.getElem?_eq_getElem (by omega), List.getElem?_eq_getElem (by omega)]
  unfold sub
  rw [List.getElem_zipWith]
  rfl
theorem m2 : ∀ u v : F, 2 * (u - v) = 2 * u - 2 * v := by decide
theorem vl_sub {N : Nat} {f : Nat → Option Nat} (M : Mt N f) {x y : List F} (hx : x.length = N) (hy : y.length = N) {e : Nat} (h : e < N) : vl f (fn (sub x y)) e = vl f (fn x) e - vl f (fn y) e := by
  cases c : f e with
  | some q => rw [vl_some c, vl_some c, vl_some c, fn_sub hx hy (M.lt c).2]
  | none => rw [vl_none c, vl_none c, vl_none c, fn_sub hx hy h, m2]
theorem vl_congr {N : Nat} {f : Nat → Option Nat} (M : Mt N f) {x y : Nat → F} (h : ∀ e, e < N → x e = y e) {e : Nat} (he : e < N) : vl f x e = vl f y e := by
  cases c : f e with
  | some q => rw [vl_some c, vl_some c, h q (M.lt c).2]
  | none => rw [vl_none c, vl_none c, h e he]
section
variable {n : Nat} {ja jb jc : List J2} {ps1 ps2 ps3 : List Pc}
theorem web_dis (g1 : Good n ja) (g2 : Good n jb) (W : IsWeb n ja jb ps1) : Dis ps1 := by
  refine List.Pairwise.imp_of_mem (fun {p q} hp hq hne e h1 h2 => ?_) W.nd
  exact hne (wpc_uniq g1 g2 ((W.mem p).mp hp) ((W.mem q).mp hq) h1 h2)
theorem web_rw (g1 : Good n ja) (g2 : Good n jb) (W : IsWeb n ja jb ps1) : ∀ p ∈ ps1, Rw p := fun p hp => by
  obtain ⟨f, g, a, k, m⟩ := fm_ex g1 g2 ((W.mem p).mp hp)
  exact fm_rw g1 g2 m
theorem mk_inj (g1 : Good n ja) (g2 : Good n jb) (W : IsWeb n ja jb ps1) : ∀ t t' : List F, t.length = dm ps1 → t'.length = dm ps1 → mk (2 * n) (val ps1 t) = mk (2 * n) (val ps1 t') → t = t' := fun t t' h h' e => by
  have v : ∀ e, e < 2 * n → val ps1 t e = val ps1 t' e := fun i hi => by
    rw [← fn_mk (x := val ps1 t) hi, e, fn_mk hi]
  have d := web_dis g1 g2 W
  have r := web_rw g1 g2 W
  rw [← picks_val d r h, ← picks_val d r h']
  have gen : ∀ l : List Pc, (∀ q ∈ l, q ∈ ps1) → picks (val ps1 t) l = picks (val ps1 t') l := by
    intro l
    induction l with
    | nil => intro _; rfl
    | cons q l ih =>
      intro hl
      have hq := hl q List.mem_cons_self
      show pick (val ps1 t) q ++ picks (val ps1 t) l = pick (val ps1 t') q ++ picks (val ps1 t') l
      rw [ih fun z hz => hl z (List.mem_cons_of_mem _ hz), pick_congr (r q hq) fun e he => v e (wpc_lt ((W.mem q).mp hq) e he)]
  exact gen ps1 fun _ h => h
theorem mk_K (g1 : Good n ja) (g2 : Good n jb) (W : IsWeb n ja jb ps1) (t : List F) : ∀ e, e < 2 * n → At (mt ja) (mt jb) (fn (mk (2 * n) (val ps1 t))) e := fun e he => by
  have h := val_K g1 g2 W (web_dis g1 g2 W) t e he
  unfold At at h ⊢
  rw [vl_congr g1.mt (fun e h => fn_mk h) he, vl_congr g2.mt (fun e h => fn_mk h) he]
  exact h
theorem sub_K (g1 : Good n ja) (g2 : Good n jb) {x y : List F} (hx : x.length = 2 * n) (hy : y.length = 2 * n) (kx : ∀ e, e < 2 * n → At (mt ja) (mt jb) (fn x) e) (ky : ∀ e, e < 2 * n → At (mt ja) (mt jb) (fn y) e) : ∀ e, e < 2 * n → At (mt ja) (mt jb) (fn (sub x y)) e := fun e he => by
  have h1 := kx e he
  have h2 := ky e he
  unfold At at h1 h2 ⊢
  rw [vl_sub g1.mt hx hy he, vl_sub g2.mt hx hy he, h1, h2]
/-- the triangle inequality -/
theorem tri_dm (g1 : Good n ja) (g2 : Good n jb) (g3 : Good n jc) (W1 : IsWeb n ja jb ps1) (W2 : IsWeb n jb jc ps2) (W3 : IsWeb n ja jc ps3) : dm ps1 + dm ps2 ≤ 2 * n + dm ps3 := by
  refine tri (K1 := fun l => ∀ e, e < 2 * n → At (mt ja) (mt jb) (fn l) e) (K2 := fun l => ∀ e, e < 2 * n → At (mt jb) (mt jc) (fn l) e) (K3 := fun l => ∀ e, e < 2 * n → At (mt ja) (mt jc) (fn l) e)
    (fun t => mk (2 * n) (val ps1 t)) (fun t => mk (2 * n) (val ps2 t)) (fun l => picks (fn l) ps3)
    (fun t _ => ⟨mk_K g1 g2 W1 t, mk_len _ _⟩) (mk_inj g1 g2 W1) (fun t _ => ⟨mk_K g2 g3 W2 t, mk_len _ _⟩) (mk_inj g2 g3 W2)
    (fun x y hx hy kx ky => sub_K g1 g2 hx hy kx ky) (fun x y hx hy kx ky => sub_K g2 g3 hx hy kx ky) (fun x _ k1 k2 e he => ?_)
    (fun x _ _ => picks_len _ _) (fun x y hx hy kx ky e => fn_ext hx hy (K_uniq g1 g3 W3 kx ky e))
  have h1 := k1 e he
  have h2 := k2 e he
  unfold At at h1 h2 ⊢
  rw [h1, h2]
end
end TI
-- TN
set_option Elab.async false
set_option linter.all false
set_option maxRecDepth 100000
set_option maxHeartbeats 4000000
/-! TN: the triangle inequality of the costs themselves. -/
namespace TI
open PySem L2 DC
theorem dm_cnt : ∀ ps : List Pc, dm ps = 2 * (ps.countP fun p => p.1 == (("ring" : Str))) + ps.countP fun p => p.1 == (("odd" : Str))
  | [] => rfl
  | p :: ps => by
    rw [dm_cons, dm_cnt ps, List.countP_cons, List.countP_cons]
    unfold wd
    by_cases c : p.1 = "ring"
    · have c1 : (p.1 == (("ring" : Str))) = true := by rw [c]; decide +kernel
      have c2 : (p.1 == (("odd" : Str))) = false := by rw [c]; decide +kernel
      rw [if_pos c, c1, c2]
      simp only [Bool.false_eq_true, if_false, if_true]
      omega
    · have c1 : (p.1 == (("ring" : Str))) = false := beq_eq_false_iff_ne.mpr c
      rw [if_neg c, c1]
      by_cases d : p.1 = "odd"
      · have c2 : (p.1 == (("odd" : Str))) = true := by rw [d]; decide +kernel
        rw [if_pos d, c2]
        simp only [Bool.false_eq_true, if_false, if_true]
        omega
      · have c2 : (p.1 == (("odd" : Str))) = false := beq_eq_false_iff_ne.mpr d
        rw [if_neg d, c2]
        simp only [Bool.false_eq_true, if_false]
        omega
def lsum (ps : List Pc) : Nat := (ps.map fun p => p.2.length).sum
/-- how long a piece may be -/
def Ln (p : Pc) : Prop := (p.1 = "odd" ∧ p.2.length % 2 = 1) ∨ (p.1 = "ring" ∧ p.2.length % 2 = 0 ∧ 2 ≤ p.2.length) ∨ (p.1 ≠ "odd" ∧ p.1 ≠ "ring" ∧ p.2.length % 2 = 0)
theorem ln_sum : ∀ {ps : List Pc}, (∀ p ∈ ps, Ln p) → dm ps ≤ lsum ps ∧ (lsum ps) % 2 = (ps.countP fun p => p.1 == (("odd" : Str))) % 2
  | [], _ => ⟨Nat.le_refl _, rfl⟩
  | p :: ps, h => by
    obtain ⟨i1, i2⟩ := ln_sum (ps := ps) fun q hq => h q (List.mem_cons_of_mem _ hq)
    have el : lsum (p :: ps) = p.2.length + lsum ps := by
      unfold lsum
      rw [List.map_cons, List.sum_cons]
    rw [dm_cons, el, List.countP_cons]
    unfold wd
    rcases h p List.mem_cons_self with ⟨k, l⟩ | ⟨k, l, l2⟩ | ⟨k, k2, l⟩
    · have c2 : (p.1 == (("odd" : Str))) = true := by rw [k]; decide +kernel
      have nr : ¬ p.1 = "ring" := by rw [k]; decide +kernel
      rw [if_neg nr, if_pos k, c2]
      simp only [if_true]
      omega
    · have c2 : (p.1 == (("odd" : Str))) = false := by rw [k]; decide +kernel
      rw [if_pos k, c2]
      simp only [Bool.false_eq_true, if_false]
      omega
    · have c2 : (p.1 == (("odd" : Str))) = false := beq_eq_false_iff_ne.mpr k
      rw [if_neg k2, if_neg k, c2]
      simp only [Bool.false_eq_true, if_false]
      omega
theorem flat_nd' : ∀ {ps : List Pc}, (∀ p ∈ ps, p.2.Nodup) → Dis ps → (ps.flatMap fun p => p.2).Nodup
  | [], _, _ => List.nodup_nil
  | p :: ps, h, d => by
    have d' := List.pairwise_cons.mp d
    rw [List.flatMap_cons]
    refine List.nodup_append.mpr ⟨h p List.mem_cons_self, flat_nd' (fun q hq => h q (List.mem_cons_of_mem _ hq)) d'.2, fun a ha b hb e => ?_⟩
    subst e
    obtain ⟨q, hq, hm⟩ := List.mem_flatMap.mp hb
    exact d'.1 q hq a ha hm
theorem flat_len' : ∀ ps : List Pc, (ps.flatMap fun p => p.2).length = lsum ps
  | [] => rfl
  | p :: ps => by
    rw [List.flatMap_cons, List.length_append, flat_len' ps]
    unfold lsum
    rw [List.map_cons, List.sum_cons]
section
variable {n : Nat} {js ls : List J2} {ps : List Pc}
theorem fm_ln {f g : Nat → Option Nat} {a k : Nat} {p : Pc} (m : Fm js ls p f g a k) : Ln p := by
  have pos := m.R.pos
  have l : p.2.length = k := by rw [m.row, rj_len]
  rcases m.kind with ⟨_, ⟨o, z⟩ | ⟨o, z1, z2⟩⟩ | ⟨z, _, o⟩
  · exact .inl ⟨z, by omega⟩
  · exact .inr (.inr ⟨z1, z2, by omega⟩)
  · exact .inr (.inl ⟨z, by omega, by omega⟩)
theorem web_lsum (g1 : Good n js) (g2 : Good n ls) (W : IsWeb n js ls ps) : lsum ps = 2 * n := by
  have nd := flat_nd' (fun p hp => wpc_nd ((W.mem p).mp hp)) (web_dis g1 g2 W)
  have pm : (ps.flatMap fun p => p.2).Perm (List.range (2 * n)) := by
    refine (List.perm_ext_iff_of_nodup nd List.nodup_range).mpr fun e => ?_
    rw [List.mem_flatMap, List.mem_range]
    constructor
    · rintro ⟨p, hp, he⟩
      exact wpc_lt ((W.mem p).mp hp) e he
    · intro he
      exact W.cov g1 g2 e he
  rw [← flat_len', pm.length_eq, List.length_range]
/-- twice the cost is what the choices leave -/
theorem cst_dm (g1 : Good n js) (g2 : Good n ls) (W : IsWeb n js ls ps) : 2 * cst n js ls + dm ps = 2 * n := by
  obtain ⟨h1, h2⟩ := ln_sum (ps := ps) fun p hp => by
    obtain ⟨f, g, a, k, m⟩ := fm_ex g1 g2 ((W.mem p).mp hp)
    exact fm_ln m
  rw [web_lsum g1 g2 W] at h1 h2
  have r1 : rgs n js ls = ps.countP fun p => p.1 == (("ring" : Str)) := rgs_web g1 g2 W
  have r2 : ods n js ls = ps.countP fun p => p.1 == (("odd" : Str)) := ods_web g1 g2 W
  rw [dm_cnt] at h1 ⊢
  unfold cst
  rw [r1, r2]
  omega
end
theorem cst_tri {n : Nat} {ja jb jc : List J2} (g1 : Good n ja) (g2 : Good n jb) (g3 : Good n jc) : cst n ja jc ≤ cst n ja jb + cst n jb jc := by
  obtain ⟨ps1, W1⟩ := web_ex g1 g2
  obtain ⟨ps2, W2⟩ := web_ex g2 g3
  obtain ⟨ps3, W3⟩ := web_ex g1 g3
  have t := tri_dm g1 g2 g3 W1 W2 W3
  have c1 := cst_dm g1 g2 W1
  have c2 := cst_dm g2 g3 W2
  have c3 := cst_dm g1 g3 W3
  omega
end TI
-- TS
set_option Elab.async false
set_option linter.all false
set_option maxRecDepth 100000
set_option maxHeartbeats 4000000
/-! TS: costs either way round are the same; a lay costs itself nothing. -/
namespace TI
open PySem L2 DC
section
variable {n : Nat} {ja jb : List J2} {ps1 ps2 : List Pc}
theorem dm_le (g1 : Good n ja) (g2 : Good n jb) (W : IsWeb n ja jb ps1) (W' : IsWeb n jb ja ps2) : dm ps1 ≤ dm ps2 := by
  refine pigeon (fun t => picks (fn (mk (2 * n) (val ps1 t))) ps2) (fun t _ => picks_len _ _) (fun t t' h h' e => ?_)
  have k := K_uniq g2 g1 W' (fun e he => (mk_K g1 g2 W t e he).symm) (fun e he => (mk_K g1 g2 W t' e he).symm) e
  exact mk_inj g1 g2 W t t' h h' (fn_ext (mk_len _ _) (mk_len _ _) k)
theorem cst_symm (g1 : Good n ja) (g2 : Good n jb) : cst n ja jb = cst n jb ja := by
  obtain ⟨ps1, W1⟩ := web_ex g1 g2
  obtain ⟨ps2, W2⟩ := web_ex g2 g1
  have h1 := dm_le g1 g2 W1 W2
  have h2 := dm_le g2 g1 W2 W1
  have c1 := cst_dm g1 g2 W1
  have c2 := cst_dm g2 g1 W2
  omega
/-- a lay costs itself nothing: all vectors are read the same -/
theorem cst_self (g1 : Good n ja) : cst n ja ja = 0 := by
  obtain ⟨ps1, W1⟩ := web_ex g1 g1
  have h : 2 * n ≤ dm ps1 := by
    refine pigeon (fun t => picks (fn t) ps1) (fun t _ => picks_len _ _) (fun t t' h h' e => ?_)
    exact fn_ext h h' (K_uniq g1 g1 W1 (fun _ _ => rfl) (fun _ _ => rfl) e)
  have c1 := cst_dm g1 g1 W1
  omega
end
end TI
-- TG
set_option Elab.async false
set_option linter.all false
set_option maxRecDepth 100000
set_option maxHeartbeats 4000000
/-! TG: what a step does to the cost: at most one; one less where it makes a joint of the other lay, or cuts one between ends that are free there. -/
namespace TI
open PySem L2 DC
def put2 (x : Nat → F) (e f : Nat) (a b : F) : Nat → F := fun i => if i = e then a else if i = f then b else x i
theorem put2_e {x : Nat → F} {e f : Nat} {a b : F} : put2 x e f a b e = a := if_pos rfl
theorem put2_f {x : Nat → F} {e f : Nat} {a b : F} (h : e ≠ f) : put2 x e f a b f = b := by
  unfold put2
  rw [if_neg (Ne.symm h), if_pos rfl]
theorem put2_o {x : Nat → F} {e f i : Nat} {a b : F} (h : i ≠ e) (h' : i ≠ f) : put2 x e f a b i = x i := by
  unfold put2
  rw [if_neg h, if_neg h']
section
variable {n : Nat} {js js' ls : List J2} {ps ps' : List Pc} {e f : Nat}
theorem up2 (g : Good n js) (g' : Good n js') (gl : Good n ls) (W : IsWeb n js ls ps) (W' : IsWeb n js' ls ps') (he : e < 2 * n) (hf : f < 2 * n) (ef : e ≠ f)
    (hK : ∀ x : Nat → F, (∀ i, i < 2 * n → At (mt js) (mt ls) x i) → ∀ a b, ∀ i, i < 2 * n → At (mt js') (mt ls) (put2 x e f a b) i)
    (hI : ∀ x y : Nat → F, (∀ i, i < 2 * n → At (mt js) (mt ls) x i) → (∀ i, i < 2 * n → At (mt js) (mt ls) y i) → (∀ i, i < 2 * n → i ≠ e → i ≠ f → x i = y i) → x e = y e ∧ x f = y f) : dm ps + 2 ≤ dm ps' := by
  refine pigeon (m := dm ps + 2) (fun t => picks (put2 (fn (mk (2 * n) (val ps (t.drop 2)))) e f (t.getD 0 0) (t.getD 1 0)) ps') (fun t _ => picks_len _ _) (fun t t' h h' E => ?_)
  have kt := mk_K g gl W (t.drop 2)
  have kt' := mk_K g gl W (t'.drop 2)
  have k := K_uniq g' gl W' (hK _ kt (t.getD 0 0) (t.getD 1 0)) (hK _ kt' (t'.getD 0 0) (t'.getD 1 0)) E
  have ka := k e he
  rw [put2_e, put2_e] at ka
  have kb := k f hf
  rw [put2_f ef, put2_f ef] at kb
  have ko : ∀ i, i < 2 * n → i ≠ e → i ≠ f → fn (mk (2 * n) (val ps (t.drop 2))) i = fn (mk (2 * n) (val ps (t'.drop 2))) i := fun i hi h1 h2 => by
    have := k i hi
    rwa [put2_o h1 h2, put2_o h1 h2] at this
  obtain ⟨k1, k2⟩ := hI _ _ kt kt' ko
  have all : mk (2 * n) (val ps (t.drop 2)) = mk (2 * n) (val ps (t'.drop 2)) := by
    refine fn_ext (mk_len _ _) (mk_len _ _) fun i hi => ?_
    by_cases h1 : i = e
    · rw [h1]; exact k1
    · by_cases h2 : i = f
      · rw [h2]; exact k2
      · exact ko i hi h1 h2
  have d := mk_inj g gl W (t.drop 2) (t'.drop 2) (by rw [List.length_drop]; omega) (by rw [List.length_drop]; omega) all
  match t, t', h, h', ka, kb, d with
  | a :: b :: t, a' :: b' :: t', _, _, ka, kb, d =>
    have ka : a = a' := ka
    have kb : b = b' := kb
    have d : t = t' := d
    rw [ka, kb, d]
theorem cod2 (g : Good n js) (g' : Good n js') (W : IsWeb n js js' ps) (hP : ∀ x : Nat → F, ∃ a b, ∀ i, i < 2 * n → At (mt js) (mt js') (put2 x e f a b) i) : 2 * n ≤ dm ps + 2 := by
  let A : (Nat → F) → F := fun x => Classical.choose (hP x)
  let B : (Nat → F) → F := fun x => Classical.choose (Classical.choose_spec (hP x))
  have hAB : ∀ x : Nat → F, ∀ i, i < 2 * n → At (mt js) (mt js') (put2 x e f (A x) (B x)) i := fun x => Classical.choose_spec (Classical.choose_spec (hP x))
  refine pigeon (m := 2 * n) (fun t => picks (put2 (fn t) e f (A (fn t)) (B (fn t))) ps ++ [fn t e, fn t f]) (fun t _ => ?_) (fun t t' h h' E => ?_)
  · rw [List.length_append, picks_len]
    rfl
  · obtain ⟨E1, E2⟩ := List.append_inj E (by rw [picks_len, picks_len])
    have k := K_uniq g g' W (hAB (fn t)) (hAB (fn t')) E1
    have e1 : fn t e = fn t' e := (List.cons.inj E2).1
    have e2 : fn t f = fn t' f := (List.cons.inj (List.cons.inj E2).2).1
    refine fn_ext h h' fun i hi => ?_
    by_cases h1 : i = e
    · rw [h1]; exact e1
    · by_cases h2 : i = f
      · rw [h2]; exact e2
      · have := k i hi
        rwa [put2_o h1 h2, put2_o h1 h2] at this
/-- e and f come to be joined, their mates too -/
structure Sw (js js' : List J2) (e f : Nat) : Prop where
  ne : e ≠ f
  no : mt js e ≠ some f
  e1 : mt js' e = some f
  f1 : mt js' f = some e
  ot : ∀ i, i ≠ e → i ≠ f → mt js' i = if mt js i = some e then mt js f else if mt js i = some f then mt js e else mt js i
/-- a and b come free -/
structure Ct (js js' : List J2) (a b : Nat) : Prop where
  ab : mt js a = some b
  a1 : mt js' a = none
  b1 : mt js' b = none
  ot : ∀ i, i ≠ a → i ≠ b → mt js' i = mt js i
theorem f2z : ∀ x y : F, 2 * x = y → 2 * y = x → x = 0 ∧ y = 0 := by decide
theorem vl_put {h : Nat → Option Nat} {x : Nat → F} {a b : F} {i : Nat} (h1 : i ≠ e) (h2 : i ≠ f) (h3 : h i ≠ some e) (h4 : h i ≠ some f) : vl h (put2 x e f a b) i = vl h x i := by
  unfold vl
  cases hi : h i with
  | none => dsimp only; rw [put2_o h1 h2]
  | some j =>
    dsimp only
    rw [put2_o (fun z => h3 (by rw [hi, z])) (fun z => h4 (by rw [hi, z]))]
theorem gs_dm (g : Good n js) (g' : Good n js') (gl : Good n ls) (W : IsWeb n js ls ps) (W' : IsWeb n js' ls ps') (s : Sw js js' e f) (hl : mt ls e = some f) : dm ps + 2 ≤ dm ps' := by
  have M := g.mt
  have M' := g'.mt
  have L := gl.mt
  have hl' := L.inv hl
  obtain ⟨he, hf⟩ := L.lt hl
  refine up2 g g' gl W W' he hf s.ne (fun x kx a b i hi => ?_) (fun x y kx ky ag => ?_)
  · unfold At
    by_cases h1 : i = e
    · subst h1
      rw [vl_some s.e1, vl_some hl]
    · by_cases h2 : i = f
      · subst h2
        rw [vl_some s.f1, vl_some hl']
      · have n1 : mt ls i ≠ some e := fun z => h2 (Option.some.inj ((L.inv z).symm.trans hl))
        have n2 : mt ls i ≠ some f := fun z => h1 (Option.some.inj ((L.inv z).symm.trans hl'))
        rw [vl_put h1 h2 n1 n2, ← kx i hi]
        have ke := kx e he
        unfold At at ke
        rw [vl_some hl] at ke
        have kf := kx f hf
        unfold At at kf
        rw [vl_some hl'] at kf
        have o := s.ot i h1 h2
        by_cases c1 : mt js i = some e
        · rw [if_pos c1] at o
          rw [vl_some c1]
          rw [vl_some (M.inv c1)] at ke
          cases hq : mt js f with
          | none =>
            rw [hq] at o
            rw [vl_none o, put2_o h1 h2]
            rw [vl_none hq] at kf
            rw [ke, kf]
          | some q =>
            rw [hq] at o
            rw [vl_some o]
            rw [vl_some hq] at kf
            have q1 : q ≠ e := fun z => s.no (M.inv (by rw [hq, z]))
            have q2 : q ≠ f := fun z => M.irr (by rw [hq, z])
            rw [put2_o q1 q2, kf]
        · rw [if_neg c1] at o
          by_cases c2 : mt js i = some f
          · rw [if_pos c2] at o
            rw [vl_some c2]
            rw [vl_some (M.inv c2)] at kf
            cases hp : mt js e with
            | none =>
              rw [hp] at o
              rw [vl_none o, put2_o h1 h2]
              rw [vl_none hp] at ke
              rw [kf, ke]
            | some p =>
              rw [hp] at o
              rw [vl_some o]
              rw [vl_some hp] at ke
              have p1 : p ≠ e := fun z => M.irr (by rw [hp, z])
              have p2 : p ≠ f := fun z => s.no (by rw [hp, z])
              rw [put2_o p1 p2, ke]
          · rw [if_neg c2] at o
            rw [← vl_put (h := mt js) (x := x) (a := a) (b := b) h1 h2 c1 c2]
            unfold vl
            rw [o]
  · have key : ∀ z : Nat → F, (∀ i, i < 2 * n → At (mt js) (mt ls) z i) → vl (mt js) z e = z f ∧ vl (mt js) z f = z e := fun z kz => by
      have ke := kz e he
      unfold At at ke
      rw [vl_some hl] at ke
      have kf := kz f hf
      unfold At at kf
      rw [vl_some hl'] at kf
      exact ⟨ke, kf⟩
    obtain ⟨x1, x2⟩ := key x kx
    obtain ⟨y1, y2⟩ := key y ky
    cases hp : mt js e with
    | none =>
      rw [vl_none hp] at x1 y1
      cases hq : mt js f with
      | none =>
        rw [vl_none hq] at x2 y2
        obtain ⟨a1, a2⟩ := f2z _ _ x1 x2
        obtain ⟨b1, b2⟩ := f2z _ _ y1 y2
        exact ⟨a1.trans b1.symm, a2.trans b2.symm⟩
      | some q =>
        rw [vl_some hq] at x2 y2
        have q1 : q ≠ e := fun z => s.no (M.inv (by rw [hq, z]))
        have q2 : q ≠ f := fun z => M.irr (by rw [hq, z])
        have := ag q (M.lt hq).2 q1 q2
        have e1 : x e = y e := by rw [← x2, ← y2, this]
        exact ⟨e1, by rw [← x1, ← y1, e1]⟩
    | some p =>
      rw [vl_some hp] at x1 y1
      have p1 : p ≠ e := fun z => M.irr (by rw [hp, z])
      have p2 : p ≠ f := fun z => s.no (by rw [hp, z])
      have := ag p (M.lt hp).2 p1 p2
      have f1 : x f = y f := by rw [← x1, ← y1, this]
      refine ⟨?_, f1⟩
      cases hq : mt js f with
      | none =>
        rw [vl_none hq] at x2 y2
        rw [← x2, ← y2, f1]
      | some q =>
        rw [vl_some hq] at x2 y2
        have q1 : q ≠ e := fun z => s.no (M.inv (by rw [hq, z]))
        have q2 : q ≠ f := fun z => M.irr (by rw [hq, z])
        have := ag q (M.lt hq).2 q1 q2
        rw [← x2, ← y2, this]
theorem gc_dm (g : Good n js) (g' : Good n js') (gl : Good n ls) (W : IsWeb n js ls ps) (W' : IsWeb n js' ls ps') (s : Ct js js' e f) (la : mt ls e = none) (lb : mt ls f = none) : dm ps + 2 ≤ dm ps' := by
  have M := g.mt
  have L := gl.mt
  have hb := M.inv s.ab
  obtain ⟨he, hf⟩ := M.lt s.ab
  have ne : e ≠ f := fun z => M.irr (a := e) (by rw [s.ab, z])
  refine up2 g g' gl W W' he hf ne (fun x kx a b i hi => ?_) (fun x y kx ky ag => ?_)
  · unfold At
    by_cases h1 : i = e
    · subst h1
      rw [vl_none s.a1, vl_none la]
    · by_cases h2 : i = f
      · subst h2
        rw [vl_none s.b1, vl_none lb]
      · have n1 : mt ls i ≠ some e := fun z => by
          rw [L.inv z] at la
          exact nomatch la
        have n2 : mt ls i ≠ some f := fun z => by
          rw [L.inv z] at lb
          exact nomatch lb
        have m1 : mt js i ≠ some e := fun z => h2 (Option.some.inj ((M.inv z).symm.trans s.ab))
        have m2 : mt js i ≠ some f := fun z => h1 (Option.some.inj ((M.inv z).symm.trans hb))
        rw [vl_put h1 h2 n1 n2, ← kx i hi, ← vl_put (h := mt js) (x := x) (a := a) (b := b) h1 h2 m1 m2]
        unfold vl
        rw [s.ot i h1 h2]
  · have key : ∀ z : Nat → F, (∀ i, i < 2 * n → At (mt js) (mt ls) z i) → z e = 0 ∧ z f = 0 := fun z kz => by
      have ke := kz e he
      unfold At at ke
      rw [vl_some s.ab, vl_none la] at ke
      have kf := kz f hf
      unfold At at kf
      rw [vl_some hb, vl_none lb] at kf
      exact f2z _ _ ke.symm kf.symm
    obtain ⟨x1, x2⟩ := key x kx
    obtain ⟨y1, y2⟩ := key y ky
    exact ⟨x1.trans y1.symm, x2.trans y2.symm⟩
theorem sw_dm (g : Good n js) (g' : Good n js') (W : IsWeb n js js' ps) (s : Sw js js' e f) : 2 * n ≤ dm ps + 2 := by
  have M := g.mt
  refine cod2 (e := e) (f := f) g g' W fun x => ?_
  have step : ∀ a b : F, vl (mt js) (put2 x e f a b) e = b → vl (mt js) (put2 x e f a b) f = a →
      (∀ p, mt js e = some p → vl (mt js') (put2 x e f a b) p = a) → (∀ q, mt js f = some q → vl (mt js') (put2 x e f a b) q = b) → ∀ i, i < 2 * n → At (mt js) (mt js') (put2 x e f a b) i := by
    intro a b h1 h2 h3 h4 i hi
    unfold At
    by_cases c1 : i = e
    · subst c1
      rw [h1, vl_some s.e1, put2_f s.ne]
    · by_cases c2 : i = f
      · subst c2
        rw [h2, vl_some s.f1, put2_e]
      · by_cases d1 : mt js i = some e
        · rw [vl_some d1, put2_e, h3 i (M.inv d1)]
        · by_cases d2 : mt js i = some f
          · rw [vl_some d2, put2_f s.ne, h4 i (M.inv d2)]
          · have o := s.ot i c1 c2
            rw [if_neg d1, if_neg d2] at o
            unfold vl
            rw [o]
  cases hp : mt js e with
  | none =>
    cases hq : mt js f with
    | none =>
      refine ⟨0, 0, step 0 0 ?_ ?_ (fun p h => by rw [hp] at h; exact nomatch h) (fun q h => by rw [hq] at h; exact nomatch h)⟩
      · rw [vl_none hp, put2_e]; rfl
      · rw [vl_none hq, put2_f s.ne]; rfl
    | some q =>
      have q1 : q ≠ e := fun z => s.no (M.inv (by rw [hq, z]))
      have q2 : q ≠ f := fun z => M.irr (by rw [hq, z])
      have oq := s.ot q q1 q2
      have nq : mt js q ≠ some e := fun z => s.ne (Option.some.inj (z.symm.trans (M.inv hq)))
      rw [if_neg nq, if_pos (M.inv hq), hp] at oq
      refine ⟨x q, 2 * x q, step _ _ ?_ ?_ (fun p h => by rw [hp] at h; exact nomatch h) (fun q' h => ?_)⟩
      · rw [vl_none hp, put2_e]
      · rw [vl_some hq, put2_o q1 q2]
      · rw [hq] at h
        cases h
        rw [vl_none oq, put2_o q1 q2]
  | some p =>
    have p1 : p ≠ e := fun z => M.irr (by rw [hp, z])
    have p2 : p ≠ f := fun z => s.no (by rw [hp, z])
    have op := s.ot p p1 p2
    rw [if_pos (M.inv hp)] at op
    cases hq : mt js f with
    | none =>
      rw [hq] at op
      refine ⟨2 * x p, x p, step _ _ ?_ ?_ (fun p' h => ?_) (fun q h => by rw [hq] at h; exact nomatch h)⟩
      · rw [vl_some hp, put2_o p1 p2]
      · rw [vl_none hq, put2_f s.ne]
      · rw [hp] at h
        cases h
        rw [vl_none op, put2_o p1 p2]
    | some q =>
      rw [hq] at op
      have q1 : q ≠ e := fun z => s.no (M.inv (by rw [hq, z]))
      have q2 : q ≠ f := fun z => M.irr (by rw [hq, z])
      have oq := s.ot q q1 q2
      have nq : mt js q ≠ some e := fun z => s.ne (Option.some.inj (z.symm.trans (M.inv hq)))
      rw [if_neg nq, if_pos (M.inv hq), hp] at oq
      refine ⟨x q, x p, step _ _ ?_ ?_ (fun p' h => ?_) (fun q' h => ?_)⟩
      · rw [vl_some hp, put2_o p1 p2]
      · rw [vl_some hq, put2_o q1 q2]
      · rw [hp] at h
        cases h
        rw [vl_some op, put2_o q1 q2]
      · rw [hq] at h
        cases h
        rw [vl_some oq, put2_o p1 p2]
theorem ct_dm (g : Good n js) (g' : Good n js') (W : IsWeb n js js' ps) (s : Ct js js' e f) : 2 * n ≤ dm ps + 2 := by
  have M := g.mt
  have ne : e ≠ f := fun z => M.irr (a := e) (by rw [s.ab, z])
  refine cod2 (e := e) (f := f) g g' W fun x => ⟨0, 0, fun i hi => ?_⟩
  unfold At
  by_cases c1 : i = e
  · subst c1
    rw [vl_some s.ab, vl_none s.a1, put2_f ne, put2_e]; rfl
  · by_cases c2 : i = f
    · subst c2
      rw [vl_some (M.inv s.ab), vl_none s.b1, put2_f ne, put2_e]; rfl
    · unfold vl
      rw [s.ot i c1 c2]
/-! of the costs -/
theorem gs (g : Good n js) (g' : Good n js') (gl : Good n ls) (s : Sw js js' e f) (hl : mt ls e = some f) : cst n js' ls + 1 ≤ cst n js ls := by
  obtain ⟨ps, W⟩ := web_ex g gl
  obtain ⟨ps', W'⟩ := web_ex g' gl
  have h := gs_dm g g' gl W W' s hl
  have c1 := cst_dm g gl W
  have c2 := cst_dm g' gl W'
  omega
theorem gc (g : Good n js) (g' : Good n js') (gl : Good n ls) (s : Ct js js' e f) (la : mt ls e = none) (lb : mt ls f = none) : cst n js' ls + 1 ≤ cst n js ls := by
  obtain ⟨ps, W⟩ := web_ex g gl
  obtain ⟨ps', W'⟩ := web_ex g' gl
  have h := gc_dm g g' gl W W' s la lb
  have c1 := cst_dm g gl W
  have c2 := cst_dm g' gl W'
  omega
theorem sw_one (g : Good n js) (g' : Good n js') (s : Sw js js' e f) : cst n js js' ≤ 1 := by
  obtain ⟨ps, W⟩ := web_ex g g'
  have h := sw_dm g g' W s
  have c1 := cst_dm g g' W
  omega
theorem ct_one (g : Good n js) (g' : Good n js') (s : Ct js js' e f) : cst n js js' ≤ 1 := by
  obtain ⟨ps, W⟩ := web_ex g g'
  have h := ct_dm g g' W s
  have c1 := cst_dm g g' W
  omega
end
end TI
-- K15m1
set_option Elab.async false
set_option linter.all false
set_option maxRecDepth 100000
set_option maxHeartbeats 8000000
/-! K14m1: the lay behind a step; its cost; there is a good step. -/
namespace K15
open PySem L2 DC LamX
theorem mt_iff {n : Nat} {l : List J2} (g : Good n l) {i j : Nat} : mt l i = some j ↔ mk2 i j ∈ l := by
  constructor
  · intro h
    obtain ⟨p, hp, h | h⟩ := mt_some h
    · obtain ⟨rfl, rfl⟩ := h
      rw [mk2_lt (g.rng p hp).1]
      exact hp
    · obtain ⟨rfl, rfl⟩ := h
      have r := (g.rng p hp).1
      rw [show mk2 p.2 p.1 = (p.1, p.2) by unfold mk2; rw [Nat.min_eq_right (by omega), Nat.max_eq_left (by omega)]]
      exact hp
  · intro h
    obtain ⟨h1, h2⟩ := mt_of g.dis (fun q hq => Nat.ne_of_lt (g.rng q hq).1) h
    unfold mk2 at h1 h2
    dsimp only at h1 h2
    by_cases c : i < j
    · rw [Nat.min_eq_left (by omega), Nat.max_eq_right (by omega)] at h1
      exact h1
    · rw [Nat.min_eq_right (by omega), Nat.max_eq_left (by omega)] at h2
      exact h2
theorem mk2_comm (a b : Nat) : mk2 a b = mk2 b a := by
  unfold mk2
  rw [Nat.min_comm, Nat.max_comm]
theorem opt_ext {a b : Option Nat} (h : ∀ j, a = some j ↔ b = some j) : a = b := by
  cases a with
  | none =>
    cases b with
    | none => rfl
    | some y => exact absurd ((h y).mpr rfl) (fun z => nomatch z)
  | some x => exact ((h x).mp rfl).symm
/-- joints of a lay that share an end are the same -/
theorem same_joint {n : Nat} {js : List J2} (g : Good n js) {p r : J2} (hp : p ∈ js) (hr : r ∈ js) {x : Nat} (h1 : x = p.1 ∨ x = p.2) (h2 : x = r.1 ∨ x = r.2) : p = r := by
  have ne : ∀ q ∈ js, q.1 ≠ q.2 := fun q hq => Nat.ne_of_lt (g.rng q hq).1
  obtain ⟨p1, p2⟩ := mt_of g.dis ne hp
  obtain ⟨r1, r2⟩ := mt_of g.dis ne hr
  have a := (g.rng p hp).1
  have b := (g.rng r hr).1
  rcases h1 with rfl | rfl <;> rcases h2 with h2 | h2
  · rw [h2, r1] at p1
    exact Prod.ext h2 (Option.some.inj p1).symm
  · rw [h2, r2] at p1
    have := Option.some.inj p1
    omega
  · rw [h2, r1] at p2
    have := Option.some.inj p2
    omega
  · rw [h2, r2] at p2
    exact Prod.ext (Option.some.inj p2).symm h2
section
variable {n : Nat} {js : List J2} {st : Stp2}
theorem cut_sub (s : IsSt n js st) : ∀ p ∈ st.1, p ∈ js := by
  intro q hq
  cases s with
  | cut p h => obtain rfl := List.mem_singleton.mp hq; exact h
  | shift p e near h _ _ => obtain rfl := List.mem_singleton.mp hq; exact h
  | dbl p q' h h' _ _ =>
    rcases List.mem_cons.mp hq with rfl | hr
    · exact h
    · obtain rfl := List.mem_singleton.mp hr; exact h'
  | dbl2 p q' h h' _ _ =>
    rcases List.mem_cons.mp hq with rfl | hr
    · exact h
    · obtain rfl := List.mem_singleton.mp hr; exact h'
  | join => exact absurd hq List.not_mem_nil
theorem mk2_ends {a b x : Nat} (h : x = (mk2 a b).1 ∨ x = (mk2 a b).2) : x = a ∨ x = b := by
  unfold mk2 at h
  dsimp only at h
  omega
theorem mk2_has (a b : Nat) : (a = (mk2 a b).1 ∨ a = (mk2 a b).2) ∧ (b = (mk2 a b).1 ∨ b = (mk2 a b).2) := by
  unfold mk2
  dsimp only
  omega
theorem made_end (s : IsSt n js st) {m : J2} (hm : m ∈ st.2) {x : Nat} (hx : x = m.1 ∨ x = m.2) : x ∈ frees n js ∨ ∃ p ∈ st.1, x = p.1 ∨ x = p.2 := by
  cases s with
  | cut p h => exact absurd hm List.not_mem_nil
  | shift p e near h he hn =>
    obtain rfl := List.mem_singleton.mp hm
    rcases mk2_ends hx with rfl | rfl
    · exact .inr ⟨p, List.mem_singleton.mpr rfl, hn⟩
    · exact .inl he
  | dbl p q h h' a ap =>
    rcases List.mem_cons.mp hm with rfl | hm
    · rcases hx with rfl | rfl
      · exact .inr ⟨p, List.mem_cons_self, .inl rfl⟩
      · exact .inr ⟨q, List.mem_cons_of_mem _ List.mem_cons_self, .inl rfl⟩
    · obtain rfl := List.mem_singleton.mp hm
      rcases mk2_ends hx with rfl | rfl
      · exact .inr ⟨p, List.mem_cons_self, .inr rfl⟩
      · exact .inr ⟨q, List.mem_cons_of_mem _ List.mem_cons_self, .inr rfl⟩
  | dbl2 p q h h' a ap =>
    rcases List.mem_cons.mp hm with rfl | hm
    · rcases hx with rfl | rfl
      · exact .inr ⟨p, List.mem_cons_self, .inl rfl⟩
      · exact .inr ⟨q, List.mem_cons_of_mem _ List.mem_cons_self, .inr rfl⟩
    · obtain rfl := List.mem_singleton.mp hm
      rcases mk2_ends hx with rfl | rfl
      · exact .inr ⟨p, List.mem_cons_self, .inr rfl⟩
      · exact .inr ⟨q, List.mem_cons_of_mem _ List.mem_cons_self, .inl rfl⟩
  | join a b ha hb h =>
    obtain rfl := List.mem_singleton.mp hm
    rcases hx with rfl | rfl
    · exact .inl ha
    · exact .inl hb
theorem kept_apart (g : Good n js) (s : IsSt n js st) {r m : J2} (hr : r ∈ js) (hn : r ∉ st.1) (hm : m ∈ st.2) {x : Nat} (h1 : x = r.1 ∨ x = r.2) (h2 : x = m.1 ∨ x = m.2) : False := by
  rcases made_end s hm h2 with h | ⟨p, hp, h⟩
  · exact mt_end g hr h1 (free_lt h).2
  · exact hn (same_joint g (cut_sub s p hp) hr h h1 ▸ hp)
/-- what is behind a step, not yet ascending -/
def rawJ (js : List J2) (st : Stp2) : List J2 := (js.filter fun p => !decide (p ∈ st.1)) ++ st.2
theorem raw_mem {p : J2} : p ∈ rawJ js st ↔ (p ∈ js ∧ p ∉ st.1) ∨ p ∈ st.2 := by
  unfold rawJ
  rw [List.mem_append, List.mem_filter, Bool.not_eq_true', decide_eq_false_iff_not]
theorem aft_iff {p : J2} : p ∈ aftJ js st ↔ (p ∈ js ∧ p ∉ st.1) ∨ p ∈ st.2 := by
  rw [← raw_mem]
  exact (srtJ_perm (rawJ js st)).mem_iff
theorem apart_symm {p q : J2} (h : DC.Apart p q) : DC.Apart q p := ⟨fun z => h.1 z.symm, fun z => h.2.2.1 z.symm, fun z => h.2.1 z.symm, fun z => h.2.2.2 z.symm⟩
theorem raw_dis (g : Good n js) (s : IsSt n js st) : (rawJ js st).Pairwise DC.Apart := by
  unfold rawJ
  refine List.pairwise_append.mpr ⟨g.dis.filter _, (isSt_good g s).2.dis, fun r hr m hm => ?_⟩
  obtain ⟨h1, h2⟩ := List.mem_filter.mp hr
  rw [Bool.not_eq_true', decide_eq_false_iff_not] at h2
  refine ⟨fun z => ?_, fun z => ?_, fun z => ?_, fun z => ?_⟩
  · exact kept_apart g s h1 h2 hm (.inl rfl) (.inl z)
  · exact kept_apart g s h1 h2 hm (.inl rfl) (.inr z)
  · exact kept_apart g s h1 h2 hm (.inr rfl) (.inl z)
  · exact kept_apart g s h1 h2 hm (.inr rfl) (.inr z)
theorem insJ_asc {p : J2} : ∀ {l : List J2}, l.Pairwise (fun p q => p.1 < q.1) → (∀ q ∈ l, p.1 ≠ q.1) → (insJ p l).Pairwise (fun p q => p.1 < q.1)
  | [], _, _ => List.pairwise_singleton _ _
  | q :: l, h, d => by
    unfold insJ
    have h' := List.pairwise_cons.mp h
    have dq := d q List.mem_cons_self
    by_cases c : p.1 ≤ q.1
    · rw [if_pos c]
      refine List.pairwise_cons.mpr ⟨fun r hr => ?_, h⟩
      rcases List.mem_cons.mp hr with rfl | hr
      · omega
      · have := h'.1 r hr
        omega
    · rw [if_neg c]
      refine List.pairwise_cons.mpr ⟨fun r hr => ?_, insJ_asc h'.2 fun r hr => d r (List.mem_cons_of_mem _ hr)⟩
      rcases List.mem_cons.mp ((insJ_perm p l).mem_iff.mp hr) with rfl | hr
      · omega
      · exact h'.1 r hr
theorem srtJ_asc : ∀ {l : List J2}, l.Pairwise (fun p q => p.1 ≠ q.1) → (srtJ l).Pairwise (fun p q => p.1 < q.1)
  | [], _ => List.Pairwise.nil
  | p :: l, h => by
    have h' := List.pairwise_cons.mp h
    exact insJ_asc (srtJ_asc h'.2) fun q hq => h'.1 q ((srtJ_perm l).mem_iff.mp hq)
theorem aft_good (g : Good n js) (s : IsSt n js st) : Good n (aftJ js st) := by
  have d := raw_dis g s
  refine ⟨g.one, g.top, fun p hp => ?_, srtJ_asc (d.imp fun h => h.1), ?_⟩
  · rcases aft_iff.mp hp with h | h
    · exact g.rng p h.1
    · exact (isSt_good g s).2.rng p h
  · exact ((srtJ_perm (rawJ js st)).pairwise_iff fun h => apart_symm h).mpr d
/-! mates behind a step -/
theorem aft_same (g : Good n js) (s : IsSt n js st) {i : Nat} (h1 : ∀ p ∈ st.1, i ≠ p.1 ∧ i ≠ p.2) (h2 : ∀ p ∈ st.2, i ≠ p.1 ∧ i ≠ p.2) : mt (aftJ js st) i = mt js i := by
  refine opt_ext fun j => ?_
  rw [mt_iff (aft_good g s), mt_iff g, aft_iff]
  have hi := (mk2_has i j).1
  constructor
  · rintro (h | h)
    · exact h.1
    · have := h2 _ h
      rcases hi with z | z
      · exact absurd z this.1
      · exact absurd z this.2
  · intro h
    refine .inl ⟨h, fun z => ?_⟩
    have := h1 _ z
    rcases hi with z | z
    · exact absurd z this.1
    · exact absurd z this.2
theorem aft_free (g : Good n js) (s : IsSt n js st) {i : Nat} {p : J2} (hp : p ∈ st.1) (hi : i = p.1 ∨ i = p.2) (h2 : ∀ p ∈ st.2, i ≠ p.1 ∧ i ≠ p.2) : mt (aftJ js st) i = none := by
  cases hm : mt (aftJ js st) i with
  | none => rfl
  | some j =>
    rw [mt_iff (aft_good g s), aft_iff] at hm
    have hi' := (mk2_has i j).1
    rcases hm with h | h
    · exact absurd (same_joint g (cut_sub s p hp) h.1 hi hi' ▸ hp) h.2
    · have := h2 _ h
      rcases hi' with z | z
      · exact absurd z this.1
      · exact absurd z this.2
theorem aft_made (g : Good n js) (s : IsSt n js st) {m : J2} (hm : m ∈ st.2) : mt (aftJ js st) m.1 = some m.2 ∧ mt (aftJ js st) m.2 = some m.1 := by
  have ga := aft_good g s
  exact mt_of ga.dis (fun q hq => Nat.ne_of_lt (ga.rng q hq).1) (aft_iff.mpr (.inr hm))
end
end K15
-- K15m2
set_option Elab.async false
set_option linter.all false
set_option maxRecDepth 100000
set_option maxHeartbeats 8000000
/-! K14m2: costs behind a step; there is a good step -/
namespace K15
open PySem L2 DC LamX
section
variable {n : Nat} {js ls : List J2} {st : Stp2}
theorem sw_symm {js js' : List J2} {e f : Nat} {n : Nat} (g : Good n js) (s : TI.Sw js js' e f) : TI.Sw js js' f e := by
  refine ⟨Ne.symm s.ne, fun z => s.no (g.mt.inv z), s.f1, s.e1, fun i h1 h2 => ?_⟩
  rw [s.ot i h2 h1]
  by_cases c1 : mt js i = some e
  · by_cases c2 : mt js i = some f
    · rw [c1] at c2
      exact absurd (Option.some.inj c2) s.ne
    · rw [if_pos c1, if_neg c2, if_pos c1]
  · by_cases c2 : mt js i = some f
    · rw [if_neg c1, if_pos c2, if_pos c2]
    · rw [if_neg c1, if_neg c2, if_neg c2, if_neg c1]
theorem sw_of (g : Good n js) (s : IsSt n js st) : ∀ m ∈ st.2, TI.Sw js (aftJ js st) m.1 m.2 := by
  intro m hm
  have ga := aft_good g s
  obtain ⟨b1, b2⟩ := aft_made g s hm
  have M := g.mt
  have ne : m.1 ≠ m.2 := Nat.ne_of_lt ((isSt_good g s).2.rng m hm).1
  have jne : ∀ q ∈ js, q.1 ≠ q.2 := fun q hq => Nat.ne_of_lt (g.rng q hq).1
  cases s with
  | cut p h => exact absurd hm List.not_mem_nil
  | shift p e near h he hn =>
    have s : IsSt n js ([p], [mk2 near e]) := .shift p e near h he hn
    obtain rfl := List.mem_singleton.mp hm
    obtain ⟨q1, q2⟩ := mt_of g.dis jne h
    have rp := (g.rng p h).1
    have fe := (free_lt he).2
    obtain ⟨far, hfar, mn, mf⟩ : ∃ far, (far = p.1 ∨ far = p.2) ∧ mt js near = some far ∧ mt js far = some near := by
      rcases hn with rfl | rfl
      · exact ⟨p.2, .inr rfl, q1, q2⟩
      · exact ⟨p.1, .inl rfl, q2, q1⟩
    have nne : near ≠ e := fun z => by
      rw [z, fe] at mn
      exact nomatch mn
    have nf : far ≠ near := fun z => M.irr (by rw [mn, z])
    have ends : ∀ x, (x = p.1 ∨ x = p.2) → x = near ∨ x = far := fun x hx => by
      rcases hn with rfl | rfl <;> rcases hfar with rfl | rfl <;> omega
    have sw : mt (aftJ js ([p], [mk2 near e])) near = some e → mt (aftJ js ([p], [mk2 near e])) e = some near → TI.Sw js (aftJ js ([p], [mk2 near e])) near e := fun a1 a2 => by
      refine ⟨nne, fun z => ?_, a1, a2, fun i h1 h2 => ?_⟩
      · have := M.inv z
        rw [fe] at this
        exact nomatch this
      · by_cases c1 : mt js i = some near
        · rw [if_pos c1, fe]
          have ei : i = far := Option.some.inj ((M.inv c1).symm.trans mn)
          refine aft_free g s (p := p) List.mem_cons_self (by rw [ei]; exact hfar) fun m hm => ?_
          obtain rfl := List.mem_singleton.mp hm
          refine ⟨fun z => ?_, fun z => ?_⟩
          · rcases mk2_ends (.inl z) with z | z <;> omega
          · rcases mk2_ends (.inr z) with z | z <;> omega
        · have c2 : ¬ mt js i = some e := fun z => by
            have := M.inv z
            rw [fe] at this
            exact nomatch this
          rw [if_neg c1, if_neg c2]
          refine aft_same g s (fun q hq => ?_) fun m hm => ?_
          · obtain rfl := List.mem_singleton.mp hq
            refine ⟨fun z => ?_, fun z => ?_⟩
            · rcases ends i (.inl z) with w | w
              · exact h1 w
              · exact c1 (by rw [w]; exact mf)
            · rcases ends i (.inr z) with w | w
              · exact h1 w
              · exact c1 (by rw [w]; exact mf)
          · obtain rfl := List.mem_singleton.mp hm
            refine ⟨fun z => ?_, fun z => ?_⟩
            · rcases mk2_ends (.inl z) with z | z <;> omega
            · rcases mk2_ends (.inr z) with z | z <;> omega
    by_cases c : near < e
    · rw [mk2_lt c] at b1 b2 sw ⊢
      exact sw b1 b2
    · rw [mk2_comm, mk2_lt (show e < near by omega)] at b1 b2 sw ⊢
      exact sw_symm g (sw b2 b1)
  | dbl p q h h' a ap =>
    have s : IsSt n js ([p, q], [(p.1, q.1), mk2 p.2 q.2]) := .dbl p q h h' a ap
    obtain ⟨p1, p2⟩ := mt_of g.dis jne h
    obtain ⟨q1, q2⟩ := mt_of g.dis jne h'
    obtain ⟨m1, m2⟩ := aft_made g s (m := (p.1, q.1)) List.mem_cons_self
    obtain ⟨m3, m4⟩ := aft_made g s (m := mk2 p.2 q.2) (List.mem_cons_of_mem _ List.mem_cons_self)
    dsimp only at m1 m2
    have m56 : mt (aftJ js ([p, q], [(p.1, q.1), mk2 p.2 q.2])) p.2 = some q.2 ∧ mt (aftJ js ([p, q], [(p.1, q.1), mk2 p.2 q.2])) q.2 = some p.2 := by
      by_cases c : p.2 < q.2
      · rw [mk2_lt c] at m3 m4
        rw [mk2_lt c]
        exact ⟨m3, m4⟩
      · rw [mk2_comm, mk2_lt (show q.2 < p.2 by obtain ⟨_, _, _, z⟩ := ap; omega)] at m3 m4
        rw [mk2_comm, mk2_lt (show q.2 < p.2 by obtain ⟨_, _, _, z⟩ := ap; omega)]
        exact ⟨m4, m3⟩
    obtain ⟨a1, a2, a3, a4⟩ := ap
    have rp := (g.rng p h).1
    have rq := (g.rng q h').1
    have rest : ∀ i, i ≠ p.1 → i ≠ p.2 → i ≠ q.1 → i ≠ q.2 → mt (aftJ js ([p, q], [(p.1, q.1), mk2 p.2 q.2])) i = mt js i := fun i i1 i2 i3 i4 => by
      refine aft_same g s (fun r hr => ?_) fun m hm => ?_
      · simp only [List.mem_cons, List.not_mem_nil, or_false] at hr
        rcases hr with rfl | rfl
        · exact ⟨i1, i2⟩
        · exact ⟨i3, i4⟩
      · simp only [List.mem_cons, List.not_mem_nil, or_false] at hm
        rcases hm with rfl | rfl
        · exact ⟨i1, i3⟩
        · exact ⟨fun z => by rcases mk2_ends (.inl z) with z | z <;> omega, fun z => by rcases mk2_ends (.inr z) with z | z <;> omega⟩
    have gen : ∀ {e f e' f' : Nat}, mt js e = some e' → mt js e' = some e → mt js f = some f' → mt js f' = some f → e ≠ f → e ≠ f' → e' ≠ f → e' ≠ f' →
        mt (aftJ js ([p, q], [(p.1, q.1), mk2 p.2 q.2])) e = some f → mt (aftJ js ([p, q], [(p.1, q.1), mk2 p.2 q.2])) f = some e → mt (aftJ js ([p, q], [(p.1, q.1), mk2 p.2 q.2])) e' = some f' → mt (aftJ js ([p, q], [(p.1, q.1), mk2 p.2 q.2])) f' = some e' →
        (∀ i, i ≠ e → i ≠ e' → i ≠ f → i ≠ f' → mt (aftJ js ([p, q], [(p.1, q.1), mk2 p.2 q.2])) i = mt js i) → TI.Sw js (aftJ js ([p, q], [(p.1, q.1), mk2 p.2 q.2])) e f := fun {e f e' f'} x1 x2 x3 x4 n1 n2 n3 n4 y1 y2 y3 y4 o => by
      refine ⟨n1, fun z => n3 (Option.some.inj (x1.symm.trans z)), y1, y2, fun i h1 h2 => ?_⟩
      by_cases c1 : i = e'
      · rw [c1, if_pos x2, x3, y3]
      · by_cases c2 : i = f'
        · rw [c2, if_neg (fun z => n1 (Option.some.inj (z.symm.trans x4))), if_pos x4, x1, y4]
        · rw [if_neg (fun z => c1 (Option.some.inj ((M.inv z).symm.trans x1))), if_neg (fun z => c2 (Option.some.inj ((M.inv z).symm.trans x3)))]
          exact o i h1 c1 h2 c2
    have s1 := gen p1 p2 q1 q2 a1 a2 a3 a4 m1 m2 m56.1 m56.2 fun i i1 i2 i3 i4 => rest i i1 i2 i3 i4
    have s2 := gen p2 p1 q2 q1 a4 a3 a2 a1 m56.1 m56.2 m1 m2 fun i i1 i2 i3 i4 => rest i i2 i1 i4 i3
    rcases List.mem_cons.mp hm with rfl | hm
    · exact s1
    · obtain rfl := List.mem_singleton.mp hm
      by_cases c : p.2 < q.2
      · rw [mk2_lt c] at s2 ⊢
        exact s2
      · rw [mk2_comm, mk2_lt (show q.2 < p.2 by omega)] at s2 ⊢
        exact sw_symm g s2
  | dbl2 p q h h' a ap =>
    have s : IsSt n js ([p, q], [(p.1, q.2), mk2 p.2 q.1]) := .dbl2 p q h h' a ap
    obtain ⟨p1, p2⟩ := mt_of g.dis jne h
    obtain ⟨q1, q2⟩ := mt_of g.dis jne h'
    obtain ⟨m1, m2⟩ := aft_made g s (m := (p.1, q.2)) List.mem_cons_self
    obtain ⟨m3, m4⟩ := aft_made g s (m := mk2 p.2 q.1) (List.mem_cons_of_mem _ List.mem_cons_self)
    dsimp only at m1 m2
    have m56 : mt (aftJ js ([p, q], [(p.1, q.2), mk2 p.2 q.1])) p.2 = some q.1 ∧ mt (aftJ js ([p, q], [(p.1, q.2), mk2 p.2 q.1])) q.1 = some p.2 := by
      by_cases c : p.2 < q.1
      · rw [mk2_lt c] at m3 m4
        rw [mk2_lt c]
        exact ⟨m3, m4⟩
      · rw [mk2_comm, mk2_lt (show q.1 < p.2 by obtain ⟨_, _, z, _⟩ := ap; omega)] at m3 m4
        rw [mk2_comm, mk2_lt (show q.1 < p.2 by obtain ⟨_, _, z, _⟩ := ap; omega)]
        exact ⟨m4, m3⟩
    obtain ⟨a1, a2, a3, a4⟩ := ap
    have rp := (g.rng p h).1
    have rq := (g.rng q h').1
    have rest : ∀ i, i ≠ p.1 → i ≠ p.2 → i ≠ q.1 → i ≠ q.2 → mt (aftJ js ([p, q], [(p.1, q.2), mk2 p.2 q.1])) i = mt js i := fun i i1 i2 i3 i4 => by
      refine aft_same g s (fun r hr => ?_) fun m hm => ?_
      · simp only [List.mem_cons, List.not_mem_nil, or_false] at hr
        rcases hr with rfl | rfl
        · exact ⟨i1, i2⟩
        · exact ⟨i3, i4⟩
      · simp only [List.mem_cons, List.not_mem_nil, or_false] at hm
        rcases hm with rfl | rfl
        · exact ⟨i1, i4⟩
        · exact ⟨fun z => by rcases mk2_ends (.inl z) with z | z <;> omega, fun z => by rcases mk2_ends (.inr z) with z | z <;> omega⟩
    have gen : ∀ {e f e' f' : Nat}, mt js e = some e' → mt js e' = some e → mt js f = some f' → mt js f' = some f → e ≠ f → e ≠ f' → e' ≠ f → e' ≠ f' →
        mt (aftJ js ([p, q], [(p.1, q.2), mk2 p.2 q.1])) e = some f → mt (aftJ js ([p, q], [(p.1, q.2), mk2 p.2 q.1])) f = some e → mt (aftJ js ([p, q], [(p.1, q.2), mk2 p.2 q.1])) e' = some f' → mt (aftJ js ([p, q], [(p.1, q.2), mk2 p.2 q.1])) f' = some e' →
        (∀ i, i ≠ e → i ≠ e' → i ≠ f → i ≠ f' → mt (aftJ js ([p, q], [(p.1, q.2), mk2 p.2 q.1])) i = mt js i) → TI.Sw js (aftJ js ([p, q], [(p.1, q.2), mk2 p.2 q.1])) e f := fun {e f e' f'} x1 x2 x3 x4 n1 n2 n3 n4 y1 y2 y3 y4 o => by
      refine ⟨n1, fun z => n3 (Option.some.inj (x1.symm.trans z)), y1, y2, fun i h1 h2 => ?_⟩
      by_cases c1 : i = e'
      · rw [c1, if_pos x2, x3, y3]
      · by_cases c2 : i = f'
        · rw [c2, if_neg (fun z => n1 (Option.some.inj (z.symm.trans x4))), if_pos x4, x1, y4]
        · rw [if_neg (fun z => c1 (Option.some.inj ((M.inv z).symm.trans x1))), if_neg (fun z => c2 (Option.some.inj ((M.inv z).symm.trans x3)))]
          exact o i h1 c1 h2 c2
    have s1 := gen p1 p2 q2 q1 a2 a1 a4 a3 m1 m2 m56.1 m56.2 fun i i1 i2 i3 i4 => rest i i1 i2 i4 i3
    have s2 := gen p2 p1 q1 q2 a3 a4 a1 a2 m56.1 m56.2 m1 m2 fun i i1 i2 i3 i4 => rest i i2 i1 i3 i4
    rcases List.mem_cons.mp hm with rfl | hm
    · exact s1
    · obtain rfl := List.mem_singleton.mp hm
      by_cases c : p.2 < q.1
      · rw [mk2_lt c] at s2 ⊢
        exact s2
      · rw [mk2_comm, mk2_lt (show q.1 < p.2 by omega)] at s2 ⊢
        exact sw_symm g s2
  | join x y hx hy hxy =>
    have s : IsSt n js ([], [(x, y)]) := .join x y hx hy hxy
    obtain rfl := List.mem_singleton.mp hm
    have fx := (free_lt hx).2
    have fy := (free_lt hy).2
    dsimp only at b1 b2 ⊢
    refine ⟨by omega, (fun z => by rw [fx] at z; exact nomatch z), b1, b2, fun i h1 h2 => ?_⟩
    have c1 : ¬ mt js i = some x := fun z => by
      have := M.inv z
      rw [fx] at this
      exact nomatch this
    have c2 : ¬ mt js i = some y := fun z => by
      have := M.inv z
      rw [fy] at this
      exact nomatch this
    rw [if_neg c1, if_neg c2]
    refine aft_same g s (fun q hq => absurd hq List.not_mem_nil) fun m hm => ?_
    obtain rfl := List.mem_singleton.mp hm
    exact ⟨h1, h2⟩
theorem ct_of (g : Good n js) {p : J2} (h : p ∈ js) : TI.Ct js (aftJ js ([p], [])) p.1 p.2 := by
  have s : IsSt n js ([p], []) := .cut p h
  obtain ⟨q1, q2⟩ := mt_of g.dis (fun q hq => Nat.ne_of_lt (g.rng q hq).1) h
  refine ⟨q1, aft_free g s (p := p) List.mem_cons_self (.inl rfl) (fun m hm => absurd hm List.not_mem_nil), aft_free g s (p := p) List.mem_cons_self (.inr rfl) (fun m hm => absurd hm List.not_mem_nil), fun i h1 h2 => ?_⟩
  refine aft_same g s (fun q hq => ?_) fun m hm => absurd hm List.not_mem_nil
  obtain rfl := List.mem_singleton.mp hq
  exact ⟨h1, h2⟩
/-- a step costs one at most -/
theorem st_one (g : Good n js) (s : IsSt n js st) : cst n js (aftJ js st) ≤ 1 := by
  have ga := aft_good g s
  cases hs : st.2 with
  | nil =>
    cases s with
    | cut p h => exact TI.ct_one g ga (ct_of g h)
    | shift p e near h he hn => exact nomatch hs
    | dbl p q h h' a ap => exact nomatch hs
    | dbl2 p q h h' a ap => exact nomatch hs
    | join x y hx hy hxy => exact nomatch hs
  | cons m l => exact TI.sw_one g ga (sw_of g s m (by rw [hs]; exact List.mem_cons_self))
theorem st_gain (g : Good n js) (gl : Good n ls) (s : IsSt n js st) : cst n (aftJ js st) ls ≤ cst n js ls + 1 ∧ cst n js ls ≤ cst n (aftJ js st) ls + 1 := by
  have ga := aft_good g s
  have o := st_one g s
  have t1 := TI.cst_tri g ga gl
  have t2 := TI.cst_tri ga g gl
  rw [TI.cst_symm ga g] at t2
  omega
/-! steps that there are -/
theorem isSt_in (g : Good n js) (s : IsSt n js st) : st ∈ stJ n js := by
  have e0 : pre1 n js js.length ++ pre2 (frees n js) (frees n js).length = stJ n js := rfl
  rw [← e0]
  have at1 : ∀ {p : J2}, p ∈ js → ∀ {s : Stp2}, (∀ k, js[k]? = some p → s ∈ stAt n js k p) → s ∈ pre1 n js js.length := fun {p} hp {s} h => by
    obtain ⟨k, hk, rfl⟩ := List.getElem_of_mem hp
    unfold pre1
    refine List.mem_flatMap.mpr ⟨k, List.mem_range.mpr hk, ?_⟩
    rw [List.getD_eq_getElem?_getD, List.getElem?_eq_getElem hk]
    exact h k (List.getElem?_eq_getElem hk)
  have later : ∀ {p q : J2}, q ∈ js → p.1 < q.1 → ∀ k, js[k]? = some p → q ∈ js.drop (k + 1) := fun {p q} hq a k hk => by
    obtain ⟨hkl, hk⟩ := List.getElem?_eq_some_iff.mp hk
    obtain ⟨m, hm, rfl⟩ := List.getElem_of_mem hq
    have km : k < m := by
      rcases Nat.lt_trichotomy k m with z | z | z
      · exact z
      · subst z
        rw [hk] at a
        omega
      · have := List.pairwise_iff_getElem.mp g.asc m k hm hkl z
        rw [hk] at this
        omega
    rw [show js[m] = (js.drop (k + 1))[m - (k + 1)]'(by rw [List.length_drop]; omega) from by rw [List.getElem_drop]; congr 1; omega]
    exact List.getElem_mem _
  refine List.mem_append.mpr ?_
  cases s with
  | cut p h => exact .inl (at1 h fun k _ => List.mem_append.mpr (.inl List.mem_cons_self))
  | shift p e near h he hn =>
    refine .inl (at1 h fun k _ => List.mem_append.mpr (.inl (List.mem_cons_of_mem _ (List.mem_flatMap.mpr ⟨e, he, ?_⟩))))
    rcases hn with rfl | rfl
    · exact List.mem_cons_self
    · exact List.mem_cons_of_mem _ List.mem_cons_self
  | dbl p q h h' a ap =>
    refine .inl (at1 h fun k hk => List.mem_append.mpr (.inr (List.mem_flatMap.mpr ⟨q, later h' a k hk, ?_⟩)))
    have rp := (g.rng p h).1
    have rq := (g.rng q h').1
    rw [mk2_lt a, sm2_lt (p := (p.1, q.1)) (q := mk2 p.2 q.2) (by unfold mk2; dsimp only; omega)]
    exact List.mem_cons_self
  | dbl2 p q h h' a ap =>
    refine .inl (at1 h fun k hk => List.mem_append.mpr (.inr (List.mem_flatMap.mpr ⟨q, later h' a k hk, ?_⟩)))
    have rp := (g.rng p h).1
    have rq := (g.rng q h').1
    rw [mk2_lt (show p.1 < q.2 by omega), sm2_lt (p := (p.1, q.2)) (q := mk2 p.2 q.1) (by unfold mk2; dsimp only; omega)]
    exact List.mem_cons_of_mem _ List.mem_cons_self
  | join a b ha hb h => exact .inr (pre2_in (frees_asc n js) ha hb h)
theorem free_of_none {i : Nat} (hi : i < 2 * n) (h : mt js i = none) : i ∈ frees n js := by
  unfold frees
  exact List.mem_filter.mpr ⟨List.mem_range.mpr hi, by rw [h]; rfl⟩
/-- any two ends that are not joined can be joined by a step -/
theorem made_ex (g : Good n js) {e f : Nat} (he : e < 2 * n) (hf : f < 2 * n) (ef : e ≠ f) (no : mt js e ≠ some f) : ∃ st, IsSt n js st ∧ mk2 e f ∈ st.2 := by
  have M := g.mt
  cases he' : mt js e with
  | none =>
    have fe := free_of_none he he'
    cases hf' : mt js f with
    | none =>
      have ff := free_of_none hf hf'
      by_cases c : e < f
      · exact ⟨_, .join e f fe ff c, by rw [mk2_lt c]; exact List.mem_cons_self⟩
      · exact ⟨_, .join f e ff fe (by omega), by rw [mk2_comm, mk2_lt (show f < e by omega)]; exact List.mem_cons_self⟩
    | some q =>
      have hq := (mt_iff g).mp hf'
      exact ⟨_, .shift (mk2 f q) e f hq fe (mk2_has f q).1, by rw [mk2_comm e f]; exact List.mem_cons_self⟩
  | some p =>
    have hp := (mt_iff g).mp he'
    cases hf' : mt js f with
    | none => exact ⟨_, .shift (mk2 e p) f e hp (free_of_none hf hf') (mk2_has e p).1, List.mem_cons_self⟩
    | some q =>
      have hq := (mt_iff g).mp hf'
      have key : ∀ {P Q : J2} {x y : Nat}, P ∈ js → Q ∈ js → (x = P.1 ∨ x = P.2) → (y = Q.1 ∨ y = Q.2) → P.1 < Q.1 → DC.Apart P Q → ∃ st, IsSt n js st ∧ mk2 x y ∈ st.2 := fun {P Q x y} hP hQ hx hy a ap => by
        have rq := (g.rng Q hQ).1
        rcases hx with rfl | rfl <;> rcases hy with rfl | rfl
        · exact ⟨_, .dbl P Q hP hQ a ap, by rw [mk2_lt a]; exact List.mem_cons_self⟩
        · exact ⟨_, .dbl2 P Q hP hQ a ap, by rw [mk2_lt (show P.1 < Q.2 by omega)]; exact List.mem_cons_self⟩
        · exact ⟨_, .dbl2 P Q hP hQ a ap, List.mem_cons_of_mem _ List.mem_cons_self⟩
        · exact ⟨_, .dbl P Q hP hQ a ap, List.mem_cons_of_mem _ List.mem_cons_self⟩
      have ne : mk2 e p ≠ mk2 f q := fun z => by
        have h1 := (mk2_has f q).1
        rw [← z] at h1
        rcases mk2_ends h1 with w | w
        · exact ef w.symm
        · exact no (by rw [he', w])
      have apart : ∀ {P Q : J2}, P ∈ js → Q ∈ js → P ≠ Q → DC.Apart P Q := fun {P Q} hP hQ ne => ⟨fun z => ne (same_joint g hP hQ (.inl rfl) (.inl z)), fun z => ne (same_joint g hP hQ (.inl rfl) (.inr z)), fun z => ne (same_joint g hP hQ (.inr rfl) (.inl z)), fun z => ne (same_joint g hP hQ (.inr rfl) (.inr z))⟩
      have ap := apart hp hq ne
      by_cases c : (mk2 e p).1 < (mk2 f q).1
      · exact key hp hq (mk2_has e p).1 (mk2_has f q).1 c ap
      · have n1 := ap.1
        obtain ⟨st, s, hm⟩ := key hq hp (mk2_has f q).1 (mk2_has e p).1 (by omega) (apart hq hp (Ne.symm ne))
        exact ⟨st, s, by rw [mk2_comm e f]; exact hm⟩
/-- unless both lays are the same, some step makes the cost less -/
theorem good_ex (g : Good n js) (gl : Good n ls) (ne : js ≠ ls) : ∃ st ∈ stJ n js, cst n (aftJ js st) ls + 1 = cst n js ls := by
  have fin : ∀ {st : Stp2}, IsSt n js st → cst n (aftJ js st) ls + 1 ≤ cst n js ls → ∃ st ∈ stJ n js, cst n (aftJ js st) ls + 1 = cst n js ls := fun {st} s h => by
    have := st_gain g gl s
    exact ⟨st, isSt_in g s, by omega⟩
  by_cases ex : ∃ e f, mt ls e = some f ∧ mt js e ≠ some f
  · obtain ⟨e, f, hl, no⟩ := ex
    obtain ⟨he, hf⟩ := gl.mt.lt hl
    have ef : e ≠ f := fun z => gl.mt.irr (by rw [hl, z])
    obtain ⟨st, s, hm⟩ := made_ex g he hf ef no
    have ga := aft_good g s
    refine fin s (TI.gs g ga gl (sw_of g s _ hm) ?_)
    have := (mt_iff gl).mp hl
    exact (mt_of gl.dis (fun q hq => Nat.ne_of_lt (gl.rng q hq).1) this).1
  · have sub : ∀ e f, mt ls e = some f → mt js e = some f := fun e f h => Classical.byContradiction fun z => ex ⟨e, f, h, z⟩
    have lsub : ∀ p ∈ ls, p ∈ js := fun p hp => by
      have h := (mt_of gl.dis (fun q hq => Nat.ne_of_lt (gl.rng q hq).1) hp).1
      have := (mt_iff g).mp (sub _ _ h)
      rwa [mk2_lt (gl.rng p hp).1] at this
    obtain ⟨p, hp, hn⟩ : ∃ p ∈ js, p ∉ ls := Classical.byContradiction fun z => by
      have jsub : ∀ p ∈ js, p ∈ ls := fun p hp => Classical.byContradiction fun w => z ⟨p, hp, w⟩
      refine ne (List.Perm.eq_of_pairwise (le := fun p q => p.1 < q.1) (fun a b _ _ h1 h2 => by omega) g.asc gl.asc ?_)
      exact (List.perm_ext_iff_of_nodup (g.asc.imp fun h => fun z => by rw [z] at h; omega) (gl.asc.imp fun h => fun z => by rw [z] at h; omega)).mpr fun p => ⟨jsub p, lsub p⟩
    obtain ⟨q1, q2⟩ := mt_of g.dis (fun q hq => Nat.ne_of_lt (g.rng q hq).1) hp
    have s : IsSt n js ([p], []) := .cut p hp
    have fr : ∀ x y, mt js x = some y → mk2 x y = p → mt ls x = none := fun x y h e => by
      cases hx : mt ls x with
      | none => rfl
      | some z =>
        have h1 := sub _ _ hx
        rw [h] at h1
        rw [← Option.some.inj h1] at hx
        have := (mt_iff gl).mp hx
        rw [e] at this
        exact absurd this hn
    have rp := (g.rng p hp).1
    exact fin s (TI.gc g (aft_good g s) gl (ct_of g hp) (fr _ _ q1 (mk2_lt rp)) (fr _ _ q2 (by rw [mk2_comm, mk2_lt rp])))
end
end K15
-- K15q
set_option Elab.async false
set_option linter.all false
set_option maxRecDepth 100000
set_option maxHeartbeats 8000000
/-! K42q: word_of -/
namespace K15
open PySem L2 DC LamX
theorem any_rep (k : Nat) : (List.replicate k false).any id = false := by
  induction k with
  | zero => rfl
  | succ k ih => rw [List.replicate_succ, List.any_cons, ih]; rfl
theorem made_dp {K : PySem.W.Frag} {H : Hp} {us : List V} {A B : List J2} (h : Paired (Js K H) us [A, B]) : DpAll K H us [.tuple (A.map pairD), .tuple (B.map pairD)] := by
  cases h with
  | cons h1 r =>
  cases r with
  | cons h2 r =>
  cases r
  exact .cons (jsD_dp h1) (.cons (jsD_dp h2) .nil)
theorem shaped_made (a b : List J2) : SeqAt.shaped (.list [.tuple (a.map pairD), .tuple (b.map pairD)]) = true := by
  unfold SeqAt.shaped
  have h1 := depth_pairs a
  have h2 := depth_pairs b
  rw [Bool.and_eq_true]
  refine ⟨by simp only [PyData.canLay0, PyData.canLayAll0, lay_pairs, Bool.and_self], decide_eq_true ?_⟩
  simp only [PyData.depth, PyData.depthAll]
  omega
theorem take_filter {l : List Nat} {i e : Nat} {f : Nat → Bool} (h : l[i]? = some e) : (l.take (i + 1)).filter f = (l.take i).filter f ++ (if f e = true then [e] else []) := by
  rw [take_next h, List.filter_append]
  congr 1
  simp only [List.filter_cons, List.filter_nil]
theorem mk2_list (a b : Nat) : [(mk2 a b).1, (mk2 a b).2] = [a, b] ∨ [(mk2 a b).1, (mk2 a b).2] = [b, a] := by
  unfold mk2
  by_cases h : a < b
  · exact .inl (by rw [Nat.min_eq_left (by omega), Nat.max_eq_right (by omega)])
  · exact .inr (by rw [Nat.min_eq_right (by omega), Nat.max_eq_left (by omega)])
theorem cnt_mk {a b : Nat} {f : Nat → Bool} (h : f a = !f b) : ([(mk2 a b).1, (mk2 a b).2].filter f).length = 1 := by
  rcases mk2_list a b with e | e <;> rw [e] <;> simp only [List.filter_cons, List.filter_nil, h] <;> cases f b <;> rfl
theorem any_two (A B C : List J2) : ([PyData.tuple (A.map pairD), PyData.tuple (B.map pairD)].any fun z => PyData.eqv z (.tuple (C.map pairD))) = (decide (A = C) || decide (B = C)) := by
  simp only [List.any_cons, List.any_nil, PyData.eqv, eqv_prs, Bool.or_false]
section
variable {P : Program} {w : World} {K : PySem.W.Frag} {mg : Str → Option Value} {base : Heap}
def spWord (K : PySem.W.Frag) : Sp := fun vs H Q _ => ∃ (v1 v2 v3 : V) (n : Nat) (js : List J2) (st : Stp2), vs = [v1, v2, v3] ∧ Ly K H v1 n js ∧ Good n js ∧ Js K H v2 st.1 ∧ Js K H v3 st.2 ∧ IsSt n js st ∧ ∀ (s : Str) (H' : Hp), Same H H' → Q (.str s) H'
abbrev NWo : List Str := ["lay", "cut", "made", "free", "count", "kept", "joint", "end"]
end
end K15
-- K15t
set_option Elab.async false
set_option linter.all false
set_option maxRecDepth 100000
set_option maxHeartbeats 8000000
namespace K15
open PySem L2 DC LamX
section
variable {P : Program} {w : World} {K : PySem.W.Frag} {mg : Str → Option Value} {base : Heap}
def spIs (K : PySem.W.Frag) : Sp := fun vs H Q _ => ∃ (v1 v2 : V) (n : Nat) (js : List J2) (st : Stp2), vs = [v1, v2] ∧ Ly K H v1 n js ∧ Good n js ∧ Stp K H v2 st ∧ IsSt n js st ∧ ∀ (H' : Hp), Same H H' → Q (.bl true) H'
abbrev NIs : List Str := ["lay", "value", "cut", "made"]
def spNs (K : PySem.W.Frag) : Sp := fun vs H Q _ => ∃ (v1 v2 : V) (n : Nat) (js : List J2) (st : Stp2), vs = [v1, v2] ∧ Ly K H v1 n js ∧ Good n js ∧ Stp K H v2 st ∧ IsSt n js st ∧ ∀ (H' : Hp), Same H H' → Q v2 H'
theorem frees_len (n : Nat) (js : List J2) : (frees n js).length ≤ 2 * n := by
  unfold frees
  exact Nat.le_trans (List.length_filter_le _ _) (by rw [List.length_range]; exact Nat.le_refl _)
end
end K15
-- K15r1
set_option Elab.async false
set_option linter.all false
set_option maxRecDepth 100000
set_option maxHeartbeats 8000000
namespace K15
open PySem L2 DC LamX
theorem pre2_mem2 {fr : List Nat} {st : Stp2} : st ∈ pre2 fr fr.length → ∃ a ∈ fr, ∃ b ∈ fr, st = ([], [(a, b)]) := by
  intro h
  unfold pre2 at h
  obtain ⟨k, hk, h⟩ := List.mem_flatMap.mp h
  have hk := List.mem_range.mp hk
  obtain ⟨b, hb, rfl⟩ := List.mem_map.mp h
  refine ⟨fr.getD k 0, ?_, b, List.mem_of_mem_drop hb, rfl⟩
  rw [List.getD_eq_getElem?_getD, List.getElem?_eq_getElem hk]
  exact List.getElem_mem hk
theorem short_pair {p : J2} (h1 : p.1 < 1000) (h2 : p.2 < 1000) : Short (pairD p) 50 1 := by
  unfold pairD
  refine short_tuple (B := 21) (D := 0) (L := 2) (fun d hd => ?_) (Nat.le_refl _)
  simp only [List.mem_cons, List.not_mem_nil, or_false] at hd
  rcases hd with rfl | rfl
  · exact short_int (by omega)
  · exact short_int (by omega)
theorem can_st (st : Stp2) : PyData.canLay0 (stD st) = true := by
  unfold stD
  simp only [PyData.canLay0, PyData.canLayAll0, lay_pairs, Bool.and_self]
theorem dep_st (st : Stp2) : (stD st).depth ≤ 4 := by
  have h1 := depth_pairs st.1
  have h2 := depth_pairs st.2
  unfold stD
  simp only [PyData.depth, PyData.depthAll]
  omega
theorem shaped_st (st : Stp2) : SeqAt.shaped (stD st) = true := by
  unfold SeqAt.shaped
  have := dep_st st
  rw [can_st, Bool.true_and]
  exact decide_eq_true (by omega)
theorem can_sts : ∀ l : List Stp2, PyData.canLayAll0 (l.map stD) = true
  | [] => by simp only [List.map_nil, PyData.canLayAll0]
  | s :: l => by
    simp only [List.map_cons, PyData.canLayAll0, can_st, Bool.true_and]
    exact can_sts l
theorem dep_sts : ∀ l : List Stp2, PyData.depthAll (l.map stD) ≤ 4
  | [] => by simp only [List.map_nil, PyData.depthAll]; omega
  | s :: l => by
    have := dep_st s
    have := dep_sts l
    simp only [List.map_cons, PyData.depthAll]
    omega
theorem shaped_sts (l : List Stp2) : SeqAt.shaped (.list (l.map stD)) = true := by
  unfold SeqAt.shaped
  have := dep_sts l
  rw [Bool.and_eq_true]
  refine ⟨by simp only [PyData.canLay0]; exact can_sts l, decide_eq_true ?_⟩
  simp only [PyData.depth]
  omega
theorem stJ_pos {n : Nat} {js : List J2} (g : Good n js) : 0 < (stJ n js).length := by
  have e : pre1 n js js.length ++ pre2 (frees n js) (frees n js).length = stJ n js := rfl
  rw [← e]
  have one := g.one
  cases js with
  | nil =>
    have fr : ∀ x, x < 2 * n → x ∈ frees n [] := fun x hx => by
      unfold frees
      exact List.mem_filter.mpr ⟨List.mem_range.mpr hx, rfl⟩
    have := pre2_in (frees_asc n []) (fr 0 (by omega)) (fr 1 (by omega)) (by decide)
    have := List.length_pos_of_mem this
    rw [List.length_append]
    omega
  | cons p l =>
    have : ([p], []) ∈ pre1 n (p :: l) (p :: l).length := by
      unfold pre1
      refine List.mem_flatMap.mpr ⟨0, List.mem_range.mpr (Nat.succ_pos _), ?_⟩
      exact List.mem_append.mpr (.inl List.mem_cons_self)
    have := List.length_pos_of_mem this
    rw [List.length_append]
    omega
section
variable {P : Program} {w : World} {K : PySem.W.Frag} {mg : Str → Option Value} {base : Heap}
theorem lst_m {H H' : Hp} {m lm a : Addr} {xs : List V} (s : SameX m H H') (hm : MAt H m lm) (h : H a = some (.lst xs)) : H' a = some (.lst xs) := by
  obtain ⟨cs, b, x, hd, _⟩ := hm
  refine s _ _ ?_ h
  rintro rfl
  rw [hd] at h
  exact nomatch h
end
end K15
-- K15m3
set_option Elab.async false
set_option linter.all false
set_option maxRecDepth 100000
set_option maxHeartbeats 8000000
/-! K14m3: what is behind a step, sorted; the program's list of steps is the law's -/
namespace K15
open PySem L2 DC LamX
theorem raw_sort {n : Nat} {js : List J2} {st : Stp2} (g : Good n js) (s : IsSt n js st) (h4 : n ≤ 12) : ((rawJ js st).map pairD).mergeSort (PySem.W.dataLe false id) = (aftJ js st).map pairD := by
  have ga := aft_good g s
  have e : ((rawJ js st).map pairD).mergeSort (PySem.W.dataLe false id) = ((aftJ js st).map pairD).mergeSort (PySem.W.dataLe false id) := by
    refine sort_same ((srtJ_perm _).symm.map _) fun a ha b hb e => ?_
    obtain ⟨x, _, rfl⟩ := List.mem_map.mp ha
    obtain ⟨y, _, rfl⟩ := List.mem_map.mp hb
    exact pair_inj x y e
  rw [e]
  refine List.mergeSort_of_pairwise (List.pairwise_map.mpr (List.Pairwise.imp_of_mem (fun {p q} hp hq h => ?_) ga.asc))
  have r1 := ga.rng p hp
  have r2 := ga.rng q hq
  exact le6 h
/-! lists of steps -/
section
variable {α : Type}
theorem range_flat {β : Type} (l : List α) (d : α) (f : α → List β) : ((List.range l.length).flatMap fun k => f (l.getD k d)) = l.flatMap f := by
  have e : (List.range l.length).map (fun k => l.getD k d) = l := by
    refine List.ext_getElem (by rw [List.length_map, List.length_range]) fun i h1 h2 => ?_
    rw [List.getElem_map, List.getElem_range, List.getD_eq_getElem?_getD, List.getElem?_eq_getElem h2]
    rfl
  rw [← List.flatMap_map (f := fun k => l.getD k d) (g := f), e]
theorem count3 (l : List α) (a : α → Stp2) (b c : α → List Stp2) (z : Stp2) : (l.flatMap fun x => a x :: b x ++ c x).count z = (l.flatMap c).count z + (l.flatMap b).count z + (l.map a).count z := by
  induction l with
  | nil => rfl
  | cons x l ih =>
    simp only [List.flatMap_cons, List.map_cons, List.count_append, List.count_cons, List.cons_append] at ih ⊢
    omega
theorem count2 (l : List α) (a b : α → Stp2) (z : Stp2) : (l.flatMap fun x => [a x, b x]).count z = (l.map a).count z + (l.map b).count z := by
  induction l with
  | nil => rfl
  | cons x l ih =>
    simp only [List.flatMap_cons, List.map_cons, List.count_append, List.count_cons, List.count_nil] at ih ⊢
    omega
theorem count_flat (l : List α) {f g : α → List Stp2} (z : Stp2) (h : ∀ x ∈ l, (f x).count z = (g x).count z) : (l.flatMap f).count z = (l.flatMap g).count z := by
  induction l with
  | nil => rfl
  | cons x l ih =>
    rw [List.flatMap_cons, List.flatMap_cons, List.count_append, List.count_append, h x List.mem_cons_self, ih fun y hy => h y (List.mem_cons_of_mem _ hy)]
end
def dbB (p o : J2) : List Stp2 := [([p, o], [(p.1, o.1), mk2 p.2 o.2]), ([p, o], [(p.1, o.2), mk2 p.2 o.1])]
def dbJ (js : List J2) (i : Nat) : List Stp2 := (List.range i).flatMap fun k => (js.drop (k + 1)).flatMap (dbB (js.getD k (0, 0)))
def shE (fr : List Nat) (p : J2) (near : Nat) : List Stp2 := fr.map fun e => ([p], [mk2 near e])
def shJ (js : List J2) (fr : List Nat) : List Stp2 := js.flatMap fun p => [p.1, p.2].flatMap (shE fr p)
theorem dbJ_succ (js : List J2) (i : Nat) : dbJ js (i + 1) = dbJ js i ++ (js.drop (i + 1)).flatMap (dbB (js.getD i (0, 0))) := by
  unfold dbJ
  rw [List.range_succ, List.flatMap_append]
  simp only [List.flatMap_cons, List.flatMap_nil, List.append_nil]
theorem steps_perm {n : Nat} {js : List J2} (g : Good n js) : (((dbJ js js.length ++ shJ js (frees n js)) ++ js.map cutS) ++ pre2 (frees n js) (frees n js).length).Perm (stJ n js) := by
  have e0 : pre1 n js js.length ++ pre2 (frees n js) (frees n js).length = stJ n js := rfl
  rw [← e0]
  refine List.Perm.append_right _ (List.perm_iff_count.mpr fun z => ?_)
  rw [List.count_append, List.count_append]
  unfold pre1
  rw [show ((List.range js.length).flatMap fun k => stAt n js k (js.getD k (0, 0))) = (List.range js.length).flatMap fun k => cutS (js.getD k (0, 0)) :: ((frees n js).flatMap fun e => [([js.getD k (0, 0)], [mk2 (js.getD k (0, 0)).1 e]), ([js.getD k (0, 0)], [mk2 (js.getD k (0, 0)).2 e])]) ++
    (js.drop (k + 1)).flatMap fun o => [([js.getD k (0, 0), o], sm2 (mk2 (js.getD k (0, 0)).1 o.1) (mk2 (js.getD k (0, 0)).2 o.2)), ([js.getD k (0, 0), o], sm2 (mk2 (js.getD k (0, 0)).1 o.2) (mk2 (js.getD k (0, 0)).2 o.1))] from rfl]
  rw [count3]
  have c1 : ((List.range js.length).map fun k => cutS (js.getD k (0, 0))) = js.map cutS := by
    have := range_flat js (0, 0) (fun p => [cutS p])
    rw [← List.map_eq_flatMap, ← List.map_eq_flatMap] at this
    exact this
  have c2 : ((List.range js.length).flatMap fun k => (frees n js).flatMap fun e => [([js.getD k (0, 0)], [mk2 (js.getD k (0, 0)).1 e]), ([js.getD k (0, 0)], [mk2 (js.getD k (0, 0)).2 e])]).count z = (shJ js (frees n js)).count z := by
    rw [range_flat js (0, 0) (fun p => (frees n js).flatMap fun e => [([p], [mk2 p.1 e]), ([p], [mk2 p.2 e])])]
    unfold shJ
    refine count_flat js z fun p _ => ?_
    rw [count2]
    simp only [List.flatMap_cons, List.flatMap_nil, List.append_nil, List.count_append]
    rfl
  have c3 : ((List.range js.length).flatMap fun k => (js.drop (k + 1)).flatMap fun o => [([js.getD k (0, 0), o], sm2 (mk2 (js.getD k (0, 0)).1 o.1) (mk2 (js.getD k (0, 0)).2 o.2)), ([js.getD k (0, 0), o], sm2 (mk2 (js.getD k (0, 0)).1 o.2) (mk2 (js.getD k (0, 0)).2 o.1))]).count z = (dbJ js js.length).count z := by
    unfold dbJ
    refine count_flat _ z fun k hk => ?_
    have hk := List.mem_range.mp hk
    have ek : js.getD k (0, 0) = js[k] := by
      rw [List.getD_eq_getElem?_getD, List.getElem?_eq_getElem hk]
      rfl
    rw [ek]
    refine count_flat _ z fun o ho => ?_
    obtain ⟨m, hm, rfl⟩ := List.getElem_of_mem ho
    rw [List.getElem_drop]
    rw [List.length_drop] at hm
    have lt := List.pairwise_iff_getElem.mp g.asc k (k + 1 + m) hk (by omega) (by omega)
    have r1 := (g.rng js[k] (List.getElem_mem hk)).1
    have r2 := (g.rng (js[k + 1 + m]'(by omega)) (List.getElem_mem _)).1
    rw [mk2_lt lt, mk2_lt (show js[k].1 < (js[k + 1 + m]'(by omega)).2 by omega), sm2_lt (p := (js[k].1, (js[k + 1 + m]'(by omega)).1)) (q := mk2 js[k].2 (js[k + 1 + m]'(by omega)).2) (by unfold mk2; dsimp only; omega),
      sm2_lt (p := (js[k].1, (js[k + 1 + m]'(by omega)).2)) (q := mk2 js[k].2 (js[k + 1 + m]'(by omega)).1) (by unfold mk2; dsimp only; omega)]
    rfl
  rw [c1, c2, c3]
theorem st_sort {n : Nat} {js : List J2} {l : List Stp2} (p : l.Perm (stJ n js)) : (l.map stD).mergeSort (PySem.W.dataLe false id) = (stS n js).map stD := by
  rw [sort_same (p.map stD) fun a ha b hb e => ?_, st_sorted]
  · rfl
  · obtain ⟨x, _, rfl⟩ := List.mem_map.mp ha
    obtain ⟨y, _, rfl⟩ := List.mem_map.mp hb
    rw [st_inj e]
theorem stS_mem {n : Nat} {js : List J2} {st : Stp2} : st ∈ stS n js ↔ st ∈ stJ n js := by
  unfold stS
  rw [List.mem_mergeSort]
end K15
-- LC3
set_option Elab.async false
set_option linter.all false
set_option maxRecDepth 100000
set_option maxHeartbeats 4000000
/-! LC3: list comprehensions of three clauses. One lemma (cl_loop) for a clause's loop whatever it does inside; the inside is an append, or the next clause's loop. -/
namespace DC
open PySem PySem.Spec PyProof.Rows L2
abbrev tsts (qs : List Expr) (env : Env) : Sem Bool := forIn qs true fun q r => if r = true then do let ok ← isTrue q env (eval q env); pure (ForInStep.yield ok) else pure (ForInStep.yield r)
/-- what a turn of the loop of clause k is: the next thing, the store, the tests, the inside -/
def IsTurn (cmp : Expr) (k : Nat) (pk : Pos) (tgt : Expr) (qs : List Expr) (bd : Sem Fin → Sem Fin) (itv acc : Value) (env : Env) : Prop :=
  compTurn cmp k itv acc env = (standAt pk >>= fun _ => pyNext itv >>= fun r => match r with
    | none => pure (.done .next)
    | some u => letOwnedTupleGo tgt itv u >>= fun _ => assign tgt env u >>= fun _ => tsts qs env >>= fun go =>
        if go = true then bd (again (.compLoop cmp k itv acc env)) else again (.compLoop cmp k itv acc env))
/-- σ' knows what σ knows -/
def Kn (σ σ' : L2.St) : Prop := σ.length = σ'.length ∧ ∀ (j : Nat) (v : V), σ[j]? = some (some v) → σ'[j]? = some (some v)
theorem Kn.of_wipe {σ σ' : L2.St} {vs : List Nat} (h : wipe σ' vs = wipe σ vs) : Kn (wipe σ vs) σ' :=
  ⟨by rw [← h, wipe_length], fun j v e => by rw [← h] at e; exact (wipe_some e).1⟩
/-- what a loop's turns are told: at the turn's end Nx -/
def Trn (J : It) (g : TG) (tt : TT) (Bd : L2.St → Hp → (Hp → Prop) → Prop) (σ : L2.St) (Kp : L2.St → Prop) (Fn : Hp → Prop) (W : Nat → Nat → Hp → Prop) : Prop :=
  ∀ i m H, W i m H → (J.stop i H ∧ Fn H) ∨ (J.go i H ∧ ∃ Nx : Hp → Prop, (∀ H', Nx H' → ∃ m', m' < m ∧ W (i + 1) m' H') ∧
    ∀ x H', J.yld i H x H' → g x σ H' fun σ2 H2 => Kp σ2 ∧ tt σ2 H2 fun b H3 => if b = true then Bd σ2 H3 Nx else Nx H3)
section
variable {Y : Cx}
/-- the inside does what it is told -/
def BodyOk (Y : Cx) (pins : List (Addr × Obj)) (σ0 : L2.St) (Kp : L2.St → Prop) (bd : Sem Fin → Sem Fin) (Bd : L2.St → Hp → (Hp → Prop) → Prop) : Prop :=
  ∀ (pl : List (Addr × Obj)) (σ2 : L2.St) (H3 : Hp) (s : Shared) (Nx : Hp → Prop) (kt : Sem Fin) (Q : Fin → Shared → Prop) (E : Value → Shared → Prop), Inv Y (pins ++ pl) σ2 H3 s → Kp σ2 → Bd σ2 H3 Nx →
    (∀ (z : Shared) (σ9 : L2.St) (H' : Hp), Inv Y (pins ++ pl) σ9 H' z → Kn σ0 σ9 → Nx H' → wpAny (model Y.prog Y.w) Y.A kt Q E z) → wpAny (model Y.prog Y.w) Y.A (bd kt) Q E s
theorem cl_loop {pins : List (Addr × Obj)} {σ0 : L2.St} {H0 : Hp} {s0 : Shared} {elt tgt : Expr} {cls : List Comprehension} {scope : Scope} {pos : Pos} {k : Nat} {pk : Pos} {qs : List Expr} {bd : Sem Fin → Sem Fin} {D it : Addr} {fp : List Addr} {tn : Nat → Heap → Prop} {J : It} {g : TG} {tt : TT}
    {R : Result → Shared → Prop} {Kp : L2.St → Prop} {Bd : L2.St → Hp → (Hp → Prop) → Prop} {Fn : Hp → Prop} {W : Nat → Nat → Hp → Prop} {m0 : Nat}
    (xe : Y.xe = fun _ _ => False) (calm : Y.calm = true) (ht : IsTurn (.ListComp elt cls scope pos) k pk tgt qs bd (.ref it) (.ref D) Y.env) (T : Turn Y.prog Y.w Y.K tgt J fp it tn) (pg : PG Y tgt g) (pt : PTs Y qs tt)
    (hb : BodyOk Y pins σ0 Kp bd Bd) (kk : ∀ σ2, Kp σ2 → Kn σ0 σ2)
    (I0 : Inv Y pins σ0 H0 s0) (t0 : tn 0 s0.heap) (hf : ∀ b ∈ fp, FpOk Y pins H0 b) (w0 : W 0 m0 H0) (turn : Trn J g tt Bd σ0 Kp Fn W)
    (fin : ∀ s' H', Inv Y pins σ0 H' s' → Fn H' → R (.ok .next) s') :
    codeAny (model Y.prog Y.w) Y.A (.compLoop (.ListComp elt cls scope pos) k (.ref it) (.ref D) Y.env) R s0 := by
  refine codeAny_loop rfl (fun m z => ∃ i H', Inv Y pins σ0 H' z ∧ tn i z.heap ∧ (∀ b ∈ fp, H' b = none) ∧ W i m H') (fun m z hz => ?_) m0 ⟨0, H0, I0, t0, fun b hb => (hf b hb).1, w0⟩
  obtain ⟨i, H1, I1, t1, no1, w1⟩ := hz
  have own : ∀ {H' : Hp}, (∀ b ∈ fp, H' b = none) → ∀ b ∈ fp, FpOk Y pins H' b := fun h b hb => ⟨h b hb, (hf b hb).2⟩
  show wpAny _ Y.A ((compTurn (.ListComp elt cls scope pos) k (.ref it) (.ref D) Y.env).onRaise (fun x => do noteFrame x Y.env; theTreesLotGoes x)) _ _ z
  refine wpAny_noted ?_
  rw [show compTurn (.ListComp elt cls scope pos) k (.ref it) (.ref D) Y.env = _ from ht]
  refine wpAny_bind (wpAny_standAt (wpAny_bind ?_))
  rcases turn i m H1 w1 with ⟨stop, fn⟩ | ⟨go, Nx, nx, each⟩
  · refine thnF (T.done Y rfl rfl rfl calm i pins z σ0 H1 (fun _ _ => False) I1 (own no1) t1 stop) fun r z2 ⟨er, I2⟩ => ?_
    subst er
    exact wpAny_pure (fin z2 H1 I2 fn)
  · refine thnF (T.item Y rfl rfl rfl calm i pins z σ0 H1 (fun _ _ => False) I1 (own no1) t1 go) fun r z2 ⟨u, er, more⟩ => ?_
    subst er
    refine wpAny_bind (thnF more fun _ z3 ⟨x, H3, I3, rel, y3, t3, no3⟩ => ?_)
    have P3 := I3.pinned (own no3) (T.obj _ _ t3)
    have gr := pg.run _ z3 σ0 H3 x u _ P3 rel (each x H3 y3)
    rw [xe] at gr
    refine wpAny_bind (thnF gr fun _ z4 ⟨σ4, H4, I4, kp, tq⟩ => ?_)
    have tr := pt.run _ z4 σ4 H4 _ I4 tq
    rw [xe] at tr
    refine wpAny_bind (thnF tr fun b z5 ⟨H5, I5, bq⟩ => ?_)
    have ending : ∀ {σ9 : L2.St} {z9 : Shared} {H9 : Hp}, Inv Y (pins ++ pinsAt fp z3.heap) σ9 H9 z9 → Kn σ0 σ9 → Nx H9 → ∃ m', m' < m ∧ ∃ i H', Inv Y pins σ0 H' z9 ∧ tn i z9.heap ∧ (∀ b ∈ fp, H' b = none) ∧ W i m' H' := fun {σ9 z9 H9} I9 kn n9 => by
      obtain ⟨m', lt, w9⟩ := nx H9 n9
      have stay : ∀ b ∈ fp, ∀ o, z3.heap.get? b = some o → z9.heap.get? b = some o ∧ H9 b = none := fun b hb o e =>
        have q := I9.pin (b, o) (List.mem_append_right _ (List.mem_append_right _ (mem_pinsAt hb e)))
        ⟨q.1, q.2.1⟩
      refine ⟨m', lt, i + 1, H9, I9.unpinned.weak kn.1 kn.2, T.keep _ _ _ t3 fun b hb o e => (stay b hb o e).1, fun b hb => ?_, w9⟩
      obtain ⟨o, e, _⟩ := T.obj _ _ t3 b hb
      exact (stay b hb o e).2
    cases b with
    | false =>
      simp only [Bool.false_eq_true, if_false] at bq ⊢
      exact wpAny_pure ⟨rfl, ending I5 (kk _ kp) bq⟩
    | true =>
      simp only [if_true] at bq ⊢
      exact hb _ σ4 H5 z5 Nx _ _ _ I5 kp bq fun z6 σ9 H9 I9 kn n9 => wpAny_pure ⟨rfl, ending I9 kn n9⟩
/-- the inside that appends -/
theorem body_last {pins : List (Addr × Obj)} {σ0 : L2.St} {Kp : L2.St → Prop} {elt : Expr} {te : TE} {D : Addr} (xe : Y.xe = fun _ _ => False) (kk : ∀ σ2, Kp σ2 → Kn σ0 σ2) (pe : PE Y elt te) :
    BodyOk Y pins σ0 Kp (fun kt => (eval elt Y.env >>= fun x => call (.builtin "list.append") [.ref D, x] >>= fun _ => pure ()) >>= fun _ => kt) (fun σ2 H3 Nx => te σ2 H3 fun y H7 => ∃ acc, H7 D = some (.lst acc) ∧ acc.length < sizeLine ∧ Nx (upd H7 D (.lst (acc ++ [y])))) := by
  intro pl σ2 H3 z Nx kt Q E I kp h fin
  have er := pe.run _ z σ2 H3 _ I h
  rw [xe] at er
  refine wpAny_bind (wpAny_bind (thnF er fun u z2 ⟨y, H7, I7, rel, acc, hD, sz, nx⟩ => wpAny_bind ?_))
  exact app_ok I7 hD sz rel fun z3 I3 => wpAny_pure (fin z3 σ2 _ I3 (kk _ kp) nx)
/-- a clause behind the first: its start -/
theorem cl_start {elt : Expr} {cls : List Comprehension} {scope : Scope} {pos : Pos} {k : Nat} {cl : Comprehension} {itv acc : Value} {R : Result → Shared → Prop} {z : Shared} {P : Program} {w : World} {A : Around} {env : Env} (hcl : cls[k]? = some cl) (ha : cl.is_async = 0)
    (h0 : codeAny (model P w) A (.compLoop (.ListComp elt cls scope pos) k itv acc env) R z)
    (h1 : wpAny (model P w) A (pyIter itv) (fun i2 z2 => codeAny (model P w) A (.compLoop (.ListComp elt cls scope pos) k i2 acc env) R z2) (notedBy (model P w) A env fun x z2 => R (.error x) z2) z) :
    codeAny (model P w) A (.compStart (.ListComp elt cls scope pos) k itv acc env) R z := by
  refine codeAny_of_tree ?_
  show wpAny _ _ ((compStart (.ListComp elt cls scope pos) k itv acc env).onRaise (fun x => do noteFrame x env; standAt theWindowsPlace)) _ _ z
  refine wpAny_notedAt ?_
  unfold compStart
  rw [show (clausesOf (.ListComp elt cls scope pos))[k]? = some cl from hcl]
  simp only [Option.elim, ha, bne_self_eq_false, Bool.false_eq_true, if_false]
  refine wpAny_bind (wpAny_askSetting ?_)
  refine wpAny_ite ?_
  split
  · exact wpAny_pure ⟨rfl, h0⟩
  · refine wpAny_bind (wpAny_rule ?_)
    exact wpAny_bind (wpAny_standAt (wpAny_bind (wpAny_mono h1 (fun _ _ q => wpAny_pure ⟨rfl, q⟩) fun _ _ q => q)))
theorem Kn.more {σ σ2 : L2.St} {vs vs1 : List Nat} (h : wipe σ2 vs = wipe σ vs) (sub : ∀ i ∈ vs1, i ∈ vs) : Kn (wipe σ vs) (wipe σ2 vs1) := by
  refine ⟨by rw [← h, wipe_length, wipe_length], fun j v e => ?_⟩
  rw [← h] at e
  obtain ⟨e1, e2⟩ := wipe_some e
  rw [wipe_out fun z => e2 (sub j z)]
  exact e1
/-- the inside that is the next clause -/
abbrev mid (wi : TI) (g : TG) (tt : TT) (vs : List Nat) (B : L2.St → Hp → (Hp → Prop) → Prop) : L2.St → Hp → (Hp → Prop) → Prop := fun σ2 H3 Nx =>
  wi σ2 H3 fun J1 H4 => ∃ W1 : Nat → Nat → Hp → Prop, (∃ m, W1 0 m H4) ∧ Trn J1 g tt B (wipe σ2 vs) (fun σ3 => wipe σ3 vs = wipe σ2 vs) Nx W1
theorem body_mid {pins : List (Addr × Obj)} {σ0 : L2.St} {Kp : L2.St → Prop} {elt tg1 it1 : Expr} {qs1 : List Expr} {cls : List Comprehension} {scope : Scope} {pos : Pos} {k : Nat} {pk : Pos} {D : Addr} {wi1 : TI} {g1 : TG} {tt1 : TT} {vs1 : List Nat} {bd1 : Sem Fin → Sem Fin} {Bd1 : L2.St → Hp → (Hp → Prop) → Prop}
    (xe : Y.xe = fun _ _ => False) (calm : Y.calm = true) (hcl : cls[k]? = some ⟨tg1, it1, qs1, 0⟩) (hs1 : ∀ env x, foldedSetIterable it1 env x = pure x)
    (ht1 : ∀ i2, IsTurn (.ListComp elt cls scope pos) k pk tg1 qs1 bd1 (.ref i2) (.ref D) Y.env) (pi1 : PI Y tg1 it1 wi1) (pg1 : PG Y tg1 g1) (pt1 : PTs Y qs1 tt1)
    (hb1 : ∀ pl σ2, BodyOk Y pl (wipe σ2 vs1) (fun σ3 => wipe σ3 vs1 = wipe σ2 vs1) bd1 Bd1) (kw : ∀ σ2, Kp σ2 → Kn σ0 (wipe σ2 vs1)) :
    BodyOk Y pins σ0 Kp (fun kt => eval it1 Y.env >>= fun x => standAt it1.pos >>= fun _ => foldedSetIterable it1 Y.env x >>= fun x => holding [x] (pyIter x) >>= fun i2 => runOwn (.compStart (.ListComp elt cls scope pos) k i2 (.ref D) Y.env) Y.env >>= fun _ => kt)
      (mid wi1 g1 tt1 vs1 Bd1) := by
  intro pl σ2 H3 z Nx kt Q E I kp h fin
  have ir := pi1.run (pins ++ pl) z σ2 H3 _ I h
  rw [xe] at ir
  refine wpAny_bind (thnF ir fun x z2 more => ?_)
  refine wpAny_bind (wpAny_standAt (wpAny_bind (wpAny_of_eq (hs1 Y.env x) (wpAny_bind (wpAny_holding (thnF more fun i2 z3 pie => ?_))))))
  obtain ⟨it, fp, tn, J, H4, rfl, I4, T, t0, hf, W1, ⟨m1, w1⟩, turn⟩ := pie
  refine wpAny_bind (wpAny_runOwn ?_)
  rw [Around.mark_none]
  have L := cl_loop (R := fun r z' => match r with | .ok _ => ∃ H', Inv Y (pins ++ pl) (wipe σ2 vs1) H' z' ∧ Nx H' | .error _ => False) xe calm (ht1 it) T pg1 pt1 (hb1 (pins ++ pl) σ2) (fun _ q => Kn.of_wipe q)
    (I4.weak (wipe_length _ _) fun j v e => (wipe_some e).1) t0 hf w1 turn (fun s' H' I' n => ⟨H', I', n⟩)
  refine codeAny_mono (cl_start hcl rfl L (T.self Y.A 0 _ _ _ t0 L)) fun r z' hr => ?_
  cases r with
  | ok f =>
    obtain ⟨H', I', n'⟩ := hr
    exact fin _ _ H' I' (kw _ kp) n'
  | error e => exact hr.elim
end
section
variable {X : Cx}
abbrev lst (te : TE) (D : Addr) : L2.St → Hp → (Hp → Prop) → Prop := fun σ2 H3 Nx => te σ2 H3 fun y H7 => ∃ acc, H7 D = some (.lst acc) ∧ acc.length < sizeLine ∧ Nx (upd H7 D (.lst (acc ++ [y])))
/-- [elt for tg in it if .. for tg1 in it1 if .. for tg2 in it2 if ..]; vs: the block's names; vs1: those of the second and third targets; vs2: of the third -/
def tLc3 (wi : TI) (g : TG) (tt : TT) (wi1 : TI) (g1 : TG) (tt1 : TT) (wi2 : TI) (g2 : TG) (tt2 : TT) (te : TE) (vs vs1 vs2 : List Nat) : TE := fun σ H Q =>
  wi σ H fun J H1 => ∀ D, H1 D = none → ∃ W : Nat → Nat → Hp → Prop, (∃ m, W 0 m (upd H1 D (.lst []))) ∧ Trn J g tt (mid wi1 g1 tt1 vs1 (mid wi2 g2 tt2 vs2 (lst te D))) (wipe σ vs) (fun σ2 => wipe σ2 vs = wipe σ vs) (fun H' => Q (.ref D) H') W
section
variable {elt t0 i0 t1 i1 t2 i2 : Expr} {q0 q1 q2 : List Expr} {scope : Scope} {pos : Pos} {itv acc : Value} {env : Env}
abbrev nxt (elt i1 : Expr) (cls : List Comprehension) (scope : Scope) (pos : Pos) (k : Nat) (acc : Value) (env : Env) (kt : Sem Fin) : Sem Fin :=
  eval i1 env >>= fun x => standAt i1.pos >>= fun _ => foldedSetIterable i1 env x >>= fun x => holding [x] (pyIter x) >>= fun it => runOwn (.compStart (.ListComp elt cls scope pos) k it acc env) env >>= fun _ => kt
theorem turn_0 : IsTurn (.ListComp elt [⟨t0, i0, q0, 0⟩, ⟨t1, i1, q1, 0⟩, ⟨t2, i2, q2, 0⟩] scope pos) 0 i0.pos t0 q0 (nxt elt i1 [⟨t0, i0, q0, 0⟩, ⟨t1, i1, q1, 0⟩, ⟨t2, i2, q2, 0⟩] scope pos 1 acc env) itv acc env := by unfold IsTurn; rfl
theorem turn_1 : IsTurn (.ListComp elt [⟨t0, i0, q0, 0⟩, ⟨t1, i1, q1, 0⟩, ⟨t2, i2, q2, 0⟩] scope pos) 1 i1.pos t1 q1 (nxt elt i2 [⟨t0, i0, q0, 0⟩, ⟨t1, i1, q1, 0⟩, ⟨t2, i2, q2, 0⟩] scope pos 2 acc env) itv acc env := by unfold IsTurn; rfl
theorem turn_2 : IsTurn (.ListComp elt [⟨t0, i0, q0, 0⟩, ⟨t1, i1, q1, 0⟩, ⟨t2, i2, q2, 0⟩] scope pos) 2 i2.pos t2 q2 (fun kt => (eval elt env >>= fun x => call (.builtin "list.append") [acc, x] >>= fun _ => pure ()) >>= fun _ => kt) itv acc env := by unfold IsTurn; rfl
end
abbrev Blks (X : Cx) (scope : Scope) (p : Cx → Prop) : Prop := ∀ (s : Shared) (H : Hp) (C : Addr) (cl : List (Str × Addr)) (fp : List Addr), p (X.blk s H scope (compEnvC scope cl C X.env) fp)
theorem pe_lc3 {elt tg iter tg1 it1 tg2 it2 : Expr} {qs qs1 qs2 : List Expr} {scope : Scope} {own : List (Str × Nat)} {vs1 vs2 : List Nat} {pos : Pos} {wi wi1 wi2 : TI} {g g1 g2 : TG} {tt tt1 tt2 : TT} {te : TE}
    (hc : X.calm = true) (hN : X.N.Nodup) (hi : PI X tg iter wi) (ok : BlkOk X.N X.env.scope scope own) (hv1 : ∀ i ∈ vs1, i ∈ own.map (·.2)) (hv2 : ∀ i ∈ vs2, i ∈ vs1)
    (hg : Blks X scope fun Y => PG Y tg g) (ht : Blks X scope fun Y => PTs Y qs tt)
    (hi1 : Blks X scope fun Y => PI Y tg1 it1 wi1) (hg1 : Blks X scope fun Y => PG Y tg1 g1) (ht1 : Blks X scope fun Y => PTs Y qs1 tt1)
    (hi2 : Blks X scope fun Y => PI Y tg2 it2 wi2) (hg2 : Blks X scope fun Y => PG Y tg2 g2) (ht2 : Blks X scope fun Y => PTs Y qs2 tt2)
    (he : Blks X scope fun Y => PE Y elt te)
    (hs : ∀ x, foldedSetIterable iter X.env x = pure x := by intro _; rfl) (hs1 : ∀ env x, foldedSetIterable it1 env x = pure x := by intro _ _; rfl) (hs2 : ∀ env x, foldedSetIterable it2 env x = pure x := by intro _ _; rfl) :
    PE X (.ListComp elt [⟨tg, iter, qs, 0⟩, ⟨tg1, it1, qs1, 0⟩, ⟨tg2, it2, qs2, 0⟩] scope pos) (tLc3 wi g tt wi1 g1 tt1 wi2 g2 tt2 te (own.map (·.2)) vs1 vs2) := by
  refine ⟨fun pins s σ H Q I h => ?_⟩
  rw [eval_ListComp]
  have fr : ∀ y ∈ scope.names, y.2 = .free → ∃ c, X.env.cells.lookup y.1 = some c := fun y hy e => (ok.free y hy e).elim (fun k => I.ok.has _ (.inl k)) (fun k => I.ok.has _ (.inr k))
  refine wpAny_comprehension_free (use := none) rfl hs (closure_ok fr) ok.kind (fun y hy e => by rw [ok.uniq y hy, e])
    (thn (hi.run pins s σ H _ I h) fun _ z1 hz => thn hz fun _ z2 pie => ?_)
  obtain ⟨it, fp, tn, J, H2, rfl, I2, T, t2, f2, q⟩ := pie
  refine wpAny_newObj_type (newEnv_comp ?_) (by show 0 ≤ sizeLine; decide)
  generalize eD : z2.heap.objs.size = D
  have none2 : H2 D = none := I2.hok.fresh (Nat.le_of_eq eD)
  obtain ⟨W, ⟨m0, w0⟩, turn⟩ := q D none2
  generalize ez : ({ z2 with heap := z2.heap.push { cls := .type "list", data := .seq ([] : List Value).toArray } } : Shared) = z3
  have I3 : Inv X pins σ (upd H2 D (.lst [])) z3 := by
    subst ez
    refine I2.laid (t' := z2.toks) (fun b o e => Heap.get?_push_of_some _ e) (Nat.le_of_eq eD) ⟨Nat.zero_le _, [], 0, .nil, ?_⟩
    subst eD
    exact Heap.get?_push_size _ rfl
  have hz3 : z3.heap = z2.heap.push { cls := .type "list", data := .seq ([] : List Value).toArray } := by rw [← ez]
  have f3 : ∀ b ∈ fp, FpOk X pins (upd H2 D (.lst [])) b ∧ b < z3.heap.objs.size := fun b hb => by
    obtain ⟨o, e, _⟩ := T.obj _ _ t2 b hb
    have lt := Heap.lt_size e
    refine ⟨⟨?_, (f2 b hb).2⟩, by rw [hz3, Heap.size_push]; exact Nat.lt_succ_of_lt lt⟩
    rw [upd_ne (by rw [← eD]; exact Nat.ne_of_lt lt)]
    exact (f2 b hb).1
  have t3 : tn 0 z3.heap := T.keep _ _ _ t2 fun b _ o e => by rw [hz3]; exact Heap.get?_push_of_some _ e
  have I4 := block_start I3 ok hN f3
  show codeAny _ _ (.compStart (.ListComp elt [⟨tg, iter, qs, 0⟩, ⟨tg1, it1, qs1, 0⟩, ⟨tg2, it2, qs2, 0⟩] scope pos) 0 (.ref it) (.ref D) (compEnvC scope (cellsFrom (z3.heap.objs.size + 1) scope.names (cloFrom X.env.cells scope.names [])) z3.heap.objs.size X.env)) (compPost (model X.prog X.w) X.A X.xe none _ (.ref D) z3.heap.objs.size) { z3 with heap := pushCells (z3.heap.push { cls := .type "dict", data := .dict #[] }) scope.names }
  generalize cellsFrom (z3.heap.objs.size + 1) scope.names (cloFrom X.env.cells scope.names []) = cl at I4 ⊢
  have t4 : tn 0 (pushCells (z3.heap.push { cls := .type "dict", data := .dict #[] }) scope.names) := T.keep _ _ _ t3 fun b _ o e => pushCells_keeps _ _ _ _ (Heap.get?_push_of_some _ e)
  have loop : codeAny (model X.prog X.w) X.A (.compLoop (.ListComp elt [⟨tg, iter, qs, 0⟩, ⟨tg1, it1, qs1, 0⟩, ⟨tg2, it2, qs2, 0⟩] scope pos) 0 (.ref it) (.ref D) (compEnvC scope cl z3.heap.objs.size X.env)) (compPost (model X.prog X.w) X.A X.xe none (EP X pins σ Q) (.ref D) z3.heap.objs.size) { z3 with heap := pushCells (z3.heap.push { cls := .type "dict", data := .dict #[] }) scope.names } := by
    refine cl_loop (Y := X.blk z3 (upd H2 D (.lst [])) scope (compEnvC scope cl z3.heap.objs.size X.env) fp) rfl hc turn_0 T (hg ..) (ht ..)
      (body_mid rfl hc rfl hs1 (fun _ => turn_1) (hi1 ..) (hg1 ..) (ht1 ..) (fun pl σ2 => body_mid rfl hc rfl hs2 (fun _ => turn_2) (hi2 ..) (hg2 ..) (ht2 ..) (fun pl σ3 => body_last rfl (fun _ q => Kn.of_wipe q) (he ..)) (fun _ q => Kn.more q hv2)) (fun _ q => Kn.more q hv1))
      (fun _ q => Kn.of_wipe q) I4 t4 (fun b hb => ⟨(f3 b hb).1.1, (I4.ok.exf b hb).1, I4.ok.exfs b hb, .inl hb, fun x c e => (I4.ok.exf b hb).2 x c e, fun p hp => absurd (show p ∈ ([] : List (Addr × Obj)) ++ [] from hp) List.not_mem_nil⟩) w0 turn (fun z9 H9 I9 q9 => ?_)
    have back : Inv X pins σ H9 z9 := I3.call' (ch := fp) I9.os I9.base I9.hok I9.bare fun b hb => ⟨(f3 b hb).1.2.2.2.1, (f3 b hb).1.2.1, (f3 b hb).1.2.2.2.2.1, (f3 b hb).1.2.2.2.2.2⟩
    have gone : H9 z3.heap.objs.size = none := I9.free
    obtain ⟨mm, hn, _⟩ := I9.loc
    obtain ⟨o0, o1, _, o3, o4, o5⟩ := I3.fpOk (Nat.le_refl _) gone
    exact ⟨mm, hn, fun h2 sb => ⟨.ref D, H9, back.turned (t' := z9.toks) (fun b o hb e => (sb.2 b hb).trans e) o0 o1 o3 o4 o5, rfl, q9⟩⟩
  exact codeAny_compStart_list loop (T.self X.A 0 _ _ _ t4 loop)
end
end DC
-- K15p2
set_option Elab.async false
set_option linter.all false
set_option maxRecDepth 100000
set_option maxHeartbeats 8000000
/-! K14p2: doubles, shifts, steps_of, stepped, _law_after -/
namespace DC
open PySem L2
theorem pi_tupK {X : Cx} {K : PySem.W.Frag} {tg a : Expr} {t : TE} (h : PE X a t) (e : X.K = K := by rfl) : PI X tg a (iTup K t) := by
  subst e
  exact pi_tup h
end DC
namespace K15
open PySem L2 DC LamX
section
variable {P : Program} {w : World} {K : PySem.W.Frag} {mg : Str → Option Value} {base : Heap}
def spDb (K : PySem.W.Frag) : Sp := fun vs H Q _ => ∃ (v : V) (js : List J2), vs = [v] ∧ Js K H v js ∧ js.length ≤ 12 ∧ ∀ (r : Addr) (us : List V) (H' : Hp), Same H H' → H r = none → H' r = some (.lst us) → Paired (Stp K H') us (dbJ js js.length) → us.length ≤ 300 → Q (.ref r) H'
abbrev NDb : List Str := ["joints", "found", "at", "one", "other", "made"]
theorem scDb : FnScope NDb ["joints"] (defScope (top 20)) := ⟨rfl, rfl, rfl, by decide +kernel, rfl, by decide +kernel, by decide +kernel⟩
theorem okDb {f fP : Addr} {fd fdP : FuncData} (F : Fun K "doubles" "doubles" (top 20) f fd) (B : Bn mg)
    (DP : Df K mg "pairings" fP fdP ["one", "other"]) (GP : OkF P w K mg base 2 fP fdP ["one", "other"] (spPg K)) : OkF P w K mg base 3 f fd ["joints"] (spDb K) := by
  refine ok0 F scDb (fun vs H Q E h => ?_) (fun cdv A outer s H vs Q E hgd hr h => ?_)
  · obtain ⟨v, js, rfl, _⟩ := h; rfl
  · obtain ⟨v, js, rfl, ⟨tj, ws, rfl, hSj, hPj⟩, hl, q⟩ := h
    have nd := scDb.nd
    have lw : ws.length = js.length := Paired.length hPj
    refine ⟨_, (pss_cons (ps_set (i := 1) nd rfl (.inl rfl) (pe_lst pa_nil)) (pss_cons (ps_for PassesOwn.never rfl (pi_enumT (by rfl) B.enum (pa_cons (pv 0) pa_nil)) (pg_tup (by rfl) (pgs_cons (pg_name (i := 2) nd rfl (.inl rfl)) (pgs_cons (pg_name (i := 3) nd rfl (.inl rfl)) pgs_nil))) (pss_one (ps_for PassesOwn.never rfl (pi_tup (pe_slice sl_tup (pv 0) (po_some (pe_op op_add (pv 2) pe_int)) po_none)) (pg_name (i := 4) nd rfl (.inl rfl)) (pss_one (ps_for PassesOwn.never rfl (pi_list (cl DP GP hgd hr (pa_cons (pv 3) (pa_cons (pv 4) pa_nil)))) (pg_name (i := 5) nd rfl (.inl rfl)) (pss_one (ps_expr (pe_bm PySem.F.plainAttrs_list PySem.F.slot_list_append PySem.F.type_list_append mt_append (pv 1) (pa_cons (pe_tup (pa_cons (pe_tup (pa_cons (pv 3) (pa_cons (pv 4) pa_nil))) (pa_cons (pv 5) pa_nil))) pa_nil))))))))) (pss_one (ps_ret (pv 1))))), ?_⟩
    refine ⟨by show 0 ≤ sizeLine; decide, fun L hL0 => gn ?_⟩
    have F0 : FI K H (upd H L (.lst [])) L [] 0 := ⟨Same.new hL0, [], upd_same, .nil, Nat.le_refl _⟩
    generalize upd H L (.lst []) = H1 at F0 ⊢
    refine ⟨_, rfl, tj, ws, rfl, Same.t F0.sm hSj, for_it (walk_enumT (xs := ws)) (fun i σ H' => ∃ (y2 y3 y4 y5 : Option V), σ = [some (.ref tj), some (.ref L), y2, y3, y4, y5] ∧ FI K H H' L (dbJ js i) (24 * i)) ?_ ?_ ?_ ?_⟩
    · exact ⟨none, none, none, none, rfl, F0⟩
    · rintro i σ H' hi ⟨_, _, _, _, rfl, f⟩
      exact Same.t f.sm hSj
    · rintro i x σ Hz H4 hi ⟨y2, y3, y4, y5, rfl, f⟩ ⟨T, x1, y, rfl, nT, rfl, e1, e2⟩
      cases e1
      obtain ⟨p, hp, jt, rfl, hj⟩ := pair_at hPj e2
      have sT := Same.new (o := .tup [.int (i : Nat), .ref jt]) nT
      have f1 := f.up sT
      have gd : js.getD i (0, 0) = p := by
        rw [List.getD_eq_getElem?_getD, hp]
        rfl
      rw [dbJ_succ, gd]
      refine ⟨T, _, rfl, SqT.of upd_same, rfl, _, _, rfl, _, _, rfl, rfl, ?_⟩
      generalize upd Hz T (.tup [.int (i : Nat), .ref jt]) = H4 at f1 ⊢
      have ecut : cutV ws (some (((i : Nat) : Int) + 1)) none = ws.drop (i + 1) := cut_a (xs := ws) (a := i + 1) (by omega)
      refine ⟨_, rfl, _, rfl, ((i : Nat) : Int), 1, rfl, rfl, _, rfl, tj, ws, rfl, Same.t f1.sm hSj, ?_, fun S hSn => ?_⟩
      · rintro ⟨z, _⟩
        have := sIx_nat ws.length 0 (i + 1)
        rw [show ((i + 1 : Nat) : Int) = ((i : Nat) : Int) + 1 by omega] at this
        rw [this] at z
        omega
      rw [ecut]
      have uS := Same.new (o := .tup (ws.drop (i + 1))) hSn
      have fS := f1.up uS
      have hSS : SqT K (upd H4 S (.tup (ws.drop (i + 1)))) S (ws.drop (i + 1)) := SqT.of upd_same
      generalize upd H4 S (.tup (ws.drop (i + 1))) = H6 at fS hSS ⊢
      refine ⟨S, rfl, ⟨_, hSS⟩, ?_⟩
      refine for_it (walk_tup (xs := ws.drop (i + 1))) (fun m σ H' => ∃ (y4 y5 : Option V), σ = [some (.ref tj), some (.ref L), some (.int (i : Nat)), some (.ref jt), y4, y5] ∧ SqT K H' S (ws.drop (i + 1)) ∧ FI K H H' L (dbJ js i ++ ((js.drop (i + 1)).take m).flatMap (dbB p)) (24 * i + 2 * m)) ?_ ?_ ?_ ?_
      · refine ⟨_, _, rfl, hSS, ?_⟩
        show FI _ _ _ _ (_ ++ []) _
        rw [List.append_nil]
        exact fS
      · rintro m σ H' hm ⟨_, _, rfl, h, _⟩
        exact h
      · rintro m x σ Hy H7 hm ⟨y4, y5, rfl, hSm, f⟩ ⟨rfl, ex⟩
        rw [List.length_drop] at hm
        rw [List.getElem?_drop] at ex
        obtain ⟨o, ho, ot, rfl, hot⟩ := pair_at hPj ex
        have eg : (js.drop (i + 1))[m]? = some o := by
          rw [List.getElem?_drop]
          exact ho
        refine gn ?_
        refine ⟨_, rfl, _, rfl, .ref jt, .ref ot, p, o, rfl, ⟨jt, rfl, Same.t f.sm hj⟩, ⟨ot, rfl, Same.t f.sm hot⟩, fun r rs H8 s8 r0 hr8 hP8 => ?_⟩
        rw [nm_mk2, nm_mk2] at hP8
        have f8 := f.up s8
        have nrL : r ≠ L := by
          obtain ⟨us, hL, _⟩ := f.ex
          exact Ne.symm (ne_of_none hL r0)
        have hSm8 := Same.t s8 hSm
        have rl : rs.length = 2 := Paired.length hP8
        refine ⟨r, rfl, ⟨_, SqL.of hr8⟩, ?_⟩
        refine for_it (walk_list (xs := rs)) (fun k σ H' => ∃ (y5 : Option V), σ = [some (.ref tj), some (.ref L), some (.int (i : Nat)), some (.ref jt), some (.ref ot), y5] ∧ SqT K H' S (ws.drop (i + 1)) ∧ H' r = some (.lst rs) ∧ Paired (Js K H') rs [[(p.1, o.1), mk2 p.2 o.2], [(p.1, o.2), mk2 p.2 o.1]] ∧ FI K H H' L ((dbJ js i ++ ((js.drop (i + 1)).take m).flatMap (dbB p)) ++ (dbB p o).take k) (24 * i + 2 * m + k)) ?_ ?_ ?_ ?_
        · refine ⟨_, rfl, hSm8, hr8, hP8, ?_⟩
          rw [List.take_zero, List.append_nil]
          exact f8
        · rintro k σ H' hk ⟨_, rfl, _, h, _⟩
          exact SqL.of h
        · rintro k z σ Hw H9 hk ⟨y5, rfl, hSm9, hr9, hP9, f9⟩ ⟨rfl, ez⟩
          obtain ⟨M, eM, hz⟩ := paired_at hP9 ez
          have eD : (dbB p o)[k]? = some ([p, o], M) := by
            rw [show dbB p o = [[(p.1, o.1), mk2 p.2 o.2], [(p.1, o.2), mk2 p.2 o.1]].map (fun M => ([p, o], M)) from rfl, List.getElem?_map, eM]
            rfl
          refine gn ?_
          obtain ⟨us, hL, hP, hb⟩ := f9.ex
          refine ⟨_, rfl, .inl ⟨rfl, _, SqL.of hL⟩, _, rfl, _, rfl, by show 2 ≤ sizeLine; decide, fun T1 hT1 => ⟨_, rfl, by show 2 ≤ sizeLine; decide, fun T2 hT2 => ?_⟩⟩
          have u1 := Same.new (o := .tup [.ref jt, .ref ot]) hT1
          have u2 := Same.new (o := .tup [.ref T1, z]) hT2
          have u := u1.trans u2
          have sH := f9.sm.trans u
          have f10 := (f9.up u).put (v := .ref T2) (st := ([p, o], M)) hL0 (u _ _ hL) ⟨T2, .ref T1, z, rfl, SqT.of upd_same, ⟨T1, [.ref jt, .ref ot], rfl, SqT.of (u2 _ _ upd_same), .cons ⟨jt, rfl, Same.t sH hj⟩ (.cons ⟨ot, rfl, Same.t sH hot⟩ .nil)⟩, (TM.of u).js hz⟩
          have tm := (TM.of (K := K) u).trans (TM.put (o := .lst (us ++ [.ref T2])) (u _ _ hL))
          refine ⟨L, us, _, rfl, rfl, u _ _ hL, Nat.lt_of_le_of_lt hb (Nat.lt_of_le_of_lt (show 24 * i + 2 * m + k ≤ 1000 by omega) (by decide)), _, rfl, tm.t hSm9, ?_, L2.Paired.mapP hP9 fun _ _ q => tm.js q, ?_⟩
          · rw [upd_ne nrL]
            exact u _ _ hr9
          · rw [take_next eD, ← List.append_assoc]
            exact f10
        · rintro σ H9 ⟨y5, rfl, hSm9, _, _, f9⟩
          rw [rl, List.take_of_length_le (show (dbB p o).length ≤ 2 from Nat.le_refl _)] at f9
          refine ⟨_, y5, rfl, hSm9, ?_⟩
          rw [take_next eg, List.flatMap_append, ← List.append_assoc]
          simp only [List.flatMap_cons, List.flatMap_nil, List.append_nil]
          exact f9
      · rintro σ H7 ⟨y4, y5, rfl, hSm, f⟩
        rw [List.length_drop, List.take_of_length_le (by rw [List.length_drop]; omega)] at f
        exact ⟨_, _, _, _, rfl, f.mono (by omega)⟩
    · rintro σ H4 ⟨y2, y3, y4, y5, rfl, f⟩
      rw [lw] at f
      obtain ⟨us, hL, hP, hb⟩ := f.ex
      exact ⟨_, rfl, q L us _ f.sm hL0 hL hP (by omega)⟩
def spSh (K : PySem.W.Frag) : Sp := fun vs H Q _ => ∃ (v : V) (l : Addr) (js : List J2) (fr : List Nat), vs = [v, .ref l] ∧ Js K H v js ∧ H l = some (.lst (Vn fr)) ∧ js.length ≤ 12 ∧ fr.length ≤ 24 ∧ ∀ (r : Addr) (us : List V) (H' : Hp), Same H H' → H r = none → H' r = some (.lst us) → Paired (Stp K H') us (shJ js fr) → us.length ≤ 600 → Q (.ref r) H'
abbrev NSh : List Str := ["joints", "free", "joint", "kept", "end"]
theorem scSh : FnScope NSh ["joints", "free"] (defScope (top 21)) := ⟨rfl, rfl, rfl, by decide +kernel, rfl, by decide +kernel, by decide +kernel⟩
theorem okSh {f fJ : Addr} {fd fdJ : FuncData} (F : Fun K "shifts" "shifts" (top 21) f fd)
    (DJ : Df K mg "joint_of" fJ fdJ ["one", "other"]) (GJ : OkF P w K mg base 1 fJ fdJ ["one", "other"] (spJt K)) : OkF P w K mg base 2 f fd ["joints", "free"] (spSh K) := by
  refine ok0 F scSh (fun vs H Q E h => ?_) (fun cdv A outer s H vs Q E hgd hr h => ?_)
  · obtain ⟨v, l, js, fr, rfl, _⟩ := h; rfl
  · obtain ⟨v, l, js, fr, rfl, ⟨tj, ws, rfl, hSj, hPj⟩, hl, h12, h24, q⟩ := h
    have nd := scSh.nd
    have lw : ws.length = js.length := Paired.length hPj
    refine ⟨_, (pss_one (ps_ret (pe_lc3 (own := [("joint", 2), ("kept", 3), ("end", 4)]) (vs1 := [3, 4]) (vs2 := [4]) (g := gName 2) (g1 := gName 3) (g2 := gName 4) (tt := tYes) (tt1 := tYes) (tt2 := tYes) rfl nd (pi_tup (pv 0)) (blkOk_by (N := NSh) (sc := defScope (top 21)) (by decide +kernel)) (by decide) (by decide) (fun _ _ _ _ _ => pg_name (i := 2) nd rfl (Or.inl rfl)) (fun _ _ _ _ _ => pts_nil) (fun _ _ _ _ _ => pi_tupK (K := K) (pv 2)) (fun _ _ _ _ _ => pg_name (i := 3) nd rfl (Or.inl rfl)) (fun _ _ _ _ _ => pts_nil) (fun _ _ _ _ _ => pi_listK (K := K) (pv 1)) (fun _ _ _ _ _ => pg_name (i := 4) nd rfl (Or.inl rfl)) (fun _ _ _ _ _ => pts_nil) (fun _ _ _ _ _ => (pe_tup (pa_cons (pe_tup (pa_cons (pv 2) pa_nil)) (pa_cons (pe_tup (pa_cons (cl DJ GJ hgd hr (pa_cons (pv 3) (pa_cons (pv 4) pa_nil))) pa_nil)) pa_nil))))))), ?_⟩
    refine ⟨_, rfl, tj, rfl, ⟨ws, hSj⟩, fun D hD => ?_⟩
    refine it_gen (walk_tup (xs := ws)) (fun i H' => FI K H H' D (shJ (js.take i) fr) (48 * i)) ⟨Same.new hD, [], upd_same, .nil, Nat.le_refl _⟩ (fun i H' _ f => Same.t f.sm hSj) ?_ ?_
    · rintro i x Ha Hb hi f ⟨rfl, ex⟩
      obtain ⟨p, hp, jt, rfl, hj⟩ := pair_at hPj ex
      have eS : shJ (js.take (i + 1)) fr = shJ (js.take i) fr ++ (shE fr p p.1 ++ shE fr p p.2) := by
        unfold shJ
        rw [take_next hp, List.flatMap_append]
        simp only [List.flatMap_cons, List.flatMap_nil, List.append_nil]
      refine ⟨rfl, ?_⟩
      refine yesT ?_
      refine ⟨_, rfl, jt, rfl, ⟨_, Same.t f.sm hj⟩, ?_⟩
      refine it_gen (walk_tup (xs := [.int (p.1 : Nat), .int (p.2 : Nat)])) (fun k H' => FI K H H' D (shJ (js.take i) fr ++ (([p.1, p.2].take k).flatMap (shE fr p))) (48 * i + 24 * k)) (by rw [List.take_zero, List.flatMap_nil, List.append_nil]; exact f) (fun k H' _ f => Same.t f.sm hj) ?_ ?_
      · rintro k y Hc Hd hk f1 ⟨rfl, ey⟩
        obtain ⟨near, en, rfl⟩ : ∃ near, [p.1, p.2][k]? = some near ∧ y = V.int (near : Nat) := by
          have hk : k < 2 := hk
          match k, hk with
          | 0, _ => exact ⟨p.1, rfl, (Option.some.inj ey).symm⟩
          | 1, _ => exact ⟨p.2, rfl, (Option.some.inj ey).symm⟩
        refine ⟨rfl, ?_⟩
        refine yesT ?_
        refine ⟨_, rfl, l, rfl, ⟨_, SqL.of (f1.sm _ _ hl)⟩, ?_⟩
        have hk : k < 2 := hk
        refine it_gen (walk_list (xs := Vn fr)) (fun m H' => FI K H H' D ((shJ (js.take i) fr ++ (([p.1, p.2].take k).flatMap (shE fr p))) ++ (shE (fr.take m) p near)) (48 * i + 24 * k + m)) (by rw [List.take_zero]; show FI _ _ _ _ (_ ++ []) _; rw [List.append_nil]; exact f1) (fun m H' _ f => SqL.of (f.sm _ _ hl)) ?_ ?_
        · rintro m z He Hf hm f2 ⟨rfl, ez⟩
          rw [Vn_len] at hm
          obtain rfl := Option.some.inj ((Vn_at hm).symm.trans ez)
          have eg : fr[m]? = some (fr.getD m 0) := by
            rw [List.getD_eq_getElem?_getD, List.getElem?_eq_getElem hm]
            rfl
          generalize fr.getD m 0 = e at eg ⊢
          refine ⟨rfl, ?_⟩
          refine yesT ?_
          refine ⟨_, rfl, by show 1 ≤ sizeLine; decide, fun T1 hT1 => ⟨_, rfl, _, rfl, near, e, rfl, fun T2 H8 s8 fr8 hT2 => ⟨by show 1 ≤ sizeLine; decide, fun T3 hT3 => ⟨by show 2 ≤ sizeLine; decide, fun T4 hT4 => ?_⟩⟩⟩⟩
          rw [nm_mk2] at hT2
          have u1 := Same.new (o := .tup [.ref jt]) hT1
          have u3 := Same.new (o := .tup [.ref T2]) hT3
          have u4 := Same.new (o := .tup [.ref T1, .ref T3]) hT4
          have u34 := u3.trans u4
          have u := u1.trans (s8.trans u34)
          obtain ⟨us, hL, hP, hb⟩ := f2.ex
          have f3 := (f2.up u).put (v := .ref T4) (st := ([p], [mk2 near e])) hD (u _ _ hL) ⟨T4, .ref T1, .ref T3, rfl, SqT.of upd_same, ⟨T1, [.ref jt], rfl, SqT.of ((s8.trans u34) _ _ upd_same), .cons ⟨jt, rfl, Same.t (f2.sm.trans u) hj⟩ .nil⟩, ⟨T3, [.ref T2], rfl, SqT.of (u4 _ _ upd_same), .cons ⟨T2, rfl, SqT.of (u34 _ _ hT2)⟩ .nil⟩⟩
          refine ⟨us, u _ _ hL, Nat.lt_of_le_of_lt hb (Nat.lt_of_le_of_lt (show 48 * i + 24 * k + m ≤ 1000 by omega) (by decide)), ?_⟩
          have e3 : shE (fr.take (m + 1)) p near = shE (fr.take m) p near ++ [([p], [mk2 near e])] := by
            unfold shE
            rw [take_next eg, List.map_append]
            rfl
          rw [e3, ← List.append_assoc]
          exact f3
        · rintro H9 f2
          rw [Vn_len, List.take_of_length_le (Nat.le_refl _)] at f2
          rw [take_next en, List.flatMap_append, ← List.append_assoc]
          simp only [List.flatMap_cons, List.flatMap_nil, List.append_nil]
          exact f2.mono (by omega)
      · rintro H9 f1
        rw [eS]
        have e9 : ([p.1, p.2].take 2).flatMap (shE fr p) = shE fr p p.1 ++ shE fr p p.2 := by
          show shE fr p p.1 ++ (shE fr p p.2 ++ []) = _
          rw [List.append_nil]
        have f2 : FI K H H9 D (shJ (js.take i) fr ++ ([p.1, p.2].take 2).flatMap (shE fr p)) (48 * i + 24 * 2) := f1
        rw [e9] at f2
        exact f2.mono (by omega)
    · rintro H9 f
      rw [List.take_of_length_le (by omega)] at f
      obtain ⟨us, hL, hP, hb⟩ := f.ex
      exact q D us H9 f.sm hD hL hP (by omega)
end
end K15
-- K15p3
set_option Elab.async false
set_option linter.all false
set_option maxRecDepth 100000
set_option maxHeartbeats 8000000
/-! K14p3: steps_of, stepped, _law_after, change_by, good_of .. sorts -/
namespace K15
open PySem L2 DC LamX
section
variable {P : Program} {w : World} {K : PySem.W.Frag} {mg : Str → Option Value} {base : Heap}
def spSo (K : PySem.W.Frag) : Sp := fun vs H Q _ => ∃ (v : V) (n : Nat) (js : List J2), vs = [v] ∧ Ly K H v n js ∧ Good n js ∧ ∀ (r : Addr) (us : List V) (H' : Hp), Same H H' → H r = none → H' r = some (.lst us) → Paired (Stp K H') us (stS n js) → us.length ≤ 1600 → Q (.ref r) H'
theorem scSo : FnScope ["lay", "joints", "free"] ["lay"] (defScope (top 24)) := ⟨rfl, rfl, rfl, by decide +kernel, rfl, by decide +kernel, by decide +kernel⟩
theorem okSo {f fF fD fS fC fJ : Addr} {fd fdF fdD fdS fdC fdJ : FuncData} (F : Fun K "steps_of" "steps_of" (top 24) f fd) (B : Bn mg)
    (DF : Df K mg "free_of" fF fdF ["lay"]) (GF : OkF P w K mg base 2 fF fdF ["lay"] (spFree K))
    (DD : Df K mg "doubles" fD fdD ["joints"]) (GD : OkF P w K mg base 3 fD fdD ["joints"] (spDb K))
    (DS : Df K mg "shifts" fS fdS ["joints", "free"]) (GS : OkF P w K mg base 2 fS fdS ["joints", "free"] (spSh K))
    (DC : Df K mg "cuts" fC fdC ["joints"]) (GC : OkF P w K mg base 1 fC fdC ["joints"] (spCuts K))
    (DJ : Df K mg "joins" fJ fdJ ["free"]) (GJ : OkF P w K mg base 1 fJ fdJ ["free"] (spJoins K)) : OkF P w K mg base 4 f fd ["lay"] (spSo K) := by
  refine ok0 F scSo (fun vs H Q E h => ?_) (fun cdv A outer s H vs Q E hgd hr h => ?_)
  · obtain ⟨v, n, js, rfl, _⟩ := h; rfl
  · obtain ⟨v, n, js, rfl, hLy, g, q⟩ := h
    have nd := scSo.nd
    have hr1 : Room 1 _ := hr.mono (by decide)
    have hr2 : Room 2 _ := hr.mono (by decide)
    have tp := g.top
    have jle := g.le
    have fle := frees_len n js
    refine ⟨_, (pss_cons (ps_set (i := 1) nd rfl (.inl rfl) (pe_ix (r := rIxT K) ix_tup (pv 0) pe_int (fun _ _ => rfl))) (pss_cons (ps_set (i := 2) nd rfl (.inl rfl) (cl DF GF hgd hr2 (pa_cons (pv 0) pa_nil))) (pss_one (ps_ret (pe_callB (cr_sortD hr.units) (by rfl) B.sorted (by decide +kernel) (pa_cons (pe_op op_cat (pe_op op_cat (pe_op op_cat (cl DD GD hgd hr (pa_cons (pv 1) pa_nil)) (cl DS GS hgd hr2 (pa_cons (pv 1) (pa_cons (pv 2) pa_nil)))) (cl DC GC hgd hr1 (pa_cons (pv 1) pa_nil))) (cl DJ GJ hgd hr1 (pa_cons (pv 2) pa_nil))) pa_nil)))))), ?_⟩
    obtain ⟨t, u, rfl, hS, jsv⟩ := id hLy
    have a1 : atI [V.int (n : Nat), u] 1 = some u := at_of (j := 1) rfl rfl
    refine ⟨_, rfl, t, _, 1, u, rfl, rfl, hS, a1, gn ?_⟩
    refine ⟨_, rfl, .ref t, n, js, rfl, hLy, g, fun fr H1 s1 f0 hfr => gn ?_⟩
    refine ⟨_, rfl, u, js, rfl, (TM.of s1).js jsv, by omega, fun ra ua H2 s2 a0 ha pa la => ?_⟩
    refine ⟨_, rfl, _, rfl, u, fr, js, frees n js, rfl, (TM.of (s1.trans s2)).js jsv, s2 _ _ hfr, by omega, by omega, fun rb ub H3 s3 b0 hb pb lb => ?_⟩
    refine ⟨ra, rb, ua, ub, rfl, rfl, s3 _ _ ha, hb, Nat.le_trans (show ua.length + ub.length ≤ 2000 by omega) (by decide), fun D1 hD1 => ?_⟩
    have u4 := Same.new (o := .lst (ua ++ ub)) hD1
    have p1 : Paired (Stp K (upd H3 D1 (.lst (ua ++ ub)))) (ua ++ ub) (dbJ js js.length ++ shJ js (frees n js)) := pair_app ((TM.of (s3.trans u4)).stps pa) ((TM.of u4).stps pb)
    have s14 := s1.trans (s2.trans (s3.trans u4))
    refine ⟨_, rfl, u, js, rfl, (TM.of s14).js jsv, by omega, fun rc uc H5 s5 c0 hc pc => ?_⟩
    have lc : uc.length = js.length := by rw [Paired.length pc, List.length_map]
    refine ⟨D1, rc, ua ++ ub, uc, rfl, rfl, s5 _ _ upd_same, hc, Nat.le_trans (show (ua ++ ub).length + uc.length ≤ 2000 by rw [List.length_append]; omega) (by decide), fun D2 hD2 => ?_⟩
    have u6 := Same.new (o := .lst ((ua ++ ub) ++ uc)) hD2
    have p2 : Paired (Stp K (upd H5 D2 (.lst ((ua ++ ub) ++ uc)))) ((ua ++ ub) ++ uc) ((dbJ js js.length ++ shJ js (frees n js)) ++ js.map cutS) := pair_app ((TM.of (s5.trans u6)).stps p1) ((TM.of u6).stps pc)
    have s46 := s2.trans (s3.trans (u4.trans (s5.trans u6)))
    refine ⟨_, rfl, fr, frees n js, rfl, s46 _ _ hfr, by omega, fun rd ud H7 s7 d0 hd pd ld => ?_⟩
    refine ⟨D2, rd, (ua ++ ub) ++ uc, ud, rfl, rfl, s7 _ _ upd_same, hd, Nat.le_trans (show ((ua ++ ub) ++ uc).length + ud.length ≤ 2000 by rw [List.length_append, List.length_append]; omega) (by decide), fun D3 hD3 => ?_⟩
    have u8 := Same.new (o := .lst (((ua ++ ub) ++ uc) ++ ud)) hD3
    have p3 : Paired (Stp K (upd H7 D3 (.lst (((ua ++ ub) ++ uc) ++ ud)))) (((ua ++ ub) ++ uc) ++ ud) (((dbJ js js.length ++ shJ js (frees n js)) ++ js.map cutS) ++ pre2 (frees n js) (frees n js).length) := pair_app ((TM.of (s7.trans u8)).stps p2) ((TM.of u8).stps pd)
    have SS := s1.trans (s46.trans (s7.trans u8))
    refine ⟨D3, ((ua ++ ub) ++ uc) ++ ud, _, rfl, SqL.of upd_same, stps_dp p3, st_alike _, st_sortable _, st_depth _, fun ys p9 pm hy hp9 => ?_⟩
    rw [st_sort (steps_perm g)] at hy
    have u9 := Same.new (o := .lst ys) hp9
    exact q p9 ys _ (SS.trans u9) (SS.free hp9) upd_same ((TM.of u9).stps (dp_stps hy)) (by rw [pm.length_eq, List.length_append, List.length_append, List.length_append]; omega)
def spAf (K : PySem.W.Frag) : Sp := fun vs H Q _ => ∃ (v1 v2 : V) (n : Nat) (js : List J2) (st : Stp2), vs = [v1, v2] ∧ Ly K H v1 n js ∧ Stp K H v2 st ∧ Good n js ∧ n ≤ 12 ∧ IsSt n js st ∧
  ∀ (v : V) (H' : Hp), Same H H' → Ly K H' v n (aftJ js st) → Q v H'
abbrev NAf : List Str := ["lay", "step_so", "stay", "joint"]
theorem scAf : FnScope NAf ["lay", "step_so"] (defScope (top 52)) := ⟨rfl, rfl, rfl, by decide +kernel, rfl, by decide +kernel, by decide +kernel⟩
theorem okAf {f : Addr} {fd : FuncData} (F : Fun K "_law_after" "_law_after" (top 52) f fd) (B : Bn mg) : OkF P w K mg base 1 f fd ["lay", "step_so"] (spAf K) := by
  refine ok0 F scAf (fun vs H Q E h => ?_) (fun cdv A outer s H vs Q E hgd hr h => ?_)
  · obtain ⟨v1, v2, n, js, st, rfl, _⟩ := h; rfl
  · obtain ⟨v1, v2, n, js, st, rfl, ⟨t, u, rfl, hS, tj, ws, rfl, hSj, hPj⟩, ⟨t2, ua, ub, rfl, hS2, ⟨ta, xa, rfl, hSa, hPa⟩, ⟨tb, xb, rfl, hSb, hPb⟩⟩, g, h4, hst, q⟩ := h
    have nd := scAf.nd
    have jle := g.le
    have g2le := (isSt_good g hst).2.le
    have tp := g.top
    refine ⟨_, (pss_cons (ps_setLc (i := 2) (own := [("joint", 3)]) (g := gName 3) rfl nd rfl rfl (sw_true rfl rfl rfl (by decide +kernel)) (pi_tup (pe_ix (r := rIxT K) ix_tup (pv 0) pe_int (fun _ _ => rfl))) (blkOk_by (N := NAf) (sc := defScope (top 52)) (by decide +kernel)) (fun _ _ _ _ _ => pg_name (i := 3) nd rfl (Or.inl rfl)) (fun _ _ _ _ _ => pts_one (pt_cmpR (r := rNotInDT K) (op_notInDT (u65 hr)) (pv 3) (pe_ix (r := rIxT K) ix_tup (pv 1) pe_int (fun _ _ => rfl)) (by rfl))) (fun _ _ _ _ _ => (pv 3))) (pss_one (ps_ret (pe_tup (pa_cons (pe_ix (r := rIxT K) ix_tup (pv 0) pe_int (fun _ _ => rfl)) (pa_cons (pe_callTy call_tuple_of (by rfl) B.tuple (by decide +kernel) (pa_cons (pe_callB (cr_sortD hr.units) (by rfl) B.sorted (by decide +kernel) (pa_cons (pe_op op_cat (pv 2) (pe_callTy call_list_of (by rfl) B.list (by decide +kernel) (pa_cons (pe_ix (r := rIxT K) ix_tup (pv 1) pe_int (fun _ _ => rfl)) pa_nil))) pa_nil)) pa_nil)) pa_nil)))))), ?_⟩
    have a0 : atI [V.int (n : Nat), V.ref tj] 0 = some (.int (n : Nat)) := at_of (j := 0) rfl rfl
    have a1 : atI [V.int (n : Nat), V.ref tj] 1 = some (.ref tj) := at_of (j := 1) rfl rfl
    have b0 : atI [V.ref ta, V.ref tb] 0 = some (.ref ta) := at_of (j := 0) rfl rfl
    have b1 : atI [V.ref ta, V.ref tb] 1 = some (.ref tb) := at_of (j := 1) rfl rfl
    have len : ws.length = js.length := Paired.length hPj
    skip
    refine ⟨_, rfl, t, _, 1, .ref tj, rfl, rfl, hS, a1, tj, rfl, ⟨ws, hSj⟩, fun D hD => ?_⟩
    refine lc_it (walk_tup (xs := ws)) (fun i H' => ∃ acc : List V, Same H H' ∧ H' D = some (.lst acc) ∧ Paired (Pr K H') acc ((js.take i).filter fun p => !decide (p ∈ st.1)) ∧ acc.length ≤ i) ⟨[], Same.new hD, upd_same, .nil, Nat.le_refl _⟩ (fun i H' _ hp => by
      obtain ⟨acc, sm, _⟩ := hp
      exact Same.t sm hSj) ?_ ?_
    · rintro i x Ha Hb hi ⟨acc, sm, hL, hd, hal⟩ ⟨rfl, ex⟩
      obtain ⟨p, ep, hx⟩ := paired_at hPj ex
      have hx' := hx.up sm
      refine ⟨rfl, ?_⟩
      obtain ⟨px, rfl, hpx⟩ := hx'
      refine ⟨_, rfl, _, rfl, t2, _, 0, .ref ta, rfl, rfl, Same.t sm hS2, b0, pairD p, st.1.map pairD, .tup hpx (.cons (.int _) (.cons (.int _) .nil)), .tup (Same.t sm hSa) (js_dpp ((TM.of sm).prs hPa)), shaped_pair p, shaped_pairs st.1, _, rfl, ?_⟩
      rw [any_pair, take_next ep, List.filter_append]
      cases c : (!decide (p ∈ st.1)) with
      | true =>
        refine iteT ⟨_, rfl, acc, hL, Nat.lt_of_le_of_lt (show acc.length ≤ 1000 by omega) (by decide), acc ++ [.ref px], same_put sm hD, upd_same, ?_, by rw [List.length_append]; exact Nat.succ_le_succ hal⟩
        have e1 : ([p].filter fun p => !decide (p ∈ st.1)) = [p] := by simp only [List.filter_cons, c, if_true, List.filter_nil]
        rw [e1]
        exact pair_snoc ((TM.put hL).prs hd) ⟨px, rfl, sqT_put hpx hL⟩
      | false =>
        refine iteF ⟨acc, sm, hL, ?_, Nat.le_succ_of_le hal⟩
        have e1 : ([p].filter fun p => !decide (p ∈ st.1)) = [] := by simp only [List.filter_cons, c, Bool.false_eq_true, if_false, List.filter_nil]
        rw [e1, List.append_nil]
        exact hd
    · rintro H1 ⟨acc, s1, hL, hd, hal⟩
      rw [len, List.take_of_length_le (Nat.le_refl _)] at hd
      refine gn ?_
      have la : acc.length = (js.filter fun p => !decide (p ∈ st.1)).length := Paired.length hd
      have lb : xb.length = st.2.length := Paired.length hPb
      refine ⟨_, rfl, t, _, 0, .int (n : Nat), rfl, rfl, Same.t s1 hS, a0, ?_⟩
      refine ⟨_, rfl, _, rfl, t2, _, 1, .ref tb, rfl, rfl, Same.t s1 hS2, b1, tb, xb, rfl, .inr (Same.t s1 hSb), fun l2 hl2 => ?_⟩
      have u1 := Same.new (o := .lst xb) hl2
      refine ⟨D, l2, acc, xb, rfl, rfl, u1 _ _ hL, upd_same, Nat.le_trans (show acc.length + xb.length ≤ 1000 by omega) (by decide), fun D3 hD3 => ?_⟩
      have u2 := Same.new (o := .lst (acc ++ xb)) hD3
      have S2 := s1.trans (u1.trans u2)
      have PP : Paired (Pr K (upd (upd H1 l2 (.lst xb)) D3 (.lst (acc ++ xb)))) (acc ++ xb) (rawJ js st) := pair_app ((TM.of (u1.trans u2)).prs hd) ((TM.of S2).prs hPb)
      refine ⟨D3, acc ++ xb, _, rfl, SqL.of upd_same, js_dpp PP, pairs_alike _ [], pairs_sortable _, pairs_depth _, fun ys p3 pm hy hp3 => ⟨p3, ys, rfl, .inl ⟨SqL.of upd_same, fun T1 hT1 => ⟨by show 2 ≤ sizeLine; decide, fun T2 hT2 => ?_⟩⟩⟩⟩
      rw [raw_sort g hst h4] at hy
      have x2 := Same.new (o := .lst ys) hp3
      have x3 := Same.new (o := .tup ys) hT1
      have x4 := Same.new (o := .tup [.int (n : Nat), .ref T1]) hT2
      have x := x2.trans (x3.trans x4)
      exact q (.ref T2) _ (S2.trans x) ⟨T2, .ref T1, rfl, SqT.of upd_same, T1, ys, rfl, SqT.of (x4 _ _ upd_same), (TM.of x).prs (dp_prs hy)⟩
abbrev NSp : List Str := ["lay", "step", "cut", "made", "left", "joint"]
theorem scSp : FnScope NSp ["lay", "step"] (defScope (top 25)) := ⟨rfl, rfl, rfl, by decide +kernel, rfl, by decide +kernel, by decide +kernel⟩
theorem okSp {f : Addr} {fd : FuncData} (F : Fun K "stepped" "stepped" (top 25) f fd) (B : Bn mg) : OkF P w K mg base 1 f fd ["lay", "step"] (spAf K) := by
  refine ok0 F scSp (fun vs H Q E h => ?_) (fun cdv A outer s H vs Q E hgd hr h => ?_)
  · obtain ⟨v1, v2, n, js, st, rfl, _⟩ := h; rfl
  · obtain ⟨v1, v2, n, js, st, rfl, ⟨t, u, rfl, hS, tj, ws, rfl, hSj, hPj⟩, ⟨t2, ua, ub, rfl, hS2, ⟨ta, xa, rfl, hSa, hPa⟩, ⟨tb, xb, rfl, hSb, hPb⟩⟩, g, h4, hst, q⟩ := h
    have nd := scSp.nd
    have jle := g.le
    have g2le := (isSt_good g hst).2.le
    have tp := g.top
    refine ⟨_, (pss_cons (ps_asg (pv 1) (pg_tup (by rfl) (pgs_cons (pg_name (i := 2) nd rfl (.inr rfl)) (pgs_cons (pg_name (i := 3) nd rfl (.inl rfl)) pgs_nil)))) (pss_cons (ps_setLc (i := 4) (own := [("joint", 5)]) (g := gName 5) rfl nd rfl rfl (sw_true rfl rfl rfl (by decide +kernel)) (pi_tup (pe_ix (r := rIxT K) ix_tup (pv 0) pe_int (fun _ _ => rfl))) (blkOk_by (N := NSp) (sc := defScope (top 25)) (by decide +kernel)) (fun _ _ _ _ _ => pg_name (i := 5) nd rfl (Or.inl rfl)) (fun _ _ _ _ _ => pts_one (pt_cmpR (r := rNotInDT K) (op_notInDT (u65 hr)) (pv 5) (pv 2) (by rfl))) (fun _ _ _ _ _ => (pv 5))) (pss_one (ps_ret (pe_tup (pa_cons (pe_ix (r := rIxT K) ix_tup (pv 0) pe_int (fun _ _ => rfl)) (pa_cons (pe_callTy call_tuple_of (by rfl) B.tuple (by decide +kernel) (pa_cons (pe_callB (cr_sortD hr.units) (by rfl) B.sorted (by decide +kernel) (pa_cons (pe_op op_cat (pv 4) (pe_callTy call_list_of (by rfl) B.list (by decide +kernel) (pa_cons (pv 3) pa_nil))) pa_nil)) pa_nil)) pa_nil))))))), ?_⟩
    have a0 : atI [V.int (n : Nat), V.ref tj] 0 = some (.int (n : Nat)) := at_of (j := 0) rfl rfl
    have a1 : atI [V.int (n : Nat), V.ref tj] 1 = some (.ref tj) := at_of (j := 1) rfl rfl
    have b0 : atI [V.ref ta, V.ref tb] 0 = some (.ref ta) := at_of (j := 0) rfl rfl
    have b1 : atI [V.ref ta, V.ref tb] 1 = some (.ref tb) := at_of (j := 1) rfl rfl
    have len : ws.length = js.length := Paired.length hPj
    refine ⟨_, rfl, t2, _, rfl, hS2, rfl, _, _, rfl, _, _, rfl, rfl, ?_⟩
    refine ⟨_, rfl, t, _, 1, .ref tj, rfl, rfl, hS, a1, tj, rfl, ⟨ws, hSj⟩, fun D hD => ?_⟩
    refine lc_it (walk_tup (xs := ws)) (fun i H' => ∃ acc : List V, Same H H' ∧ H' D = some (.lst acc) ∧ Paired (Pr K H') acc ((js.take i).filter fun p => !decide (p ∈ st.1)) ∧ acc.length ≤ i) ⟨[], Same.new hD, upd_same, .nil, Nat.le_refl _⟩ (fun i H' _ hp => by
      obtain ⟨acc, sm, _⟩ := hp
      exact Same.t sm hSj) ?_ ?_
    · rintro i x Ha Hb hi ⟨acc, sm, hL, hd, hal⟩ ⟨rfl, ex⟩
      obtain ⟨p, ep, hx⟩ := paired_at hPj ex
      have hx' := hx.up sm
      refine ⟨rfl, ?_⟩
      obtain ⟨px, rfl, hpx⟩ := hx'
      refine ⟨_, rfl, _, rfl, pairD p, st.1.map pairD, .tup hpx (.cons (.int _) (.cons (.int _) .nil)), .tup (Same.t sm hSa) (js_dpp ((TM.of sm).prs hPa)), shaped_pair p, shaped_pairs st.1, _, rfl, ?_⟩
      rw [any_pair, take_next ep, List.filter_append]
      cases c : (!decide (p ∈ st.1)) with
      | true =>
        refine iteT ⟨_, rfl, acc, hL, Nat.lt_of_le_of_lt (show acc.length ≤ 1000 by omega) (by decide), acc ++ [.ref px], same_put sm hD, upd_same, ?_, by rw [List.length_append]; exact Nat.succ_le_succ hal⟩
        have e1 : ([p].filter fun p => !decide (p ∈ st.1)) = [p] := by simp only [List.filter_cons, c, if_true, List.filter_nil]
        rw [e1]
        exact pair_snoc ((TM.put hL).prs hd) ⟨px, rfl, sqT_put hpx hL⟩
      | false =>
        refine iteF ⟨acc, sm, hL, ?_, Nat.le_succ_of_le hal⟩
        have e1 : ([p].filter fun p => !decide (p ∈ st.1)) = [] := by simp only [List.filter_cons, c, Bool.false_eq_true, if_false, List.filter_nil]
        rw [e1, List.append_nil]
        exact hd
    · rintro H1 ⟨acc, s1, hL, hd, hal⟩
      rw [len, List.take_of_length_le (Nat.le_refl _)] at hd
      refine gn ?_
      have la : acc.length = (js.filter fun p => !decide (p ∈ st.1)).length := Paired.length hd
      have lb : xb.length = st.2.length := Paired.length hPb
      refine ⟨_, rfl, t, _, 0, .int (n : Nat), rfl, rfl, Same.t s1 hS, a0, ?_⟩
      refine ⟨_, rfl, _, rfl, tb, xb, rfl, .inr (Same.t s1 hSb), fun l2 hl2 => ?_⟩
      have u1 := Same.new (o := .lst xb) hl2
      refine ⟨D, l2, acc, xb, rfl, rfl, u1 _ _ hL, upd_same, Nat.le_trans (show acc.length + xb.length ≤ 1000 by omega) (by decide), fun D3 hD3 => ?_⟩
      have u2 := Same.new (o := .lst (acc ++ xb)) hD3
      have S2 := s1.trans (u1.trans u2)
      have PP : Paired (Pr K (upd (upd H1 l2 (.lst xb)) D3 (.lst (acc ++ xb)))) (acc ++ xb) (rawJ js st) := pair_app ((TM.of (u1.trans u2)).prs hd) ((TM.of S2).prs hPb)
      refine ⟨D3, acc ++ xb, _, rfl, SqL.of upd_same, js_dpp PP, pairs_alike _ [], pairs_sortable _, pairs_depth _, fun ys p3 pm hy hp3 => ⟨p3, ys, rfl, .inl ⟨SqL.of upd_same, fun T1 hT1 => ⟨by show 2 ≤ sizeLine; decide, fun T2 hT2 => ?_⟩⟩⟩⟩
      rw [raw_sort g hst h4] at hy
      have x2 := Same.new (o := .lst ys) hp3
      have x3 := Same.new (o := .tup ys) hT1
      have x4 := Same.new (o := .tup [.int (n : Nat), .ref T1]) hT2
      have x := x2.trans (x3.trans x4)
      exact q (.ref T2) _ (S2.trans x) ⟨T2, .ref T1, rfl, SqT.of upd_same, T1, ys, rfl, SqT.of (x4 _ _ upd_same), (TM.of x).prs (dp_prs hy)⟩
end
end K15
-- K15g1
set_option Elab.async false
set_option linter.all false
set_option maxRecDepth 100000
set_option maxHeartbeats 8000000
/-! K14g1: change_by, good_of, change, is_good, good_steps, first_good -/
namespace K15
open PySem L2 DC LamX
theorem TM.up (K : PySem.W.Frag) {H H' : Hp} (e : ExtN H H') : TM K H H' := TM.ex e
def gdJ (n : Nat) (js ls : List J2) : List Stp2 := (stS n js).filter fun st => decide (cst n (aftJ js st) ls + 1 = cst n js ls)
section
variable {P : Program} {w : World} {K : PySem.W.Frag} {mg : Str → Option Value} {base : Heap}
def spCb (K : PySem.W.Frag) (Pt : Addr) : Sp := fun vs H Q _ => ∃ (v1 v2 v3 : V) (n : Nat) (js ls : List J2) (st : Stp2), vs = [v1, v2, v3] ∧ Ly K H v1 n js ∧ Ly K H v2 n ls ∧ Stp K H v3 st ∧ Good n js ∧ Good n ls ∧ n ≤ 12 ∧ IsSt n js st ∧ Tabs (Tw Pt) H ∧
  ∀ (H' : Hp), ExtN H H' → Tabs (Tw Pt) H' → Q (.int (((cst n (aftJ js st) ls : Nat) : Int) - ((cst n js ls : Nat) : Int))) H'
def spGo (K : PySem.W.Frag) (Pt : Addr) : Sp := fun vs H Q _ => ∃ (v1 v2 : V) (n : Nat) (js ls : List J2), vs = [v1, v2] ∧ Ly K H v1 n js ∧ Ly K H v2 n ls ∧ Good n js ∧ Good n ls ∧ n ≤ 12 ∧ Tabs (Tw Pt) H ∧
  ∀ (r : Addr) (us : List V) (H' : Hp), ExtN H H' → Tabs (Tw Pt) H' → H' r = some (.lst us) → Paired (Stp K H') us (gdJ n js ls) → us.length ≤ 1600 → Q (.ref r) H'
abbrev NGo : List Str := ["one", "other", "wanted", "step"]
theorem scGo : FnScope NGo ["one", "other"] (defScope (top 36)) := ⟨rfl, rfl, rfl, by decide +kernel, rfl, by decide +kernel, by decide +kernel⟩
theorem okGo {f fC fSp fSo Pt : Addr} {fd fdC fdSp fdSo : FuncData} (F : Fun K "good_of" "good_of" (top 36) f fd) (B : Bn mg)
    (DC : Df K mg "cost_of" fC fdC ["one", "other"]) (GC : OkF P w K mg base 5 fC fdC ["one", "other"] (spCo K Pt))
    (DSp : Df K mg "stepped" fSp fdSp ["lay", "step"]) (GSp : OkF P w K mg base 1 fSp fdSp ["lay", "step"] (spAf K))
    (DSo : Df K mg "steps_of" fSo fdSo ["lay"]) (GSo : OkF P w K mg base 4 fSo fdSo ["lay"] (spSo K)) : OkF P w K mg base 6 f fd ["one", "other"] (spGo K Pt) := by
  refine ok0 F scGo (fun vs H Q E h => ?_) (fun cdv A outer s H vs Q E hgd hr h => ?_)
  · obtain ⟨v1, v2, n, js, ls, rfl, _⟩ := h; rfl
  · obtain ⟨v1, v2, n, js, ls, rfl, y1, y2, g1, g2, h4, hT, q⟩ := h
    have nd := scGo.nd
    have hr1 : Room 1 _ := hr.mono (by decide)
    have hr4 : Room 4 _ := hr.mono (by decide)
    have hr5 : Room 5 _ := hr.mono (by decide)
    refine ⟨_, (pss_cons (ps_set (i := 2) nd rfl (.inr rfl) (pe_op op_sub (cl DC GC hgd hr5 (pa_cons (pv 0) (pa_cons (pv 1) pa_nil))) pe_int)) (pss_one (ps_ret (pe_lc (own := [("step", 3)]) (g := gName 3) rfl nd (pi_list (cl DSo GSo hgd hr4 (pa_cons (pv 0) pa_nil))) (blkOk_by (N := NGo) (sc := defScope (top 36)) (by decide +kernel)) (fun _ _ _ _ _ => pg_name (i := 3) nd rfl (Or.inl rfl)) (fun _ _ _ _ _ => pts_one (pt_cmpR op_eq (cl DC GC hgd hr5 (pa_cons (cl DSp GSp hgd hr1 (pa_cons (pv 0) (pa_cons (pv 3) pa_nil))) (pa_cons (pv 1) pa_nil))) (pv 2) (nomark _))) (fun _ _ _ _ _ => (pv 3)))))), ?_⟩
    refine ⟨_, rfl, _, rfl, v1, v2, n, js, ls, rfl, y1, y2, g1, g2, hT, fun H1 e1 T1 => ?_⟩
    refine ⟨_, _, rfl, rfl, gn ?_⟩
    refine ⟨_, rfl, v1, n, js, rfl, lyX e1 y1, g1, fun r us H2 s2 f2 hus pus hle => ?_⟩
    have e2 := e1.trans (ExtN.of s2)
    have lu : us.length = (stS n js).length := Paired.length pus
    refine ⟨r, rfl, ⟨_, SqL.of hus⟩, fun D hD => ?_⟩
    have T2 := T1.ext s2
    refine lc_it (walk_list (xs := us)) (fun i H' => ∃ acc : List V, ExtN H2 H' ∧ Tabs (Tw Pt) H' ∧ H' D = some (.lst acc) ∧ acc.length ≤ i ∧ Paired (Stp K H') acc (((stS n js).take i).filter fun st => decide (cst n (aftJ js st) ls + 1 = cst n js ls))) ⟨[], ExtN.of (Same.new hD), T2.ext (Same.new hD), upd_same, Nat.zero_le _, .nil⟩ (fun i H' _ hp => by
      obtain ⟨acc, em, _⟩ := hp
      exact SqL.of (lstX em hus)) ?_ ?_
    · rintro i x Ha Hb hi ⟨acc, em, Tm, hL, hal, hP⟩ ⟨rfl, ex⟩
      obtain ⟨st, es, hx⟩ := paired_at pus ex
      have hst := isSt_of g1 (stS_mem.mp (List.mem_of_getElem? es))
      have e3 := e2.trans em
      refine ⟨rfl, ?_⟩
      refine ⟨_, rfl, _, rfl, v1, x, n, js, st, rfl, lyX e3 y1, (TM.ex em).stp hx, g1, h4, hst, fun va H4 s4 ya => ?_⟩
      have e4 := e3.trans (ExtN.of s4)
      refine ⟨_, rfl, va, v2, n, aftJ js st, ls, rfl, ya, lyX e4 y2, aft_good g1 hst, g2, Tm.ext s4, fun H5 e5 T5 => ?_⟩
      have em5 := em.trans ((ExtN.of s4).trans e5)
      have hL5 := lstX e5 (s4 _ _ hL)
      have hP5 := (TM.ex e5).stps ((TM.of s4).stps hP)
      refine ⟨_, rfl, rfl, _, rfl, ?_⟩
      rw [take_next es, List.filter_append]
      by_cases c : cst n (aftJ js st) ls + 1 = cst n js ls
      · rw [decide_eq_true (show V.int ((cst n (aftJ js st) ls : Nat) : Int) = V.int (((cst n js ls : Nat) : Int) - 1) by rw [← c]; congr 1; omega), show ([st].filter fun st => decide (cst n (aftJ js st) ls + 1 = cst n js ls)) = [st] by simp only [List.filter_cons, List.filter_nil, decide_eq_true c, if_true]]
        refine iteT ⟨_, rfl, acc, hL5, Nat.lt_of_le_of_lt (show acc.length ≤ 2000 by omega) (by decide), acc ++ [x], extN_put em5 hD, tabs_put T5 hL5, upd_same, by rw [List.length_append, List.length_singleton]; omega, ?_⟩
        exact pair_snoc ((TM.put hL5).stps hP5) ((TM.put hL5).stp ((TM.ex em5).stp hx))
      · rw [decide_eq_false (show ¬ V.int ((cst n (aftJ js st) ls : Nat) : Int) = V.int (((cst n js ls : Nat) : Int) - 1) from fun z => c (by have := V.int.inj z; omega)), show ([st].filter fun st => decide (cst n (aftJ js st) ls + 1 = cst n js ls)) = [] by simp only [List.filter_cons, List.filter_nil, decide_eq_false c, Bool.false_eq_true, if_false], List.append_nil]
        exact iteF ⟨acc, em5, T5, hL5, by omega, hP5⟩
    · rintro H3 ⟨acc, em, Tm, hL, hal, hP⟩
      rw [lu, List.take_of_length_le (Nat.le_refl _)] at hP
      exact q D acc H3 (e2.trans em) Tm hL hP (by omega)
def spIg (K : PySem.W.Frag) (Pt : Addr) : Sp := fun vs H Q _ => ∃ (v1 v2 v3 : V) (n : Nat) (js ls : List J2) (st : Stp2), vs = [v1, v2, v3] ∧ Ly K H v1 n js ∧ Ly K H v2 n ls ∧ Stp K H v3 st ∧ Good n js ∧ Good n ls ∧ n ≤ 12 ∧ IsSt n js st ∧ Tabs (Tw Pt) H ∧
  ∀ (H' : Hp), ExtN H H' → Tabs (Tw Pt) H' → Q (.bl (decide (cst n (aftJ js st) ls + 1 = cst n js ls))) H'
def spGs (K : PySem.W.Frag) (Pt : Addr) : Sp := fun vs H Q _ => ∃ (v1 v2 : V) (n : Nat) (js ls : List J2), vs = [v1, v2] ∧ Ly K H v1 n js ∧ Ly K H v2 n ls ∧ Good n js ∧ Good n ls ∧ n ≤ 12 ∧ Tabs (Tw Pt) H ∧
  ∀ (r : Addr) (us : List V) (H' : Hp), ExtN H H' → Tabs (Tw Pt) H' → H' r = some (.tup us) → Paired (Stp K H') us (gdJ n js ls) → us.length ≤ 1600 → Q (.ref r) H'
theorem scGs : FnScope ["one", "other"] ["one", "other"] (defScope (top 37)) := ⟨rfl, rfl, rfl, by decide +kernel, rfl, by decide +kernel, by decide +kernel⟩
theorem okGs {f fTw fGo Pt : Addr} {fd fdTw fdGo : FuncData} (F : Fun K "good_steps" "good_steps" (top 37) f fd) (B : Bn mg)
    (DTw : Df K mg "need_two" fTw fdTw ["one", "other"]) (GTw : OkF P w K mg base 6 fTw fdTw ["one", "other"] (spTwo K))
    (DGo : Df K mg "good_of" fGo fdGo ["one", "other"]) (GGo : OkF P w K mg base 6 fGo fdGo ["one", "other"] (spGo K Pt)) : OkF P w K mg base 7 f fd ["one", "other"] (spGs K Pt) := by
  refine ok0 F scGs (fun vs H Q E h => ?_) (fun cdv A outer s H vs Q E hgd hr h => ?_)
  · obtain ⟨v1, v2, n, js, ls, rfl, _⟩ := h; rfl
  · obtain ⟨v1, v2, n, js, ls, rfl, y1, y2, g1, g2, h4, hT, q⟩ := h
    have nd := scGs.nd
    have hr6 : Room 6 _ := hr.mono (by decide)
    refine ⟨_, (pss_cons (ps_expr (cl DTw GTw hgd hr6 (pa_cons (pv 0) (pa_cons (pv 1) pa_nil)))) (pss_one (ps_ret (pe_callTy call_tuple_of (by rfl) B.tuple (by decide +kernel) (pa_cons (cl DGo GGo hgd hr6 (pa_cons (pv 0) (pa_cons (pv 1) pa_nil))) pa_nil))))), ?_⟩
    refine ⟨_, rfl, _, rfl, v1, v2, n, js, ls, rfl, y1, y2, g1, g2, fun _ H1 s1 => ?_⟩
    refine ⟨_, rfl, _, rfl, v1, v2, n, js, ls, rfl, y1.up s1, y2.up s1, g1, g2, h4, hT.ext s1, fun r us H2 e2 T2 hus pus hle => ?_⟩
    refine ⟨r, us, rfl, .inl ⟨SqL.of hus, fun R hR => ?_⟩⟩
    have s3 := Same.new (o := .tup us) hR
    exact q R us _ ((ExtN.of s1).trans (e2.trans (ExtN.of s3))) (T2.ext s3) upd_same ((TM.of s3).stps pus) hle
def spFg (K : PySem.W.Frag) (Pt : Addr) : Sp := fun vs H Q _ => ∃ (v1 v2 : V) (n : Nat) (js ls : List J2), vs = [v1, v2] ∧ Ly K H v1 n js ∧ Ly K H v2 n ls ∧ Good n js ∧ Good n ls ∧ n ≤ 12 ∧ Tabs (Tw Pt) H ∧
  ∀ (v : V) (H' : Hp), ExtN H H' → Tabs (Tw Pt) H' → (match gdJ n js ls with | [] => v = .non | st :: _ => Stp K H' v st) → Q v H'
abbrev NFg : List Str := ["one", "other", "found"]
theorem scFg : FnScope NFg ["one", "other"] (defScope (top 38)) := ⟨rfl, rfl, rfl, by decide +kernel, rfl, by decide +kernel, by decide +kernel⟩
theorem okFg {f fGs Pt : Addr} {fd fdGs : FuncData} (F : Fun K "first_good" "first_good" (top 38) f fd) (B : Bn mg)
    (DGs : Df K mg "good_steps" fGs fdGs ["one", "other"]) (GGs : OkF P w K mg base 7 fGs fdGs ["one", "other"] (spGs K Pt)) : OkF P w K mg base 8 f fd ["one", "other"] (spFg K Pt) := by
  refine ok0 F scFg (fun vs H Q E h => ?_) (fun cdv A outer s H vs Q E hgd hr h => ?_)
  · obtain ⟨v1, v2, n, js, ls, rfl, _⟩ := h; rfl
  · obtain ⟨v1, v2, n, js, ls, rfl, y1, y2, g1, g2, h4, hT, q⟩ := h
    have nd := scFg.nd
    refine ⟨_, (pss_cons (ps_set (i := 2) nd rfl (.inl rfl) (cl DGs GGs hgd hr (pa_cons (pv 0) (pa_cons (pv 1) pa_nil)))) (pss_one (ps_ret (pe_ifExp (pt_truth (pv 2) (fun _ => rfl)) (pe_ix (r := rIxT K) ix_tup (pv 2) pe_int (fun _ _ => rfl)) pe_non)))), ?_⟩
    refine ⟨_, rfl, _, rfl, v1, v2, n, js, ls, rfl, y1, y2, g1, g2, h4, hT, fun r us H1 e1 T1 hus pus hle => gn ?_⟩
    cases eg : gdJ n js ls with
    | nil =>
      rw [eg] at pus q
      cases pus
      exact ⟨_, rfl, false, (.inr (.inl ⟨_, SqT.of hus, rfl⟩)), iteF (q .non H1 e1 T1 rfl)⟩
    | cons st l =>
      rw [eg] at pus q
      cases pus with
      | cons hx hr =>
        rename_i x xs
        exact ⟨_, rfl, true, (.inr (.inl ⟨_, SqT.of hus, rfl⟩)), iteT ⟨_, rfl, r, _, 0, x, rfl, rfl, SqT.of hus, at_of (j := 0) rfl rfl, q x H1 e1 T1 hx⟩⟩
end
end K15
-- K15g2
set_option Elab.async false
set_option linter.all false
set_option maxRecDepth 100000
set_option maxHeartbeats 8000000
/-! K14g2: is_in_row, sorts -/
namespace K15
open PySem L2 DC LamX
/-- the ends of some joints, each: is it in the row? -/
def inB (row : List Nat) (l : List J2) : List Bool := l.flatMap fun p => [p.1, p.2].map fun e => decide (e ∈ row)
def inRow (st : Stp2) (row : List Nat) : Bool := ((inB row st.1) ++ inB row st.2).all id
theorem inB_snoc {row : List Nat} {l : List J2} {i : Nat} {p : J2} (h : l[i]? = some p) : inB row (l.take (i + 1)) = inB row (l.take i) ++ [p.1, p.2].map fun e => decide (e ∈ row) := by
  unfold inB
  rw [take_next h, List.flatMap_append]
  simp only [List.flatMap_cons, List.flatMap_nil, List.append_nil]
structure BI (H0 H : Hp) (D : Addr) (bs : List Bool) (B : Nat) : Prop where
  sm : Same H0 H
  hL : H D = some (.lst (bs.map V.bl))
  le : bs.length ≤ B
theorem BI.put {H0 H H' : Hp} {D : Addr} {bs : List Bool} {B : Nat} (f : BI H0 H D bs B) (s : Same H H') (h0 : H0 D = none) (b : Bool) : BI H0 (upd H' D (.lst (bs.map V.bl ++ [V.bl b]))) D (bs ++ [b]) (B + 1) := by
  refine ⟨same_put (f.sm.trans s) h0, ?_, by rw [List.length_append, List.length_singleton]; exact Nat.succ_le_succ f.le⟩
  rw [upd_same, List.map_append]
  rfl
theorem isSt_len {n : Nat} {js : List J2} {st : Stp2} (h : IsSt n js st) : st.1.length ≤ 2 ∧ st.2.length ≤ 2 := by
  cases h <;> constructor <;> simp
section
variable {P : Program} {w : World} {K : PySem.W.Frag} {mg : Str → Option Value} {base : Heap}
def spIr (K : PySem.W.Frag) : Sp := fun vs H Q _ => ∃ (v1 : V) (rt : Addr) (st : Stp2) (row : List Nat), vs = [v1, .ref rt] ∧ Stp K H v1 st ∧ SqT K H rt (Vn row) ∧ st.1.length ≤ 2 ∧ st.2.length ≤ 2 ∧ ∀ (H' : Hp), Same H H' → Q (.bl (inRow st row)) H'
abbrev NIr : List Str := ["step", "row", "side", "joint", "end"]
theorem scIr : FnScope NIr ["step", "row"] (defScope (top 39)) := ⟨rfl, rfl, rfl, by decide +kernel, rfl, by decide +kernel, by decide +kernel⟩
theorem okIr {f : Addr} {fd : FuncData} (F : Fun K "is_in_row" "is_in_row" (top 39) f fd) (B : Bn mg) : OkF P w K mg base 1 f fd ["step", "row"] (spIr K) := by
  refine ok0 F scIr (fun vs H Q E h => ?_) (fun cdv A outer s H vs Q E hgd hr h => ?_)
  · obtain ⟨v1, rt, st, row, rfl, _⟩ := h; rfl
  · obtain ⟨v1, rt, st, row, rfl, ⟨t, va, vb, rfl, hS, ja, jb⟩, hR, l1, l2, q⟩ := h
    have nd := scIr.nd
    refine ⟨_, (pss_one (ps_ret (pe_callB (cr_all rfl) (by rfl) B.all (by decide +kernel) (pa_cons (pe_lc3 (own := [("side", 2), ("joint", 3), ("end", 4)]) (vs1 := [3, 4]) (vs2 := [4]) (g := gName 2) (g1 := gName 3) (g2 := gName 4) (tt := tYes) (tt1 := tYes) (tt2 := tYes) rfl nd (pi_tup (pv 0)) (blkOk_by (N := NIr) (sc := defScope (top 39)) (by decide +kernel)) (by decide) (by decide) (fun _ _ _ _ _ => pg_name (i := 2) nd rfl (Or.inl rfl)) (fun _ _ _ _ _ => pts_nil) (fun _ _ _ _ _ => pi_tupK (K := K) (pv 2)) (fun _ _ _ _ _ => pg_name (i := 3) nd rfl (Or.inl rfl)) (fun _ _ _ _ _ => pts_nil) (fun _ _ _ _ _ => pi_tupK (K := K) (pv 3)) (fun _ _ _ _ _ => pg_name (i := 4) nd rfl (Or.inl rfl)) (fun _ _ _ _ _ => pts_nil) (fun _ _ _ _ _ => (pe_cmpR (r := rIn K false) op_in_seq (pv 4) (pv 1) (by rfl)))) pa_nil)))), ?_⟩
    refine ⟨_, rfl, t, rfl, ⟨_, hS⟩, fun D hD => ?_⟩
    refine it_gen (walk_tup (xs := [va, vb])) (fun i H' => BI H H' D (([st.1, st.2].take i).flatMap (inB row)) (4 * i)) ⟨Same.new hD, upd_same, Nat.le_refl _⟩ (fun i H' _ f => Same.t f.sm hS) ?_ ?_
    · rintro i x Ha Hb hi f ⟨rfl, ex⟩
      obtain ⟨side, es, hx, ls⟩ : ∃ side, [st.1, st.2][i]? = some side ∧ Js K H x side ∧ side.length ≤ 2 := by
        have hi : i < 2 := hi
        match i, hi with
        | 0, _ => exact ⟨st.1, rfl, Option.some.inj ex ▸ ja, l1⟩
        | 1, _ => exact ⟨st.2, rfl, Option.some.inj ex ▸ jb, l2⟩
      obtain ⟨ts, ws, rfl, hSs, hPs⟩ := hx
      have lw : ws.length = side.length := Paired.length hPs
      refine ⟨rfl, ?_⟩
      refine yesT ?_
      refine ⟨_, rfl, ts, rfl, ⟨_, Same.t f.sm hSs⟩, ?_⟩
      refine it_gen (walk_tup (xs := ws)) (fun k H' => BI H H' D (([st.1, st.2].take i).flatMap (inB row) ++ inB row (side.take k)) (4 * i + 2 * k)) (by rw [List.take_zero]; show BI _ _ _ (_ ++ []) _; rw [List.append_nil]; exact f) (fun k H' _ f => Same.t f.sm hSs) ?_ ?_
      · rintro k y Hc Hd hk f1 ⟨rfl, ey⟩
        obtain ⟨p, hp, jt, rfl, hj⟩ := pair_at hPs ey
        refine ⟨rfl, ?_⟩
        refine yesT ?_
        refine ⟨_, rfl, jt, rfl, ⟨_, Same.t f1.sm hj⟩, ?_⟩
        refine it_gen (walk_tup (xs := [.int (p.1 : Nat), .int (p.2 : Nat)])) (fun m H' => BI H H' D ((([st.1, st.2].take i).flatMap (inB row) ++ inB row (side.take k)) ++ ([p.1, p.2].take m).map fun e => decide (e ∈ row)) (4 * i + 2 * k + m)) (by rw [List.take_zero]; show BI _ _ _ (_ ++ []) _; rw [List.append_nil]; exact f1) (fun m H' _ f => Same.t f.sm hj) ?_ ?_
        · rintro m z He Hf hm f2 ⟨rfl, ez⟩
          obtain ⟨e, ee, rfl⟩ : ∃ e, [p.1, p.2][m]? = some e ∧ z = V.int (e : Nat) := by
            have hm : m < 2 := hm
            match m, hm with
            | 0, _ => exact ⟨p.1, rfl, (Option.some.inj ez).symm⟩
            | 1, _ => exact ⟨p.2, rfl, (Option.some.inj ez).symm⟩
          have hi : i < 2 := hi
          have hm : m < 2 := hm
          refine ⟨rfl, ?_⟩
          refine yesT ?_
          refine ⟨_, rfl, _, rfl, rt, _, rfl, .inr (Same.t f2.sm hR), rfl, flat_Vn _, ?_⟩
          rw [if_neg Bool.false_ne_true, in_row]
          refine ⟨_, f2.hL, ?_, ?_⟩
          · rw [List.length_map]
            exact Nat.lt_of_le_of_lt f2.le (Nat.lt_of_le_of_lt (show 4 * i + 2 * k + m ≤ 1000 by omega) (by decide))
          · rw [take_next ee, List.map_append, ← List.append_assoc]
            exact f2.put (Same.refl _) hD _
        · rintro H9 f2
          rw [inB_snoc hp, ← List.append_assoc]
          exact ⟨f2.sm, f2.hL, Nat.le_trans f2.le (by show 4 * i + 2 * k + 2 ≤ 4 * i + 2 * (k + 1); omega)⟩
      · rintro H9 f1
        rw [show side.take ws.length = side from List.take_of_length_le (by omega)] at f1
        rw [take_next es, List.flatMap_append]
        simp only [List.flatMap_cons, List.flatMap_nil, List.append_nil]
        exact ⟨f1.sm, f1.hL, Nat.le_trans f1.le (by omega)⟩
    · rintro H9 f
      have e9 : ([st.1, st.2].take 2).flatMap (inB row) = inB row st.1 ++ inB row st.2 := by
        show inB row st.1 ++ (inB row st.2 ++ []) = _
        rw [List.append_nil]
      have f' : BI H H9 D (([st.1, st.2].take 2).flatMap (inB row)) (4 * 2) := f
      rw [e9] at f'
      exact ⟨D, _, rfl, SqL.of f'.hL, q H9 f'.sm⟩
def chJ (n : Nat) (js ls : List J2) : List Int := (stS n js).map fun st => ((cst n (aftJ js st) ls : Nat) : Int) - ((cst n js ls : Nat) : Int)
def cntI (l : List Int) (k : Int) : Nat := l.countP fun x => x == k
theorem count_int (l : List Int) (k : Int) : ((l.map V.int).countP fun z => eqV z (.int k)) = cntI l k := by
  unfold cntI
  rw [List.countP_map]
  rfl
theorem flat_int (l : List Int) : (l.map V.int).all flatV = true := by
  rw [List.all_map]
  exact List.all_eq_true.mpr fun _ _ => rfl
def srtR (n : Nat) (js ls : List J2) : List Nat := [cntI (chJ n js ls) (-1), cntI (chJ n js ls) 0, cntI (chJ n js ls) 1]
def spSr (K : PySem.W.Frag) (Pt : Addr) : Sp := fun vs H Q _ => ∃ (v1 v2 : V) (n : Nat) (js ls : List J2), vs = [v1, v2] ∧ Ly K H v1 n js ∧ Ly K H v2 n ls ∧ Good n js ∧ Good n ls ∧ n ≤ 12 ∧ Tabs (Tw Pt) H ∧
  ∀ (r : Addr) (H' : Hp), ExtN H H' → Tabs (Tw Pt) H' → H' r = some (.tup (Vn (srtR n js ls))) → Q (.ref r) H'
abbrev NSr : List Str := ["one", "other", "here", "changes", "step"]
end
end K15
-- K15g3
set_option Elab.async false
set_option linter.all false
set_option maxRecDepth 100000
set_option maxHeartbeats 8000000
/-! K14g3: good_counts -/
namespace K15
open PySem L2 DC LamX
/-- a block's scope as it stands inside a def -/
def relS (sc o : Scope) : Scope := { sc with names := sc.names.map fun x => if (x.2 == .free && o.kind == .function && o.names.lookup x.1 == some .cell) = true then (x.1, .cell) else x }
/-- the scope of the comprehension that goes over the steps -/
def scIn : Scope := match (defBody (top 40)).getD 2 (.Pass ⟨0, 0, 0, 0⟩) with
  | .Assign _ (.ListComp _ _ s _) _ => relS s (defScope (top 40))
  | _ => defScope (top 40)

/-- a step's ends lie in one piece of the web -/
noncomputable def inW (n : Nat) (js ls : List J2) (st : Stp2) : Bool := @decide (∃ p, Wpc n js ls p ∧ inRow st p.2 = true) (Classical.propDecidable _)
theorem inW_web {n : Nat} {js ls : List J2} {ps : List (Str × List Nat)} (W : IsWeb n js ls ps) (st : Stp2) : (ps.map fun p => inRow st p.2).any id = inW n js ls st := by
  unfold inW
  rw [Bool.eq_iff_iff, List.any_map, List.any_eq_true]
  refine Iff.trans ?_ (@decide_eq_true_iff _ (Classical.propDecidable _)).symm
  constructor
  · rintro ⟨p, hp, h⟩
    exact ⟨p, (W.mem p).mp hp, h⟩
  · rintro ⟨p, hp, h⟩
    exact ⟨p, (W.mem p).mpr hp, h⟩
noncomputable def innJ (n : Nat) (js ls : List J2) : List Stp2 := (gdJ n js ls).filter fun st => inW n js ls st
section
variable {P : Program} {w : World} {K : PySem.W.Frag} {mg : Str → Option Value} {base : Heap}
def spGc (K : PySem.W.Frag) (Pt : Addr) : Sp := fun vs H Q _ => ∃ (v1 v2 : V) (n : Nat) (js ls : List J2), vs = [v1, v2] ∧ Ly K H v1 n js ∧ Ly K H v2 n ls ∧ Good n js ∧ Good n ls ∧ n ≤ 12 ∧ Tabs (Tw Pt) H ∧
  ∀ (r : Addr) (H' : Hp), ExtN H H' → Tabs (Tw Pt) H' → H' r = some (.tup [.int ((innJ n js ls).length : Nat), .int (((gdJ n js ls).length : Nat) - ((innJ n js ls).length : Nat))]) → Q (.ref r) H'
abbrev NGc : List Str := ["one", "other", "found", "known", "inside", "_", "row", "step"]
theorem scGc : FnScope NGc ["one", "other"] (defScope (top 40)) := ⟨rfl, rfl, rfl, by decide +kernel, rfl, by decide +kernel, by decide +kernel⟩
theorem okGc {f fGs fW fIr Pt : Addr} {fd fdGs fdW fdIr : FuncData} (F : Fun K "good_counts" "good_counts" (top 40) f fd) (B : Bn mg) (hA : mg "any" = none)
    (DGs : Df K mg "good_steps" fGs fdGs ["one", "other"]) (GGs : OkF P w K mg base 7 fGs fdGs ["one", "other"] (spGs K Pt))
    (DW : Df K mg "web_of" fW fdW ["one", "other"]) (GW : OkF P w K mg base 3 fW fdW ["one", "other"] (spWeb K Pt))
    (DIr : Df K mg "is_in_row" fIr fdIr ["step", "row"]) (GIr : OkF P w K mg base 1 fIr fdIr ["step", "row"] (spIr K)) : OkF P w K mg base 8 f fd ["one", "other"] (spGc K Pt) := by
  refine ok0 F scGc (fun vs H Q E h => ?_) (fun cdv A outer s H vs Q E hgd hr h => ?_)
  · obtain ⟨v1, v2, n, js, ls, rfl, _⟩ := h; rfl
  · obtain ⟨v1, v2, n, js, ls, rfl, y1, y2, g1, g2, h4, hT, q⟩ := h
    have nd := scGc.nd
    have hr1 : Room 1 _ := hr.mono (by decide)
    have hr3 : Room 3 _ := hr.mono (by decide)
    have hr7 : Room 7 _ := hr.mono (by decide)
    refine ⟨_, (pss_cons (ps_set (i := 2) nd rfl (.inl rfl) (cl DGs GGs hgd hr7 (pa_cons (pv 0) (pa_cons (pv 1) pa_nil)))) (pss_cons (ps_set (i := 3) nd rfl (.inr rfl) (pe_lc (own := [("_", 5), ("row", 6)]) (g := gTup K 2 (gCons (gName 5) (gCons (gName 6) gNil))) (tt := tYes) rfl nd (pi_list (cl DW GW hgd hr3 (pa_cons (pv 0) (pa_cons (pv 1) pa_nil)))) (blkOk_by (N := NGc) (sc := defScope (top 40)) (by decide +kernel)) (fun _ _ _ _ _ => pg_tup (by rfl) (pgs_cons (pg_name (i := 5) nd rfl (Or.inl rfl)) (pgs_cons (pg_name (i := 6) nd rfl (Or.inl rfl)) pgs_nil))) (fun _ _ _ _ _ => pts_nil) (fun _ _ _ _ _ => (pv 6)))) (pss_cons (ps_setLc (i := 4) (own := [("step", 7)]) (g := gName 7) rfl nd rfl rfl (sw_true rfl rfl rfl (by decide +kernel)) (pi_tup (pv 2)) (blkOk_by (N := NGc) (sc := defScope (top 40)) (by decide +kernel)) (fun _ _ _ _ _ => pg_name (i := 7) nd rfl (Or.inr rfl)) (fun _ _ _ _ _ => pts_one (pt_val (pe_callB (r := rAny K) (cr_any rfl) (by rfl) hA (by decide +kernel) (pa_cons (pe_lc (own := [("row", 6)]) (g := gName 6) (tt := tYes) rfl nd (pi_listK (K := K) (pv 3)) (by show BlkOk NGc scIn _ _; exact blkOk_by (by decide +kernel)) (fun _ _ _ _ _ => pg_name (i := 6) nd rfl (Or.inl rfl)) (fun _ _ _ _ _ => pts_nil) (fun _ _ _ _ _ => (cl DIr GIr hgd hr1 (pa_cons (pv 7) (pa_cons (pv 6) pa_nil))))) pa_nil)))) (fun _ _ _ _ _ => (pv 7))) (pss_one (ps_ret (pe_tup (pa_cons (pe_callB (r := rLen K) call_len_seq (by rfl) B.len PySem.boot_len (pa_cons (pv 4) pa_nil)) (pa_cons (pe_op op_sub (pe_callB (r := rLen K) call_len_seq (by rfl) B.len PySem.boot_len (pa_cons (pv 2) pa_nil)) (pe_callB (r := rLen K) call_len_seq (by rfl) B.len PySem.boot_len (pa_cons (pv 4) pa_nil))) pa_nil)))))))), ?_⟩
    refine ⟨_, rfl, _, rfl, v1, v2, n, js, ls, rfl, y1, y2, g1, g2, h4, hT, fun r us H1 e1 T1 hus pus hle => gn ?_⟩
    refine ⟨_, rfl, _, rfl, v1, v2, n, js, ls, rfl, lyX e1 y1, lyX e1 y2, g1, g2, T1, fun ps bs rw xs H2 W' cov e2 T2 _ hrw prw => ?_⟩
    have W := W'.web g1 g2 cov
    generalize eqs : ps.mergeSort (PySem.W.dataLe false rowKey) = qs at prw
    have pq : qs.Perm ps := by rw [← eqs]; exact List.mergeSort_perm _ _
    have Wq := W.of_perm pq
    have lx : xs.length = qs.length := Paired.length prw
    have lq : qs.length ≤ 24 := by
      rw [pq.length_eq]
      have := W.len g1 g2
      have := g1.top
      omega
    have e12 := e1.trans e2
    -- the rows
    refine ⟨rw, rfl, ⟨_, SqL.of hrw⟩, fun D hD => ?_⟩
    refine lc_it (walk_list (xs := xs)) (fun i H' => ∃ acc : List V, Same H2 H' ∧ H' D = some (.lst acc) ∧ Paired (RwP K H') acc (qs.take i) ∧ acc.length ≤ i) ⟨[], Same.new hD, upd_same, .nil, Nat.le_refl _⟩ (fun i H' _ hp => by
      obtain ⟨acc, sm, _⟩ := hp
      exact SqL.of (sm _ _ hrw)) ?_ ?_
    · rintro i x Ha Hb hi ⟨acc, sm, hL, hP, hal⟩ ⟨rfl, ex⟩
      obtain ⟨p, ep, a, b, rfl, hSa, hSb⟩ := paired_at prw ex
      refine ⟨a, _, rfl, Same.t sm hSa, rfl, _, _, rfl, _, _, rfl, rfl, rfl, ?_⟩
      refine yesT ?_
      refine ⟨_, rfl, acc, hL, Nat.lt_of_le_of_lt (show acc.length ≤ 1000 by omega) (by decide), acc ++ [.ref b], same_put sm hD, upd_same, ?_, by rw [List.length_append]; exact Nat.succ_le_succ hal⟩
      rw [take_next ep]
      exact pair_snoc (L2.Paired.mapP hP fun _ _ ⟨t, q, h⟩ => ⟨t, q, sqT_put h hL⟩) ⟨b, rfl, sqT_put (Same.t sm hSb) hL⟩
    rintro H3 ⟨kn, s3, hkn, pkn, lkn⟩
    rw [lx, List.take_of_length_le (Nat.le_refl _)] at pkn
    refine gn ?_
    have e3 := e2.trans (ExtN.of s3)
    have hus3 := tupX e3 hus
    have pus3 := (TM.ex e3).stps pus
    have lu : us.length = (gdJ n js ls).length := Paired.length pus
    -- the steps inside
    refine ⟨_, rfl, r, rfl, ⟨_, SqT.of hus3⟩, fun E hE => ?_⟩
    refine lc_it (walk_tup (xs := us)) (fun i H' => ∃ acc : List V, Same H3 H' ∧ H' E = some (.lst acc) ∧ Paired (Stp K H') acc (((gdJ n js ls).take i).filter fun st => inW n js ls st) ∧ acc.length ≤ i) ⟨[], Same.new hE, upd_same, .nil, Nat.le_refl _⟩ (fun i H' _ hp => by
      obtain ⟨acc, sm, _⟩ := hp
      exact SqT.of (sm _ _ hus3)) ?_ ?_
    · rintro i x Ha Hb hi ⟨acc, sm, hL, hP, hal⟩ ⟨rfl, ex⟩
      obtain ⟨st, es, hx⟩ := paired_at pus3 ex
      have hst : IsSt n js st := isSt_of g1 (stS_mem.mp (List.mem_filter.mp (List.mem_of_getElem? es)).1)
      obtain ⟨l1, l2⟩ := isSt_len hst
      refine ⟨rfl, ?_⟩
      refine ⟨_, rfl, D, rfl, ⟨_, SqL.of (sm _ _ hkn)⟩, fun Z hZ => ?_⟩
      refine lc_it (walk_list (xs := kn)) (fun m H' => BI Hb H' Z ((qs.take m).map fun p => inRow st p.2) m) ⟨Same.new hZ, upd_same, Nat.le_refl _⟩ (fun m H' _ f => SqL.of (f.sm _ _ (sm _ _ hkn))) ?_ ?_
      · rintro m y Hc Hd hm f ⟨rfl, ey⟩
        obtain ⟨p, ep, rt, rfl, hrt⟩ := paired_at pkn ey
        refine ⟨rfl, ?_⟩
        refine yesT ?_
        refine ⟨_, rfl, _, rfl, x, rt, st, p.2, rfl, (TM.of (sm.trans f.sm)).stp hx, Same.t (sm.trans f.sm) hrt, l1, l2, fun H5 s5 => ?_⟩
        refine ⟨_, s5 _ _ f.hL, ?_, ?_⟩
        · rw [List.length_map]
          exact Nat.lt_of_le_of_lt f.le (Nat.lt_of_le_of_lt (show m ≤ 1000 by omega) (by decide))
        · rw [take_next ep, List.map_append]
          exact f.put s5 hZ _
      rintro H5 f
      have s5 := f.sm
      have hL5 := s5 _ _ hL
      rw [show qs.take kn.length = qs from List.take_of_length_le (by rw [Paired.length pkn]; exact Nat.le_refl _)] at f
      refine ⟨Z, _, rfl, SqL.of f.hL, ?_⟩
      rw [inW_web Wq st]
      refine ⟨_, rfl, ?_⟩
      rw [take_next es, List.filter_append]
      cases c : inW n js ls st with
      | true =>
        refine iteT ⟨_, rfl, acc, hL5, Nat.lt_of_le_of_lt (show acc.length ≤ 2000 by omega) (by decide), acc ++ [x], same_put (sm.trans s5) hE, upd_same, ?_, by rw [List.length_append]; exact Nat.succ_le_succ hal⟩
        rw [show ([st].filter fun st => inW n js ls st) = [st] by simp only [List.filter_cons, List.filter_nil, c, if_true]]
        exact pair_snoc (((TM.of s5).trans (TM.put hL5)).stps hP) (((TM.of (sm.trans s5)).trans (TM.put hL5)).stp hx)
      | false =>
        refine iteF ⟨acc, sm.trans s5, hL5, ?_, by omega⟩
        rw [show ([st].filter fun st => inW n js ls st) = [] by simp only [List.filter_cons, List.filter_nil, c, Bool.false_eq_true, if_false], List.append_nil]
        exact (TM.of s5).stps hP
    rintro H4 ⟨ins, s4, hins, pins, lins⟩
    rw [lu, List.take_of_length_le (Nat.le_refl _)] at pins
    have li : ins.length = (innJ n js ls).length := Paired.length pins
    refine gn ?_
    refine ⟨_, rfl, E, _, rfl, .inl (SqL.of hins), ?_⟩
    refine ⟨_, rfl, r, _, rfl, .inr (SqT.of (s4 _ _ hus3)), ?_⟩
    refine ⟨_, rfl, E, _, rfl, .inl (SqL.of hins), ?_⟩
    refine ⟨_, _, rfl, rfl, by show 2 ≤ sizeLine; decide, fun R hR => ?_⟩
    rw [li, lu]
    have s5 := Same.new (o := .tup [.int ((innJ n js ls).length : Nat), .int (((gdJ n js ls).length : Nat) - ((innJ n js ls).length : Nat))]) hR
    exact q R _ (e1.trans (e3.trans (ExtN.of (s4.trans s5)))) (T2.ext (s3.trans (s4.trans s5))) upd_same
end
end K15
-- K15g4
set_option Elab.async false
set_option linter.all false
set_option maxRecDepth 100000
set_option maxHeartbeats 8000000
/-! K14g4: _law_is_within -/
namespace K15
open PySem L2 DC LamX
/-- the scope of the comprehension that goes over the heaps -/
def stE (l : List J2) : List Nat := l.flatMap fun p => [p.1, p.2]
theorem stE_snoc {l : List J2} {i : Nat} {p : J2} (h : l[i]? = some p) : stE (l.take (i + 1)) = stE (l.take i) ++ [p.1, p.2] := by
  unfold stE
  rw [take_next h, List.flatMap_append]
  simp only [List.flatMap_cons, List.flatMap_nil, List.append_nil]
theorem stE_len : ∀ l : List J2, (stE l).length = 2 * l.length
  | [] => rfl
  | p :: l => by
    have := stE_len l
    show ([p.1, p.2] ++ stE l).length = _
    rw [List.length_append, this, List.length_cons, List.length_cons, List.length_cons, List.length_nil]
    omega
theorem inRow_all (st : Stp2) (row : List Nat) : inRow st row = (stE (st.1 ++ st.2)).all fun e => decide (e ∈ row) := by
  have h : ∀ l : List J2, (inB row l).all id = (stE l).all fun e => decide (e ∈ row) := fun l => by
    induction l with
    | nil => rfl
    | cons p l ih =>
      show (([p.1, p.2].map fun e => decide (e ∈ row)) ++ inB row l).all id = ([p.1, p.2] ++ stE l).all _
      rw [List.all_append, List.all_append, ih, List.all_map]
      rfl
  unfold inRow
  rw [List.all_append, h, h, ← List.all_append]
  congr 1
  unfold stE
  rw [List.flatMap_append]
theorem inRow_perm {row row' : List Nat} (p : row.Perm row') (st : Stp2) : inRow st row = inRow st row' := by
  rw [inRow_all, inRow_all]
  congr 1
  funext e
  exact decide_eq_decide.mpr p.mem_iff
theorem filter_none (l row : List Nat) : (l.filter fun e => !decide (e ∈ row)).isEmpty = l.all fun e => decide (e ∈ row) := by
  induction l with
  | nil => rfl
  | cons e l ih =>
    rw [List.all_cons, ← ih, List.filter_cons]
    cases decide (e ∈ row) <;> rfl
theorem eqv_nil (cs : List Int) : PyData.eqv (intD cs) (intD []) = cs.isEmpty := by
  cases cs <;> rfl
theorem catA_of {K : PySem.W.Frag} {H : Hp} {a b : Addr} {xs ys : List V} {Q : VK} (h1 : SqT K H a xs) (h2 : SqT K H b ys) (hl : xs.length + ys.length ≤ sizeLine) (q : ∀ (r : Addr) (H' : Hp), Same H H' → SqT K H' r (xs ++ ys) → Q (.ref r) H') : rCatA K (.ref a) (.ref b) H Q := by
  refine ⟨a, b, xs, ys, rfl, rfl, h1, h2, hl, fun e => ?_, fun _ e => ?_, fun _ _ p hp => ?_⟩
  · rw [e] at q
    exact q b H (Same.refl _) h2
  · rw [e, List.append_nil] at q
    exact q a H (Same.refl _) h1
  · exact q p _ (Same.new hp) (SqT.of upd_same)
section
variable {P : Program} {w : World} {K : PySem.W.Frag} {mg : Str → Option Value} {base : Heap}
def spWi (K : PySem.W.Frag) : Sp := fun vs H Q _ => ∃ (hs : Addr) (v2 : V) (xs : List V) (ps : List (Str × List Nat)) (st : Stp2), vs = [.ref hs, v2] ∧ H hs = some (.lst xs) ∧ Paired (HpP K H) xs ps ∧ ps.length ≤ 100 ∧ Stp K H v2 st ∧ st.1.length ≤ 2 ∧ st.2.length ≤ 2 ∧
  ∀ (H' : Hp), Same H H' → Q (.bl (ps.any fun p => inRow st p.2)) H'
abbrev NWi : List Str := ["heaps_so", "step_so", "ends", "joint", "heap", "end"]
end
end K15
-- K15g5
set_option Elab.async false
set_option linter.all false
set_option maxRecDepth 100000
set_option maxHeartbeats 8000000
/-! K14g5: what the law's data are -/
namespace K15
open PySem L2 DC LamX
section
variable {n : Nat} {js ls : List J2}
theorem ch_range (g : Good n js) (gl : Good n ls) {x : Int} (h : x ∈ chJ n js ls) : x = -1 ∨ x = 0 ∨ x = 1 := by
  obtain ⟨st, hs, rfl⟩ := List.mem_map.mp h
  have hst := isSt_of g (stS_mem.mp hs)
  obtain ⟨a, b⟩ := st_gain g gl hst
  omega
theorem gd_nil (g : Good n js) (gl : Good n ls) : gdJ n js ls = [] ↔ js = ls := by
  constructor
  · intro h
    by_cases e : js = ls
    · exact e
    · obtain ⟨st, hs, hc⟩ := good_ex g gl e
      have : st ∈ gdJ n js ls := List.mem_filter.mpr ⟨stS_mem.mpr hs, decide_eq_true hc⟩
      rw [h] at this
      exact absurd this List.not_mem_nil
  · rintro rfl
    refine List.filter_eq_nil_iff.mpr fun st _ h => ?_
    have := of_decide_eq_true h
    rw [TI.cst_self g] at this
    omega
theorem isSt_lt (g : Good n js) {st : Stp2} (h : IsSt n js st) : (∀ p ∈ st.1, p.1 < 1000 ∧ p.2 < 1000) ∧ ∀ p ∈ st.2, p.1 < 1000 ∧ p.2 < 1000 := by
  obtain ⟨a, b⟩ := isSt_good g h
  have tp := g.top
  refine ⟨fun p hp => ?_, fun p hp => ?_⟩
  · have := a.rng p hp
    omega
  · have := b.rng p hp
    omega
theorem short_st (g : Good n js) {st : Stp2} (h : IsSt n js st) : Short (stD st) 300 3 := by
  obtain ⟨r1, r2⟩ := isSt_lt g h
  obtain ⟨l1, l2⟩ := isSt_len h
  have side : ∀ l : List J2, (∀ p ∈ l, p.1 < 1000 ∧ p.2 < 1000) → l.length ≤ 2 → Short (.tuple (l.map pairD)) 108 2 := fun l r hl => by
    refine (short_tuple (B := 50) (D := 1) (L := 2) (fun d hd => ?_) (by rw [List.length_map]; exact hl)).mono (by decide) (by decide)
    obtain ⟨p, hp, rfl⟩ := List.mem_map.mp hd
    exact short_pair (r p hp).1 (r p hp).2
  unfold stD
  refine (short_tuple (B := 108) (D := 2) (L := 2) (fun d hd => ?_) (Nat.le_refl _)).mono (by decide) (by decide)
  simp only [List.mem_cons, List.not_mem_nil, or_false] at hd
  rcases hd with rfl | rfl
  · exact side _ r1 l1
  · exact side _ r2 l2
def gdD (n : Nat) (js ls : List J2) : PyData := .tuple ((gdJ n js ls).map stD)
def foD (n : Nat) (js ls : List J2) : PyData := match gdJ n js ls with | [] => .none | st :: _ => stD st
def scD (n : Nat) (js ls : List J2) : PyData := .tuple ((srtR n js ls).map fun x => PyData.int (x : Nat))
noncomputable def gcD (n : Nat) (js ls : List J2) : PyData := .tuple [.int ((innJ n js ls).length : Nat), .int ((((gdJ n js ls).length : Nat) : Int) - (((innJ n js ls).length : Nat) : Int))]
theorem gd_isSt (g : Good n js) {st : Stp2} (h : st ∈ gdJ n js ls) : IsSt n js st := isSt_of g (stS_mem.mp (List.mem_filter.mp h).1)
theorem short_none : Short .none 5 0 := ⟨rfl, Nat.le_refl _, Nat.le_refl _⟩
theorem short_bool (b : Bool) : Short (.bool b) 5 0 := ⟨rfl, Nat.le_refl _, Nat.le_refl _⟩
theorem short_gd (g : Good n js) (hl : (stS n js).length ≤ 300) : Short (gdD n js ls) 100000 4 := by
  refine (short_tuple (B := 300) (D := 3) (L := 300) (fun d hd => ?_) ?_).mono (by decide) (by decide)
  · obtain ⟨st, hs, rfl⟩ := List.mem_map.mp hd
    exact short_st g (gd_isSt g hs)
  · rw [List.length_map]
    exact Nat.le_trans (List.length_filter_le _ _) hl
theorem short_fo (g : Good n js) : Short (foD n js ls) 300 3 := by
  unfold foD
  have h := fun st (h : st ∈ gdJ n js ls) => short_st g (gd_isSt g h)
  cases e : gdJ n js ls with
  | nil => exact short_none.mono (by decide) (by decide)
  | cons st l =>
    rw [e] at h
    exact h st List.mem_cons_self
theorem short_sc (hl : (stS n js).length ≤ 300) : Short (scD n js ls) 100 1 := by
  have c : ∀ k, cntI (chJ n js ls) k ≤ 300 := fun k => by
    refine Nat.le_trans List.countP_le_length ?_
    unfold chJ
    rw [List.length_map]
    exact hl
  refine (short_tuple (B := 21) (D := 0) (L := 3) (fun d hd => ?_) (Nat.le_refl _)).mono (by decide) (by decide)
  obtain ⟨x, hx, rfl⟩ := List.mem_map.mp hd
  unfold srtR at hx
  simp only [List.mem_cons, List.not_mem_nil, or_false] at hx
  rcases hx with rfl | rfl | rfl <;> exact short_int (Nat.lt_of_le_of_lt (c _) (by decide))
theorem short_gc (hl : (stS n js).length ≤ 300) : Short (gcD n js ls) 100 1 := by
  have h1 : (gdJ n js ls).length ≤ 300 := Nat.le_trans (List.length_filter_le _ _) hl
  have h2 : (innJ n js ls).length ≤ (gdJ n js ls).length := List.length_filter_le _ _
  refine (short_tuple (B := 21) (D := 0) (L := 2) (fun d hd => ?_) (Nat.le_refl _)).mono (by decide) (by decide)
  simp only [List.mem_cons, List.not_mem_nil, or_false] at hd
  rcases hd with rfl | rfl
  · exact short_int (by omega)
  · rw [show (((gdJ n js ls).length : Nat) : Int) - (((innJ n js ls).length : Nat) : Int) = (((gdJ n js ls).length - (innJ n js ls).length : Nat) : Int) by omega]
    exact short_int (by omega)
theorem short_told (g : Good n js) (hl : (stS n js).length ≤ 300) : Short (.list [gdD n js ls, foD n js ls, scD n js ls, gcD n js ls]) 500000 5 := by
  refine (short_list (B := 100000) (D := 4) (L := 4) (fun d hd => ?_) (Nat.le_refl _)).mono (by decide) (by decide)
  simp only [List.mem_cons, List.not_mem_nil, or_false] at hd
  rcases hd with rfl | rfl | rfl | rfl
  · exact short_gd g hl
  · exact (short_fo g).mono (by decide) (by decide)
  · exact (short_sc hl).mono (by decide) (by decide)
  · exact (short_gc hl).mono (by decide) (by decide)
theorem short_one {x : Int} (h : x = -1 ∨ x = 0 ∨ x = 1) (b : Bool) : Short (.list [.int x, .bool b]) 100 1 := by
  have hx : Short (.int x) 21 0 := ⟨by simp only [sm, decide_eq_true_eq]; rcases h with rfl | rfl | rfl <;> decide, by simp only [wt, Nat.le_refl], by simp only [PyData.depth, Nat.le_refl]⟩
  refine (short_list (B := 21) (D := 0) (L := 2) (fun d hd => ?_) (Nat.le_refl _)).mono (by decide) (by decide)
  simp only [List.mem_cons, List.not_mem_nil, or_false] at hd
  rcases hd with rfl | rfl
  · exact hx
  · exact (short_bool b).mono (by decide) (by decide)
theorem short_two (g : Good n js) (gl : Good n ls) : Short (.list [layD n js, layD n ls]) 5000 5 := by
  refine (short_list (B := 2000) (D := 4) (L := 2) (fun d hd => ?_) (Nat.le_refl _)).mono (by decide) (by decide)
  simp only [List.mem_cons, List.not_mem_nil, or_false] at hd
  rcases hd with rfl | rfl
  · exact short_lay g
  · exact short_lay gl
theorem shaped_layD (n : Nat) (js : List J2) : SeqAt.shaped (layD n js) = true := by
  have h1 := depth_pairs js
  unfold SeqAt.shaped
  rw [Bool.and_eq_true]
  refine ⟨?_, decide_eq_true ?_⟩
  · show PyData.canLay0 (.tuple [.int (n : Nat), .tuple (js.map pairD)]) = true
    simp only [PyData.canLay0, PyData.canLayAll0, lay_pairs, Bool.and_self]
  · show (PyData.tuple [.int (n : Nat), .tuple (js.map pairD)]).depth ≤ _
    simp only [PyData.depth, PyData.depthAll]
    omega
theorem eqv_layD (n : Nat) (js ls : List J2) : PyData.eqv (layD n js) (layD n ls) = decide (js = ls) := by
  show PyData.eqv (.tuple [.int (n : Nat), .tuple (js.map pairD)]) (.tuple [.int (n : Nat), .tuple (ls.map pairD)]) = _
  simp only [PyData.eqv, PyData.eqvAll, eqv_prs, Bool.and_true, beq_self_eq_true, Bool.true_and]
theorem eqv_sts (l : List Stp2) : PyData.eqv (.list (l.map stD)) (.list []) = l.isEmpty := by
  cases l <;> rfl
/-- the gains that are no gains: none -/
theorem gains_ok (g : Good n js) (gl : Good n ls) : ((chJ n js ls).filter fun x => !(x == -1 || x == 0 || x == 1)) = [] := by
  refine List.filter_eq_nil_iff.mpr fun x hx h => ?_
  rcases ch_range g gl hx with rfl | rfl | rfl <;> exact nomatch h
theorem gd_at {i : Nat} {st : Stp2} (h : (stS n js)[i]? = some st) : (chJ n js ls)[i]? = some (((cst n (aftJ js st) ls : Nat) : Int) - ((cst n js ls : Nat) : Int)) := by
  unfold chJ
  rw [List.getElem?_map, h]
  rfl
theorem srt_at : ([-1, 0, 1] : List Int).map (fun k => cntI (chJ n js ls) k) = srtR n js ls := rfl
theorem gd_inn (g : Good n js) {ps : List (Str × List Nat)} (W : IsWeb n js ls ps) : ((gdJ n js ls).filter fun st => ps.any fun p => inRow st p.2) = innJ n js ls := by
  unfold innJ
  refine List.filter_congr fun st _ => ?_
  rw [← inW_web W st, List.any_map]
  rfl
end
end K15
-- JN
set_option Elab.async false
set_option linter.all false
set_option maxRecDepth 100000
set_option maxHeartbeats 4000000
/-! JN: two free ends come to be joined: what it does to the heaps, their kinds, the cost. -/
namespace TI
open PySem L2 DC
structure Jn (js js' : List J2) (e e' : Nat) : Prop where
  ne : e ≠ e'
  f1 : mt js e = none
  f2 : mt js e' = none
  e1 : mt js' e = some e'
  e2 : mt js' e' = some e
  ot : ∀ i, i ≠ e → i ≠ e' → mt js' i = mt js i
theorem Jn.symm {js js' : List J2} {e e' : Nat} (J : Jn js js' e e') : Jn js js' e' e := ⟨J.ne.symm, J.f2, J.f1, J.e2, J.e1, fun i h1 h2 => J.ot i h2 h1⟩
abbrev Sm (js ls : List J2) (x y : Nat) : Prop := Cl (mt js) (mt ls) x y
section
variable {n : Nat} {js js' ls : List J2} {e e' : Nat}
theorem jn_up (J : Jn js js' e e') {x y : Nat} (h : Sm js ls x y) : Sm js' ls x y := by
  induction h with
  | base => exact .base
  | @step a b _ nb ih =>
    refine ih.step ?_
    rcases nb with nb | nb
    · refine .inl ?_
      rw [J.ot a (fun z => by rw [z, J.f1] at nb; exact nomatch nb) (fun z => by rw [z, J.f2] at nb; exact nomatch nb)]
      exact nb
    · exact .inr nb
theorem jn_dn (J : Jn js js' e e') {x y : Nat} (h : Sm js' ls x y) : Sm js ls x y ∨ (Sm js ls x e ∧ Sm js ls e' y) ∨ (Sm js ls x e' ∧ Sm js ls e y) := by
  refine cl_closed (S := fun y => Sm js ls x y ∨ (Sm js ls x e ∧ Sm js ls e' y) ∨ (Sm js ls x e' ∧ Sm js ls e y)) (.inl .base) (fun a b ha nb => ?_) h
  have ext : Nb (mt js) (mt ls) a b → (Sm js ls x b ∨ (Sm js ls x e ∧ Sm js ls e' b) ∨ (Sm js ls x e' ∧ Sm js ls e b)) := fun nb => by
    rcases ha with h | ⟨h1, h2⟩ | ⟨h1, h2⟩
    · exact .inl (h.step nb)
    · exact .inr (.inl ⟨h1, h2.step nb⟩)
    · exact .inr (.inr ⟨h1, h2.step nb⟩)
  rcases nb with nb | nb
  · by_cases c1 : a = e
    · subst c1
      rw [J.e1] at nb
      obtain rfl := Option.some.inj nb
      rcases ha with h | ⟨h1, h2⟩ | ⟨h1, h2⟩
      · exact .inr (.inl ⟨h, .base⟩)
      · exact .inr (.inl ⟨h1, .base⟩)
      · exact .inl h1
    · by_cases c2 : a = e'
      · subst c2
        rw [J.e2] at nb
        obtain rfl := Option.some.inj nb
        rcases ha with h | ⟨h1, h2⟩ | ⟨h1, h2⟩
        · exact .inr (.inr ⟨h, .base⟩)
        · exact .inl h1
        · exact .inr (.inr ⟨h1, .base⟩)
      · rw [J.ot a c1 c2] at nb
        exact ext (.inl nb)
  · exact ext (.inr nb)
theorem jn_edge (J : Jn js js' e e') : Sm js' ls e e' := .step .base (.inl J.e1)
theorem jn_iff (J : Jn js js' e e') (g' : Good n js') (gl : Good n ls) {x y : Nat} : Sm js' ls x y ↔ Sm js ls x y ∨ (Sm js ls x e ∧ Sm js ls e' y) ∨ (Sm js ls x e' ∧ Sm js ls e y) := by
  refine ⟨jn_dn J, ?_⟩
  rintro (h | ⟨h1, h2⟩ | ⟨h1, h2⟩)
  · exact jn_up J h
  · exact cl_trans (jn_up J h1) (cl_trans (jn_edge J) (jn_up J h2))
  · exact cl_trans (jn_up J h1) (cl_trans (cl_symm g'.mt gl.mt (jn_edge J)) (jn_up J h2))
/-! heaps -/
abbrev Hp1 (n : Nat) (js ls : List J2) (h : List Nat) : Prop := ∃ a, a < 2 * n ∧ Cls (2 * n) (mt js) (mt ls) a h
structure Hq (n : Nat) (js ls : List J2) (hs : List (List Nat)) : Prop where
  cl : ∀ h ∈ hs, Hp1 n js ls h
  dis : hs.Pairwise fun h h' => ∀ e, e ∈ h → e ∉ h'
  cov : ∀ e, e < 2 * n → ∃ h ∈ hs, e ∈ h
def vk (f g : Nat) : Nat := if f = 0 ∧ g = 0 then 2 else if f = 1 then 1 else 0
def wk (js ls : List J2) (h : List Nat) : Nat := vk (cn js h) (cn ls h)
theorem wk_perm {h h' : List Nat} (p : h.Perm h') : wk js ls h = wk js ls h' := by
  unfold wk
  rw [cn_perm p, cn_perm p]
theorem hp_cnt (g : Good n js) (gl : Good n ls) {h : List Nat} (H : Hp1 n js ls h) : (cn js h = 0 ∧ cn ls h = 0) ∨ (cn js h = 1 ∧ cn ls h = 1) ∨ (cn js h = 2 ∧ cn ls h = 0) ∨ (cn js h = 0 ∧ cn ls h = 2) := by
  obtain ⟨a, ha, c⟩ := H
  obtain ⟨p, hp, hm⟩ := cls_wpc g gl ha c
  rw [cn_perm hm, cn_perm hm]
  rcases wpc_cnt g gl hp with ⟨x, y, _⟩ | ⟨x, y, _⟩ | ⟨x, y, _⟩ | ⟨x, y, _⟩
  · exact .inl ⟨x, y⟩
  · exact .inr (.inl ⟨x, y⟩)
  · exact .inr (.inr (.inl ⟨x, y⟩))
  · exact .inr (.inr (.inr ⟨x, y⟩))
theorem wk_wpc (g : Good n js) (gl : Good n ls) {p : Pc} (hp : Wpc n js ls p) : wk js ls p.2 = wd p := by
  unfold wk vk wd
  rcases wpc_cnt g gl hp with ⟨x, y, z⟩ | ⟨x, y, z⟩ | ⟨x, y, z⟩ | ⟨x, y, z⟩ <;> rw [x, y, z] <;> decide +kernel
theorem hq_web (g : Good n js) (gl : Good n ls) {ps : List Pc} (W : IsWeb n js ls ps) : Hq n js ls (ps.map fun p => p.2) := by
  refine ⟨fun h hh => ?_, ?_, fun x hx => ?_⟩
  · obtain ⟨p, hp, rfl⟩ := List.mem_map.mp hh
    obtain ⟨a, ha, c, _⟩ := (W.mem p).mp hp
    exact ⟨a, ha, c⟩
  · rw [List.pairwise_map]
    refine List.Pairwise.imp_of_mem (fun {p q} hp hq d x h1 h2 => ?_) W.nd
    exact d (wpc_uniq g gl ((W.mem p).mp hp) ((W.mem q).mp hq) h1 h2)
  · obtain ⟨p, hp, hm⟩ := W.cov g gl x hx
    exact ⟨p.2, List.mem_map.mpr ⟨p, hp, rfl⟩, hm⟩
theorem hq_ex (g : Good n js) (gl : Good n ls) : ∃ hs, Hq n js ls hs := by
  obtain ⟨ps, W⟩ := web_ex g gl
  exact ⟨_, hq_web g gl W⟩
theorem Hq.of_perm {hs hs' : List (List Nat)} (A : Hq n js ls hs) (p : hs'.Perm hs) : Hq n js ls hs' :=
  ⟨fun h hh => A.cl h (p.mem_iff.mp hh), (p.pairwise_iff (fun {x y} d e h1 h2 => d e h2 h1)).mpr A.dis, fun e he => by
    obtain ⟨h, hh, hm⟩ := A.cov e he
    exact ⟨h, p.mem_iff.mpr hh, hm⟩⟩
theorem sum_perm {l l' : List Nat} (p : l.Perm l') : l.sum = l'.sum := by
  induction p with
  | nil => rfl
  | cons x _ ih => rw [List.sum_cons, List.sum_cons, ih]
  | swap x y l => rw [List.sum_cons, List.sum_cons, List.sum_cons, List.sum_cons]; omega
  | trans _ _ a b => exact a.trans b
theorem hq_cst (g : Good n js) (gl : Good n ls) {hs : List (List Nat)} (A : Hq n js ls hs) : 2 * cst n js ls + (hs.map (wk js ls)).sum = 2 * n := by
  obtain ⟨ps, W⟩ := web_ex g gl
  have A' : Hps n js ls (hs.map asc) := by
    refine ⟨fun h hh => ?_, ?_, fun x hx => ?_⟩
    · obtain ⟨k, hk, rfl⟩ := List.mem_map.mp hh
      obtain ⟨a, ha, c⟩ := A.cl k hk
      obtain ⟨p, hp, hm⟩ := cls_wpc g gl ha c
      exact ⟨p, hp, asc_same hm⟩
    · rw [List.pairwise_map]
      refine A.dis.imp fun {h h'} d x h1 h2 => ?_
      exact d x ((asc_perm h).mem_iff.mp h1) ((asc_perm h').mem_iff.mp h2)
    · obtain ⟨h, hh, hm⟩ := A.cov x hx
      exact ⟨asc h, List.mem_map.mpr ⟨h, hh, rfl⟩, (asc_perm h).mem_iff.mpr hm⟩
  have P := A'.perm W g gl
  have e1 : hs.map (wk js ls) = (hs.map asc).map (wk js ls) := by
    rw [List.map_map]
    exact List.map_congr_left fun h _ => (wk_perm (asc_perm h)).symm
  have e2 : ((ps.map fun p => asc p.2).map (wk js ls)) = ps.map wd := by
    rw [List.map_map]
    exact List.map_congr_left fun p hp => (wk_perm (asc_perm p.2)).trans (wk_wpc g gl ((W.mem p).mp hp))
  rw [e1, sum_perm (P.map _), e2]
  exact cst_dm g gl W
/-! free ends of a heap -/
theorem cn_split {h : List Nat} {x : Nat} (hx : x ∈ h) : cn js h = cn js (h.erase x) + if (mt js x).isNone = true then 1 else 0 := by
  rw [cn_perm (List.perm_cons_erase hx)]
  unfold cn
  rw [List.countP_cons]
theorem cn_eq {h : List Nat} (H : ∀ x ∈ h, mt js' x = mt js x) : cn js' h = cn js h := by
  unfold cn
  exact List.countP_congr fun x hx => by rw [H x hx]
theorem cn_off (J : Jn js js' e e') {h : List Nat} (h1 : e ∉ h) (h2 : e' ∉ h) : cn js' h = cn js h :=
  cn_eq fun x hx => J.ot x (fun z => h1 (z ▸ hx)) (fun z => h2 (z ▸ hx))
theorem cn_one (J : Jn js js' e e') {h : List Nat} (nd : h.Nodup) (h1 : e ∈ h) (h2 : e' ∉ h) : cn js h = cn js' h + 1 := by
  rw [cn_split (js := js) h1, cn_split (js := js') h1, J.f1, J.e1, cn_off (h := h.erase e) J (fun z => ((List.Nodup.mem_erase_iff nd).mp z).1 rfl) (fun z => h2 (List.mem_of_mem_erase z))]
  rfl
theorem cn_two (J : Jn js js' e e') {h : List Nat} (nd : h.Nodup) (h1 : e ∈ h) (h2 : e' ∈ h) : cn js h = cn js' h + 2 := by
  have h3 : e' ∈ h.erase e := (List.Nodup.mem_erase_iff nd).mpr ⟨J.ne.symm, h2⟩
  have nd2 := nd.erase e
  rw [cn_split (js := js) h1, cn_split (js := js') h1, J.f1, J.e1, cn_split (js := js) h3, cn_split (js := js') h3, J.f2, J.e2, cn_off (h := (h.erase e).erase e') J (fun z => ((List.Nodup.mem_erase_iff nd).mp (List.mem_of_mem_erase z)).1 rfl) (fun z => ((List.Nodup.mem_erase_iff nd2).mp z).1 rfl)]
  rfl
theorem cn_app (h k : List Nat) : cn js (h ++ k) = cn js h + cn js k := List.countP_append
/-! kinds -/
/-- the heap of x has f ends free here, g there -/
def Ks (n : Nat) (js ls : List J2) (x f g : Nat) : Prop := ∃ h, Hp1 n js ls h ∧ x ∈ h ∧ cn js h = f ∧ cn ls h = g
theorem hp_same (g : Good n js) (gl : Good n ls) {h k : List Nat} (H : Hp1 n js ls h) (K : Hp1 n js ls k) {x : Nat} (hx : x ∈ h) (kx : x ∈ k) : h.Perm k := by
  obtain ⟨a, _, c⟩ := H
  obtain ⟨b, _, d⟩ := K
  exact (List.perm_ext_iff_of_nodup c.nd d.nd).mpr fun y => ⟨fun z => c.meet g.mt gl.mt d hx kx y z, fun z => d.meet g.mt gl.mt c kx hx y z⟩
theorem ks_uniq (g : Good n js) (gl : Good n ls) {x f1 g1 f2 g2 : Nat} (h : Ks n js ls x f1 g1) (k : Ks n js ls x f2 g2) : f1 = f2 ∧ g1 = g2 := by
  obtain ⟨h, H, hx, rfl, rfl⟩ := h
  obtain ⟨k, K, kx, rfl, rfl⟩ := k
  have p := hp_same g gl H K hx kx
  exact ⟨cn_perm p, cn_perm p⟩
theorem hp_mem {h : List Nat} (g : Good n js) (gl : Good n ls) (H : Hp1 n js ls h) {x : Nat} (hx : x ∈ h) (y : Nat) : y ∈ h ↔ Sm js ls x y := by
  obtain ⟨a, _, c⟩ := H
  have ax := (c.mem x).mp hx
  rw [c.mem y]
  exact ⟨fun z => cl_trans (cl_symm g.mt gl.mt ax) z, fun z => cl_trans ax z⟩
theorem ks_ex (g : Good n js) (gl : Good n ls) {x : Nat} (hx : x < 2 * n) : ∃ f g, Ks n js ls x f g := by
  obtain ⟨hs, A⟩ := hq_ex g gl
  obtain ⟨h, hh, hm⟩ := A.cov x hx
  exact ⟨_, _, h, A.cl h hh, hm, rfl, rfl⟩
theorem ks_sm (g : Good n js) (gl : Good n ls) {x y f1 g1 : Nat} (h : Ks n js ls x f1 g1) (s : Sm js ls x y) : Ks n js ls y f1 g1 := by
  obtain ⟨h, H, hx, e⟩ := h
  exact ⟨h, H, (hp_mem g gl H hx y).mpr s, e⟩
theorem ks_val (g : Good n js) (gl : Good n ls) {x f1 g1 : Nat} (h : Ks n js ls x f1 g1) : (f1 = 0 ∧ g1 = 0) ∨ (f1 = 1 ∧ g1 = 1) ∨ (f1 = 2 ∧ g1 = 0) ∨ (f1 = 0 ∧ g1 = 2) := by
  obtain ⟨h, H, _, rfl, rfl⟩ := h
  exact hp_cnt g gl H
theorem ks_pos (g : Good n js) (gl : Good n ls) {x f1 g1 : Nat} (h : Ks n js ls x f1 g1) (hx : mt js x = none) : 1 ≤ f1 := by
  obtain ⟨h, H, hm, rfl, rfl⟩ := h
  rw [cn_split hm, hx]
  exact Nat.le_add_left _ _
theorem ks_two (g : Good n js) (gl : Good n ls) {x y f1 g1 : Nat} (h : Ks n js ls x f1 g1) (hx : mt js x = none) (hy : mt js y = none) (ne : x ≠ y) (s : Sm js ls x y) : f1 = 2 ∧ g1 = 0 := by
  have v := ks_val g gl h
  obtain ⟨h, H, hm, rfl, rfl⟩ := h
  have ym := (hp_mem g gl H hm y).mpr s
  obtain ⟨a, ha, c⟩ := id H
  have y2 : y ∈ h.erase x := (List.Nodup.mem_erase_iff c.nd).mpr ⟨ne.symm, ym⟩
  have e1 := cn_split (js := js) hm
  have e2 := cn_split (js := js) y2
  rw [hx] at e1
  rw [hy] at e2
  simp only [Option.isNone_none, if_true] at e1 e2
  omega
/-- no third free end hangs together with two -/
theorem ks_three (g : Good n js) (gl : Good n ls) {x y z : Nat} (hx : x < 2 * n) (fx : mt js x = none) (fy : mt js y = none) (fz : mt js z = none) (xy : x ≠ y) (xz : x ≠ z) (yz : y ≠ z) (s : Sm js ls x y) : ¬ Sm js ls x z := by
  intro t
  obtain ⟨f1, g1, k⟩ := ks_ex g gl hx
  have v := ks_val g gl k
  obtain ⟨h, H, hm, rfl, rfl⟩ := k
  obtain ⟨a, ha, c⟩ := id H
  have y2 : y ∈ h.erase x := (List.Nodup.mem_erase_iff c.nd).mpr ⟨xy.symm, (hp_mem g gl H hm y).mpr s⟩
  have nd2 := c.nd.erase x
  have z2 : z ∈ (h.erase x).erase y := (List.Nodup.mem_erase_iff nd2).mpr ⟨yz.symm, (List.Nodup.mem_erase_iff c.nd).mpr ⟨xz.symm, (hp_mem g gl H hm z).mpr t⟩⟩
  have e1 := cn_split (js := js) hm
  have e2 := cn_split (js := js) y2
  have e3 := cn_split (js := js) z2
  rw [fx] at e1
  rw [fy] at e2
  rw [fz] at e3
  simp only [Option.isNone_none, if_true] at e1 e2 e3
  omega
end
end TI
-- JN2
set_option Elab.async false
set_option linter.all false
set_option maxRecDepth 100000
set_option maxHeartbeats 4000000
/-! JN2: the cost and the kinds behind a join. -/
namespace TI
open PySem L2 DC
section
variable {n : Nat} {js js' ls : List J2} {e e' : Nat}
theorem hp_join_off (J : Jn js js' e e') (g : Good n js) (g' : Good n js') (gl : Good n ls) {h : List Nat} (H : Hp1 n js ls h) (h1 : e ∉ h) (h2 : e' ∉ h) : Hp1 n js' ls h := by
  obtain ⟨a, ha, c⟩ := H
  refine ⟨a, ha, fun x => ?_, c.nd, c.lt⟩
  rw [c.mem x]
  show _ ↔ Sm js' ls a x
  rw [jn_iff J g' gl]
  exact ⟨.inl, fun z => z.elim id fun z => z.elim (fun z => absurd ((c.mem e).mpr z.1) h1) fun z => absurd ((c.mem e').mpr z.1) h2⟩
theorem hp_join_same (J : Jn js js' e e') (g : Good n js) (g' : Good n js') (gl : Good n ls) {h : List Nat} (H : Hp1 n js ls h) (h1 : e ∈ h) (h2 : e' ∈ h) : Hp1 n js' ls h := by
  have m : ∀ {x : Nat}, x ∈ h → ∀ y, y ∈ h ↔ Sm js ls x y := fun hx => hp_mem g gl H hx
  obtain ⟨a, ha, c⟩ := H
  refine ⟨a, ha, fun x => ?_, c.nd, c.lt⟩
  rw [c.mem x]
  show _ ↔ Sm js' ls a x
  rw [jn_iff J g' gl]
  exact ⟨.inl, fun z => z.elim id fun z => z.elim (fun z => (c.mem x).mp ((m h2 x).mpr z.2)) fun z => (c.mem x).mp ((m h1 x).mpr z.2)⟩
theorem hp_join_diff (J : Jn js js' e e') (g : Good n js) (g' : Good n js') (gl : Good n ls) {h k : List Nat} (H : Hp1 n js ls h) (K : Hp1 n js ls k) (h1 : e ∈ h) (h2 : e' ∈ k) (no : ¬ Sm js ls e e') : Hp1 n js' ls (h ++ k) := by
  have m : ∀ {x : Nat}, x ∈ h → ∀ y, y ∈ h ↔ Sm js ls x y := fun hx => hp_mem g gl H hx
  have m' : ∀ {x : Nat}, x ∈ k → ∀ y, y ∈ k ↔ Sm js ls x y := fun hx => hp_mem g gl K hx
  obtain ⟨a, ha, c⟩ := H
  obtain ⟨b, hb, d⟩ := K
  have ae := (c.mem e).mp h1
  refine ⟨a, ha, fun x => ?_, ?_, fun x hx => (List.mem_append.mp hx).elim (c.lt x) (d.lt x)⟩
  · rw [List.mem_append]
    show _ ↔ Sm js' ls a x
    rw [jn_iff J g' gl, m h1 x, m' h2 x]
    constructor
    · rintro (z | z)
      · exact .inl (cl_trans ae z)
      · exact .inr (.inl ⟨ae, z⟩)
    · rintro (z | ⟨_, z⟩ | ⟨z, _⟩)
      · exact .inl (cl_trans (cl_symm g.mt gl.mt ae) z)
      · exact .inr z
      · exact absurd (cl_trans (cl_symm g.mt gl.mt ae) z) no
  · refine List.nodup_append.mpr ⟨c.nd, d.nd, fun x hx y hy z => ?_⟩
    subst z
    exact no (cl_trans ((m h1 x).mp hx) (cl_symm g.mt gl.mt ((m' h2 x).mp hy)))
theorem ks_same (J : Jn js js' e e') (g : Good n js) (g' : Good n js') (gl : Good n ls) (he : e < 2 * n) (s : Sm js ls e e') : Ks n js' ls e 0 0 := by
  obtain ⟨f1, g1, h, H, hm, rfl, rfl⟩ := ks_ex g gl he
  have h2 := (hp_mem g gl H hm e').mpr s
  obtain ⟨a, ha, c⟩ := id H
  have t := cn_two J c.nd hm h2
  have v := hp_cnt g gl H
  exact ⟨h, hp_join_same J g g' gl H hm h2, hm, by omega, by omega⟩
theorem ks_diff (J : Jn js js' e e') (g : Good n js) (g' : Good n js') (gl : Good n ls) (no : ¬ Sm js ls e e') {f1 g1 f2 g2 : Nat} (k1 : Ks n js ls e f1 g1) (k2 : Ks n js ls e' f2 g2) : Ks n js' ls e (f1 + f2 - 2) (g1 + g2) := by
  obtain ⟨h, H, hm, rfl, rfl⟩ := k1
  obtain ⟨k, K, km, rfl, rfl⟩ := k2
  obtain ⟨a, ha, c⟩ := id H
  obtain ⟨b, hb, d⟩ := id K
  have n1 : e' ∉ h := fun z => no ((hp_mem g gl H hm e').mp z)
  have n2 : e ∉ k := fun z => no (cl_symm g.mt gl.mt ((hp_mem g gl K km e).mp z))
  have o1 := cn_one J c.nd hm n1
  have o2 := cn_one J.symm d.nd km n2
  refine ⟨h ++ k, hp_join_diff J g g' gl H K hm km no, List.mem_append_left _ hm, ?_, cn_app h k⟩
  rw [cn_app]
  omega
theorem ks_off (J : Jn js js' e e') (g : Good n js) (g' : Good n js') (gl : Good n ls) {x f1 g1 : Nat} (n1 : ¬ Sm js ls x e) (n2 : ¬ Sm js ls x e') (k : Ks n js ls x f1 g1) : Ks n js' ls x f1 g1 := by
  obtain ⟨h, H, hm, rfl, rfl⟩ := k
  have h1 : e ∉ h := fun z => n1 ((hp_mem g gl H hm e).mp z)
  have h2 : e' ∉ h := fun z => n2 ((hp_mem g gl H hm e').mp z)
  exact ⟨h, hp_join_off J g g' gl H h1 h2, hm, cn_off J h1 h2, rfl⟩
theorem sum_off (J : Jn js js' e e') {hs : List (List Nat)} (h : ∀ h ∈ hs, e ∉ h ∧ e' ∉ h) : (hs.map (wk js' ls)).sum = (hs.map (wk js ls)).sum := by
  congr 1
  refine List.map_congr_left fun k hk => ?_
  unfold wk
  rw [cn_off J (h k hk).1 (h k hk).2]
/-- the heaps behind a join, and before it -/
theorem hq_same (J : Jn js js' e e') (g : Good n js) (g' : Good n js') (gl : Good n ls) {h : List Nat} {r : List (List Nat)} (A : Hq n js ls (h :: r)) (h1 : e ∈ h) (h2 : e' ∈ h) : Hq n js' ls (h :: r) := by
  have d := List.pairwise_cons.mp A.dis
  refine ⟨fun k hk => ?_, A.dis, A.cov⟩
  rcases List.mem_cons.mp hk with rfl | hk
  · exact hp_join_same J g g' gl (A.cl _ List.mem_cons_self) h1 h2
  · exact hp_join_off J g g' gl (A.cl _ (List.mem_cons_of_mem _ hk)) (d.1 k hk e h1) (d.1 k hk e' h2)
theorem hq_diff (J : Jn js js' e e') (g : Good n js) (g' : Good n js') (gl : Good n ls) {h k : List Nat} {r : List (List Nat)} (A : Hq n js ls (h :: k :: r)) (h1 : e ∈ h) (h2 : e' ∈ k) : Hq n js' ls ((h ++ k) :: r) := by
  have d := List.pairwise_cons.mp A.dis
  have d2 := List.pairwise_cons.mp d.2
  have H := A.cl h List.mem_cons_self
  have K := A.cl k (List.mem_cons_of_mem _ List.mem_cons_self)
  have no : ¬ Sm js ls e e' := fun z => d.1 k List.mem_cons_self e' ((hp_mem g gl H h1 e').mpr z) h2
  refine ⟨fun x hx => ?_, List.pairwise_cons.mpr ⟨fun x hx y hy => ?_, d2.2⟩, fun x hx => ?_⟩
  · rcases List.mem_cons.mp hx with rfl | hx
    · exact hp_join_diff J g g' gl H K h1 h2 no
    · exact hp_join_off J g g' gl (A.cl _ (List.mem_cons_of_mem _ (List.mem_cons_of_mem _ hx))) (d.1 x (List.mem_cons_of_mem _ hx) e h1) (d2.1 x hx e' h2)
  · rcases List.mem_append.mp hy with hy | hy
    · exact d.1 x (List.mem_cons_of_mem _ hx) y hy
    · exact d2.1 x hx y hy
  · obtain ⟨q, hq, hm⟩ := A.cov x hx
    rcases List.mem_cons.mp hq with rfl | hq
    · exact ⟨_, List.mem_cons_self, List.mem_append_left _ hm⟩
    · rcases List.mem_cons.mp hq with rfl | hq
      · exact ⟨_, List.mem_cons_self, List.mem_append_right _ hm⟩
      · exact ⟨q, List.mem_cons_of_mem _ hq, hm⟩
/-- the heap of e in front -/
theorem hq_front {hs : List (List Nat)} (A : Hq n js ls hs) {x : Nat} (hx : x < 2 * n) : ∃ h r, Hq n js ls (h :: r) ∧ x ∈ h ∧ hs.Perm (h :: r) := by
  obtain ⟨h, hh, hm⟩ := A.cov x hx
  have p := List.perm_cons_erase hh
  exact ⟨h, hs.erase h, A.of_perm p.symm, hm, p⟩
theorem hq_front2 {h : List Nat} {r : List (List Nat)} (A : Hq n js ls (h :: r)) {x : Nat} (hx : x < 2 * n) (hn : x ∉ h) : ∃ k q, Hq n js ls (h :: k :: q) ∧ x ∈ k ∧ r.Perm (k :: q) := by
  obtain ⟨k, hk, hm⟩ := A.cov x hx
  rcases List.mem_cons.mp hk with rfl | hk
  · exact absurd hm hn
  · have p := List.perm_cons_erase hk
    exact ⟨k, r.erase k, A.of_perm (p.symm.cons _), hm, p⟩
/-- a join's price: one less within a heap, one more of two odd ones, else as much -/
theorem jn_cst (J : Jn js js' e e') (g : Good n js) (g' : Good n js') (gl : Good n ls) (he : e < 2 * n) (he' : e' < 2 * n) :
    (Sm js ls e e' → cst n js' ls + 1 = cst n js ls) ∧ (¬ Sm js ls e e' → Ks n js ls e 1 1 → Ks n js ls e' 1 1 → cst n js' ls = cst n js ls + 1) ∧
    (¬ Sm js ls e e' → ¬ (Ks n js ls e 1 1 ∧ Ks n js ls e' 1 1) → cst n js' ls = cst n js ls) := by
  obtain ⟨hs, A0⟩ := hq_ex g gl
  obtain ⟨h, r, A, hm, _⟩ := hq_front A0 he
  have H := A.cl h List.mem_cons_self
  have c1 := hq_cst g gl A
  have v := hp_cnt g gl H
  have d := List.pairwise_cons.mp A.dis
  obtain ⟨a, ha, c⟩ := id H
  have mem := hp_mem g gl H hm e'
  by_cases s : Sm js ls e e'
  · have h2 := mem.mpr s
    have A' := hq_same J g g' gl A hm h2
    have c2 := hq_cst g' gl A'
    have t := cn_two J c.nd hm h2
    have off := sum_off (ls := ls) J (hs := r) fun k hk => ⟨d.1 k hk e hm, d.1 k hk e' h2⟩
    rw [List.map_cons, List.sum_cons] at c1 c2
    rw [off] at c2
    have f2 : cn js h = 2 ∧ cn ls h = 0 := by omega
    have w1 : wk js ls h = 0 := by unfold wk; rw [f2.1, f2.2]; rfl
    have w2 : wk js' ls h = 2 := by unfold wk; rw [show cn js' h = 0 by omega, f2.2]; rfl
    exact ⟨fun _ => by omega, fun z => absurd s z, fun z => absurd s z⟩
  · have n1 : e' ∉ h := fun z => s (mem.mp z)
    obtain ⟨k, q, B, km, _⟩ := hq_front2 A he' n1
    have Kp := B.cl k (List.mem_cons_of_mem _ List.mem_cons_self)
    have b1 := hq_cst g gl B
    have vk2 := hp_cnt g gl Kp
    have db := List.pairwise_cons.mp B.dis
    have db2 := List.pairwise_cons.mp db.2
    obtain ⟨b, hb, cb⟩ := id Kp
    have n2 : e ∉ k := db.1 k List.mem_cons_self e hm
    have A' := hq_diff J g g' gl B hm km
    have b2 := hq_cst g' gl A'
    have off := sum_off (ls := ls) J (hs := q) fun x hx => ⟨db.1 x (List.mem_cons_of_mem _ hx) e hm, db2.1 x hx e' km⟩
    rw [List.map_cons, List.map_cons, List.sum_cons, List.sum_cons] at b1
    rw [List.map_cons, List.sum_cons, off] at b2
    have o1 := cn_one J c.nd hm n1
    have o2 := cn_one J.symm cb.nd km n2
    have e1 : cn js' (h ++ k) = cn js' h + cn js' k := cn_app h k
    have e2 : cn ls (h ++ k) = cn ls h + cn ls k := cn_app h k
    have kh : Ks n js ls e (cn js h) (cn ls h) := ⟨h, H, hm, rfl, rfl⟩
    have kk : Ks n js ls e' (cn js k) (cn ls k) := ⟨k, Kp, km, rfl, rfl⟩
    have w : ∀ f g, (f = 1 ∧ g = 1) ∨ (f = 2 ∧ g = 0) → vk f g = if f = 1 then 1 else 0 := fun f g hfg => by
      rcases hfg with ⟨rfl, rfl⟩ | ⟨rfl, rfl⟩ <;> rfl
    have p1 : (cn js h = 1 ∧ cn ls h = 1) ∨ (cn js h = 2 ∧ cn ls h = 0) := by omega
    have p2 : (cn js k = 1 ∧ cn ls k = 1) ∨ (cn js k = 2 ∧ cn ls k = 0) := by omega
    unfold wk at b1 b2
    rw [e1, e2] at b2
    refine ⟨fun z => absurd z s, fun _ k1 k2 => ?_, fun _ no => ?_⟩
    · obtain ⟨x1, y1⟩ := ks_uniq g gl kh k1
      obtain ⟨x2, y2⟩ := ks_uniq g gl kk k2
      rw [show cn js' h = 0 by omega, show cn js' k = 0 by omega, y1, y2] at b2
      rw [x1, y1, x2, y2] at b1
      have t1 : vk 1 1 = 1 := rfl
      have t2 : vk (0 + 0) (1 + 1) = 0 := rfl
      rw [t1] at b1
      rw [t2] at b2
      omega
    · rcases p1 with ⟨x1, y1⟩ | ⟨x1, y1⟩ <;> rcases p2 with ⟨x2, y2⟩ | ⟨x2, y2⟩
      · rw [x1, y1] at kh
        rw [x2, y2] at kk
        exact absurd ⟨kh, kk⟩ no
      · rw [show cn js' h = 0 by omega, show cn js' k = 1 by omega, y1, y2] at b2
        rw [x1, y1, x2, y2] at b1
        have t1 : vk 1 1 = 1 := rfl
        have t2 : vk 2 0 = 0 := rfl
        have t3 : vk (0 + 1) (1 + 0) = 1 := rfl
        rw [t1, t2] at b1
        rw [t3] at b2
        omega
      · rw [show cn js' h = 1 by omega, show cn js' k = 0 by omega, y1, y2] at b2
        rw [x1, y1, x2, y2] at b1
        have t1 : vk 1 1 = 1 := rfl
        have t2 : vk 2 0 = 0 := rfl
        have t3 : vk (1 + 0) (0 + 1) = 1 := rfl
        rw [t1, t2] at b1
        rw [t3] at b2
        omega
      · rw [show cn js' h = 1 by omega, show cn js' k = 1 by omega, y1, y2] at b2
        rw [x1, y1, x2, y2] at b1
        have t2 : vk 2 0 = 0 := rfl
        have t3 : vk (1 + 1) (0 + 0) = 0 := rfl
        rw [t2] at b1
        rw [t3] at b2
        omega
end
end TI
-- JN3
set_option Elab.async false
set_option linter.all false
set_option maxRecDepth 100000
set_option maxHeartbeats 4000000
/-! JN3: which steps are good, by the web before them. -/
namespace TI
open PySem L2 DC
noncomputable def bd (p : Prop) : Bool := @decide p (Classical.propDecidable p)
theorem bd_t {p : Prop} (h : p) : bd p = true := @decide_eq_true p (Classical.propDecidable p) h
theorem bd_f {p : Prop} (h : ¬ p) : bd p = false := @decide_eq_false p (Classical.propDecidable p) h
theorem bd_p {p : Prop} (h : bd p = true) : p := @of_decide_eq_true p (Classical.propDecidable p) h
theorem bd_n {p : Prop} (h : bd p = false) : ¬ p := @of_decide_eq_false p (Classical.propDecidable p) h
theorem bd_iff {p q : Prop} (h : p ↔ q) : bd p = bd q := by rw [propext h]
theorem bd_or {p q : Prop} : bd (p ∨ q) = (bd p || bd q) := by
  by_cases h : p
  · rw [bd_t h, bd_t (.inl h)]; rfl
  · rw [bd_f h, Bool.false_or]
    exact bd_iff ⟨fun z => z.resolve_left h, .inr⟩
theorem bd_and {p q : Prop} : bd (p ∧ q) = (bd p && bd q) := by
  by_cases h : p
  · rw [bd_t h, Bool.true_and]
    exact bd_iff ⟨fun z => z.2, fun z => ⟨h, z⟩⟩
  · rw [bd_f h, bd_f fun z => h z.1]; rfl
theorem bd_not {p : Prop} : bd (¬ p) = !bd p := by
  by_cases h : p
  · rw [bd_t h, bd_f fun z => z h]; rfl
  · rw [bd_f h, bd_t h]; rfl
def dl (s a b : Bool) : Int := if s then -1 else if a && b then 1 else 0
section
variable {n : Nat} {js js' ls : List J2} {e e' : Nat}
theorem jn_dl (J : Jn js js' e e') (g : Good n js) (g' : Good n js') (gl : Good n ls) (he : e < 2 * n) (he' : e' < 2 * n) :
    ((cst n js' ls : Nat) : Int) = (cst n js ls : Nat) + dl (bd (Sm js ls e e')) (bd (Ks n js ls e 1 1)) (bd (Ks n js ls e' 1 1)) := by
  obtain ⟨c1, c2, c3⟩ := jn_cst J g g' gl he he'
  by_cases s : Sm js ls e e'
  · have := c1 s
    rw [bd_t s]
    show _ = _ + (-1 : Int)
    omega
  · rw [bd_f s]
    by_cases k : Ks n js ls e 1 1 ∧ Ks n js ls e' 1 1
    · have := c2 s k.1 k.2
      rw [bd_t k.1, bd_t k.2]
      show _ = _ + (1 : Int)
      omega
    · have := c3 s k
      have z : (bd (Ks n js ls e 1 1) && bd (Ks n js ls e' 1 1)) = false := by rw [← bd_and]; exact bd_f k
      unfold dl
      rw [z]
      show _ = _ + (0 : Int)
      omega
theorem sm_symm (g : Good n js) (gl : Good n ls) {x y : Nat} (h : Sm js ls x y) : Sm js ls y x := cl_symm g.mt gl.mt h
theorem bs (g : Good n js) (gl : Good n ls) (x y : Nat) : bd (Sm js ls x y) = bd (Sm js ls y x) := bd_iff ⟨sm_symm g gl, sm_symm g gl⟩
theorem jn_sm (J : Jn js js' e e') (g' : Good n js') (gl : Good n ls) (x y : Nat) : bd (Sm js' ls x y) = (bd (Sm js ls x y) || ((bd (Sm js ls x e) && bd (Sm js ls e' y)) || (bd (Sm js ls x e') && bd (Sm js ls e y)))) := by
  rw [bd_iff (jn_iff J g' gl), bd_or, bd_or, bd_and, bd_and]
theorem jn_od (J : Jn js js' e e') (g : Good n js) (g' : Good n js') (gl : Good n ls) (he : e < 2 * n) (he' : e' < 2 * n) {x : Nat} (hx : x < 2 * n) (x1 : x ≠ e) (x2 : x ≠ e') (fx : mt js x = none) :
    bd (Ks n js' ls x 1 1) = if bd (Sm js ls x e) then bd (Ks n js ls e' 1 1) else if bd (Sm js ls x e') then bd (Ks n js ls e 1 1) else bd (Ks n js ls x 1 1) := by
  have half : ∀ {a b : Nat}, Jn js js' a b → a < 2 * n → b < 2 * n → x ≠ a → x ≠ b → Sm js ls x a → bd (Ks n js' ls x 1 1) = bd (Ks n js ls b 1 1) := by
    intro a b J ha hb xa xb s
    have no : ¬ Sm js ls a b := fun z => ks_three g gl hx fx J.f1 J.f2 xa xb J.ne s (cl_trans s z)
    obtain ⟨f1, g1, k1⟩ := ks_ex g gl ha
    obtain ⟨f2, g2, k2⟩ := ks_ex g gl hb
    have t := ks_two g gl k1 J.f1 fx xa.symm (sm_symm g gl s)
    have k := ks_diff J g g' gl no k1 k2
    have k' : Ks n js' ls x f2 g2 := by
      have := ks_sm g' gl k (sm_symm g' gl (jn_up J s))
      rwa [t.1, t.2, show 2 + f2 - 2 = f2 by omega, show 0 + g2 = g2 by omega] at this
    refine bd_iff ⟨fun z => ?_, fun z => ?_⟩
    · obtain ⟨a1, a2⟩ := ks_uniq g' gl k' z
      subst a1 a2
      exact k2
    · obtain ⟨a1, a2⟩ := ks_uniq g gl k2 z
      subst a1 a2
      exact k'
  by_cases s1 : Sm js ls x e
  · rw [bd_t s1, if_pos rfl]
    exact half J he he' x1 x2 s1
  · rw [bd_f s1, if_neg (by decide)]
    by_cases s2 : Sm js ls x e'
    · rw [bd_t s2, if_pos rfl]
      exact half J.symm he' he x2 x1 s2
    · rw [bd_f s2, if_neg (by decide)]
      obtain ⟨f, q, k⟩ := ks_ex g gl hx
      have k' := ks_off J g g' gl s1 s2 k
      refine bd_iff ⟨fun z => ?_, fun z => ?_⟩
      · obtain ⟨a1, a2⟩ := ks_uniq g' gl k' z
        subst a1 a2
        exact k
      · obtain ⟨a1, a2⟩ := ks_uniq g gl k z
        subst a1 a2
        exact k'
end
/-! two joins -/
def dd (uv uw uz vw vz wz ku kv kw kz : Bool) : Int := dl uv ku kv + dl (wz || ((uw && vz) || (vw && uz))) (if uw then kv else if vw then ku else kw) (if uz then kv else if vz then ku else kz)
/-- four ends apart, free here -/
structure F4 (n : Nat) (j0 : List J2) (u v w z : Nat) : Prop where
  lu : u < 2 * n
  lv : v < 2 * n
  lw : w < 2 * n
  lz : z < 2 * n
  uv : u ≠ v
  uw : u ≠ w
  uz : u ≠ z
  vw : v ≠ w
  vz : v ≠ z
  wz : w ≠ z
  fu : mt j0 u = none
  fv : mt j0 v = none
  fw : mt j0 w = none
  fz : mt j0 z = none
theorem F4.b {n : Nat} {j0 : List J2} {u v w z : Nat} (F : F4 n j0 u v w z) : F4 n j0 u w v z := ⟨F.lu, F.lw, F.lv, F.lz, F.uw, F.uv, F.uz, F.vw.symm, F.wz, F.vz, F.fu, F.fw, F.fv, F.fz⟩
theorem F4.c {n : Nat} {j0 : List J2} {u v w z : Nat} (F : F4 n j0 u v w z) : F4 n j0 u z v w := ⟨F.lu, F.lz, F.lv, F.lw, F.uz, F.uv, F.uw, F.vz.symm, F.wz.symm, F.vw, F.fu, F.fz, F.fv, F.fw⟩
section
variable {n : Nat} {j0 j1 j2 ls : List J2} {u v w z : Nat}
noncomputable abbrev bS (j0 ls : List J2) (x y : Nat) : Bool := bd (Sm j0 ls x y)
noncomputable abbrev bO (n : Nat) (j0 ls : List J2) (x : Nat) : Bool := bd (Ks n j0 ls x 1 1)
theorem dd_cst (F : F4 n j0 u v w z) (J1 : Jn j0 j1 u v) (J2' : Jn j1 j2 w z) (g0 : Good n j0) (g1 : Good n j1) (g2 : Good n j2) (gl : Good n ls) :
    ((cst n j2 ls : Nat) : Int) = (cst n j0 ls : Nat) + dd (bS j0 ls u v) (bS j0 ls u w) (bS j0 ls u z) (bS j0 ls v w) (bS j0 ls v z) (bS j0 ls w z) (bO n j0 ls u) (bO n j0 ls v) (bO n j0 ls w) (bO n j0 ls z) := by
  have h1 := jn_dl J1 g0 g1 gl F.lu F.lv
  have h2 := jn_dl J2' g1 g2 gl F.lw F.lz
  rw [jn_sm J1 g1 gl, jn_od J1 g0 g1 gl F.lu F.lv F.lw F.uw.symm F.vw.symm F.fw, jn_od J1 g0 g1 gl F.lu F.lv F.lz F.uz.symm F.vz.symm F.fz, bs g0 gl w u, bs g0 gl w v, bs g0 gl z u, bs g0 gl z v] at h2
  unfold dd bS bO
  omega
theorem bsS (g0 : Good n j0) (gl : Good n ls) (x y : Nat) : bS j0 ls x y = bS j0 ls y x := bs g0 gl x y
theorem kO (g0 : Good n j0) (gl : Good n ls) {x y : Nat} (hx : x < 2 * n) (fx : mt j0 x = none) (fy : mt j0 y = none) (ne : x ≠ y) (s : bS j0 ls x y = true) : bO n j0 ls x = false := by
  refine bd_f fun k => ?_
  have := ks_two g0 gl k fx fy ne (bd_p s)
  omega
theorem k3 (g0 : Good n j0) (gl : Good n ls) {x y t : Nat} (hx : x < 2 * n) (fx : mt j0 x = none) (fy : mt j0 y = none) (ft : mt j0 t = none) (xy : x ≠ y) (xt : x ≠ t) (yt : y ≠ t) (s : bS j0 ls x y = true) : bS j0 ls x t = false :=
  bd_f (ks_three g0 gl hx fx fy ft xy xt yt (bd_p s))
/-- what cannot be -/
def okB (uv uw uz vw vz wz ku kv kw kz : Bool) : Bool :=
  (!uv || (!uw && !uz && !vw && !vz && !ku && !kv)) && (!uw || (!uz && !vw && !wz && !ku && !kw)) && (!uz || (!vz && !wz && !ku && !kz)) && (!vw || (!vz && !wz && !kv && !kw)) && (!vz || (!wz && !kv && !kz)) && (!wz || (!kw && !kz))
theorem ok_real (F : F4 n j0 u v w z) (g0 : Good n j0) (gl : Good n ls) : okB (bS j0 ls u v) (bS j0 ls u w) (bS j0 ls u z) (bS j0 ls v w) (bS j0 ls v z) (bS j0 ls w z) (bO n j0 ls u) (bO n j0 ls v) (bO n j0 ls w) (bO n j0 ls z) = true := by
  have imp : ∀ {a b : Bool}, (a = true → b = true) → (!a || b) = true := fun {a b} h => by cases a <;> simp_all
  unfold okB
  simp only [Bool.and_eq_true]
  refine ⟨⟨⟨⟨⟨imp fun s => ?_, imp fun s => ?_⟩, imp fun s => ?_⟩, imp fun s => ?_⟩, imp fun s => ?_⟩, imp fun s => ?_⟩
  · rw [k3 g0 gl F.lu F.fu F.fv F.fw F.uv F.uw F.vw s, k3 g0 gl F.lu F.fu F.fv F.fz F.uv F.uz F.vz s, kO g0 gl F.lu F.fu F.fv F.uv s]
    rw [bsS g0 gl] at s
    rw [k3 g0 gl F.lv F.fv F.fu F.fw F.uv.symm F.vw F.uw s, k3 g0 gl F.lv F.fv F.fu F.fz F.uv.symm F.vz F.uz s, kO g0 gl F.lv F.fv F.fu F.uv.symm s]
    rfl
  · rw [k3 g0 gl F.lu F.fu F.fw F.fz F.uw F.uz F.wz s, kO g0 gl F.lu F.fu F.fw F.uw s]
    rw [bsS g0 gl] at s
    rw [bsS g0 gl v w, k3 g0 gl F.lw F.fw F.fu F.fv F.uw.symm F.vw.symm F.uv s, k3 g0 gl F.lw F.fw F.fu F.fz F.uw.symm F.wz F.uz s, kO g0 gl F.lw F.fw F.fu F.uw.symm s]
    rfl
  · rw [kO g0 gl F.lu F.fu F.fz F.uz s]
    rw [bsS g0 gl] at s
    rw [bsS g0 gl v z, bsS g0 gl w z, k3 g0 gl F.lz F.fz F.fu F.fv F.uz.symm F.vz.symm F.uv s, k3 g0 gl F.lz F.fz F.fu F.fw F.uz.symm F.wz.symm F.uw s, kO g0 gl F.lz F.fz F.fu F.uz.symm s]
    rfl
  · rw [k3 g0 gl F.lv F.fv F.fw F.fz F.vw F.vz F.wz s, kO g0 gl F.lv F.fv F.fw F.vw s]
    rw [bsS g0 gl] at s
    rw [k3 g0 gl F.lw F.fw F.fv F.fz F.vw.symm F.wz F.vz s, kO g0 gl F.lw F.fw F.fv F.vw.symm s]
    rfl
  · rw [kO g0 gl F.lv F.fv F.fz F.vz s]
    rw [bsS g0 gl] at s
    rw [bsS g0 gl w z, k3 g0 gl F.lz F.fz F.fv F.fw F.vz.symm F.wz.symm F.vw s, kO g0 gl F.lz F.fz F.fv F.vz.symm s]
    rfl
  · rw [kO g0 gl F.lw F.fw F.fz F.wz s]
    rw [bsS g0 gl] at s
    rw [kO g0 gl F.lz F.fz F.fw F.wz.symm s]
    rfl
def n1 (b : Bool) : Nat := if b then 1 else 0
theorem fin2 : ∀ uv uw uz vw vz wz ku kv kw kz : Bool, okB uv uw uz vw vz wz ku kv kw kz = true →
    n1 (decide (dd uw uv uz vw wz vz ku kw kv kz + 1 = dd uv uw uz vw vz wz ku kv kw kz)) + n1 (decide (dd uz uv uw vz wz vw ku kz kv kw + 1 = dd uv uw uz vw vz wz ku kv kw kz)) =
    if uw || uz || vw || vz then 1 else if (!uv && !ku && !kv && (!wz && kw && kz)) || (!uv && ku && kv && (!wz && !kw && !kz)) then 2 else 0 := by decide +kernel
end
end TI
-- JN4
set_option Elab.async false
set_option linter.all false
set_option maxRecDepth 100000
set_option maxHeartbeats 4000000
/-! JN4: how many of the steps at a place are good. -/
namespace TI
open PySem L2 DC
section
variable {n : Nat} {js js' ls : List J2} {e e' : Nat}
theorem bS_refl (js ls : List J2) (x : Nat) : bS js ls x x = true := bd_t .base
theorem jn_kinds (J : Jn js js' e e') (g : Good n js) (g' : Good n js') (gl : Good n ls) (he : e < 2 * n) (he' : e' < 2 * n) :
    bd (Ks n js' ls e 2 0) = (!bS js ls e e' && (!bO n js ls e && !bO n js ls e')) ∧ bd (Ks n js' ls e 0 2) = (!bS js ls e e' && (bO n js ls e && bO n js ls e')) := by
  by_cases s : Sm js ls e e'
  · have k := ks_same J g g' gl he s
    have s' : bS js ls e e' = true := bd_t s
    rw [s']
    refine ⟨bd_f fun z => ?_, bd_f fun z => ?_⟩
    · have := ks_uniq g' gl k z; omega
    · have := ks_uniq g' gl k z; omega
  · have s' : bS js ls e e' = false := bd_f s
    rw [s']
    obtain ⟨f1, g1, k1⟩ := ks_ex g gl he
    obtain ⟨f2, g2, k2⟩ := ks_ex g gl he'
    have p1 := ks_pos g gl k1 J.f1
    have p2 := ks_pos g gl k2 J.f2
    have v1 := ks_val g gl k1
    have v2 := ks_val g gl k2
    have k := ks_diff J g g' gl s k1 k2
    have o : ∀ {x f q : Nat}, Ks n js ls x f q → ((f = 1 ∧ q = 1) ∨ (f = 2 ∧ q = 0)) → bO n js ls x = decide (f = 1) := fun {x f q} kx h => by
      rcases h with ⟨rfl, rfl⟩ | ⟨rfl, rfl⟩
      · exact bd_t kx
      · exact bd_f fun z => by have := ks_uniq g gl kx z; omega
    have w1 : (f1 = 1 ∧ g1 = 1) ∨ (f1 = 2 ∧ g1 = 0) := by omega
    have w2 : (f2 = 1 ∧ g2 = 1) ∨ (f2 = 2 ∧ g2 = 0) := by omega
    rw [o k1 w1, o k2 w2]
    have r : ∀ {f q : Nat}, bd (Ks n js' ls e f q) = decide (f1 + f2 - 2 = f ∧ g1 + g2 = q) := fun {f q} => by
      by_cases c : f1 + f2 - 2 = f ∧ g1 + g2 = q
      · rw [decide_eq_true c]
        obtain ⟨rfl, rfl⟩ := c
        exact bd_t k
      · rw [decide_eq_false c]
        exact bd_f fun z => c (ks_uniq g' gl k z)
    rw [r, r]
    rcases w1 with ⟨rfl, rfl⟩ | ⟨rfl, rfl⟩ <;> rcases w2 with ⟨rfl, rfl⟩ | ⟨rfl, rfl⟩ <;> decide
theorem jn_off (J : Jn js js' e e') (g : Good n js) (g' : Good n js') (gl : Good n ls) {x : Nat} (hx : x < 2 * n) (n1 : bS js ls x e = false) (n2 : bS js ls x e' = false) (f q : Nat) : bd (Ks n js' ls x f q) = bd (Ks n js ls x f q) := by
  obtain ⟨a, b, k⟩ := ks_ex g gl hx
  have k' := ks_off J g g' gl (bd_n n1) (bd_n n2) k
  refine bd_iff ⟨fun z => ?_, fun z => ?_⟩
  · obtain ⟨a1, a2⟩ := ks_uniq g' gl k' z
    subst a1 a2
    exact k
  · obtain ⟨a1, a2⟩ := ks_uniq g gl k z
    subst a1 a2
    exact k'
end
section
variable {n : Nat} {j0 j1 a1 b1 js ja jb ls : List J2} {u v w z e : Nat}
/-- by what is before: how many of the two ways are good -/
noncomputable def dueD (n : Nat) (js ls : List J2) (u w : Nat) : Nat :=
  if bS js ls u w = true then 1 else if ((bd (Ks n js ls u 2 0) && bd (Ks n js ls w 0 2)) || (bd (Ks n js ls u 0 2) && bd (Ks n js ls w 2 0))) = true then 2 else 0
noncomputable def gd (n : Nat) (ja js ls : List J2) : Nat := n1 (decide (cst n ja ls + 1 = cst n js ls))
theorem gd_dd {c0 : Nat} {x y : Int} (h1 : ((cst n ja ls : Nat) : Int) = (c0 : Nat) + x) (h2 : ((cst n js ls : Nat) : Int) = (c0 : Nat) + y) : gd n ja js ls = n1 (decide (x + 1 = y)) := by
  unfold gd
  congr 1
  rw [decide_eq_decide]
  omega
theorem dbl_count (F : F4 n j0 u v w z) (J1 : Jn j0 j1 u v) (J2' : Jn j1 js w z) (A1 : Jn j0 a1 u w) (A2 : Jn a1 ja v z) (B1 : Jn j0 b1 u z) (B2 : Jn b1 jb v w)
    (g0 : Good n j0) (g1 : Good n j1) (gj : Good n js) (ga1 : Good n a1) (ga : Good n ja) (gb1 : Good n b1) (gb : Good n jb) (gl : Good n ls) :
    gd n ja js ls + gd n jb js ls = dueD n js ls u w := by
  have c := dd_cst F J1 J2' g0 g1 gj gl
  have ca := dd_cst F.b A1 A2 g0 ga1 ga gl
  have cb := dd_cst F.c B1 B2 g0 gb1 gb gl
  rw [gd_dd ca c, gd_dd cb c, bsS g0 gl w v, bsS g0 gl z v, bsS g0 gl z w]
  have ok := ok_real F g0 gl
  have e2 := fin2 _ _ _ _ _ _ _ _ _ _ ok
  refine e2.trans ?_
  -- the web before
  have s1 : bS j1 ls u w = (bS j0 ls u w || ((bS j0 ls u u && bS j0 ls v w) || (bS j0 ls u v && bS j0 ls u w))) := jn_sm J1 g1 gl u w
  have s2 : bS j1 ls u z = (bS j0 ls u z || ((bS j0 ls u u && bS j0 ls v z) || (bS j0 ls u v && bS j0 ls u z))) := jn_sm J1 g1 gl u z
  have s3 : bS js ls u w = (bS j1 ls u w || ((bS j1 ls u w && bS j1 ls z w) || (bS j1 ls u z && bS j1 ls w w))) := jn_sm J2' gj gl u w
  rw [bS_refl] at s1 s2 s3
  have s4 : bS js ls u w = (bS j0 ls u w || bS j0 ls u z || bS j0 ls v w || bS j0 ls v z) := by
    rw [s3, s1, s2]
    cases bS j0 ls u w <;> cases bS j0 ls u z <;> cases bS j0 ls v w <;> cases bS j0 ls v z <;> cases bS j0 ls u v <;> cases bS j1 ls z w <;> rfl
  unfold dueD
  rw [s4]
  cases hs : (bS j0 ls u w || bS j0 ls u z || bS j0 ls v w || bS j0 ls v z) with
  | true => rfl
  | false =>
    have q : bS j0 ls u w = false ∧ bS j0 ls u z = false ∧ bS j0 ls v w = false ∧ bS j0 ls v z = false := by
      simp only [Bool.or_eq_false_iff] at hs
      exact ⟨hs.1.1.1, hs.1.1.2, hs.1.2, hs.2⟩
    obtain ⟨q1, q2, q3, q4⟩ := q
    have t1 : bS j1 ls u w = false := by rw [s1, q1, q3]; cases bS j0 ls u v <;> rfl
    have t2 : bS j1 ls u z = false := by rw [s2, q2, q4]; cases bS j0 ls u v <;> rfl
    obtain ⟨k1, k2⟩ := jn_kinds J1 g0 g1 gl F.lu F.lv
    obtain ⟨m1, m2⟩ := jn_kinds J2' g1 gj gl F.lw F.lz
    have wz : bS j1 ls w z = bS j0 ls w z := by
      have : bS j1 ls w z = (bS j0 ls w z || ((bS j0 ls w u && bS j0 ls v z) || (bS j0 ls w v && bS j0 ls u z))) := jn_sm J1 g1 gl w z
      rw [this, q4, q2]
      cases bS j0 ls w z <;> cases bS j0 ls w u <;> cases bS j0 ls w v <;> rfl
    have ow : bO n j1 ls w = bO n j0 ls w := jn_off J1 g0 g1 gl F.lw (by rw [bsS g0 gl]; exact q1) (by rw [bsS g0 gl]; exact q3) 1 1
    have oz : bO n j1 ls z = bO n j0 ls z := jn_off J1 g0 g1 gl F.lz (by rw [bsS g0 gl]; exact q2) (by rw [bsS g0 gl]; exact q4) 1 1
    rw [jn_off J2' g1 gj gl F.lu t1 t2 2 0, jn_off J2' g1 gj gl F.lu t1 t2 0 2, k1, k2, m1, m2, wz, ow, oz]
    simp only [Bool.false_eq_true, if_false]
    congr 2
    cases bS j0 ls u v <;> cases bS j0 ls w z <;> cases bO n j0 ls u <;> cases bO n j0 ls v <;> cases bO n j0 ls w <;> cases bO n j0 ls z <;> rfl
noncomputable def dueS (n : Nat) (js ls : List J2) (u e : Nat) : Nat :=
  if bS js ls u e = true then 1 else if (bd (Ks n js ls u 0 2) && bd (Ks n js ls e 2 0)) = true then 2 else 0
theorem fin1 : ∀ uv ue ve ku kv ke : Bool, ((!uv || (!ue && !ve && !ku && !kv)) && (!ue || (!ve && !ku && !ke)) && (!ve || (!kv && !ke))) = true →
    n1 (decide (dl ue ku ke + 1 = dl uv ku kv)) + n1 (decide (dl ve kv ke + 1 = dl uv ku kv)) = if ue || ve then 1 else if ((!uv && (ku && kv)) && !ke) then 2 else 0 := by decide +kernel
theorem shift_count (J : Jn j0 js u v) (A : Jn j0 ja u e) (B : Jn j0 jb v e) (lu : u < 2 * n) (lv : v < 2 * n) (le : e < 2 * n) (g0 : Good n j0) (gj : Good n js) (ga : Good n ja) (gb : Good n jb) (gl : Good n ls) :
    gd n ja js ls + gd n jb js ls = dueS n js ls u e := by
  have c := jn_dl J g0 gj gl lu lv
  have ca := jn_dl A g0 ga gl lu le
  have cb := jn_dl B g0 gb gl lv le
  rw [gd_dd ca c, gd_dd cb c]
  have imp : ∀ {a b : Bool}, (a = true → b = true) → (!a || b) = true := fun {a b} h => by cases a <;> simp_all
  have ok : ((!bS j0 ls u v || (!bS j0 ls u e && !bS j0 ls v e && !bO n j0 ls u && !bO n j0 ls v)) && (!bS j0 ls u e || (!bS j0 ls v e && !bO n j0 ls u && !bO n j0 ls e)) && (!bS j0 ls v e || (!bO n j0 ls v && !bO n j0 ls e))) = true := by
    simp only [Bool.and_eq_true]
    refine ⟨⟨imp fun s => ?_, imp fun s => ?_⟩, imp fun s => ?_⟩
    · rw [k3 g0 gl lu J.f1 J.f2 A.f2 J.ne A.ne B.ne s, kO g0 gl lu J.f1 J.f2 J.ne s]
      rw [bsS g0 gl] at s
      rw [k3 g0 gl lv J.f2 J.f1 A.f2 J.ne.symm B.ne A.ne s, kO g0 gl lv J.f2 J.f1 J.ne.symm s]
      rfl
    · rw [kO g0 gl lu J.f1 A.f2 A.ne s]
      rw [bsS g0 gl] at s
      rw [bsS g0 gl v e, k3 g0 gl le A.f2 J.f1 J.f2 A.ne.symm B.ne.symm J.ne s, kO g0 gl le A.f2 J.f1 A.ne.symm s]
      rfl
    · rw [kO g0 gl lv J.f2 A.f2 B.ne s]
      rw [bsS g0 gl] at s
      rw [kO g0 gl le A.f2 J.f2 B.ne.symm s]
      rfl
  have e2 := fin1 _ _ _ _ _ _ ok
  refine e2.trans ?_
  have s1 : bS js ls u e = (bS j0 ls u e || ((bS j0 ls u u && bS j0 ls v e) || (bS j0 ls u v && bS j0 ls u e))) := jn_sm J gj gl u e
  rw [bS_refl] at s1
  have s2 : bS js ls u e = (bS j0 ls u e || bS j0 ls v e) := by
    rw [s1]
    cases bS j0 ls u e <;> cases bS j0 ls v e <;> cases bS j0 ls u v <;> rfl
  unfold dueS
  rw [s2]
  cases hs : (bS j0 ls u e || bS j0 ls v e) with
  | true => rfl
  | false =>
    have q : bS j0 ls u e = false ∧ bS j0 ls v e = false := by
      simp only [Bool.or_eq_false_iff] at hs
      exact hs
    obtain ⟨q1, q2⟩ := q
    obtain ⟨_, k2⟩ := jn_kinds J g0 gj gl lu lv
    have oe : bd (Ks n js ls e 2 0) = bd (Ks n j0 ls e 2 0) := jn_off J g0 gj gl le (by rw [bsS g0 gl]; exact q1) (by rw [bsS g0 gl]; exact q2) 2 0
    have oo : bd (Ks n j0 ls e 2 0) = !bO n j0 ls e := by
      obtain ⟨f, q, k⟩ := ks_ex g0 gl le
      have p := ks_pos g0 gl k A.f2
      have v := ks_val g0 gl k
      have w : (f = 1 ∧ q = 1) ∨ (f = 2 ∧ q = 0) := by omega
      rcases w with ⟨rfl, rfl⟩ | ⟨rfl, rfl⟩
      · rw [show bO n j0 ls e = true from bd_t k]
        exact bd_f fun z => by have := ks_uniq g0 gl k z; omega
      · rw [show bO n j0 ls e = false from bd_f fun z => by have := ks_uniq g0 gl k z; omega]
        exact bd_t k
    rw [k2, oe, oo]
theorem cut_count (J : Jn j0 js u v) (lu : u < 2 * n) (lv : v < 2 * n) (g0 : Good n j0) (gj : Good n js) (gl : Good n ls) : gd n j0 js ls = n1 (bd (Ks n js ls u 0 2)) := by
  have c := jn_dl J g0 gj gl lu lv
  have z : ((cst n j0 ls : Nat) : Int) = (cst n j0 ls : Nat) + 0 := (Int.add_zero _).symm
  rw [gd_dd z c, (jn_kinds J g0 gj gl lu lv).2]
  show n1 (decide ((0 : Int) + 1 = dl (bS j0 ls u v) (bO n j0 ls u) (bO n j0 ls v))) = _
  cases bS j0 ls u v <;> cases bO n j0 ls u <;> cases bO n j0 ls v <;> rfl
theorem join_count (J : Jn js ja u v) (lu : u < 2 * n) (lv : v < 2 * n) (gj : Good n js) (ga : Good n ja) (gl : Good n ls) : gd n ja js ls = n1 (bS js ls u v) := by
  have c := jn_dl J gj ga gl lu lv
  have z : ((cst n js ls : Nat) : Int) = (cst n js ls : Nat) + 0 := (Int.add_zero _).symm
  rw [gd_dd c z]
  show n1 (decide (dl (bS js ls u v) (bO n js ls u) (bO n js ls v) + 1 = 0)) = _
  cases bS js ls u v <;> cases bO n js ls u <;> cases bO n js ls v <;> rfl
end
end TI
-- CT
set_option Elab.async false
set_option linter.all false
set_option maxRecDepth 100000
set_option maxHeartbeats 4000000
/-! CT: sums over places, by heaps. -/
namespace TI
open PySem L2 DC
def tgl (m : Nat) : Nat := m * (m - 1) / 2
theorem tgl_succ (m : Nat) : tgl (m + 1) = tgl m + m := by
  unfold tgl
  cases m with
  | zero => rfl
  | succ k =>
    show (k + 1 + 1) * (k + 1) / 2 = (k + 1) * k / 2 + (k + 1)
    have e : (k + 1 + 1) * (k + 1) = (k + 1) * k + 2 * (k + 1) := by
      rw [Nat.add_mul (k + 1) 1, Nat.mul_add (k + 1) k 1]
      omega
    rw [e]
    omega
def cnt (h A : List Nat) : Nat := A.countP fun x => decide (x ∈ h)
/-- a sum over pairs, the one before the other -/
def prS {α : Type} (F : α → α → Nat) : List α → Nat
  | [] => 0
  | x :: l => (l.map (F x)).sum + prS F l
theorem prS_range {α : Type} (F : α → α → Nat) (d : α) : ∀ l : List α, ((List.range l.length).map fun k => ((l.drop (k + 1)).map (F (l.getD k d))).sum).sum = prS F l
  | [] => rfl
  | x :: l => by
    rw [List.length_cons, List.range_succ_eq_map, List.map_cons, List.sum_cons, List.map_map]
    have := prS_range F d l
    unfold prS
    rw [← this]
    rfl
theorem sum_map_add {α : Type} (f g : α → Nat) : ∀ l : List α, (l.map fun x => f x + g x).sum = (l.map f).sum + (l.map g).sum
  | [] => rfl
  | x :: l => by
    rw [List.map_cons, List.sum_cons, List.map_cons, List.sum_cons, List.map_cons, List.sum_cons, sum_map_add f g l]
    omega
theorem sum_map_mul {α : Type} (c : Nat) (f : α → Nat) : ∀ l : List α, (l.map fun x => c * f x).sum = c * (l.map f).sum
  | [] => rfl
  | x :: l => by
    rw [List.map_cons, List.sum_cons, List.map_cons, List.sum_cons, sum_map_mul c f l, Nat.mul_add]
theorem prS_add {α : Type} (F G : α → α → Nat) : ∀ l : List α, prS (fun x y => F x y + G x y) l = prS F l + prS G l
  | [] => rfl
  | x :: l => by
    unfold prS
    rw [prS_add F G l, sum_map_add]
    omega
theorem prS_congr {α : Type} {F G : α → α → Nat} : ∀ {l : List α}, l.Pairwise (fun x y => F x y = G x y) → prS F l = prS G l
  | [], _ => rfl
  | x :: l, h => by
    have h' := List.pairwise_cons.mp h
    unfold prS
    rw [prS_congr h'.2]
    congr 2
    exact List.map_congr_left fun y hy => h'.1 y hy
theorem prS_mul {α : Type} (c : Nat) (F : α → α → Nat) : ∀ l : List α, prS (fun x y => c * F x y) l = c * prS F l
  | [] => rfl
  | x :: l => by
    unfold prS
    rw [prS_mul c F l, sum_map_mul, Nat.mul_add]
/-- each one with each other one: a of the one, b of the other -/
theorem prS_prod {α : Type} (a b : α → Nat) : ∀ l : List α, (∀ x ∈ l, a x * b x = 0) → prS (fun x y => a x * b y + b x * a y) l = (l.map a).sum * (l.map b).sum
  | [], _ => rfl
  | x :: l, h => by
    have ih := prS_prod a b l fun y hy => h y (List.mem_cons_of_mem _ hy)
    have h0 := h x List.mem_cons_self
    unfold prS
    rw [ih, sum_map_add, sum_map_mul, sum_map_mul, List.map_cons, List.sum_cons, List.map_cons, List.sum_cons, Nat.add_mul, Nat.mul_add, Nat.mul_add, h0, Nat.mul_comm (b x) _]
    omega
section
variable {n : Nat} {js ls : List J2} {hs : List (List Nat)}
/-- the heaps, one of them in front -/
theorem sum_front (A : Hq n js ls hs) {x : Nat} (hx : x < 2 * n) : ∃ h r, hs.Perm (h :: r) ∧ x ∈ h ∧ (∀ k ∈ r, x ∉ k) ∧ Hp1 n js ls h := by
  obtain ⟨h, r, B, hm, p⟩ := hq_front A hx
  exact ⟨h, r, p, hm, fun k hk => (List.pairwise_cons.mp B.dis).1 k hk x hm, B.cl h List.mem_cons_self⟩
theorem cnt_cons_in {h A : List Nat} {x : Nat} (hx : x ∈ h) : cnt h (x :: A) = cnt h A + 1 := by
  unfold cnt
  rw [List.countP_cons, if_pos (decide_eq_true hx)]
theorem cnt_cons_out {h A : List Nat} {x : Nat} (hx : x ∉ h) : cnt h (x :: A) = cnt h A := by
  unfold cnt
  rw [List.countP_cons, if_neg (by rw [decide_eq_true_eq]; exact hx)]
  rfl
/-- a sum over places of what only the heap tells -/
theorem sum_lab (A : Hq n js ls hs) (G : Nat → Nat) (q : List Nat → Nat) (hG : ∀ h ∈ hs, ∀ x ∈ h, G x = q h) : ∀ X : List Nat, (∀ x ∈ X, x < 2 * n) → (X.map G).sum = (hs.map fun h => cnt h X * q h).sum
  | [], _ => by
    have : (fun h : List Nat => cnt h [] * q h) = fun _ => 0 := by
      funext h
      exact Nat.zero_mul _
    rw [this]
    have z : ∀ l : List (List Nat), (l.map fun _ => 0).sum = 0 := fun l => by
      induction l with
      | nil => rfl
      | cons _ _ ih => rw [List.map_cons, List.sum_cons, ih]
    exact (z hs).symm
  | x :: X, hX => by
    obtain ⟨h, r, p, hm, hr, _⟩ := sum_front A (hX x List.mem_cons_self)
    have ih := sum_lab A G q hG X fun y hy => hX y (List.mem_cons_of_mem _ hy)
    rw [List.map_cons, List.sum_cons, ih, sum_perm (p.map _), sum_perm (p.map _), List.map_cons, List.sum_cons, List.map_cons, List.sum_cons, cnt_cons_in hm, hG h (p.mem_iff.mpr List.mem_cons_self) x hm, Nat.add_mul, Nat.one_mul]
    have : r.map (fun h => cnt h (x :: X) * q h) = r.map fun h => cnt h X * q h := List.map_congr_left fun k hk => by rw [cnt_cons_out (hr k hk)]
    rw [this]
    omega
theorem cnt_bS (g : Good n js) (gl : Good n ls) {h : List Nat} (H : Hp1 n js ls h) {x : Nat} (hx : x ∈ h) : ∀ X : List Nat, (X.map fun y => n1 (bS js ls x y)).sum = cnt h X
  | [] => rfl
  | y :: X => by
    rw [List.map_cons, List.sum_cons, cnt_bS g gl H hx X]
    by_cases c : y ∈ h
    · rw [cnt_cons_in c, show bS js ls x y = true from bd_t ((hp_mem g gl H hx y).mp c)]
      show 1 + _ = _
      omega
    · rw [cnt_cons_out c, show bS js ls x y = false from bd_f fun z => c ((hp_mem g gl H hx y).mpr z)]
      show 0 + _ = _
      omega
/-- pairs of places in one heap -/
theorem pr_sum (g : Good n js) (gl : Good n ls) (A : Hq n js ls hs) : ∀ X : List Nat, (∀ x ∈ X, x < 2 * n) → prS (fun x y => n1 (bS js ls x y)) X = (hs.map fun h => tgl (cnt h X)).sum
  | [], _ => by
    have z : ∀ l : List (List Nat), (l.map fun h => tgl (cnt h [])).sum = 0 := fun l => by
      induction l with
      | nil => rfl
      | cons k _ ih =>
        rw [List.map_cons, List.sum_cons, ih, show cnt k [] = 0 from rfl]
        decide
    exact (z hs).symm
  | x :: X, hX => by
    obtain ⟨h, r, p, hm, hr, H⟩ := sum_front A (hX x List.mem_cons_self)
    have ih := pr_sum g gl A X fun y hy => hX y (List.mem_cons_of_mem _ hy)
    unfold prS
    rw [ih, cnt_bS g gl H hm, sum_perm (p.map _), sum_perm (p.map fun h => tgl (cnt h (x :: X))), List.map_cons, List.sum_cons, List.map_cons, List.sum_cons, cnt_cons_in hm, tgl_succ]
    have : r.map (fun h => tgl (cnt h (x :: X))) = r.map fun h => tgl (cnt h X) := List.map_congr_left fun k hk => by rw [cnt_cons_out (hr k hk)]
    rw [this]
    omega
/-- one of these, one of those, in one heap -/
theorem cross_sum (g : Good n js) (gl : Good n ls) (A : Hq n js ls hs) (Y : List Nat) (X : List Nat) (hX : ∀ x ∈ X, x < 2 * n) : (X.map fun x => (Y.map fun y => n1 (bS js ls x y)).sum).sum = (hs.map fun h => cnt h X * cnt h Y).sum :=
  sum_lab A _ (fun h => cnt h Y) (fun h hh x hx => cnt_bS g gl (A.cl h hh) hx Y) X hX
end
end TI
-- CT2
set_option Elab.async false
set_option linter.all false
set_option maxRecDepth 100000
set_option maxHeartbeats 4000000
/-! CT2: joints and free ends of a heap; what they come to. -/
namespace TI
open PySem L2 DC
section
variable {n : Nat} {js ls : List J2} {hs : List (List Nat)}
theorem endsN (g : Good n js) : (js.flatMap fun p => [p.1, p.2]).Nodup := by
  have h : ∀ l : List J2, l.Pairwise DC.Apart → (∀ p ∈ l, p.1 ≠ p.2) → (l.flatMap fun p => [p.1, p.2]).Nodup := fun l => by
    induction l with
    | nil => intro _ _; exact List.nodup_nil
    | cons p l ih =>
      intro d ne
      have d' := List.pairwise_cons.mp d
      show ([p.1, p.2] ++ l.flatMap fun p => [p.1, p.2]).Nodup
      refine List.nodup_append.mpr ⟨?_, ih d'.2 fun q hq => ne q (List.mem_cons_of_mem _ hq), ?_⟩
      · exact List.nodup_cons.mpr ⟨fun h => ne p List.mem_cons_self (List.mem_singleton.mp h), List.nodup_cons.mpr ⟨List.not_mem_nil, List.nodup_nil⟩⟩
      · intro x hx y hy e
        subst e
        obtain ⟨q, hq, hy⟩ := List.mem_flatMap.mp hy
        have a := d'.1 q hq
        simp only [List.mem_cons, List.not_mem_nil, or_false] at hx hy
        obtain ⟨a1, a2, a3, a4⟩ := a
        rcases hx with rfl | rfl <;> rcases hy with hy | hy
        · exact a1 hy
        · exact a2 hy
        · exact a3 hy
        · exact a4 hy
  exact h js g.dis fun p hp => Nat.ne_of_lt (g.rng p hp).1
theorem mt_ends (g : Good n js) {x : Nat} : x ∈ (js.flatMap fun p => [p.1, p.2]) ↔ mt js x ≠ none := by
  have ne : ∀ q ∈ js, q.1 ≠ q.2 := fun q hq => Nat.ne_of_lt (g.rng q hq).1
  rw [List.mem_flatMap]
  constructor
  · rintro ⟨p, hp, hx⟩
    obtain ⟨m1, m2⟩ := mt_of g.dis ne hp
    simp only [List.mem_cons, List.not_mem_nil, or_false] at hx
    rcases hx with rfl | rfl
    · rw [m1]; exact fun z => nomatch z
    · rw [m2]; exact fun z => nomatch z
  · intro h
    cases hm : mt js x with
    | none => exact absurd hm h
    | some y =>
      obtain ⟨p, hp, h | h⟩ := mt_some hm
      · exact ⟨p, hp, by rw [h.1]; exact List.mem_cons_self⟩
      · exact ⟨p, hp, by rw [h.1]; exact List.mem_cons_of_mem _ List.mem_cons_self⟩
abbrev fsts (js : List J2) : List Nat := js.map fun p => p.1
theorem hp_joint (g : Good n js) (gl : Good n ls) {h : List Nat} (H : Hp1 n js ls h) {p : J2} (hp : p ∈ js) : p.2 ∈ h ↔ p.1 ∈ h := by
  have ne : ∀ q ∈ js, q.1 ≠ q.2 := fun q hq => Nat.ne_of_lt (g.rng q hq).1
  obtain ⟨m1, m2⟩ := mt_of g.dis ne hp
  exact ⟨fun z => (hp_mem g gl H z p.1).mpr (.step .base (.inl m2)), fun z => (hp_mem g gl H z p.2).mpr (.step .base (.inl m1))⟩
theorem ends_cnt (g : Good n js) (gl : Good n ls) {h : List Nat} (H : Hp1 n js ls h) : cnt h (js.flatMap fun p => [p.1, p.2]) = 2 * cnt h (fsts js) := by
  have gen : ∀ l : List J2, (∀ p ∈ l, p ∈ js) → cnt h (l.flatMap fun p => [p.1, p.2]) = 2 * cnt h (fsts l) := fun l => by
    induction l with
    | nil => intro _; rfl
    | cons p l ih =>
      intro hl
      have i := ih fun q hq => hl q (List.mem_cons_of_mem _ hq)
      have e := hp_joint g gl H (hl p List.mem_cons_self)
      show cnt h (p.1 :: p.2 :: l.flatMap fun p => [p.1, p.2]) = 2 * cnt h (p.1 :: fsts l)
      by_cases c : p.1 ∈ h
      · rw [cnt_cons_in c, cnt_cons_in (e.mpr c), cnt_cons_in c, i]
        omega
      · rw [cnt_cons_out c, cnt_cons_out fun z => c (e.mp z), cnt_cons_out c, i]
  exact gen js fun p hp => hp
theorem cnt_swap {h X : List Nat} (nh : h.Nodup) (nX : X.Nodup) : cnt h X = h.countP fun x => decide (x ∈ X) := by
  unfold cnt
  rw [List.countP_eq_length_filter, List.countP_eq_length_filter]
  refine ((List.perm_ext_iff_of_nodup (nX.filter _) (nh.filter _)).mpr fun x => ?_).length_eq
  rw [List.mem_filter, List.mem_filter, decide_eq_true_eq, decide_eq_true_eq]
  exact And.comm
theorem hp_size (g : Good n js) (gl : Good n ls) {h : List Nat} (H : Hp1 n js ls h) : h.length = cn js h + 2 * cnt h (fsts js) := by
  obtain ⟨a, ha, c⟩ := id H
  rw [← ends_cnt g gl H, cnt_swap c.nd (endsN g)]
  unfold cn
  rw [List.length_eq_countP_add_countP (fun e => (mt js e).isNone)]
  congr 1
  refine List.countP_congr fun x _ => ?_
  rw [decide_eq_true_eq, decide_eq_true_eq, Option.isNone_iff_eq_none]
  exact (mt_ends g).symm
theorem free_cnt {fr : List Nat} (nf : fr.Nodup) (hf : ∀ x, x ∈ fr ↔ x < 2 * n ∧ mt js x = none) {h : List Nat} (H : Hp1 n js ls h) : cnt h fr = cn js h := by
  obtain ⟨a, ha, c⟩ := H
  rw [cnt_swap c.nd nf]
  unfold cn
  refine List.countP_congr fun x hx => ?_
  rw [decide_eq_true_eq, hf, Option.isNone_iff_eq_none]
  exact ⟨fun z => z.2, fun z => ⟨c.lt x hx, z⟩⟩
/-- what a piece of a kind and a size comes to -/
def prc (k : Str) (s : Nat) : Nat := s / 2 - if k = "ring" then 1 else 0
def inn1 (k : Str) (s : Nat) : Nat := prc k s * (prc k s + 1) / 2
def opn1 (k : Str) (s : Nat) : Nat := if k = "open" then prc k s + 1 else 0
def sht1 (k : Str) (s : Nat) : Nat := if k = "shut" then prc k s else 0
theorem tgl_mul (m : Nat) : m * (m + 1) / 2 = tgl m + m := by
  rw [← tgl_succ]
  unfold tgl
  rw [show m + 1 - 1 = m from rfl, Nat.mul_comm]
theorem piece_in {k : Str} {f q r s : Nat} (hs : s = f + 2 * r) (hv : (f = 0 ∧ q = 0 ∧ k = "ring") ∨ (f = 1 ∧ q = 1 ∧ k = "odd") ∨ (f = 2 ∧ q = 0 ∧ k = "open") ∨ (f = 0 ∧ q = 2 ∧ k = "shut")) (h1 : 1 ≤ s) :
    tgl r + r * f + tgl f + (if f = 0 ∧ q = 2 then r else 0) = inn1 k s ∧ (if f = 2 ∧ q = 0 then r + f else 0) = opn1 k s ∧ (if f = 0 ∧ q = 2 then r else 0) = sht1 k s := by
  subst hs
  unfold inn1 opn1 sht1
  rw [tgl_mul]
  have t0 : tgl 0 = 0 := rfl
  have t1 : tgl 1 = 0 := rfl
  have t2 : tgl 2 = 1 := rfl
  rcases hv with ⟨rfl, rfl, rfl⟩ | ⟨rfl, rfl, rfl⟩ | ⟨rfl, rfl, rfl⟩ | ⟨rfl, rfl, rfl⟩
  · have e : prc "ring" (0 + 2 * r) = r - 1 := by
      show (0 + 2 * r) / 2 - 1 = _
      omega
    rw [e, t0, if_neg (by decide), if_neg (by decide), if_neg (by decide +kernel), if_neg (by decide +kernel)]
    obtain ⟨m, rfl⟩ : ∃ m, r = m + 1 := ⟨r - 1, by omega⟩
    rw [tgl_succ, show m + 1 - 1 = m from rfl]
    exact ⟨by omega, rfl, rfl⟩
  · have e : prc "odd" (1 + 2 * r) = r := by
      show (1 + 2 * r) / 2 - 0 = _
      omega
    rw [e, t1, if_neg (by decide), if_neg (by decide), if_neg (by decide +kernel), if_neg (by decide +kernel)]
    exact ⟨by omega, rfl, rfl⟩
  · have e : prc "open" (2 + 2 * r) = r + 1 := by
      show (2 + 2 * r) / 2 - 0 = _
      omega
    rw [e, t2, if_neg (by decide), if_pos (by decide), if_pos rfl, if_neg (by decide +kernel), tgl_succ]
    exact ⟨by omega, rfl, rfl⟩
  · have e : prc "shut" (0 + 2 * r) = r := by
      show (0 + 2 * r) / 2 - 0 = _
      omega
    rw [e, t0, if_pos (by decide), if_neg (by decide), if_neg (by decide +kernel), if_pos rfl]
    exact ⟨by omega, rfl, rfl⟩
end
end TI
-- CT3
set_option Elab.async false
set_option linter.all false
set_option maxRecDepth 100000
set_option maxHeartbeats 4000000
/-! CT3: how many steps are good, by the pieces. -/
namespace TI
open PySem L2 DC
theorem prS_map {α β : Type} (F : β → β → Nat) (f : α → β) : ∀ l : List α, prS F (l.map f) = prS (fun x y => F (f x) (f y)) l
  | [] => rfl
  | x :: l => by
    show ((l.map f).map (F (f x))).sum + prS F (l.map f) = (l.map fun y => F (f x) (f y)).sum + prS (fun x y => F (f x) (f y)) l
    rw [prS_map F f l, List.map_map]
    rfl
noncomputable abbrev opV (n : Nat) (js ls : List J2) (x : Nat) : Nat := n1 (bd (Ks n js ls x 2 0))
noncomputable abbrev shV (n : Nat) (js ls : List J2) (x : Nat) : Nat := n1 (bd (Ks n js ls x 0 2))
section
variable {n : Nat} {js ls : List J2} {ps : List Pc} {fr : List Nat}
theorem op_sh (g : Good n js) (gl : Good n ls) (x : Nat) : opV n js ls x * shV n js ls x = 0 := by
  by_cases h : Ks n js ls x 2 0
  · rw [show shV n js ls x = 0 by
      show n1 (bd _) = 0
      rw [bd_f fun z => by have := ks_uniq g gl h z; omega]
      rfl]
    exact Nat.mul_zero _
  · rw [show opV n js ls x = 0 by
      show n1 (bd _) = 0
      rw [bd_f h]
      rfl]
    exact Nat.zero_mul _
theorem ks_bS (g : Good n js) (gl : Good n ls) {x y : Nat} (s : Sm js ls x y) (f q : Nat) : bd (Ks n js ls x f q) = bd (Ks n js ls y f q) :=
  bd_iff ⟨fun z => ks_sm g gl z s, fun z => ks_sm g gl z (sm_symm g gl s)⟩
theorem dueD_eq (g : Good n js) (gl : Good n ls) (u w : Nat) : dueD n js ls u w = n1 (bS js ls u w) + 2 * (opV n js ls u * shV n js ls w + shV n js ls u * opV n js ls w) := by
  unfold dueD
  by_cases s : Sm js ls u w
  · rw [show bS js ls u w = true from bd_t s, if_pos rfl]
    have e1 : shV n js ls w = shV n js ls u := by show n1 _ = n1 _; rw [ks_bS g gl s]
    have e2 : opV n js ls w = opV n js ls u := by show n1 _ = n1 _; rw [ks_bS g gl s]
    rw [e1, e2, Nat.mul_comm (shV n js ls u), op_sh g gl u]
    rfl
  · rw [show bS js ls u w = false from bd_f s, if_neg (by decide)]
    have h1 := op_sh g gl u
    have h2 := op_sh g gl w
    unfold opV shV at h1 h2 ⊢
    revert h1 h2
    cases bd (Ks n js ls u 2 0) <;> cases bd (Ks n js ls w 0 2) <;> cases bd (Ks n js ls u 0 2) <;> cases bd (Ks n js ls w 2 0) <;> decide
theorem dueS_eq (g : Good n js) (gl : Good n ls) (u w : Nat) : dueS n js ls u w = n1 (bS js ls u w) + 2 * (shV n js ls u * opV n js ls w) := by
  unfold dueS
  by_cases s : Sm js ls u w
  · rw [show bS js ls u w = true from bd_t s, if_pos rfl]
    have e2 : opV n js ls w = opV n js ls u := by show n1 _ = n1 _; rw [ks_bS g gl s]
    rw [e2, Nat.mul_comm (shV n js ls u), op_sh g gl u]
    rfl
  · rw [show bS js ls u w = false from bd_f s, if_neg (by decide)]
    unfold opV shV
    cases bd (Ks n js ls w 2 0) <;> cases bd (Ks n js ls u 0 2) <;> decide
theorem ks_hp (g : Good n js) (gl : Good n ls) {h : List Nat} (H : Hp1 n js ls h) {x : Nat} (hx : x ∈ h) (f q : Nat) : n1 (bd (Ks n js ls x f q)) = if cn js h = f ∧ cn ls h = q then 1 else 0 := by
  have k : Ks n js ls x (cn js h) (cn ls h) := ⟨h, H, hx, rfl, rfl⟩
  by_cases c : cn js h = f ∧ cn ls h = q
  · rw [if_pos c]
    obtain ⟨rfl, rfl⟩ := c
    rw [bd_t k]
    rfl
  · rw [if_neg c, bd_f fun z => c (ks_uniq g gl k z)]
    rfl
theorem fst_lt (g : Good n js) : ∀ x ∈ fsts js, x < 2 * n := by
  intro x hx
  obtain ⟨p, hp, rfl⟩ := List.mem_map.mp hx
  have := g.rng p hp
  omega
theorem tot_lab (W : IsWeb n js ls ps) (g : Good n js) (gl : Good n ls) (X : List Nat) (hX : ∀ x ∈ X, x < 2 * n) (f q : Nat) :
    (X.map fun x => n1 (bd (Ks n js ls x f q))).sum = (ps.map fun p => cnt p.2 X * if cn js p.2 = f ∧ cn ls p.2 = q then 1 else 0).sum := by
  have A := hq_web g gl W
  rw [sum_lab A _ (fun h => if cn js h = f ∧ cn ls h = q then 1 else 0) (fun h hh x hx => ks_hp g gl (A.cl h hh) hx f q) X hX, List.map_map]
  rfl
theorem pc_at (W : IsWeb n js ls ps) (g : Good n js) (gl : Good n ls) (nf : fr.Nodup) (hf : ∀ x, x ∈ fr ↔ x < 2 * n ∧ mt js x = none) {p : Pc} (hp : p ∈ ps) :
    tgl (cnt p.2 (fsts js)) + cnt p.2 (fsts js) * cnt p.2 fr + tgl (cnt p.2 fr) + (cnt p.2 (fsts js) * if cn js p.2 = 0 ∧ cn ls p.2 = 2 then 1 else 0) = inn1 p.1 p.2.length ∧
    (cnt p.2 (fsts js) * if cn js p.2 = 2 ∧ cn ls p.2 = 0 then 1 else 0) + (cnt p.2 fr * if cn js p.2 = 2 ∧ cn ls p.2 = 0 then 1 else 0) = opn1 p.1 p.2.length ∧
    (cnt p.2 (fsts js) * if cn js p.2 = 0 ∧ cn ls p.2 = 2 then 1 else 0) = sht1 p.1 p.2.length := by
  have wp := (W.mem p).mp hp
  obtain ⟨a, ha, c, _⟩ := id wp
  have H : Hp1 n js ls p.2 := ⟨a, ha, c⟩
  have sz := hp_size g gl H
  have fc := free_cnt nf hf H
  have pos : 1 ≤ p.2.length := List.length_pos_of_mem c.beg
  rw [fc]
  obtain ⟨i1, i2, i3⟩ := piece_in (r := cnt p.2 (fsts js)) sz (wpc_cnt g gl wp) pos
  have m : ∀ (c : Prop) [Decidable c] (x : Nat), (x * if c then 1 else 0) = if c then x else 0 := fun c _ x => by split <;> omega
  rw [m, m, m]
  refine ⟨i1, ?_, i3⟩
  rw [← i2]
  split <;> rfl
theorem tot_sh (W : IsWeb n js ls ps) (g : Good n js) (gl : Good n ls) (nf : fr.Nodup) (hf : ∀ x, x ∈ fr ↔ x < 2 * n ∧ mt js x = none) : ((fsts js).map (shV n js ls)).sum = (ps.map fun p => sht1 p.1 p.2.length).sum := by
  rw [tot_lab W g gl _ (fst_lt g)]
  congr 1
  exact List.map_congr_left fun p hp => (pc_at W g gl nf hf hp).2.2
theorem tot_op (W : IsWeb n js ls ps) (g : Good n js) (gl : Good n ls) (nf : fr.Nodup) (hf : ∀ x, x ∈ fr ↔ x < 2 * n ∧ mt js x = none) : ((fsts js).map (opV n js ls)).sum + (fr.map (opV n js ls)).sum = (ps.map fun p => opn1 p.1 p.2.length).sum := by
  rw [tot_lab W g gl _ (fst_lt g), tot_lab W g gl _ fun x hx => ((hf x).mp hx).1, ← sum_map_add]
  congr 1
  exact List.map_congr_left fun p hp => (pc_at W g gl nf hf hp).2.1
noncomputable def inTot (n : Nat) (js ls : List J2) (fr : List Nat) : Nat :=
  prS (fun x y => n1 (bS js ls x y)) (fsts js) + ((fsts js).map fun x => (fr.map fun y => n1 (bS js ls x y)).sum).sum + prS (fun x y => n1 (bS js ls x y)) fr + ((fsts js).map (shV n js ls)).sum
theorem tot_in (W : IsWeb n js ls ps) (g : Good n js) (gl : Good n ls) (nf : fr.Nodup) (hf : ∀ x, x ∈ fr ↔ x < 2 * n ∧ mt js x = none) : inTot n js ls fr = (ps.map fun p => inn1 p.1 p.2.length).sum := by
  have A := hq_web g gl W
  unfold inTot
  rw [pr_sum g gl A _ (fst_lt g), cross_sum g gl A fr _ (fst_lt g), pr_sum g gl A fr fun x hx => ((hf x).mp hx).1, tot_lab W g gl _ (fst_lt g), List.map_map, List.map_map, List.map_map, ← sum_map_add, ← sum_map_add, ← sum_map_add]
  congr 1
  exact List.map_congr_left fun p hp => (pc_at W g gl nf hf hp).1
/-- all that are good: within pieces, and across -/
noncomputable def gdTot (n : Nat) (js ls : List J2) (fr : List Nat) : Nat :=
  prS (fun x y => dueD n js ls x y) (fsts js) + ((fsts js).map fun x => (fr.map fun y => dueS n js ls x y).sum).sum + prS (fun x y => n1 (bS js ls x y)) fr + ((fsts js).map (shV n js ls)).sum
theorem tot_gd (g : Good n js) (gl : Good n ls) : gdTot n js ls fr = inTot n js ls fr + 2 * (((fsts js).map (opV n js ls)).sum + (fr.map (opV n js ls)).sum) * ((fsts js).map (shV n js ls)).sum := by
  unfold gdTot inTot
  have e1 : prS (fun x y => dueD n js ls x y) (fsts js) = prS (fun x y => n1 (bS js ls x y)) (fsts js) + 2 * (((fsts js).map (opV n js ls)).sum * ((fsts js).map (shV n js ls)).sum) := by
    rw [← prS_prod (opV n js ls) (shV n js ls) (fsts js) fun x _ => op_sh g gl x, ← prS_mul, ← prS_add]
    rw [show (fun x y => dueD n js ls x y) = fun x y => n1 (bS js ls x y) + 2 * (opV n js ls x * shV n js ls y + shV n js ls x * opV n js ls y) from funext fun x => funext fun y => dueD_eq g gl x y]
  have e2 : ((fsts js).map fun x => (fr.map fun y => dueS n js ls x y).sum).sum = ((fsts js).map fun x => (fr.map fun y => n1 (bS js ls x y)).sum).sum + 2 * (((fsts js).map (shV n js ls)).sum * (fr.map (opV n js ls)).sum) := by
    have h : ∀ x, (fr.map fun y => dueS n js ls x y).sum = (fr.map fun y => n1 (bS js ls x y)).sum + (2 * (fr.map (opV n js ls)).sum) * shV n js ls x := fun x => by
      rw [show (fun y => dueS n js ls x y) = fun y => n1 (bS js ls x y) + (2 * shV n js ls x) * opV n js ls y from funext fun y => by rw [dueS_eq g gl, Nat.mul_assoc], sum_map_add, sum_map_mul]
      congr 1
      rw [Nat.mul_right_comm]
    rw [show (fun x => (fr.map fun y => dueS n js ls x y).sum) = fun x => (fr.map fun y => n1 (bS js ls x y)).sum + (2 * (fr.map (opV n js ls)).sum) * shV n js ls x from funext h, sum_map_add, sum_map_mul]
    congr 1
    rw [Nat.mul_assoc, Nat.mul_comm (fr.map (opV n js ls)).sum]
  rw [e1, e2]
  generalize ((fsts js).map (opV n js ls)).sum = a
  generalize ((fsts js).map (shV n js ls)).sum = b
  generalize (fr.map (opV n js ls)).sum = c
  rw [Nat.mul_assoc 2 (a + c) b, Nat.add_mul, Nat.mul_comm b c]
  omega
end
end TI
-- K15ct
set_option Elab.async false
set_option linter.all false
set_option maxRecDepth 100000
set_option maxHeartbeats 4000000
/-! K15ct: the steps of a lay, counted: the good ones, and those within a piece. -/
namespace K15
open PySem L2 DC LamX
open TI (Jn n1 bd bS Sm Ks gd dueD dueS prS fsts shV opV)
section
variable {n : Nat} {js ls : List J2}
theorem jn_cut (g : Good n js) {p : J2} (hp : p ∈ js) : Jn (aftJ js ([p], [])) js p.1 p.2 := by
  have ne : ∀ q ∈ js, q.1 ≠ q.2 := fun q hq => Nat.ne_of_lt (g.rng q hq).1
  obtain ⟨m1, m2⟩ := mt_of g.dis ne hp
  have s : IsSt n js ([p], []) := .cut p hp
  have no : ∀ {i : Nat}, ∀ q ∈ (([p], []) : Stp2).2, i ≠ q.1 ∧ i ≠ q.2 := fun q hq => absurd hq List.not_mem_nil
  exact ⟨ne p hp, aft_free g s (p := p) List.mem_cons_self (.inl rfl) no, aft_free g s (p := p) List.mem_cons_self (.inr rfl) no, m1, m2, fun i h1 h2 => (aft_same g s (fun q hq => by
    obtain rfl := List.mem_singleton.mp hq
    exact ⟨h1, h2⟩) no).symm⟩
theorem cut_good (g : Good n js) {p : J2} (hp : p ∈ js) : Good n (aftJ js ([p], [])) := aft_good g (.cut p hp)
theorem made_mk {st : Stp2} (g : Good n js) (s : IsSt n js st) {a b : Nat} (hm : mk2 a b ∈ st.2) : mt (aftJ js st) a = some b ∧ mt (aftJ js st) b = some a := by
  have h := aft_made g s hm
  by_cases c : a ≤ b
  · have e : mk2 a b = (a, b) := by unfold mk2; rw [Nat.min_eq_left c, Nat.max_eq_right c]
    rw [e] at h
    exact h
  · have e : mk2 a b = (b, a) := by unfold mk2; rw [Nat.min_eq_right (by omega), Nat.max_eq_left (by omega)]
    rw [e] at h
    exact h.symm
theorem jn_join (g : Good n js) {u w : Nat} (hu : u < 2 * n) (hw : w < 2 * n) (fu : mt js u = none) (fw : mt js w = none) (ne : u ≠ w) : ∃ a, Good n a ∧ Jn js a u w ∧ a = aftJ js ([], [mk2 u w]) := by
  have s : IsSt n js ([], [mk2 u w]) := by
    by_cases c : u < w
    · rw [mk2_lt c]
      exact .join u w (free_of_none hu fu) (free_of_none hw fw) c
    · rw [mk2_comm, mk2_lt (show w < u by omega)]
      exact .join w u (free_of_none hw fw) (free_of_none hu fu) (by omega)
  obtain ⟨a, b⟩ := made_mk g s List.mem_cons_self
  exact ⟨_, aft_good g s, ⟨ne, fu, fw, a, b, fun i h1 h2 => aft_same g s (fun q hq => absurd hq List.not_mem_nil) fun q hq => by
    obtain rfl := List.mem_singleton.mp hq
    refine ⟨fun z => ?_, fun z => ?_⟩
    · rcases mk2_ends (.inl z) with z | z
      · exact h1 z
      · exact h2 z
    · rcases mk2_ends (.inr z) with z | z
      · exact h1 z
      · exact h2 z⟩, rfl⟩
theorem jn_shift (g : Good n js) {p : J2} (hp : p ∈ js) {e near : Nat} (he : e ∈ frees n js) (hn : near = p.1 ∨ near = p.2) : Jn (aftJ js ([p], [])) (aftJ js ([p], [mk2 near e])) near e ∧ Good n (aftJ js ([p], [mk2 near e])) := by
  have s : IsSt n js ([p], [mk2 near e]) := .shift p e near hp he hn
  have C := jn_cut g hp
  have fe := (free_lt he).2
  have ne : near ≠ e := fun z => mt_end g hp hn (z ▸ fe)
  have ep : e ≠ p.1 ∧ e ≠ p.2 := ⟨fun z => mt_end g hp (x := e) (.inl z) fe, fun z => mt_end g hp (x := e) (.inr z) fe⟩
  have f0 : mt (aftJ js ([p], [])) e = none := (C.ot e ep.1 ep.2).symm.trans fe
  have fn : mt (aftJ js ([p], [])) near = none := by
    rcases hn with rfl | rfl
    · exact C.f1
    · exact C.f2
  obtain ⟨a, b⟩ := made_mk g s List.mem_cons_self
  refine ⟨⟨ne, fn, f0, a, b, fun i h1 h2 => ?_⟩, aft_good g s⟩
  have out : ∀ q ∈ (([p], [mk2 near e]) : Stp2).2, i ≠ q.1 ∧ i ≠ q.2 := fun q hq => by
    obtain rfl := List.mem_singleton.mp hq
    refine ⟨fun z => ?_, fun z => ?_⟩
    · rcases mk2_ends (.inl z) with z | z
      · exact h1 z
      · exact h2 z
    · rcases mk2_ends (.inr z) with z | z
      · exact h1 z
      · exact h2 z
  by_cases c : i = p.1 ∨ i = p.2
  · rw [aft_free g s (p := p) List.mem_cons_self c out]
    rcases c with rfl | rfl
    · exact C.f1.symm
    · exact C.f2.symm
  · rw [aft_same g s (fun q hq => by
      obtain rfl := List.mem_singleton.mp hq
      exact ⟨fun z => c (.inl z), fun z => c (.inr z)⟩) out]
    exact C.ot i (fun z => c (.inl z)) (fun z => c (.inr z))
/-- two joints cut, their ends joined anew -/
structure Dbl (n : Nat) (js j0 j1 a1 b1 ja jb : List J2) (u v w z : Nat) : Prop where
  F : TI.F4 n j0 u v w z
  J1 : Jn j0 j1 u v
  J2' : Jn j1 js w z
  A1 : Jn j0 a1 u w
  A2 : Jn a1 ja v z
  B1 : Jn j0 b1 u z
  B2 : Jn b1 jb v w
  g0 : Good n j0
  g1 : Good n j1
  ga1 : Good n a1
  ga : Good n ja
  gb1 : Good n b1
  gb : Good n jb
theorem jn_two (g : Good n js) {p q : J2} (hp : p ∈ js) (hq : q ∈ js) {st : Stp2} (s : IsSt n js st) (e1 : st.1 = [p, q]) {j0 j1 a1 : List J2} {u v w z : Nat} (J1 : Jn j0 j1 p.1 p.2) (J2' : Jn j1 js q.1 q.2) (A1 : Jn j0 a1 u w)
    (huv : (u = p.1 ∧ v = p.2)) (hwz : (w = q.1 ∧ z = q.2) ∨ (w = q.2 ∧ z = q.1)) (vz : v ≠ z) (vu : v ≠ u) (vw : v ≠ w) (zu : z ≠ u) (zw : z ≠ w) (fv : mt j0 v = none) (fz : mt j0 z = none)
    (m1 : mk2 u w ∈ st.2) (m2 : mk2 v z ∈ st.2) (m3 : ∀ m ∈ st.2, m = mk2 u w ∨ m = mk2 v z) : Jn a1 (aftJ js st) v z := by
  obtain ⟨x1, x2⟩ := made_mk g s m1
  obtain ⟨y1, y2⟩ := made_mk g s m2
  refine ⟨vz, (A1.ot v vu vw).trans fv, (A1.ot z zu zw).trans fz, y1, y2, fun i h1 h2 => ?_⟩
  by_cases c1 : i = u
  · subst c1
    rw [x1, A1.e1]
  · by_cases c2 : i = w
    · subst c2
      rw [x2, A1.e2]
    · rw [A1.ot i c1 c2]
      obtain ⟨rfl, rfl⟩ := huv
      have ipq : i ≠ q.1 ∧ i ≠ q.2 := by
        rcases hwz with ⟨rfl, rfl⟩ | ⟨rfl, rfl⟩
        · exact ⟨c2, h2⟩
        · exact ⟨h2, c2⟩
      rw [← J1.ot i c1 h1, ← J2'.ot i ipq.1 ipq.2]
      refine aft_same g s (fun r hr => ?_) fun r hr => ?_
      · rw [e1] at hr
        simp only [List.mem_cons, List.not_mem_nil, or_false] at hr
        rcases hr with rfl | rfl
        · exact ⟨c1, h1⟩
        · exact ipq
      · rcases m3 r hr with rfl | rfl
        · refine ⟨fun z => ?_, fun z => ?_⟩
          · exact (mk2_ends (.inl z)).elim c1 c2
          · exact (mk2_ends (.inr z)).elim c1 c2
        · refine ⟨fun z => ?_, fun z => ?_⟩
          · exact (mk2_ends (.inl z)).elim h1 h2
          · exact (mk2_ends (.inr z)).elim h1 h2
theorem sm2_mem {a b m : J2} : m ∈ sm2 a b ↔ m = a ∨ m = b := by
  unfold sm2
  split <;> simp only [List.mem_cons, List.not_mem_nil, or_false]
  exact or_comm
theorem dbl_ex (g : Good n js) {p q : J2} (hp : p ∈ js) (hq : q ∈ js) (ap : DC.Apart p q) (s1 : IsSt n js (sB p q (q.1, q.2))) (s2 : IsSt n js (sB p q (q.2, q.1))) :
    ∃ j0 j1 a1 b1, Dbl n js j0 j1 a1 b1 (aftJ js (sB p q (q.1, q.2))) (aftJ js (sB p q (q.2, q.1))) p.1 p.2 q.1 q.2 := by
  have rp := g.rng p hp
  have rq := g.rng q hq
  have Jq := jn_cut g hq
  have gq := cut_good g hq
  have pq : p ∈ aftJ js ([q], []) := aft_iff.mpr (.inl ⟨hp, fun z => by
    obtain rfl := List.mem_singleton.mp z
    exact ap.1 rfl⟩)
  have Jp := jn_cut gq pq
  have g0 := cut_good gq pq
  obtain ⟨a1', a2', a3', a4'⟩ := ap
  have f3 : mt (aftJ (aftJ js ([q], [])) ([p], [])) q.1 = none := (Jp.ot q.1 (Ne.symm a1') (Ne.symm a3')).symm.trans Jq.f1
  have f4 : mt (aftJ (aftJ js ([q], [])) ([p], [])) q.2 = none := (Jp.ot q.2 (Ne.symm a2') (Ne.symm a4')).symm.trans Jq.f2
  have F : TI.F4 n (aftJ (aftJ js ([q], [])) ([p], [])) p.1 p.2 q.1 q.2 := ⟨by omega, rp.2, by omega, rq.2, by omega, a1', a2', a3', a4', by omega, Jp.f1, Jp.f2, f3, f4⟩
  obtain ⟨a1, ga1, A1, _⟩ := jn_join g0 F.lu F.lw F.fu F.fw F.uw
  obtain ⟨b1, gb1, B1, _⟩ := jn_join g0 F.lu F.lz F.fu F.fz F.uz
  refine ⟨_, _, a1, b1, F, Jp, Jq, A1, ?_, B1, ?_, g0, gq, ga1, aft_good g s1, gb1, aft_good g s2⟩
  · exact jn_two g hp hq s1 rfl Jp Jq A1 ⟨rfl, rfl⟩ (.inl ⟨rfl, rfl⟩) F.vz F.uv.symm F.vw F.uz.symm F.wz.symm F.fv F.fz (sm2_mem.mpr (.inl rfl)) (sm2_mem.mpr (.inr rfl)) fun m hm => sm2_mem.mp hm
  · exact jn_two g hp hq s2 rfl Jp Jq B1 ⟨rfl, rfl⟩ (.inr ⟨rfl, rfl⟩) F.vw F.uv.symm F.vz F.uw.symm F.wz F.fv F.fw (sm2_mem.mpr (.inl rfl)) (sm2_mem.mpr (.inr rfl)) fun m hm => sm2_mem.mp hm
end
end K15
-- K15cu
set_option Elab.async false
set_option linter.all false
set_option maxRecDepth 100000
set_option maxHeartbeats 4000000
/-! K15cu: how many steps are good, how many of them within a piece. -/
namespace K15
open PySem L2 DC LamX
open TI (Jn bd bS Sm Ks gd dueD dueS prS fsts shV opV)
section
variable {n : Nat} {js ls : List J2}
noncomputable def gv (n : Nat) (js ls : List J2) (st : Stp2) : Nat := gd n (aftJ js st) js ls
noncomputable def iv (n : Nat) (js ls : List J2) (st : Stp2) : Nat := gv n js ls st * TI.n1 (inW n js ls st)
theorem n1_sum {α : Type} (p : α → Bool) : ∀ l : List α, (l.filter p).length = (l.map fun x => TI.n1 (p x)).sum
  | [] => rfl
  | x :: l => by
    rw [List.filter_cons, List.map_cons, List.sum_cons, ← n1_sum p l]
    cases p x
    · show _ = 0 + _
      rw [Nat.zero_add]
      rfl
    · show (_ :: _).length = 1 + _
      rw [List.length_cons]
      omega
theorem gdJ_len : (gdJ n js ls).length = ((stJ n js).map (gv n js ls)).sum := by
  unfold gdJ stS
  rw [((List.mergeSort_perm (stJ n js) (PySem.W.dataLe false stD)).filter _).length_eq, n1_sum]
  rfl
theorem innJ_len : (innJ n js ls).length = ((stJ n js).map (iv n js ls)).sum := by
  unfold innJ gdJ stS
  rw [List.filter_filter, ((List.mergeSort_perm (stJ n js) (PySem.W.dataLe false stD)).filter _).length_eq, n1_sum]
  congr 1
  refine List.map_congr_left fun st _ => ?_
  unfold iv gv gd
  cases inW n js ls st <;> cases decide (cst n (aftJ js st) ls + 1 = cst n js ls) <;> rfl
theorem sum_flat {α β : Type} (f : α → List β) (h : β → Nat) : ∀ l : List α, ((l.flatMap f).map h).sum = (l.map fun x => ((f x).map h).sum).sum
  | [] => rfl
  | x :: l => by rw [List.flatMap_cons, List.map_append, List.sum_append, sum_flat f h l, List.map_cons, List.sum_cons]
theorem range_map {α β : Type} (l : List α) (d : α) (f : α → β) : ((List.range l.length).map fun k => f (l.getD k d)) = l.map f := by
  refine List.ext_getElem (by rw [List.length_map, List.length_map, List.length_range]) fun k h1 h2 => ?_
  rw [List.length_map] at h2
  rw [List.getElem_map, List.getElem_map, List.getElem_range, List.getD_eq_getElem?_getD, List.getElem?_eq_getElem h2]
  rfl
/-- a count over the steps, by their places -/
theorem st_sum (V : Stp2 → Nat) (C : J2 → Nat) (S : J2 → Nat → Nat) (D : J2 → J2 → Nat) (J : Nat → Nat → Nat)
    (hc : ∀ p ∈ js, V ([p], []) = C p) (hs : ∀ p ∈ js, ∀ e ∈ frees n js, V (sA p e p.1) + V (sA p e p.2) = S p e)
    (hd : js.Pairwise fun p q => V (sB p q (q.1, q.2)) + V (sB p q (q.2, q.1)) = D p q) (hj : (frees n js).Pairwise fun a b => V ([], [(a, b)]) = J a b) :
    ((stJ n js).map V).sum = (js.map C).sum + (js.map fun p => ((frees n js).map (S p)).sum).sum + prS D js + prS J (frees n js) := by
  unfold stJ
  rw [List.map_append, List.sum_append, sum_flat, sum_flat]
  have e2 : ((List.range (frees n js).length).map fun k => (((((frees n js).drop (k + 1)).map fun b => (([], [((frees n js).getD k 0, b)]) : Stp2))).map V).sum).sum = prS J (frees n js) := by
    rw [← TI.prS_congr hj, ← TI.prS_range (fun a b => V ([], [(a, b)])) 0 (frees n js)]
    congr 1
    refine List.map_congr_left fun k _ => ?_
    rw [List.map_map]
    rfl
  rw [e2]
  congr 1
  have e1 : ∀ k, k < js.length → ((stAt n js k (js.getD k (0, 0))).map V).sum = (C (js.getD k (0, 0)) + ((frees n js).map (S (js.getD k (0, 0)))).sum) + ((js.drop (k + 1)).map fun q => V (sB (js.getD k (0, 0)) q (q.1, q.2)) + V (sB (js.getD k (0, 0)) q (q.2, q.1))).sum := by
    intro k hk
    have hp : js.getD k (0, 0) ∈ js := by
      rw [List.getD_eq_getElem?_getD, List.getElem?_eq_getElem hk]
      exact List.getElem_mem hk
    generalize js.getD k (0, 0) = p at hp
    rw [stAt_eq, List.map_append, List.sum_append, List.map_cons, List.sum_cons, hc p hp, sum_flat, sum_flat]
    congr 2
    · congr 1
      refine List.map_congr_left fun e he => ?_
      rw [← hs p hp e he]
      show V _ + (V _ + 0) = _
      rfl
  have e3 : ((List.range js.length).map fun k => ((stAt n js k (js.getD k (0, 0))).map V).sum) = (List.range js.length).map fun k => (C (js.getD k (0, 0)) + ((frees n js).map (S (js.getD k (0, 0)))).sum) + ((js.drop (k + 1)).map fun q => V (sB (js.getD k (0, 0)) q (q.1, q.2)) + V (sB (js.getD k (0, 0)) q (q.2, q.1))).sum :=
    List.map_congr_left fun k hk => e1 k (List.mem_range.mp hk)
  rw [e3, TI.sum_map_add, TI.sum_map_add, ← TI.prS_congr hd, TI.prS_range (fun p q => V (sB p q (q.1, q.2)) + V (sB p q (q.2, q.1))) (0, 0) js, range_map js (0, 0) C, range_map js (0, 0) fun p => ((frees n js).map (S p)).sum]
theorem st_cut (g : Good n js) {p : J2} (hp : p ∈ js) : ([p], []) ∈ stJ n js := isSt_in g (.cut p hp)
/-- steps within a piece -/
theorem inW_iff (g : Good n js) (gl : Good n ls) {st : Stp2} {x0 : Nat} (h0 : x0 ∈ stE (st.1 ++ st.2)) (hx : x0 < 2 * n) : inW n js ls st = bd (∀ x ∈ stE (st.1 ++ st.2), Sm js ls x0 x) := by
  show bd (∃ p, Wpc n js ls p ∧ inRow st p.2 = true) = _
  refine TI.bd_iff ⟨?_, fun h => ?_⟩
  · rintro ⟨p, hp, hr⟩ x hx
    rw [inRow_all, List.all_eq_true] at hr
    obtain ⟨a, ha, c, _⟩ := hp
    exact (TI.hp_mem g gl ⟨a, ha, c⟩ (of_decide_eq_true (hr x0 h0)) x).mp (of_decide_eq_true (hr x hx))
  · obtain ⟨p, hp, hm⟩ := wpc_ex g gl hx
    refine ⟨p, hp, ?_⟩
    obtain ⟨a, ha, c, _⟩ := id hp
    rw [inRow_all, List.all_eq_true]
    exact fun x hx => decide_eq_true ((TI.hp_mem g gl ⟨a, ha, c⟩ hm x).mpr (h x hx))
theorem sm_joint (g : Good n js) {p : J2} (hp : p ∈ js) : Sm js ls p.1 p.2 := by
  obtain ⟨m1, _⟩ := mt_of g.dis (fun q hq => Nat.ne_of_lt (g.rng q hq).1) hp
  exact .step .base (.inl m1)
theorem mk2_cases {P : Nat → Prop} {a b : Nat} (ha : P a) (hb : P b) : P (mk2 a b).1 ∧ P (mk2 a b).2 := by
  rcases mk2_ends (a := a) (b := b) (.inl rfl) with h | h <;> rcases mk2_ends (a := a) (b := b) (.inr rfl) with k | k <;> rw [h, k] <;> exact ⟨by assumption, by assumption⟩
theorem inW_cut (g : Good n js) (gl : Good n ls) {p : J2} (hp : p ∈ js) : inW n js ls ([p], []) = true := by
  have r := g.rng p hp
  rw [inW_iff g gl (x0 := p.1) List.mem_cons_self (by omega)]
  refine TI.bd_t fun x hx => ?_
  have hx : x ∈ [p.1, p.2] := hx
  simp only [List.mem_cons, List.not_mem_nil, or_false] at hx
  rcases hx with rfl | rfl
  · exact .base
  · exact sm_joint g hp
theorem inW_shift (g : Good n js) (gl : Good n ls) {p : J2} (hp : p ∈ js) {e near : Nat} (hn : near = p.1 ∨ near = p.2) : inW n js ls (sA p e near) = bS js ls p.1 e := by
  have r := g.rng p hp
  rw [inW_iff g gl (x0 := p.1) List.mem_cons_self (by omega)]
  refine TI.bd_iff ⟨fun h => ?_, fun h x hx => ?_⟩
  · refine h e ?_
    show e ∈ [p.1, p.2, (mk2 near e).1, (mk2 near e).2]
    rcases (mk2_has near e).2 with z | z
    · rw [← z]; simp
    · rw [← z]; simp
  · have hx : x ∈ [p.1, p.2, (mk2 near e).1, (mk2 near e).2] := hx
    have sn : Sm js ls p.1 near := by
      rcases hn with rfl | rfl
      · exact .base
      · exact sm_joint g hp
    obtain ⟨c1, c2⟩ := mk2_cases (P := fun x => Sm js ls p.1 x) sn h
    simp only [List.mem_cons, List.not_mem_nil, or_false] at hx
    rcases hx with rfl | rfl | rfl | rfl
    · exact .base
    · exact sm_joint g hp
    · exact c1
    · exact c2
theorem inW_dbl (g : Good n js) (gl : Good n ls) {p q : J2} (hp : p ∈ js) (hq : q ∈ js) {s : J2} (h : s = (q.1, q.2) ∨ s = (q.2, q.1)) : inW n js ls (sB p q s) = bS js ls p.1 q.1 := by
  have r := g.rng p hp
  rw [inW_iff g gl (x0 := p.1) List.mem_cons_self (by omega)]
  refine TI.bd_iff ⟨fun h => ?_, fun hs x hx => ?_⟩
  · refine h q.1 ?_
    show q.1 ∈ p.1 :: p.2 :: q.1 :: _
    simp
  · obtain ⟨m, hm, hx2⟩ := List.mem_flatMap.mp hx
    have sp := sm_joint (ls := ls) g hp
    have sq := cl_trans hs (sm_joint (ls := ls) g hq)
    have ss : Sm js ls p.1 s.1 ∧ Sm js ls p.1 s.2 := by
      rcases h with rfl | rfl
      · exact ⟨hs, sq⟩
      · exact ⟨sq, hs⟩
    have hm : m ∈ [p, q] ++ sm2 (mk2 p.1 s.1) (mk2 p.2 s.2) := hm
    rcases List.mem_append.mp hm with hm | hm
    · have hm : m = p ∨ m = q := by simpa using hm
      have hx3 : x = m.1 ∨ x = m.2 := by simpa using hx2
      rcases hm with e | e <;> rcases hx3 with f | f <;> rw [f, e]
      · exact .base
      · exact sp
      · exact hs
      · exact sq
    · have c1 := mk2_cases (P := fun x => Sm js ls p.1 x) (a := p.1) (b := s.1) .base ss.1
      have c2 := mk2_cases (P := fun x => Sm js ls p.1 x) (a := p.2) (b := s.2) sp ss.2
      have hx3 : x = m.1 ∨ x = m.2 := by simpa using hx2
      rcases sm2_mem.mp hm with e | e <;> rcases hx3 with f | f <;> rw [f, e]
      · exact c1.1
      · exact c1.2
      · exact c2.1
      · exact c2.2
theorem inW_join (g : Good n js) (gl : Good n ls) {a b : Nat} (ha : a < 2 * n) : inW n js ls ([], [(a, b)]) = bS js ls a b := by
  rw [inW_iff g gl (x0 := a) List.mem_cons_self ha]
  refine TI.bd_iff ⟨fun h => h b (List.mem_cons_of_mem _ List.mem_cons_self), fun h x hx => ?_⟩
  have hx : x ∈ [a, b] := hx
  simp only [List.mem_cons, List.not_mem_nil, or_false] at hx
  rcases hx with rfl | rfl
  · exact .base
  · exact h
end
end K15
-- K15cv
set_option Elab.async false
set_option linter.all false
set_option maxRecDepth 100000
set_option maxHeartbeats 4000000
/-! K15cv: the counts of good steps, by the pieces of the web. -/
namespace K15
open PySem L2 DC LamX
open TI (Jn bd bS Sm Ks gd dueD dueS prS fsts shV opV)
section
variable {n : Nat} {js ls : List J2}
theorem sB_st (g : Good n js) {p q : J2} (hp : p ∈ js) (hq : q ∈ js) (lt : p.1 < q.1) (ap : DC.Apart p q) : IsSt n js (sB p q (q.1, q.2)) ∧ IsSt n js (sB p q (q.2, q.1)) := by
  have rp := g.rng p hp
  have rq := g.rng q hq
  constructor
  · show IsSt n js ([p, q], sm2 (mk2 p.1 q.1) (mk2 p.2 q.2))
    rw [mk2_lt lt, sm2_lt (p := (p.1, q.1)) (q := mk2 p.2 q.2) (by unfold mk2; dsimp only; omega)]
    exact .dbl _ _ hp hq lt ap
  · show IsSt n js ([p, q], sm2 (mk2 p.1 q.2) (mk2 p.2 q.1))
    rw [mk2_lt (show p.1 < q.2 by omega), sm2_lt (p := (p.1, q.2)) (q := mk2 p.2 q.1) (by unfold mk2; dsimp only; omega)]
    exact .dbl2 _ _ hp hq lt ap
theorem pw_js (g : Good n js) {R : J2 → J2 → Prop} (h : ∀ p q, p ∈ js → q ∈ js → p.1 < q.1 → DC.Apart p q → R p q) : js.Pairwise R := by
  have := g.asc.and g.dis
  exact List.Pairwise.imp_of_mem (fun {p q} hp hq z => h p q hp hq z.1 z.2) this
theorem gv_cut (g : Good n js) (gl : Good n ls) {p : J2} (hp : p ∈ js) : gv n js ls ([p], []) = shV n js ls p.1 := by
  have r := g.rng p hp
  exact TI.cut_count (jn_cut g hp) (by omega) r.2 (cut_good g hp) g gl
theorem gv_shift (g : Good n js) (gl : Good n ls) {p : J2} (hp : p ∈ js) {e : Nat} (he : e ∈ frees n js) : gv n js ls (sA p e p.1) + gv n js ls (sA p e p.2) = dueS n js ls p.1 e := by
  have r := g.rng p hp
  obtain ⟨A, ga⟩ := jn_shift g hp he (.inl rfl)
  obtain ⟨B, gb⟩ := jn_shift g hp he (.inr rfl)
  exact TI.shift_count (jn_cut g hp) A B (by omega) r.2 (free_lt he).1 (cut_good g hp) g ga gb gl
theorem gv_dbl (g : Good n js) (gl : Good n ls) {p q : J2} (hp : p ∈ js) (hq : q ∈ js) (lt : p.1 < q.1) (ap : DC.Apart p q) : gv n js ls (sB p q (q.1, q.2)) + gv n js ls (sB p q (q.2, q.1)) = dueD n js ls p.1 q.1 := by
  obtain ⟨s1, s2⟩ := sB_st g hp hq lt ap
  obtain ⟨j0, j1, a1, b1, D⟩ := dbl_ex g hp hq ap s1 s2
  exact TI.dbl_count D.F D.J1 D.J2' D.A1 D.A2 D.B1 D.B2 D.g0 D.g1 g D.ga1 D.ga D.gb1 D.gb gl
theorem gv_join (g : Good n js) (gl : Good n ls) {a b : Nat} (ha : a ∈ frees n js) (hb : b ∈ frees n js) (h : a < b) : gv n js ls ([], [(a, b)]) = TI.n1 (bS js ls a b) := by
  obtain ⟨x, gx, J, e⟩ := jn_join g (free_lt ha).1 (free_lt hb).1 (free_lt ha).2 (free_lt hb).2 (Nat.ne_of_lt h)
  rw [mk2_lt h] at e
  subst e
  exact TI.join_count J (free_lt ha).1 (free_lt hb).1 g gx gl
theorem pw_fr {R : Nat → Nat → Prop} (h : ∀ a b, a ∈ frees n js → b ∈ frees n js → a < b → R a b) : (frees n js).Pairwise R :=
  List.Pairwise.imp_of_mem (fun {a b} ha hb z => h a b ha hb z) (frees_asc n js)
theorem gd_count (g : Good n js) (gl : Good n ls) : (gdJ n js ls).length = TI.gdTot n js ls (frees n js) := by
  rw [gdJ_len, st_sum (gv n js ls) (fun p => shV n js ls p.1) (fun p e => dueS n js ls p.1 e) (fun p q => dueD n js ls p.1 q.1) (fun a b => TI.n1 (bS js ls a b)) (fun p hp => gv_cut g gl hp) (fun p hp e he => gv_shift g gl hp he)
    (pw_js g fun p q hp hq lt ap => gv_dbl g gl hp hq lt ap) (pw_fr fun a b ha hb h => gv_join g gl ha hb h)]
  unfold TI.gdTot
  rw [TI.prS_map, List.map_map, List.map_map]
  show (js.map fun p => shV n js ls p.1).sum + (js.map fun p => ((frees n js).map (fun e => dueS n js ls p.1 e)).sum).sum + prS (fun p q : J2 => dueD n js ls p.1 q.1) js + prS (fun a b => TI.n1 (bS js ls a b)) (frees n js) = prS (fun p q : J2 => dueD n js ls p.1 q.1) js + (js.map fun p => ((frees n js).map (fun e => dueS n js ls p.1 e)).sum).sum + prS (fun a b => TI.n1 (bS js ls a b)) (frees n js) + (js.map fun p => shV n js ls p.1).sum
  omega
theorem n1_dueS (u e : Nat) : dueS n js ls u e * TI.n1 (bS js ls u e) = TI.n1 (bS js ls u e) := by
  unfold dueS
  cases bS js ls u e with
  | true => rfl
  | false => rfl
theorem n1_dueD (u e : Nat) : dueD n js ls u e * TI.n1 (bS js ls u e) = TI.n1 (bS js ls u e) := by
  unfold dueD
  cases bS js ls u e with
  | true => rfl
  | false => rfl
theorem in_count (g : Good n js) (gl : Good n ls) : (innJ n js ls).length = TI.inTot n js ls (frees n js) := by
  rw [innJ_len, st_sum (iv n js ls) (fun p => shV n js ls p.1) (fun p e => TI.n1 (bS js ls p.1 e)) (fun p q => TI.n1 (bS js ls p.1 q.1)) (fun a b => TI.n1 (bS js ls a b)) (fun p hp => ?_) (fun p hp e he => ?_)
    (pw_js g fun p q hp hq lt ap => ?_) (pw_fr fun a b ha hb h => ?_)]
  · unfold TI.inTot
    rw [TI.prS_map, List.map_map, List.map_map]
    show (js.map fun p => shV n js ls p.1).sum + (js.map fun p => ((frees n js).map (fun e => TI.n1 (bS js ls p.1 e))).sum).sum + prS (fun p q : J2 => TI.n1 (bS js ls p.1 q.1)) js + prS (fun a b => TI.n1 (bS js ls a b)) (frees n js) = prS (fun p q : J2 => TI.n1 (bS js ls p.1 q.1)) js + (js.map fun p => ((frees n js).map (fun e => TI.n1 (bS js ls p.1 e))).sum).sum + prS (fun a b => TI.n1 (bS js ls a b)) (frees n js) + (js.map fun p => shV n js ls p.1).sum
    omega
  · unfold iv
    rw [inW_cut g gl hp, gv_cut g gl hp]
    exact Nat.mul_one _
  · unfold iv
    rw [inW_shift g gl hp (.inl rfl), inW_shift g gl hp (.inr rfl), ← Nat.add_mul, gv_shift g gl hp he, n1_dueS]
  · unfold iv
    rw [inW_dbl g gl hp hq (.inl rfl), inW_dbl g gl hp hq (.inr rfl), ← Nat.add_mul, gv_dbl g gl hp hq lt ap, n1_dueD]
  · unfold iv
    rw [inW_join g gl (free_lt ha).1, gv_join g gl ha hb h]
    cases bS js ls a b <;> rfl
/-- by kinds and sizes -/
def innS (l : Lot) : Nat := (l.map fun p => TI.inn1 p.1 p.2).sum
def opnS (l : Lot) : Nat := (l.map fun p => TI.opn1 p.1 p.2).sum
def shtS (l : Lot) : Nat := (l.map fun p => TI.sht1 p.1 p.2).sum
theorem fr_iff (x : Nat) : x ∈ frees n js ↔ x < 2 * n ∧ mt js x = none := ⟨free_lt, fun h => free_of_none h.1 h.2⟩
theorem counts_web (g : Good n js) (gl : Good n ls) {ps : List (Str × List Nat)} (W : IsWeb n js ls ps) :
    (innJ n js ls).length = innS (szs ps) ∧ (gdJ n js ls).length = innS (szs ps) + 2 * opnS (szs ps) * shtS (szs ps) := by
  have nf : (frees n js).Nodup := (frees_asc n js).imp fun h => Nat.ne_of_lt h
  have e1 := TI.tot_in W g gl nf fr_iff
  have e2 := TI.tot_op W g gl nf fr_iff
  have e3 := TI.tot_sh W g gl nf fr_iff
  rw [gd_count g gl, in_count g gl, TI.tot_gd g gl, e1, e2, e3]
  unfold innS opnS shtS szs
  rw [List.map_map, List.map_map, List.map_map]
  exact ⟨rfl, rfl⟩
end
end K15
-- K15ls
set_option Elab.async false
set_option linter.all false
set_option maxRecDepth 100000
set_option maxHeartbeats 4000000
namespace K15
open PySem L2 DC LamX
section
variable {P : Program} {w : World} {K : PySem.W.Frag} {mg : Str → Option Value} {base : Heap}
def spLst (K : PySem.W.Frag) (Pt : Addr) : Sp := fun vs H Q _ => ∃ (v1 v2 : V) (n : Nat) (js ls : List J2), vs = [v1, v2] ∧ Ly K H v1 n js ∧ Ly K H v2 n ls ∧ Good n js ∧ Good n ls ∧ Tabs (Tw Pt) H ∧
  ∀ (H' : Hp), ExtN H H' → Tabs (Tw Pt) H' → Q (.int (cst n js ls : Nat)) H'
theorem scLst : FnScope ["one", "other"] ["one", "other"] (defScope (top 34)) := ⟨rfl, rfl, rfl, by decide +kernel, rfl, by decide +kernel, by decide +kernel⟩
theorem okLst {f fT fC Pt : Addr} {fd fdT fdC : FuncData} (F : Fun K "least_steps" "least_steps" (top 34) f fd)
    (DT : Df K mg "need_two" fT fdT ["one", "other"]) (GT : OkF P w K mg base 6 fT fdT ["one", "other"] (spTwo K))
    (DCo : Df K mg "cost_of" fC fdC ["one", "other"]) (GCo : OkF P w K mg base 5 fC fdC ["one", "other"] (spCo K Pt)) : OkF P w K mg base 7 f fd ["one", "other"] (spLst K Pt) := by
  refine ok0 F scLst (fun vs H Q E h => ?_) (fun cdv A outer s H vs Q E hgd hr h => ?_)
  · obtain ⟨v1, v2, n, js, ls, rfl, _⟩ := h; rfl
  · obtain ⟨v1, v2, n, js, ls, rfl, y1, y2, g1, g2, hT, q⟩ := h
    have hr5 : Room 5 _ := hr.mono (by decide)
    refine ⟨_, (pss_cons (ps_expr (cl DT GT hgd hr (pa_cons (pv 0) (pa_cons (pv 1) pa_nil)))) (pss_one (ps_ret (cl DCo GCo hgd hr5 (pa_cons (pv 0) (pa_cons (pv 1) pa_nil)))))), ?_⟩
    refine ⟨_, rfl, _, rfl, v1, v2, n, js, ls, rfl, y1, y2, g1, g2, fun v H1 s1 => ?_⟩
    exact ⟨_, rfl, _, rfl, v1, v2, n, js, ls, rfl, y1.up s1, y2.up s1, g1, g2, hT.ext s1, fun H2 e2 T2 => q H2 ((ExtN.of s1).trans e2) T2⟩
end
end K15
-- K15l1
set_option Elab.async false
set_option linter.all false
set_option maxRecDepth 100000
set_option maxHeartbeats 2000000
/-! K15l1: _law_counts -/
namespace K15
open PySem L2 DC LamX
/-- kinds and sizes, reckoned -/
def lotJ (n : Nat) (js ls : List J2) : Lot := (hset n js ls).map fun h => (lk js ls h, h.length)
theorem lot_perm {n : Nat} {js ls : List J2} {ps : List (Str × List Nat)} (g : Good n js) (gl : Good n ls) (W : IsWeb n js ls ps) : (lotJ n js ls).Perm (szs ps) := by
  have P := (hset_ok g gl).perm W g gl
  have h := P.map fun h => (lk js ls h, h.length)
  rw [List.map_map, List.map_map] at h
  have e1 : (hset n js ls).map ((fun h => (lk js ls h, h.length)) ∘ asc) = lotJ n js ls := by
    unfold lotJ
    refine List.map_congr_left fun h _ => ?_
    show (lk js ls (asc h), (asc h).length) = _
    rw [lk_perm (asc_perm h), (asc_perm h).length_eq]
  have e2 : (ps.map ((fun h => (lk js ls h, h.length)) ∘ fun p => asc p.2)) = szs ps := by
    unfold szs
    refine List.map_congr_left fun p hp => ?_
    show (lk js ls (asc p.2), (asc p.2).length) = _
    rw [lk_perm (asc_perm p.2), (asc_perm p.2).length_eq, lk_wpc g gl ((W.mem p).mp hp)]
  rw [e1, e2] at h
  exact h
theorem innS_perm {l m : Lot} (h : l.Perm m) : innS l = innS m := TI.sum_perm (h.map _)
theorem opnS_perm {l m : Lot} (h : l.Perm m) : opnS l = opnS m := TI.sum_perm (h.map _)
theorem shtS_perm {l m : Lot} (h : l.Perm m) : shtS l = shtS m := TI.sum_perm (h.map _)
def gcI (n : Nat) (js ls : List J2) : Nat := innS (lotJ n js ls)
def gcO (n : Nat) (js ls : List J2) : Nat := 2 * opnS (lotJ n js ls) * shtS (lotJ n js ls)
theorem gc_real {n : Nat} {js ls : List J2} (g : Good n js) (gl : Good n ls) : (innJ n js ls).length = gcI n js ls ∧ (gdJ n js ls).length = gcI n js ls + gcO n js ls := by
  obtain ⟨ps, W⟩ := web_ex g gl
  have p := lot_perm g gl W
  obtain ⟨a, b⟩ := counts_web g gl W
  unfold gcI gcO
  rw [innS_perm p, opnS_perm p, shtS_perm p]
  exact ⟨a, b⟩
theorem inn_snoc (l : Lot) (p : Str × Nat) : innS (l ++ [p]) = innS l + TI.inn1 p.1 p.2 := by
  unfold innS
  rw [List.map_append, List.sum_append]
  rfl
theorem opn_snoc (l : Lot) (p : Str × Nat) : opnS (l ++ [p]) = opnS l + TI.opn1 p.1 p.2 := by
  unfold opnS
  rw [List.map_append, List.sum_append]
  rfl
theorem sht_snoc (l : Lot) (p : Str × Nat) : shtS (l ++ [p]) = shtS l + TI.sht1 p.1 p.2 := by
  unfold shtS
  rw [List.map_append, List.sum_append]
  rfl
theorem opn_le : ∀ l : Lot, opnS l ≤ szSum l + l.length
  | [] => Nat.le_refl _
  | p :: l => by
    have ih := opn_le l
    have e : opnS (p :: l) = TI.opn1 p.1 p.2 + opnS l := rfl
    have h : TI.opn1 p.1 p.2 ≤ p.2 + 1 := by
      unfold TI.opn1 TI.prc
      split <;> omega
    rw [e, szSum_cons, List.length_cons]
    omega
def bq (k s : Str) : Int := if decide (V.str k = V.str s) = true then 1 else 0
theorem bq_eq (k s : Str) : bq k s = if k = s then 1 else 0 := by
  unfold bq
  by_cases h : k = s
  · rw [if_pos h, if_pos (decide_eq_true (by rw [h]))]
  · rw [if_neg h, if_neg (by rw [decide_eq_true_eq]; exact fun z => h (V.str.inj z))]
theorem prc_int {k : Str} {s : Nat} (h : PcOk (k, s)) : ((s : Nat) : Int) / 2 - bq k "ring" = ((TI.prc k s : Nat) : Int) := by
  rw [bq_eq]
  unfold TI.prc
  by_cases c : k = "ring"
  · rw [if_pos c, if_pos c]
    subst c
    rcases h with ⟨h, _⟩ | ⟨_, h, _⟩
    · exact absurd (show ("ring" : Str) = "odd" from h) (by decide +kernel)
    · have : 2 ≤ s := h
      omega
  · rw [if_neg c, if_neg c]
    omega
theorem opn_int (k : Str) (s : Nat) : (((TI.prc k s : Nat) : Int) + 1) * bq k "open" = ((TI.opn1 k s : Nat) : Int) := by
  rw [bq_eq]
  unfold TI.opn1
  split
  · omega
  · omega
theorem sht_int (k : Str) (s : Nat) : ((TI.prc k s : Nat) : Int) * bq k "shut" = ((TI.sht1 k s : Nat) : Int) := by
  rw [bq_eq]
  unfold TI.sht1
  split
  · omega
  · omega
theorem inn_int (k : Str) (s : Nat) : ((TI.prc k s : Nat) : Int) * (((TI.prc k s : Nat) : Int) + 1) / 2 = ((TI.inn1 k s : Nat) : Int) := by
  unfold TI.inn1
  generalize TI.prc k s = p
  have e : ((p : Nat) : Int) * (((p : Nat) : Int) + 1) = ((p * (p + 1) : Nat) : Int) := by rw [Int.natCast_mul]; rfl
  rw [e]
  omega
section
variable {P : Program} {w : World} {K : PySem.W.Frag} {mg : Str → Option Value} {base : Heap}
def spLo (K : PySem.W.Frag) : Sp := fun vs H Q _ => ∃ (v1 v2 : V) (n : Nat) (js ls : List J2), vs = [v1, v2] ∧ Ly K H v1 n js ∧ Ly K H v2 n ls ∧ Good n js ∧ Good n ls ∧
  ∀ (r : Addr) (H' : Hp), Same H H' → H' r = some (.tup [.int (gcI n js ls : Nat), .int (gcO n js ls : Nat)]) → Q (.ref r) H'
abbrev NLo : List Str := ["one", "other", "inner", "opens", "shuts", "word", "size", "price"]
theorem scLo : FnScope NLo ["one", "other"] (defScope (top 53)) := ⟨rfl, rfl, rfl, by decide +kernel, rfl, by decide +kernel, by decide +kernel⟩
theorem okLo {f fLp : Addr} {fd fdLp : FuncData} (F : Fun K "_law_counts" "_law_counts" (top 53) f fd) (B : Bn mg)
    (DLp : Df K mg "_law_pieces" fLp fdLp ["one", "other"]) (GLp : OkF P w K mg base 3 fLp fdLp ["one", "other"] (spLp K)) : OkF P w K mg base 4 f fd ["one", "other"] (spLo K) := by
  refine ok0 F scLo (fun vs H Q E h => ?_) (fun cdv A outer s H vs Q E hgd hr h => ?_)
  · obtain ⟨v1, v2, n, js, ls, rfl, _⟩ := h; rfl
  · obtain ⟨v1, v2, n, js, ls, rfl, y1, y2, g1, g2, q⟩ := h
    have nd := scLo.nd
    have hr3 : Room 3 _ := hr
    refine ⟨_, (pss_cons (ps_asg (pe_tup (pa_cons pe_int (pa_cons pe_int (pa_cons pe_int pa_nil)))) (pg_tup (by rfl) (pgs_cons (pg_name (i := 2) nd rfl (.inl rfl)) (pgs_cons (pg_name (i := 3) nd rfl (.inl rfl)) (pgs_cons (pg_name (i := 4) nd rfl (.inl rfl)) pgs_nil))))) (pss_cons (ps_for PassesOwn.never rfl (pi_list (cl DLp GLp hgd hr3 (pa_cons (pv 0) (pa_cons (pv 1) pa_nil)))) (pg_tup (by rfl) (pgs_cons (pg_name (i := 5) nd rfl (.inl rfl)) (pgs_cons (pg_name (i := 6) nd rfl (.inl rfl)) pgs_nil))) (pss_cons (ps_set (i := 7) nd rfl (.inl rfl) (pe_op op_sub (pe_op op_fdiv (pv 6) pe_int) (pe_callTy call_int1 (by rfl) B.int (by decide +kernel) (pa_cons (pe_cmpR op_eq (pv 5) pe_str (nomark _)) pa_nil)))) (pss_cons (ps_set (i := 2) nd rfl (.inl rfl) (pe_op op_add (pv 2) (pe_op op_fdiv (pe_op op_mul (pv 7) (pe_op op_add (pv 7) pe_int)) pe_int))) (pss_cons (ps_set (i := 3) nd rfl (.inl rfl) (pe_op op_add (pv 3) (pe_op op_mul (pe_op op_add (pv 7) pe_int) (pe_callTy call_int1 (by rfl) B.int (by decide +kernel) (pa_cons (pe_cmpR op_eq (pv 5) pe_str (nomark _)) pa_nil))))) (pss_one (ps_set (i := 4) nd rfl (.inl rfl) (pe_op op_add (pv 4) (pe_op op_mul (pv 7) (pe_callTy call_int1 (by rfl) B.int (by decide +kernel) (pa_cons (pe_cmpR op_eq (pv 5) pe_str (nomark _)) pa_nil)))))))))) (pss_one (ps_ret (pe_tup (pa_cons (pv 2) (pa_cons (pe_op op_mul (pe_op op_mul pe_int (pv 3)) (pv 4)) pa_nil))))))), ?_⟩
    refine ⟨by show 3 ≤ sizeLine; decide, fun tt htt => ⟨tt, _, rfl, SqT.of upd_same, rfl, _, _, rfl, _, _, rfl, _, _, rfl, rfl, ?_⟩⟩
    have st := Same.new (o := .tup [V.int 0, .int 0, .int 0]) htt
    generalize upd H tt (.tup [V.int 0, .int 0, .int 0]) = H0 at st ⊢
    refine ⟨_, rfl, _, rfl, v1, v2, n, js, ls, rfl, y1.up st, y2.up st, g1, g2, fun ps r xs H1 s1 fr hr1 hd W len3 => ?_⟩
    have tp := g1.top
    rw [sizesD_map] at hd
    have len : xs.length = (szOrd ps).length := by rw [dpAll_len hd, List.length_map]
    have pw : ∀ p ∈ szOrd ps, PcOk (p.1, p.2.length) := fun p hp => pc_wpc g1 g2 ((W.mem p).mp ((szOrd_perm ps).mem_iff.mp hp))
    refine ⟨r, rfl, ⟨_, SqL.of hr1⟩, ?_⟩
    refine for_it (walk_list (xs := xs)) (fun i σ H' => ∃ (y5 y6 y7 : Option V), σ = [some v1, some v2, some (.int (innS (szs ((szOrd ps).take i)) : Nat)), some (.int (opnS (szs ((szOrd ps).take i)) : Nat)), some (.int (shtS (szs ((szOrd ps).take i)) : Nat)), y5, y6, y7] ∧ H1 = H') ⟨none, none, none, rfl, rfl⟩ (fun i σ H' _ hp => ?_) ?_ ?_
    · obtain ⟨_, _, _, _, rfl⟩ := hp
      exact SqL.of hr1
    · rintro i x σ Hz H2 hi ⟨y5, y6, y7, rfl, rfl⟩ ⟨rfl, ex⟩
      obtain ⟨d, ed, dd⟩ := dpAll_at hd ex
      rw [List.getElem?_map] at ed
      obtain ⟨p, ep, rfl⟩ := Option.map_eq_some_iff.mp ed
      obtain ⟨t, rfl, hS⟩ := dp_sz dd
      have pk := pw p (List.mem_of_getElem? ep)
      have tk : szs ((szOrd ps).take (i + 1)) = szs ((szOrd ps).take i) ++ [(p.1, p.2.length)] := by
        unfold szs
        rw [take_next ep, List.map_append]
        rfl
      rw [tk, inn_snoc, opn_snoc, sht_snoc]
      generalize szs ((szOrd ps).take i) = l
      refine ⟨t, _, rfl, hS, rfl, _, _, rfl, _, _, rfl, rfl, ?_⟩
      refine ⟨_, rfl, ((p.2.length : Nat) : Int), 2, rfl, rfl, ⟨by decide, by decide⟩, _, rfl, rfl, .inr ⟨_, rfl, _, _, rfl, rfl, gn ?_⟩⟩
      have e0 := prc_int pk
      have e1 := opn_int p.1 p.2.length
      have e2 := sht_int p.1 p.2.length
      have e3 := inn_int p.1 p.2.length
      have sm : TI.prc p.1 p.2.length < 2 ^ 60 := by
        have le : p.2.length ≤ 24 := by
          have wp := (W.mem p).mp ((szOrd_perm ps).mem_iff.mp (List.mem_of_getElem? ep))
          obtain ⟨a, ha, c, _⟩ := wp
          have := nodup_le (m := List.range (2 * n)) c.nd fun x hx => List.mem_range.mpr (c.lt x hx)
          rw [List.length_range] at this
          omega
        unfold TI.prc
        omega
      unfold bq at e0 e1 e2
      dsimp only
      rw [e0]
      refine ⟨_, rfl, _, rfl, _, rfl, ((TI.prc p.1 p.2.length : Nat) : Int), 1, rfl, rfl, ((TI.prc p.1 p.2.length : Nat) : Int), ((TI.prc p.1 p.2.length : Nat) : Int) + 1, rfl, rfl, .inl ⟨by omega, by omega⟩, _, 2, rfl, rfl, ⟨by decide, by decide⟩, ((innS l : Nat) : Int), _, rfl, rfl, gn ?_⟩
      dsimp only
      rw [e3]
      refine ⟨_, rfl, _, rfl, ((TI.prc p.1 p.2.length : Nat) : Int), 1, rfl, rfl, _, rfl, rfl, .inr ⟨_, rfl, ((TI.prc p.1 p.2.length : Nat) : Int) + 1, _, rfl, rfl, .inl ⟨by omega, by omega⟩, ((opnS l : Nat) : Int), _, rfl, rfl, gn ?_⟩⟩
      dsimp only
      rw [e1]
      refine ⟨_, rfl, _, rfl, _, rfl, rfl, .inr ⟨_, rfl, ((TI.prc p.1 p.2.length : Nat) : Int), _, rfl, rfl, .inl ⟨by omega, by omega⟩, ((shtS l : Nat) : Int), _, rfl, rfl, ?_⟩⟩
      dsimp only
      rw [e2]
      rw [Int.natCast_add, Int.natCast_add, Int.natCast_add]
      exact ⟨_, _, _, rfl, rfl⟩
    · rintro σ H2 ⟨y5, y6, y7, rfl, rfl⟩
      rw [len, List.take_of_length_le (Nat.le_refl _)]
      have pm : (szs (szOrd ps)).Perm (lotJ n js ls) := (show (szs (szOrd ps)).Perm (szs ps) from (szOrd_perm ps).map fun p : Str × List Nat => (p.1, p.2.length)).trans (lot_perm g1 g2 W).symm
      rw [innS_perm pm, opnS_perm pm, shtS_perm pm]
      refine ⟨_, rfl, _, rfl, 2, ((opnS (lotJ n js ls) : Nat) : Int), rfl, rfl, .inl ⟨by decide, by decide⟩, _, rfl, 2 * ((opnS (lotJ n js ls) : Nat) : Int), ((shtS (lotJ n js ls) : Nat) : Int), rfl, rfl, ?_, by show 2 ≤ sizeLine; decide, fun T hT => ?_⟩
      · have b1 := opn_le (szs ps)
        have b2 := web_sum W g1 g2
        have b3 : (szs ps).length = ps.length := List.length_map _
        rw [← opnS_perm (lot_perm g1 g2 W)] at b1
        exact .inl ⟨by omega, by omega⟩
      refine q T _ (st.trans (s1.trans (Same.new hT))) ?_
      rw [upd_same]
      show some (HO.tup [V.int _, V.int (2 * ((opnS (lotJ n js ls) : Nat) : Int) * ((shtS (lotJ n js ls) : Nat) : Int))]) = _
      unfold gcI gcO
      rw [Int.natCast_mul, Int.natCast_mul]
      rfl
end
end K15
-- K15l2
set_option Elab.async false
set_option linter.all false
set_option maxRecDepth 100000
set_option maxHeartbeats 2000000
/-! K15l2: _law_led_right -/
namespace K15
open PySem L2 DC LamX
section
variable {P : Program} {w : World} {K : PySem.W.Frag} {mg : Str → Option Value} {base : Heap}
def spLe (K : PySem.W.Frag) (Pt : Addr) : Sp := fun vs H Q _ => ∃ (v1 v2 : V) (n : Nat) (js ls : List J2), vs = [v1, v2] ∧ Ly K H v1 n js ∧ Ly K H v2 n ls ∧ Good n js ∧ Good n ls ∧ Tabs (Tw Pt) H ∧
  ∀ (H' : Hp), ExtN H H' → Tabs (Tw Pt) H' → Q (.bl true) H'
abbrev NLe : List Str := ["one", "other", "here", "due", "turn", "step_so"]
theorem scLe : FnScope NLe ["one", "other"] (defScope (top 54)) := ⟨rfl, rfl, rfl, by decide +kernel, rfl, by decide +kernel, by decide +kernel⟩
theorem okLe {f fLc fLs fFg fAf Pt : Addr} {fd fdLc fdLs fdFg fdAf : FuncData} (F : Fun K "_law_led_right" "_law_led_right" (top 54) f fd) (B : Bn mg)
    (DLc : Df K mg "_law_cost" fLc fdLc ["one", "other"]) (GLc : OkF P w K mg base 4 fLc fdLc ["one", "other"] (spLcs K))
    (DLs : Df K mg "least_steps" fLs fdLs ["one", "other"]) (GLs : OkF P w K mg base 7 fLs fdLs ["one", "other"] (spLst K Pt))
    (DFg : Df K mg "first_good" fFg fdFg ["one", "other"]) (GFg : OkF P w K mg base 8 fFg fdFg ["one", "other"] (spFg K Pt))
    (DAf : Df K mg "_law_after" fAf fdAf ["lay", "step_so"]) (GAf : OkF P w K mg base 1 fAf fdAf ["lay", "step_so"] (spAf K)) : OkF P w K mg base 9 f fd ["one", "other"] (spLe K Pt) := by
  refine ok0 F scLe (fun vs H Q E h => ?_) (fun cdv A outer s H vs Q E hgd hr h => ?_)
  · obtain ⟨v1, v2, n, js, ls, rfl, _⟩ := h; rfl
  · obtain ⟨v1, v2, n, js, ls, rfl, y1, y2, g1, g2, hT, q⟩ := h
    have nd := scLe.nd
    have hr1 : Room 1 _ := hr.mono (by decide)
    have hr4 : Room 4 _ := hr.mono (by decide)
    have hr7 : Room 7 _ := hr.mono (by decide)
    have hr8 : Room 8 _ := hr
    have top := g1.top
    refine ⟨_, (pss_cons (ps_par (i := 2) (j := 3) (by rfl) nd rfl rfl (by decide) rfl rfl (pa_cons (pv 0) (pa_cons (cl DLc GLc hgd hr4 (pa_cons (pv 0) (pa_cons (pv 1) pa_nil))) pa_nil)) (by rfl)) (pss_cons (ps_for PassesOwn.never rfl (pi_range1 (by rfl) B.range (pa_cons (pv 3) pa_nil)) (pg_name (i := 4) nd rfl (.inl rfl)) (pss_cons (ps_if (pt_cmpR op_ne (cl DLs GLs hgd hr7 (pa_cons (pv 2) (pa_cons (pv 1) pa_nil))) (pe_op op_sub (pv 3) (pv 4)) (nomark _)) (pss_one (ps_ret pe_bl)) pss_nil) (pss_cons (ps_set (i := 5) nd rfl (.inl rfl) (cl DFg GFg hgd hr8 (pa_cons (pv 2) (pa_cons (pv 1) pa_nil)))) (pss_cons (ps_if (pt_cmp (pc_isN (pv 5)) rfl) (pss_one (ps_ret pe_bl)) pss_nil) (pss_one (ps_set (i := 2) nd rfl (.inl rfl) (cl DAf GAf hgd hr1 (pa_cons (pv 2) (pa_cons (pv 5) pa_nil))))))))) (pss_one (ps_ret (pe_and (pe_cmpR (op_eqD hr.units) (pv 2) (pv 1) (nomark _)) (pe_one (pe_cmp (pc_isN (cl DFg GFg hgd hr8 (pa_cons (pv 2) (pa_cons (pv 1) pa_nil))))))))))), ?_⟩
    refine ⟨_, rfl, _, rfl, _, rfl, v1, v2, n, js, ls, rfl, y1, y2, g1, g2, fun H1 s1 => ⟨_, _, rfl, ?_⟩⟩
    have cle : cst n js ls ≤ n := by
      unfold cst
      omega
    refine ⟨_, rfl, _, rfl, by omega, by omega, ?_⟩
    rw [show (((cst n js ls : Nat) : Int)).toNat = cst n js ls by omega]
    refine for_it (walk_range (lo := 0) (n := cst n js ls)) (fun i σ H' => ∃ (v : V) (ks : List J2) (y4 y5 : Option V), σ = [some v1, some v2, some v, some (.int (cst n js ls : Nat)), y4, y5] ∧ ExtN H H' ∧ Tabs (Tw Pt) H' ∧ Ly K H' v n ks ∧ Good n ks ∧ cst n ks ls + i = cst n js ls) ⟨v1, js, none, none, rfl, ExtN.of s1, hT.ext s1, y1.up s1, g1, Nat.add_zero _⟩ (fun _ _ _ _ _ => trivial) ?_ ?_
    · rintro i x σ Hz H2 hi ⟨v, ks, y4, y5, rfl, e2, T2, y, g, hc⟩ ⟨rfl, ex⟩
      obtain rfl : x = V.int ((i : Nat) : Int) := by
        rw [ex]
        show V.int (0 + ((i : Nat) : Int)) = _
        rw [Int.zero_add]
      refine gn ?_
      refine ⟨_, rfl, _, rfl, v, v2, n, ks, ls, rfl, y, lyX e2 y2, g, g2, T2, fun H3 e3 T3 => ?_⟩
      refine ⟨_, rfl, _, rfl, ((cst n js ls : Nat) : Int), ((i : Nat) : Int), rfl, rfl, rfl, false, ?_, iteF ?_⟩
      · rw [decide_eq_true (show V.int ((cst n ks ls : Nat) : Int) = V.int (((cst n js ls : Nat) : Int) - ((i : Nat) : Int)) by congr 1; omega)]
        rfl
      have e23 := e2.trans e3
      refine ⟨_, rfl, _, rfl, v, v2, n, ks, ls, rfl, lyX e3 y, lyX e23 y2, g, g2, top, T3, fun fv H4 e4 T4 hf => gn ?_⟩
      have ne : ks ≠ ls := fun z => by
        rw [z, TI.cst_self g2] at hc
        omega
      have nn : gdJ n ks ls ≠ [] := fun z => ne ((gd_nil g g2).mp z)
      cases hg : gdJ n ks ls with
      | nil => exact absurd hg nn
      | cons st r =>
        rw [hg] at hf
        have hf : Stp K H4 fv st := hf
        have mst : st ∈ gdJ n ks ls := by rw [hg]; exact List.mem_cons_self
        have hst := gd_isSt g mst
        have hcst := of_decide_eq_true (List.mem_filter.mp mst).2
        obtain ⟨t, a, b, rfl, hft⟩ := id hf
        refine ⟨_, rfl, false, ?_, iteF ?_⟩
        · rw [decide_eq_false (fun z => nomatch z)]
        refine ⟨_, rfl, _, rfl, v, .ref t, n, ks, st, rfl, lyX (e3.trans e4) y, hf, g, top, hst, fun v' H5 s5 y' => gn ?_⟩
        exact ⟨v', aftJ ks st, _, _, rfl, e23.trans (e4.trans (ExtN.of s5)), T4.ext s5, y', aft_good g hst, by omega⟩
    · rintro σ H2 ⟨v, ks, y4, y5, rfl, e2, T2, y, g, hc⟩
      have z : cst n ks ls = 0 := by omega
      have eq : ks = ls := by
        by_cases c : ks = ls
        · exact c
        · obtain ⟨st, _, h⟩ := good_ex g g2 c
          omega
      subst eq
      have y2' := lyX e2 y2
      refine ⟨_, rfl, _, rfl, layD n ks, layD n ks, ly_dp y, ly_dp y2', shaped_layD n ks, shaped_layD n ks, true, ?_, iteT ?_⟩
      · rw [eqv_layD, decide_eq_true rfl]
      refine ⟨_, rfl, _, rfl, v, v2, n, ks, ks, rfl, y, y2', g, g, top, T2, fun fv H4 e4 T4 hf => ?_⟩
      rw [(gd_nil g g).mpr rfl] at hf
      have hf : fv = .non := hf
      subst hf
      rw [decide_eq_true rfl]
      exact q H4 (e2.trans e4) T4
end
end K15
-- K15sl
set_option Elab.async false
set_option linter.all false
set_option maxRecDepth 100000
set_option maxHeartbeats 4000000
namespace K15
open PySem L2 DC
def goodQ (n : Nat) (js : List J2) : Bool := js.all (fun p => decide (p.1 < p.2) && decide (p.2 < 2 * n)) && decide (js.Pairwise fun p q => p.1 < q.1) && decide (js.Pairwise fun p q => p.1 ≠ q.1 ∧ p.1 ≠ q.2 ∧ p.2 ≠ q.1 ∧ p.2 ≠ q.2)
theorem goodQ_ok {n : Nat} {js : List J2} (h1 : 1 ≤ n) (h12 : n ≤ 12) (h : goodQ n js = true) : Good n js := by
  unfold goodQ at h
  simp only [Bool.and_eq_true, List.all_eq_true, decide_eq_true_eq] at h
  exact ⟨h1, h12, fun p hp => h.1.1 p hp, h.1.2, h.2⟩
end K15

set_option Elab.async false
set_option linter.all false
set_option maxRecDepth 100000
set_option maxHeartbeats 8000000
namespace K15
open PySem L2 DC LamX
def sc3 (n j : Nat) : List Nat := [j, j * (j - 1) + 2 * j * (2 * n - 2 * j), (2 * n - 2 * j) * (2 * n - 2 * j - 1) / 2]
def stCnt (n j : Nat) : Nat := (sc3 n j).sum
section
variable {P : Program} {w : World} {K : PySem.W.Frag} {mg : Str → Option Value} {base : Heap}
end
end K15

set_option Elab.async false
set_option linter.all false
set_option maxRecDepth 100000
set_option maxHeartbeats 16000000
namespace K15
open PySem L2 DC LamX
theorem ends_nd {n : Nat} {js : List J2} (g : Good n js) : (js.flatMap fun p => [p.1, p.2]).Nodup := by
  have h : ∀ l : List J2, l.Pairwise DC.Apart → (∀ p ∈ l, p.1 ≠ p.2) → (l.flatMap fun p => [p.1, p.2]).Nodup := fun l => by
    induction l with
    | nil => intro _ _; exact List.nodup_nil
    | cons p l ih =>
      intro d ne
      have d' := List.pairwise_cons.mp d
      show ([p.1, p.2] ++ l.flatMap fun p => [p.1, p.2]).Nodup
      refine List.nodup_append.mpr ⟨?_, ih d'.2 fun q hq => ne q (List.mem_cons_of_mem _ hq), ?_⟩
      · exact List.nodup_cons.mpr ⟨fun h => ne p List.mem_cons_self (List.mem_singleton.mp h), List.nodup_cons.mpr ⟨List.not_mem_nil, List.nodup_nil⟩⟩
      · intro x hx y hy e
        subst e
        obtain ⟨q, hq, hy⟩ := List.mem_flatMap.mp hy
        have a := d'.1 q hq
        simp only [List.mem_cons, List.not_mem_nil, or_false] at hx hy
        obtain ⟨a1, a2, a3, a4⟩ := a
        rcases hx with rfl | rfl <;> rcases hy with hy | hy
        · exact a1 hy
        · exact a2 hy
        · exact a3 hy
        · exact a4 hy
  exact h js g.dis fun p hp => Nat.ne_of_lt (g.rng p hp).1
theorem ends_len : ∀ l : List J2, (l.flatMap fun p => [p.1, p.2]).length = 2 * l.length
  | [] => rfl
  | p :: l => by
    have := ends_len l
    show ([p.1, p.2] ++ l.flatMap fun p => [p.1, p.2]).length = _
    rw [List.length_append, this, List.length_cons, List.length_cons, List.length_cons, List.length_nil]
    omega
theorem filter_two {α : Type} (p : α → Bool) : ∀ l : List α, (l.filter p).length + (l.filter fun x => !p x).length = l.length
  | [] => rfl
  | x :: l => by
    have := filter_two p l
    rw [List.filter_cons, List.filter_cons]
    cases p x <;> simp only [if_true, Bool.false_eq_true, if_false, Bool.not_true, Bool.not_false, List.length_cons] <;> omega
theorem frees_cnt {n : Nat} {js : List J2} (g : Good n js) : (frees n js).length = 2 * n - 2 * js.length := by
  have h := filter_two (fun e => (mt js e).isNone) (List.range (2 * n))
  have e : ((List.range (2 * n)).filter fun e => !(mt js e).isNone).Perm (js.flatMap fun p => [p.1, p.2]) := by
    refine (List.perm_ext_iff_of_nodup (List.nodup_range.filter _) (ends_nd g)).mpr fun x => ?_
    rw [List.mem_filter, List.mem_range, List.mem_flatMap]
    have ne : ∀ q ∈ js, q.1 ≠ q.2 := fun q hq => Nat.ne_of_lt (g.rng q hq).1
    constructor
    · rintro ⟨h1, h2⟩
      cases hm : mt js x with
      | none => rw [hm] at h2; exact absurd h2 (by decide)
      | some y =>
        obtain ⟨p, hp, h | h⟩ := mt_some hm
        · exact ⟨p, hp, by rw [h.1]; exact List.mem_cons_self⟩
        · exact ⟨p, hp, by rw [h.1]; exact List.mem_cons_of_mem _ List.mem_cons_self⟩
    · rintro ⟨p, hp, hx⟩
      obtain ⟨m1, m2⟩ := mt_of g.dis ne hp
      have r := g.rng p hp
      simp only [List.mem_cons, List.not_mem_nil, or_false] at hx
      rcases hx with rfl | rfl
      · exact ⟨by omega, by rw [m1]; rfl⟩
      · exact ⟨r.2, by rw [m2]; rfl⟩
  have l1 := e.length_eq
  rw [ends_len] at l1
  rw [List.length_range] at h
  unfold frees
  omega
def stSum (L F : Nat) : Nat := ((List.range L).map fun k => 1 + 2 * F + 2 * (L - (k + 1))).sum + ((List.range F).map fun k => F - (k + 1)).sum
theorem stSum_tab : ∀ n, n ≤ 12 → ∀ L, L ≤ n → (stSum L (2 * n - 2 * L) == stCnt n L) = true := by decide +kernel
theorem flat2_len {α β : Type} (f : α → List β) (h : ∀ x, (f x).length = 2) : ∀ l : List α, (l.flatMap f).length = 2 * l.length
  | [] => rfl
  | x :: l => by rw [List.flatMap_cons, List.length_append, h, flat2_len f h l, List.length_cons]; omega
theorem stAt_len (n : Nat) (js : List J2) (k : Nat) (p : J2) : (stAt n js k p).length = 1 + 2 * (frees n js).length + 2 * (js.length - (k + 1)) := by
  rw [stAt_eq, List.length_append, List.length_cons, flat2_len _ (fun _ => rfl), flat2_len _ (fun _ => rfl), List.length_drop]
  omega
theorem stJ_len {n : Nat} {js : List J2} (g : Good n js) : (stJ n js).length = stCnt n js.length := by
  have h := stSum_tab n g.top js.length g.le
  rw [beq_iff_eq] at h
  rw [← h, ← frees_cnt g]
  unfold stJ stSum
  rw [List.length_append, List.length_flatMap, List.length_flatMap]
  congr 2
  · exact List.map_congr_left fun k _ => stAt_len n js k _
  · exact List.map_congr_left fun k _ => by rw [List.length_map, List.length_drop]
section
variable {P : Program} {w : World} {K : PySem.W.Frag} {mg : Str → Option Value} {base : Heap}
end
end K15
-- K15l3
set_option Elab.async false
set_option linter.all false
set_option maxRecDepth 100000
set_option maxHeartbeats 2000000
/-! K15l3: law -/
namespace K15
open PySem L2 DC LamX
theorem nbl {a b : V} (h : a = b) : V.bl (!decide (a = b)) = V.bl false := by rw [decide_eq_true h]; rfl
theorem st_tab : ∀ n, n ≤ 12 → ∀ L, L ≤ n → decide (stCnt n L ≤ 300) = true := by decide +kernel
theorem gc_le {n : Nat} {js ls : List J2} (g : Good n js) (gl : Good n ls) : gcI n js ls + gcO n js ls ≤ 300 := by
  rw [← (gc_real g gl).2]
  unfold gdJ
  refine Nat.le_trans (List.length_filter_le _ _) ?_
  unfold stS
  rw [List.length_mergeSort, stJ_len g]
  exact of_decide_eq_true (st_tab n g.top js.length g.le)
def gcP (a b : Nat) : PyData := .tuple [.int (a : Nat), .int (b : Nat)]
theorem short_gcP {a b : Nat} (h : a ≤ 300) (k : b ≤ 300) : Short (gcP a b) 100 1 := by
  refine (short_tuple (B := 21) (D := 0) (L := 2) (fun d hd => ?_) (Nat.le_refl _)).mono (by decide) (by decide)
  simp only [List.mem_cons, List.not_mem_nil, or_false] at hd
  rcases hd with rfl | rfl
  · exact short_int (Nat.lt_of_le_of_lt h (by decide))
  · exact short_int (Nat.lt_of_le_of_lt k (by decide))
theorem dp_gc {K : PySem.W.Frag} {H : Hp} {r : Addr} {a b : Nat} (h : SqT K H r [.int (a : Nat), .int (b : Nat)]) : Dp K H (.ref r) (gcP a b) := .tup h (.cons (.int _) (.cons (.int _) .nil))
abbrev jL : List J2 := (List.range 6).map fun k => (2 * k, 2 * k + 1)
abbrev jS : List J2 := (List.range 5).map fun k => (2 * k + 1, 2 * k + 2)
abbrev jR : List J2 := (0, 11) :: jS
abbrev jB1 : List J2 := [(0, 1), (2, 3), (7, 8), (9, 10)]
abbrev jB2 : List J2 := [(1, 2), (6, 7), (8, 9), (10, 11)]
theorem gL : Good 6 jL := goodQ_ok (by decide) (by decide) (by decide +kernel)
theorem gS : Good 6 jS := goodQ_ok (by decide) (by decide) (by decide +kernel)
theorem gR : Good 6 jR := goodQ_ok (by decide) (by decide) (by decide +kernel)
theorem gO : Good 6 (jL.take 5) := goodQ_ok (by decide) (by decide) (by decide +kernel)
theorem gB1 : Good 6 jB1 := goodQ_ok (by decide) (by decide) (by decide +kernel)
theorem gB2 : Good 6 jB2 := goodQ_ok (by decide) (by decide) (by decide +kernel)
theorem v1 : gcI 6 jL jR = 15 ∧ gcO 6 jL jR = 0 := by decide +kernel
theorem v2 : gcI 6 jL jS = 21 ∧ gcO 6 jL jS = 0 := by decide +kernel
theorem v3 : gcI 6 jS jL = 21 ∧ gcO 6 jS jL = 0 := by decide +kernel
theorem v4 : gcI 6 (jL.take 5) jS = 15 ∧ gcO 6 (jL.take 5) jS = 0 := by decide +kernel
theorem v5 : gcI 6 jB1 jB2 = 9 ∧ gcO 6 jB1 jB2 = 16 := by decide +kernel
end K15
-- K15l4
set_option Elab.async false
set_option linter.all false
set_option maxRecDepth 100000
set_option maxHeartbeats 2000000
/-! K15l4: law -/
namespace K15
open PySem L2 DC LamX
theorem jsX {K : PySem.W.Frag} {H H' : Hp} (e : ExtN H H') {v : V} {js : List J2} (h : Js K H v js) : Js K H' v js := (TM.ex e).js h
theorem pair_take {α β : Type} {R : α → β → Prop} : ∀ {xs : List α} {ys : List β} (k : Nat), Paired R xs ys → Paired R (xs.take k) (ys.take k)
  | _, _, 0, _ => by rw [List.take_zero, List.take_zero]; exact .nil
  | _, _, k + 1, .nil => by rw [List.take_nil, List.take_nil]; exact .nil
  | _, _, k + 1, .cons a b => .cons a (pair_take k b)
theorem cut_to {xs : List V} {k : Nat} (h : k ≤ xs.length) : cutV xs none (some ((k : Nat) : Int)) = xs.take k := by
  unfold cutV
  rw [HT.sIx_none, HT.sIx_nat, List.drop_zero, Nat.sub_zero, Nat.min_eq_left h]
def dueH : List PyData := [gcP 15 0, gcP 21 0, gcP 21 0, gcP 15 0, gcP 9 16]
theorem dsDueH : Dsp (tLst (tCons (tP 15 0) (tCons (tP 21 0) (tCons (tP 21 0) (tCons (tP 15 0) (tCons (tP 9 16) tNil)))))) (.list dueH) :=
  .lst (.cons (dsP (a := 15) (b := 0) rfl rfl) (.cons (dsP (a := 21) (b := 0) rfl rfl) (.cons (dsP (a := 21) (b := 0) rfl rfl) (.cons (dsP (a := 15) (b := 0) rfl rfl) (.cons (dsP (a := 9) (b := 16) rfl rfl) .nil))))) (by show 5 ≤ 1000; decide)
theorem dsB4 (a b c d e f g h : Nat) {x1 x2 x3 x4 x5 x6 x7 x8 : Int} (h1 : x1 = (a : Nat)) (h2 : x2 = (b : Nat)) (h3 : x3 = (c : Nat)) (h4 : x4 = (d : Nat)) (h5 : x5 = (e : Nat)) (h6 : x6 = (f : Nat)) (h7 : x7 = (g : Nat)) (h8 : x8 = (h : Nat)) :
    Dsp (tTup (tCons (tI 6) (tCons (tTup (tCons (tP x1 x2) (tCons (tP x3 x4) (tCons (tP x5 x6) (tCons (tP x7 x8) tNil))))) tNil))) (layD 6 [(a, b), (c, d), (e, f), (g, h)]) :=
  dsL (n := 6) rfl (.cons (dsP (a := a) (b := b) h1 h2) (.cons (dsP (a := c) (b := d) h3 h4) (.cons (dsP (a := e) (b := f) h5 h6) (.cons (dsP (a := g) (b := h) h7 h8) .nil)))) (by show 4 ≤ 1000; decide)
theorem dsBoth : Dsp (tTup (tCons (tTup (tCons (tI 6) (tCons (tTup (tCons (tP 0 1) (tCons (tP 2 3) (tCons (tP 7 8) (tCons (tP 9 10) tNil))))) tNil))) (tCons (tTup (tCons (tI 6) (tCons (tTup (tCons (tP 1 2) (tCons (tP 6 7) (tCons (tP 8 9) (tCons (tP 10 11) tNil))))) tNil))) tNil))) (.tuple [layD 6 jB1, layD 6 jB2]) :=
  .tup (.cons (dsB4 0 1 2 3 7 8 9 10 rfl rfl rfl rfl rfl rfl rfl rfl) (.cons (dsB4 1 2 6 7 8 9 10 11 rfl rfl rfl rfl rfl rfl rfl rfl) .nil)) (by show 2 ≤ 1000; decide)
theorem gc_tup {K : PySem.W.Frag} {H : Hp} {r : Addr} {n : Nat} {js ls : List J2} (g : Good n js) (gl : Good n ls) (h : H r = some (.tup [.int ((innJ n js ls).length : Nat), .int (((gdJ n js ls).length : Nat) - ((innJ n js ls).length : Nat))])) : SqT K H r [.int (gcI n js ls : Nat), .int (gcO n js ls : Nat)] := by
  obtain ⟨a, b⟩ := gc_real g gl
  rw [a, b, show (((gcI n js ls + gcO n js ls : Nat) : Int) - ((gcI n js ls : Nat) : Int)) = ((gcO n js ls : Nat) : Int) by omega] at h
  exact SqT.of h
section
variable {P : Program} {w : World} {K : PySem.W.Frag} {mg : Str → Option Value} {base : Heap}
def spLaw (K : PySem.W.Frag) (Pt : Addr) : Sp := fun vs H Q _ => ∃ (a : Addr) (ns : List Int), vs = [.ref a] ∧ SqL K H a (ns.map V.int) ∧ ns.length ≤ 63 ∧ Tabs (Tw Pt) H ∧ ∀ H', Q (.bl true) H'
abbrev NLaw : List Str := ["script", "m", "turn", "links", "one", "other", "due", "links_so", "shifted", "ring", "told", "odd", "both", "k"]
theorem scLaw : FnScope NLaw ["script"] (defScope (top 55)) := ⟨rfl, rfl, rfl, by decide +kernel, rfl, by decide +kernel, by decide +kernel⟩
theorem okLaw {f fBe fOf fLa fLo fLk fGc fGs fLe Pt : Addr} {fd fdBe fdOf fdLa fdLo fdLk fdGc fdGs fdLe : FuncData} (F : Fun K "law" "law" (top 55) f fd) (B : Bn mg)
    (DBe : Df K mg "_law_begun" fBe fdBe ["script"]) (GBe : OkF P w K mg base 1 fBe fdBe ["script"] (spBegun K))
    (DOf : Df K mg "_law_of" fOf fdOf ["m", "some"]) (GOf : OkF P w K mg base 2 fOf fdOf ["m", "some"] (spOf K))
    (DLa : Df K mg "_law_lay" fLa fdLa ["m", "links"]) (GLa : OkF P w K mg base 3 fLa fdLa ["m", "links"] (spMake K))
    (DLo : Df K mg "_law_counts" fLo fdLo ["one", "other"]) (GLo : OkF P w K mg base 4 fLo fdLo ["one", "other"] (spLo K))
    (DLk : Df K mg "_law_like" fLk fdLk ["told", "due"]) (GLk : OkF P w K mg base 1 fLk fdLk ["told", "due"] (spLike K))
    (DGc : Df K mg "good_counts" fGc fdGc ["one", "other"]) (GGc : OkF P w K mg base 8 fGc fdGc ["one", "other"] (spGc K Pt))
    (DGs : Df K mg "good_steps" fGs fdGs ["one", "other"]) (GGs : OkF P w K mg base 7 fGs fdGs ["one", "other"] (spGs K Pt))
    (DLe : Df K mg "_law_led_right" fLe fdLe ["one", "other"]) (GLe : OkF P w K mg base 9 fLe fdLe ["one", "other"] (spLe K Pt)) : OkF P w K mg base 10 f fd ["script"] (spLaw K Pt) := by
  refine ok0 F scLaw (fun vs H Q E h => ?_) (fun cdv A outer s H vs Q E hgd hr h => ?_)
  · obtain ⟨a, ns, rfl, _⟩ := h; rfl
  · obtain ⟨a, ns, rfl, hS, hl, hTb, q⟩ := h
    have nd := scLaw.nd
    have hr1 : Room 1 _ := hr.mono (by decide)
    have hr2 : Room 2 _ := hr.mono (by decide)
    have hr3 : Room 3 _ := hr.mono (by decide)
    have hr4 : Room 4 _ := hr.mono (by decide)
    have hr7 : Room 7 _ := hr.mono (by decide)
    have hr8 : Room 8 _ := hr.mono (by decide)
    have hr9 : Room 9 _ := hr
    refine ⟨_, (pss_cons (ps_set (i := 1) nd rfl (.inl rfl) (cl DBe GBe hgd hr1 (pa_cons (pv 0) pa_nil))) (pss_cons (ps_for PassesOwn.never rfl (pi_range1 (by rfl) B.range (pa_cons (pe_op op_add pe_int (pe_callB (call_min2 rfl) (by rfl) B.min (by decide +kernel) (pa_cons (pe_callB (r := rLen K) call_len_seq (by rfl) B.len PySem.boot_len (pa_cons (pv 0) pa_nil)) (pa_cons pe_int pa_nil)))) pa_nil)) (pg_name (i := 2) nd rfl (.inl rfl)) (pss_cons (ps_set (i := 3) nd rfl (.inl rfl) (cl DOf GOf hgd hr2 (pa_cons (pv 1) (pa_cons (pe_lst (pa_cons pe_int (pa_cons pe_int (pa_cons pe_int (pa_cons pe_int (pa_cons pe_int (pa_cons pe_int pa_nil))))))) pa_nil)))) (pss_cons (ps_par (i := 4) (j := 5) (by rfl) nd rfl rfl (by decide) rfl rfl (pa_cons (cl DLa GLa hgd hr3 (pa_cons (pv 1) (pa_cons (pv 3) pa_nil))) (pa_cons (cl DLa GLa hgd hr3 (pa_cons (pv 1) (pa_cons (pv 3) pa_nil))) pa_nil)) (by rfl)) (pss_cons (ps_set (i := 6) nd rfl (.inl rfl) (cl DLo GLo hgd hr4 (pa_cons (pv 4) (pa_cons (pv 5) pa_nil)))) (pss_cons (ps_if (pt_not (pt_val (cl DLk GLk hgd hr1 (pa_cons (pe_lst (pa_cons (cl DGc GGc hgd hr8 (pa_cons (pv 4) (pa_cons (pv 5) pa_nil))) (pa_cons (cl DGc GGc hgd hr8 (pa_cons (pv 4) (pa_cons (pv 5) pa_nil))) pa_nil))) (pa_cons (pe_lst (pa_cons (pv 6) (pa_cons (pv 6) pa_nil))) pa_nil))))) (pss_one (ps_ret pe_bl)) pss_nil) (pss_cons (ps_if (PW.pt (pw_and (pt_cmpR op_lt (pv 3) pe_int (nomark _)) (pw_and1 (pt_cmpR op_ne (pe_callB (r := rLen K) call_len_seq (by rfl) B.len PySem.boot_len (pa_cons (cl DGs GGs hgd hr7 (pa_cons (pv 4) (pa_cons (pv 5) pa_nil))) pa_nil)) (pe_op op_add (pe_ix (r := rIxT K) ix_tup (pv 6) pe_int (fun _ _ => rfl)) (pe_ix (r := rIxT K) ix_tup (pv 6) pe_int (fun _ _ => rfl))) (nomark _))))) (pss_one (ps_ret pe_bl)) pss_nil) (pss_one (ps_if (PW.pt (pw_and (pt_cmpR op_lt (pv 3) pe_int (nomark _)) (pw_and1 (pt_not (pt_val (cl DLe GLe hgd hr9 (pa_cons (pv 4) (pa_cons (pv 5) pa_nil)))))))) (pss_one (ps_ret pe_bl)) pss_nil)))))))) (pss_cons (ps_set (i := 7) nd rfl (.inl rfl) (pe_callTy call_tuple_of (by rfl) B.tuple (by decide +kernel) (pa_cons (pe_lc (own := [("k", 13)]) (g := (gName 13)) (tt := tYes) rfl nd (pi_range1 (by rfl) B.range (pa_cons pe_int pa_nil)) (blkOk_by (N := NLaw) (sc := defScope (top 55)) (by decide +kernel)) (fun _ _ _ _ _ => (pg_name (i := 13) nd rfl (Or.inl rfl))) (fun _ _ _ _ _ => pts_nil) (fun _ _ _ _ _ => (pe_tup (pa_cons (pe_op op_mul pe_int (pv 13)) (pa_cons (pe_op op_add (pe_op op_mul pe_int (pv 13)) pe_int) pa_nil))))) pa_nil))) (pss_cons (ps_set (i := 8) nd rfl (.inl rfl) (pe_callTy call_tuple_of (by rfl) B.tuple (by decide +kernel) (pa_cons (pe_lc (own := [("k", 13)]) (g := (gName 13)) (tt := tYes) rfl nd (pi_range1 (by rfl) B.range (pa_cons pe_int pa_nil)) (blkOk_by (N := NLaw) (sc := defScope (top 55)) (by decide +kernel)) (fun _ _ _ _ _ => (pg_name (i := 13) nd rfl (Or.inl rfl))) (fun _ _ _ _ _ => pts_nil) (fun _ _ _ _ _ => (pe_tup (pa_cons (pe_op op_add (pe_op op_mul pe_int (pv 13)) pe_int) (pa_cons (pe_op op_add (pe_op op_mul pe_int (pv 13)) pe_int) pa_nil))))) pa_nil))) (pss_cons (ps_par (i := 4) (j := 9) (by rfl) nd rfl rfl (by decide) rfl rfl (pa_cons (pe_tup (pa_cons pe_int (pa_cons (pv 7) pa_nil))) (pa_cons (pe_tup (pa_cons pe_int (pa_cons (pe_op op_catA (pe_tup (pa_cons (pe_tup (pa_cons pe_int (pa_cons pe_int pa_nil))) pa_nil)) (pv 8)) pa_nil))) pa_nil)) (by rfl)) (pss_cons (ps_set (i := 10) nd rfl (.inl rfl) (pe_lst (pa_cons (cl DGc GGc hgd hr8 (pa_cons (pv 4) (pa_cons (pv 9) pa_nil))) (pa_cons (cl DGc GGc hgd hr8 (pa_cons (pv 4) (pa_cons (pe_tup (pa_cons pe_int (pa_cons (pv 8) pa_nil))) pa_nil))) (pa_cons (cl DGc GGc hgd hr8 (pa_cons (pe_tup (pa_cons pe_int (pa_cons (pv 8) pa_nil))) (pa_cons (pv 4) pa_nil))) pa_nil))))) (pss_cons (ps_set (i := 11) nd rfl (.inl rfl) (pe_tup (pa_cons (pe_tup (pa_cons pe_int (pa_cons (pe_slice sl_tup (pv 7) po_none (po_some pe_int)) pa_nil))) (pa_cons (pe_tup (pa_cons pe_int (pa_cons (pv 8) pa_nil))) pa_nil)))) (pss_cons (ps_set (i := 12) nd rfl (.inl rfl) (pe_tup (pa_cons (pe_tup (pa_cons pe_int (pa_cons (pe_tup (pa_cons (pe_tup (pa_cons pe_int (pa_cons pe_int pa_nil))) (pa_cons (pe_tup (pa_cons pe_int (pa_cons pe_int pa_nil))) (pa_cons (pe_tup (pa_cons pe_int (pa_cons pe_int pa_nil))) (pa_cons (pe_tup (pa_cons pe_int (pa_cons pe_int pa_nil))) pa_nil))))) pa_nil))) (pa_cons (pe_tup (pa_cons pe_int (pa_cons (pe_tup (pa_cons (pe_tup (pa_cons pe_int (pa_cons pe_int pa_nil))) (pa_cons (pe_tup (pa_cons pe_int (pa_cons pe_int pa_nil))) (pa_cons (pe_tup (pa_cons pe_int (pa_cons pe_int pa_nil))) (pa_cons (pe_tup (pa_cons pe_int (pa_cons pe_int pa_nil))) pa_nil))))) pa_nil))) pa_nil)))) (pss_cons (ps_set (i := 10) nd rfl (.inl rfl) (pe_op op_cat (pv 10) (pe_lst (pa_cons (cl DGc GGc hgd hr8 (pa_cons (pe_ix (r := rIxT K) ix_tup (pv 11) pe_int (fun _ _ => rfl)) (pa_cons (pe_ix (r := rIxT K) ix_tup (pv 11) pe_int (fun _ _ => rfl)) pa_nil))) (pa_cons (cl DGc GGc hgd hr8 (pa_cons (pe_ix (r := rIxT K) ix_tup (pv 12) pe_int (fun _ _ => rfl)) (pa_cons (pe_ix (r := rIxT K) ix_tup (pv 12) pe_int (fun _ _ => rfl)) pa_nil))) pa_nil))))) (pss_one (ps_ret (cl DLk GLk hgd hr1 (pa_cons (pv 10) (pa_cons (pe_lst (pa_cons (pe_tup (pa_cons pe_int (pa_cons pe_int pa_nil))) (pa_cons (pe_tup (pa_cons pe_int (pa_cons pe_int pa_nil))) (pa_cons (pe_tup (pa_cons pe_int (pa_cons pe_int pa_nil))) (pa_cons (pe_tup (pa_cons pe_int (pa_cons pe_int pa_nil))) (pa_cons (pe_tup (pa_cons pe_int (pa_cons pe_int pa_nil))) pa_nil)))))) pa_nil)))))))))))))), ?_⟩
    refine ⟨_, rfl, a, ns, rfl, hS, hl, fun m l H1 s1 _ _ hM => gn ?_⟩
    refine ⟨_, rfl, a, _, rfl, .inl (s1.seq hS), _, 3, rfl, 2, _, rfl, rfl, _, rfl, ?_⟩
    have z0 : (if (3 : Int) < ((List.map V.int ns).length : Nat) then (3 : Int) else ((List.map V.int ns).length : Nat)) ≤ 3 := by split <;> omega
    have z1 : 0 ≤ (if (3 : Int) < ((List.map V.int ns).length : Nat) then (3 : Int) else ((List.map V.int ns).length : Nat)) := by split <;> omega
    generalize (if (3 : Int) < ((List.map V.int ns).length : Nat) then (3 : Int) else ((List.map V.int ns).length : Nat)) = c0 at z0 z1 ⊢
    refine ⟨by omega, by omega, for_it (walk_range (lo := 0)) (fun i σ H' => ∃ (y2 y3 y4 y5 y6 : Option V) (l' : Addr), σ = [some (.ref a), some (.ref m), y2, y3, y4, y5, y6, none, none, none, none, none, none, none] ∧ MAt H' m l' ∧ Tabs (Tw Pt) H') ⟨none, none, none, none, none, l, rfl, hM, hTb.ext s1⟩ (fun _ _ _ _ _ => trivial) ?_ ?_⟩
    · rintro i x σ Hz H2 hi ⟨y2, y3, y4, y5, y6, l', rfl, hM2, Tb2⟩ ⟨rfl, ex⟩
      refine gn ?_
      refine ⟨_, rfl, by show 6 ≤ sizeLine; decide, fun b hb => ?_⟩
      have sb := Same.new (o := .lst [.int 2, .int 3, .int 4, .int 6, .int 8, .int 12]) hb
      refine ⟨m, l', b, _, rfl, hM2.up sb, SqL.of upd_same, by show 0 < 6; decide, by show 6 < 1000000; decide, fun k v H3 l3 hv sx hM3 hl3 => gn ?_⟩
      obtain ⟨n, rfl, h1, h4⟩ : ∃ n : Nat, v = .int (n : Nat) ∧ 1 ≤ n ∧ n ≤ 12 := by
        have hm := List.mem_of_getElem? hv
        simp only [List.mem_cons, List.not_mem_nil, or_false] at hm
        rcases hm with rfl | rfl | rfl | rfl | rfl | rfl
        · exact ⟨2, rfl, by decide, by decide⟩
        · exact ⟨3, rfl, by decide, by decide⟩
        · exact ⟨4, rfl, by decide, by decide⟩
        · exact ⟨6, rfl, by decide, by decide⟩
        · exact ⟨8, rfl, by decide, by decide⟩
        · exact ⟨12, rfl, by decide, by decide⟩
      have T3 := tabsM sx (hM2.up sb) (Tb2.ext sb)
      refine ⟨_, rfl, _, rfl, m, l3, n, rfl, hM3, h1, by omega, fun v1 js H4 l4 sx4 hM4 y1 g1 => ?_⟩
      have T4 := tabsM sx4 hM3 T3
      refine ⟨_, rfl, _, rfl, m, l4, n, rfl, hM4, h1, by omega, fun v2 ls H5 l5 sx5 hM5 y2' g2 => ⟨_, _, rfl, ?_⟩⟩
      have T5 := tabsM sx5 hM4 T4
      have y1' := lyM sx5 hM4 y1
      clear y1 sx4 sx5 hM4 T4 T3 hM3 sx sb hM2 Tb2
      -- the counts
      refine ⟨_, rfl, _, rfl, v1, v2, n, js, ls, rfl, y1', y2', g1, g2, fun z H6 s6 hz => gn ?_⟩
      have T6 := T5.ext s6
      refine ⟨_, rfl, _, rfl, v1, v2, n, js, ls, rfl, y1'.up s6, y2'.up s6, g1, g2, h4, T6, fun ra H7 e7 T7 hra => ?_⟩
      have e57 := (ExtN.of s6).trans e7
      refine ⟨_, rfl, _, rfl, v1, v2, n, js, ls, rfl, lyX e57 y1', lyX e57 y2', g1, g2, h4, T7, fun rb H8 e8 T8 hrb => ⟨by show 2 ≤ sizeLine; decide, fun l1 hl1 => ?_⟩⟩
      refine ⟨_, rfl, _, rfl, by show 2 ≤ sizeLine; decide, fun l2 hl2 => ?_⟩
      have u1 := Same.new (o := .lst [.ref ra, .ref rb]) hl1
      have u2 := Same.new (o := .lst [.ref z, .ref z]) hl2
      have u := u1.trans u2
      have le := gc_le g1 g2
      have ha := Same.t u (extN_t e8 (gc_tup (K := K) g1 g2 hra))
      have hb2 := Same.t u (gc_tup (K := K) g1 g2 hrb)
      have hz8 := Same.t u (extN_t (e7.trans e8) (SqT.of (K := K) hz))
      have dS : Short (.list [gcP (gcI n js ls) (gcO n js ls), gcP (gcI n js ls) (gcO n js ls)]) 1000 2 := by
        refine (short_list (B := 100) (D := 1) (L := 2) (fun d hd => ?_) (Nat.le_refl _)).mono (by decide) (by decide)
        simp only [List.mem_cons, List.not_mem_nil, or_false] at hd
        rcases hd with rfl | rfl <;> exact short_gcP (by omega) (by omega)
      refine ⟨.ref l1, .ref l2, _, rfl, .lst (SqL.of (u2 _ _ upd_same)) (.cons (dp_gc ha) (.cons (dp_gc hb2) .nil)), .lst (SqL.of upd_same) (.cons (dp_gc hz8) (.cons (dp_gc hz8) .nil)), dS.s, Nat.le_trans dS.p (by decide), Nat.le_trans dS.w (by decide), true, rfl, iteF ?_⟩
      have e9 := (e57.trans e8).trans (ExtN.of u)
      have T9 := T8.ext u
      have M9 := matX e9 hM5
      have y19 := lyX e9 y1'
      have y29 := lyX e9 y2'
      generalize upd (upd H8 l1 (.lst [.ref ra, .ref rb])) l2 (.lst [.ref z, .ref z]) = H9 at hz8 T9 M9 y19 y29 ⊢
      clear e9 u u1 u2 ha hb2 hra hrb hz hl1 hl2 e57 e7 e8 T6 T7 T8 s6 T5 hM5 y1' y2' dS
      refine ⟨_, rfl, (n : Int), 5, rfl, rfl, _, rfl, ?_⟩
      by_cases c : (n : Int) < 5
      · rw [decide_eq_true c]
        refine iteT ?_
        refine ⟨_, rfl, _, rfl, v1, v2, n, js, ls, rfl, y19, y29, g1, g2, h4, T9, fun rg us Ha ea Ta hrg hPg _ => ?_⟩
        have lg : us.length = gcI n js ls + gcO n js ls := (Paired.length hPg).trans (gc_real g1 g2).2
        have hza := extN_t ea hz8
        refine ⟨rg, us, rfl, .inr (SqT.of hrg), _, rfl, z, _, 0, _, rfl, rfl, hza, at_of (j := 0) rfl rfl, _, rfl, z, _, 1, _, rfl, rfl, hza, at_of (j := 1) rfl rfl, _, _, rfl, rfl, rfl, false, ?_, iteF ?_⟩
        · exact nbl (by rw [lg, Int.natCast_add])
        refine ⟨_, rfl, (n : Int), 5, rfl, rfl, _, rfl, ?_⟩
        rw [decide_eq_true c]
        refine iteT ?_
        refine ⟨_, rfl, _, rfl, v1, v2, n, js, ls, rfl, lyX ea y19, lyX ea y29, g1, g2, Ta, fun Hb eb Tb => ⟨true, rfl, iteF ?_⟩⟩
        exact ⟨_, _, _, _, _, l5, rfl, matX (ea.trans eb) M9, Tb⟩
      · rw [decide_eq_false c]
        refine iteF ?_
        refine iteF ?_
        refine ⟨_, rfl, (n : Int), 5, rfl, rfl, _, rfl, ?_⟩
        rw [decide_eq_false c]
        refine iteF ?_
        refine iteF ?_
        exact ⟨_, _, _, _, _, l5, rfl, M9, T9⟩
    · rintro σ H2 ⟨y2, y3, y4, y5, y6, l', rfl, hM2, Tb2⟩
      -- the lays
      refine ⟨6, rfl, by omega, by omega, fun D hD => ?_⟩
      refine lc_it (walk_range (lo := 0) (n := 6)) (fun i H' => ∃ acc : List V, Same H2 H' ∧ H' D = some (.lst acc) ∧ acc.length ≤ i ∧ Paired (Pr K H') acc ((List.range i).map fun k => (2 * k, 2 * k + 1))) ⟨[], Same.new hD, upd_same, Nat.le_refl _, .nil⟩ (fun _ _ _ _ => trivial) ?_ ?_
      · rintro i x Ha Hb hi ⟨acc, sm, hA, hal, hPA⟩ ⟨rfl, ex⟩
        obtain rfl : x = V.int ((i : Nat) : Int) := by
          rw [ex]
          show V.int (0 + ((i : Nat) : Int)) = _
          rw [Int.zero_add]
        refine ⟨rfl, ?_⟩
        refine yesT ?_
        refine ⟨_, rfl, 2, ((i : Nat) : Int), rfl, rfl, .inl ⟨by decide, by decide⟩, _, rfl, 2, ((i : Nat) : Int), rfl, rfl, .inl ⟨by decide, by decide⟩, 2 * ((i : Nat) : Int), 1, rfl, rfl, by show 2 ≤ sizeLine; decide, fun T hT => ?_⟩
        have sT := Same.new (o := .tup [.int ((2 * i : Nat) : Int), .int ((2 * i + 1 : Nat) : Int)]) hT
        have hA2 := sT _ _ hA
        refine ⟨acc, hA2, by show acc.length < 16777216; omega, acc ++ [.ref T], same_put (sm.trans sT) hD, upd_same, by rw [List.length_append, List.length_singleton]; omega, ?_⟩
        rw [List.range_succ, List.map_append]
        exact pair_snoc (((TM.of sT).trans (TM.put hA2)).prs hPA) ((TM.put hA2).pr ⟨T, rfl, SqT.of upd_same⟩)
      rintro H3 ⟨accL, s3, hA3, hal3, hPL⟩
      refine ⟨D, accL, rfl, .inl ⟨SqL.of hA3, fun tL htL => gn ?_⟩⟩
      have u3 := Same.new (o := .tup accL) htL
      have hPL4 : Paired (Pr K _) accL jL := (TM.of u3).prs hPL
      have hL4 := upd_same (H := H3) (a := tL) (o := .tup accL)
      have T4 := Tb2.ext (s3.trans u3)
      generalize upd H3 tL (.tup accL) = H4 at hPL4 hL4 T4 ⊢
      clear s3 hA3 hPL u3 htL hD D
      refine ⟨5, rfl, by omega, by omega, fun D hD => ?_⟩
      refine lc_it (walk_range (lo := 0) (n := 5)) (fun i H' => ∃ acc : List V, Same H4 H' ∧ H' D = some (.lst acc) ∧ acc.length ≤ i ∧ Paired (Pr K H') acc ((List.range i).map fun k => (2 * k + 1, 2 * k + 2))) ⟨[], Same.new hD, upd_same, Nat.le_refl _, .nil⟩ (fun _ _ _ _ => trivial) ?_ ?_
      · rintro i x Ha Hb hi ⟨acc, sm, hA, hal, hPA⟩ ⟨rfl, ex⟩
        obtain rfl : x = V.int ((i : Nat) : Int) := by
          rw [ex]
          show V.int (0 + ((i : Nat) : Int)) = _
          rw [Int.zero_add]
        refine ⟨rfl, ?_⟩
        refine yesT ?_
        refine ⟨_, rfl, 2, ((i : Nat) : Int), rfl, rfl, .inl ⟨by decide, by decide⟩, 2 * ((i : Nat) : Int), 1, rfl, rfl, _, rfl, 2, ((i : Nat) : Int), rfl, rfl, .inl ⟨by decide, by decide⟩, 2 * ((i : Nat) : Int), 2, rfl, rfl, by show 2 ≤ sizeLine; decide, fun T hT => ?_⟩
        have sT := Same.new (o := .tup [.int ((2 * i + 1 : Nat) : Int), .int ((2 * i + 2 : Nat) : Int)]) hT
        have hA2 := sT _ _ hA
        refine ⟨acc, hA2, by show acc.length < 16777216; omega, acc ++ [.ref T], same_put (sm.trans sT) hD, upd_same, by rw [List.length_append, List.length_singleton]; omega, ?_⟩
        rw [List.range_succ, List.map_append]
        exact pair_snoc (((TM.of sT).trans (TM.put hA2)).prs hPA) ((TM.put hA2).pr ⟨T, rfl, SqT.of upd_same⟩)
      rintro H5 ⟨accS, s5, hA5, hal5, hPS⟩
      refine ⟨D, accS, rfl, .inl ⟨SqL.of hA5, fun tS htS => gn ?_⟩⟩
      have u5 := Same.new (o := .tup accS) htS
      have hPS6 : Paired (Pr K _) accS jS := (TM.of u5).prs hPS
      have hS6 := upd_same (H := H5) (a := tS) (o := .tup accS)
      have hL6 := (s5.trans u5) _ _ hL4
      have hPL6 := (TM.of (s5.trans u5)).prs hPL4
      have T6 := T4.ext (s5.trans u5)
      generalize upd H5 tS (.tup accS) = H6 at hPS6 hS6 hL6 hPL6 T6 ⊢
      clear s5 hA5 hPS u5 htS hD D hPL4 hL4 T4
      have lL : accL.length = 6 := Paired.length hPL6
      have lS : accS.length = 5 := Paired.length hPS6
      have JL : Js K H6 (.ref tL) jL := ⟨tL, accL, rfl, SqT.of hL6, hPL6⟩
      have JS : Js K H6 (.ref tS) jS := ⟨tS, accS, rfl, SqT.of hS6, hPS6⟩
      -- one, ring
      refine ⟨_, rfl, by show 2 ≤ sizeLine; decide, fun t1 ht1 => ⟨by show 2 ≤ sizeLine; decide, fun p1 hp1 => ⟨by show 1 ≤ sizeLine; decide, fun p2 hp2 => ⟨_, rfl, ?_⟩⟩⟩⟩
      have w1 := Same.new (o := .tup [.int 6, .ref tL]) ht1
      have w2 := Same.new (o := .tup [.int 0, .int 11]) hp1
      have w3 := Same.new (o := .tup [.ref p1]) hp2
      have w := w1.trans (w2.trans w3)
      have yL : Ly K (upd H6 t1 (.tup [.int 6, .ref tL])) (.ref t1) 6 jL := ⟨t1, .ref tL, rfl, SqT.of upd_same, JL.up w1⟩
      refine catA_of (SqT.of upd_same) (SqT.of (w _ _ hS6)) (Nat.le_trans (show 1 + accS.length ≤ 100 by omega) (by decide)) fun cr H7 s7 hcr => ⟨by show 2 ≤ sizeLine; decide, fun t2 ht2 => ⟨_, _, rfl, ?_⟩⟩
      have w4 := Same.new (o := .tup [.int 6, .ref cr]) ht2
      have s74 := s7.trans w4
      have w8 := w.trans s74
      have hp1' : Pr K H7 (.ref p1) (0, 11) := ⟨p1, rfl, SqT.of ((w3.trans s7) _ _ upd_same)⟩
      have JR : Js K H7 (.ref cr) jR := ⟨cr, _, rfl, hcr, .cons hp1' ((TM.of (w.trans s7)).prs hPS6)⟩
      have yR : Ly K _ (.ref t2) 6 jR := ⟨t2, .ref cr, rfl, SqT.of upd_same, JR.up w4⟩
      have yL8 := yL.up ((w2.trans w3).trans s74)
      have T8 := T6.ext w8
      have JL8 := JL.up w8
      have JS8 := JS.up w8
      have hL8 := w8 _ _ hL6
      have hPL8 := (TM.of w8).prs hPL6
      generalize upd H7 t2 (.tup [.int 6, .ref cr]) = H8 at yR yL8 T8 JL8 JS8 hL8 hPL8 ⊢
      clear w1 w2 w3 w w4 s74 w8 hp1' JR yL T6 JL JS hL6 hPL6 hS6 s7 hcr ht1 hp1 hp2 ht2
      -- the first three
      refine ⟨_, rfl, _, rfl, .ref t1, .ref t2, 6, jL, jR, rfl, yL8, yR, gL, gR, by decide, T8, fun ra Ha ea Ta hra => ?_⟩
      refine ⟨_, rfl, _, rfl, by show 2 ≤ sizeLine; decide, fun t3 ht3 => ?_⟩
      have x3 := Same.new (o := .tup [.int 6, .ref tS]) ht3
      have yS : Ly K _ (.ref t3) 6 jS := ⟨t3, .ref tS, rfl, SqT.of upd_same, Js.up x3 (jsX ea JS8)⟩
      refine ⟨.ref t1, .ref t3, 6, jL, jS, rfl, (lyX ea yL8).up x3, yS, gL, gS, by decide, Ta.ext x3, fun rb Hb eb Tb hrb => ?_⟩
      have eB := (ea.trans (ExtN.of x3)).trans eb
      refine ⟨_, rfl, by show 2 ≤ sizeLine; decide, fun t4 ht4 => ⟨_, rfl, ?_⟩⟩
      have x4 := Same.new (o := .tup [.int 6, .ref tS]) ht4
      have yS4 : Ly K _ (.ref t4) 6 jS := ⟨t4, .ref tS, rfl, SqT.of upd_same, Js.up x4 (jsX eB JS8)⟩
      refine ⟨.ref t4, .ref t1, 6, jS, jL, rfl, yS4, (lyX eB yL8).up x4, gS, gL, by decide, Tb.ext x4, fun rc Hc ec Tc hrc => ⟨by show 3 ≤ sizeLine; decide, fun t5 ht5 => gn ?_⟩⟩
      have x5 := Same.new (o := .lst [.ref ra, .ref rb, .ref rc]) ht5
      have eC := (eB.trans (ExtN.of x4)).trans (ec.trans (ExtN.of x5))
      have qa := extN_t ((((ExtN.of x3).trans eb).trans (ExtN.of x4)).trans (ec.trans (ExtN.of x5))) (gc_tup (K := K) gL gR hra)
      have qb := extN_t ((ExtN.of x4).trans (ec.trans (ExtN.of x5))) (gc_tup (K := K) gL gS hrb)
      have qc := extN_t (ExtN.of x5) (gc_tup (K := K) gS gL hrc)
      rw [v1.1, v1.2] at qa
      rw [v2.1, v2.2] at qb
      rw [v3.1, v3.2] at qc
      have T9 := Tc.ext x5
      have hL9 := tupX eC hL8
      have hPL9 := (TM.ex eC).prs hPL8
      have JL9 := jsX eC JL8
      have JS9 := jsX eC JS8
      have hT9 := upd_same (H := Hc) (a := t5) (o := .lst [.ref ra, .ref rb, .ref rc])
      generalize upd Hc t5 (.lst [.ref ra, .ref rb, .ref rc]) = H9 at qa qb qc T9 hL9 JL9 JS9 hT9 hPL9 ⊢
      clear x3 x4 x5 eC eB ea eb ec yS yS4 Ta Tb Tc T8 hL8 JL8 JS8 yL8 yR hPL8 hra hrb hrc ht3 ht4 ht5
      -- odd, both
      refine ⟨_, rfl, _, rfl, tL, _, rfl, SqT.of hL9, ?_, fun c hc => ?_⟩
      · rw [show (some (5 : Int)) = some ((5 : Nat) : Int) from rfl, HT.sIx_nat, lL]
        omega
      rw [show (some (5 : Int)) = some ((5 : Nat) : Int) from rfl, cut_to (k := 5) (by omega)]
      refine ⟨by show 2 ≤ sizeLine; decide, fun o1 ho1 => ⟨_, rfl, by show 2 ≤ sizeLine; decide, fun o2 ho2 => ⟨by show 2 ≤ sizeLine; decide, fun o3 ho3 => gn ?_⟩⟩⟩
      have x1 := Same.new (o := .tup (accL.take 5)) hc
      have x2 := Same.new (o := .tup [.int 6, .ref c]) ho1
      have x3 := Same.new (o := .tup [.int 6, .ref tS]) ho2
      have x4 := Same.new (o := .tup [.ref o1, .ref o2]) ho3
      have x := x1.trans (x2.trans (x3.trans x4))
      have yO1 : Ly K _ (.ref o1) 6 (jL.take 5) := Ly.up (x3.trans x4) ⟨o1, .ref c, rfl, SqT.of upd_same, Js.up x2 ⟨c, accL.take 5, rfl, SqT.of upd_same, (TM.of x1).prs (pair_take 5 hPL9)⟩⟩
      have yO2 : Ly K _ (.ref o2) 6 jS := Ly.up x4 ⟨o2, .ref tS, rfl, SqT.of upd_same, JS9.up (x1.trans (x2.trans x3))⟩
      have hO3 := SqT.of (K := K) (upd_same (H := upd (upd (upd H9 c (.tup (accL.take 5))) o1 (.tup [.int 6, .ref c])) o2 (.tup [.int 6, .ref tS])) (a := o3) (o := .tup [.ref o1, .ref o2]))
      have qa1 := Same.t x qa
      have qb1 := Same.t x qb
      have qc1 := Same.t x qc
      have Tx := T9.ext x
      have hTx := x _ _ hT9
      generalize upd (upd (upd (upd H9 c (.tup (accL.take 5))) o1 (.tup [.int 6, .ref c])) o2 (.tup [.int 6, .ref tS])) o3 (.tup [.ref o1, .ref o2]) = H10 at yO1 yO2 hO3 qa1 qb1 qc1 Tx hTx ⊢
      clear x x1 x2 x3 x4 qa qb qc T9 hT9 hPL9 hL9 JL9 JS9 hc ho1 ho2 ho3
      dsimp only
      refine seq_i (asg_i (dsp_ok (K := K) dsBoth fun bv H11 s11 hb => gn ?_))
      obtain ⟨bt, b1, b2, rfl, hbS, hb1, hb2⟩ := dp_tup2 hb
      have yB1 := dp_ly hb1
      have yB2 := dp_ly hb2
      dsimp only
      -- the last two
      refine ⟨_, rfl, _, rfl, o3, _, 0, _, rfl, rfl, Same.t s11 hO3, at_of (j := 0) rfl rfl, _, rfl, o3, _, 1, _, rfl, rfl, Same.t s11 hO3, at_of (j := 1) rfl rfl, .ref o1, .ref o2, 6, _, _, rfl, yO1.up s11, yO2.up s11, gO, gS, by decide, Tx.ext s11, fun rd Hd ed Td hrd => ?_⟩
      have hbSd := extN_t ed hbS
      refine ⟨_, rfl, bt, _, 0, _, rfl, rfl, hbSd, at_of (j := 0) rfl rfl, _, rfl, bt, _, 1, _, rfl, rfl, hbSd, at_of (j := 1) rfl rfl, b1, b2, 6, _, _, rfl, lyX ed yB1, lyX ed yB2, gB1, gB2, by decide, Td, fun re He ee Te hre => ⟨by show 2 ≤ sizeLine; decide, fun t6 ht6 => ?_⟩⟩
      have x6 := Same.new (o := .lst [.ref rd, .ref re]) ht6
      have eS := (ExtN.of s11).trans ((ed.trans ee).trans (ExtN.of x6))
      have hT6 := lstX eS hTx
      refine ⟨t5, t6, _, _, rfl, rfl, hT6, upd_same, by show 5 ≤ sizeLine; decide, fun t7 ht7 => gn ?_⟩
      have x7 := Same.new (o := .lst ([V.ref ra, .ref rb, .ref rc] ++ [.ref rd, .ref re])) ht7
      have eT := eS.trans (ExtN.of x7)
      have pa1 := extN_t eT qa1
      have pb1 := extN_t eT qb1
      have pc1 := extN_t eT qc1
      have pd1 := Same.t (x6.trans x7) (extN_t ee (gc_tup (K := K) gO gS hrd))
      have pe1 := Same.t (x6.trans x7) (gc_tup (K := K) gB1 gB2 hre)
      rw [v4.1, v4.2] at pd1
      rw [v5.1, v5.2] at pe1
      have hT7 := upd_same (H := upd He t6 (.lst [.ref rd, .ref re])) (a := t7) (o := .lst ([V.ref ra, .ref rb, .ref rc] ++ [.ref rd, .ref re]))
      generalize upd (upd He t6 (.lst [.ref rd, .ref re])) t7 (.lst ([V.ref ra, .ref rb, .ref rc] ++ [.ref rd, .ref re])) = H12 at pa1 pb1 pc1 pd1 pe1 hT7 ⊢
      dsimp only
      refine ⟨_, rfl, ?_⟩
      refine dsp_one (K := K) dsDueH fun dv H13 s13 hdv => ?_
      have sh : Short (.list dueH) 1000 2 := by
        refine (short_list (B := 100) (D := 1) (L := 5) (fun d hd => ?_) (by show 5 ≤ 5; decide)).mono (by decide) (by decide)
        unfold dueH at hd
        simp only [List.mem_cons, List.not_mem_nil, or_false] at hd
        rcases hd with rfl | rfl | rfl | rfl | rfl <;> exact short_gcP (by decide) (by decide)
      exact ⟨.ref t7, dv, .list dueH, rfl, .lst (SqL.of (s13 _ _ hT7)) (.cons (dp_gc (Same.t s13 pa1)) (.cons (dp_gc (Same.t s13 pb1)) (.cons (dp_gc (Same.t s13 pc1)) (.cons (dp_gc (Same.t s13 pd1)) (.cons (dp_gc (Same.t s13 pe1)) .nil))))), hdv, sh.s, Nat.le_trans sh.p (by decide), Nat.le_trans sh.w (by decide), q _⟩
end
end K15
-- K15zd
set_option Elab.async false
set_option linter.all false
set_option maxRecDepth 100000
set_option maxHeartbeats 4000000
namespace K15
open PySem L2 DC LamX
/-- a def as it stands in the top's heap -/
structure Hd (K : PySem.W.Frag) (x : Str) (st : Stmt) (f : Addr) (fd : FuncData) : Prop where
  a : PySem.W.nsIn K mainGlobals x = some (some (.ref f))
  F : Fun K x x st f fd
theorem hd_mk {K : PySem.W.Frag} {x : Str} {st : Stmt} {f : Addr} {oc : Value} {od an : Option Addr} {osl : Array (Option Value)} {kV doc pm cdv ct : Value} (a : PySem.W.nsIn K mainGlobals x = some (some (.ref f)))
    (l : K.lookup f = some ⟨oc, od, .func (PySem.W.fnOf x x (defArgs st) (defBody st) (defScope st) .none kV doc pm an cdv ct), osl⟩) (c : PySem.W.codeIn K cdv x = true) (k : PySem.W.keepIn K (.ref f) = true) :
    Hd K x st f (PySem.W.fnOf x x (defArgs st) (defBody st) (defScope st) .none kV doc pm an cdv ct) := ⟨a, fun_mk l c k⟩
theorem all_mk {l : PySem.W.OpenLaw} {w : World} {K : PySem.W.Frag} {h : Heap} {mg : Str → Option Value} {fa f6 f7 f8 f9 f10 f12 f14 f13 f15 f16 f17 f19 f20 f21 f22 f23 f24 f25 f27 f28 f29 f30 f31 f33 f34 f36 f37 f38 f39 f40 f42 f43 f44 f45 f46 f47 f48 f49 f50 f51 f52 f53 f54 f55 cw Pt : Addr} {fd6 fd7 fd8 fd9 fd10 fd12 fd14 fd13 fd15 fd16 fd17 fd19 fd20 fd21 fd22 fd23 fd24 fd25 fd27 fd28 fd30 fd31 fd33 fd34 fd36 fd37 fd38 fd39 fd40 fd42 fd43 fd44 fd45 fd46 fd47 fd48 fd49 fd50 fd51 fd52 fd53 fd54 fd55 : FuncData} {tm : Tok}
    {oc : Value} {od an : Option Addr} {osl : Array (Option Value)} {kV doc pm ct : Value}
    (X : K.In h) (G : h.Ns mainGlobals mg) (hfa : mg "law" = some (.ref fa))
    (h6 : Hd K "is_int" (top 6) f6 fd6)
    (h7 : Hd K "is_from" (top 7) f7 fd7)
    (h8 : Hd K "is_pair" (top 8) f8 fd8)
    (h9 : Hd K "is_joint" (top 9) f9 fd9)
    (h10 : Hd K "false_joint" (top 10) f10 fd10)
    (h12 : Hd K "need_lay" (top 12) f12 fd12)
    (h14 : Hd K "need_alike" (top 14) f14 fd14)
    (h13 : Hd K "need_two" (top 13) f13 fd13)
    (h15 : Hd K "joint_of" (top 15) f15 fd15)
    (h16 : Hd K "mates" (top 16) f16 fd16)
    (h17 : Hd K "free_of" (top 17) f17 fd17)
    (h19 : Hd K "pairings" (top 19) f19 fd19)
    (h20 : Hd K "doubles" (top 20) f20 fd20)
    (h21 : Hd K "shifts" (top 21) f21 fd21)
    (h22 : Hd K "joins" (top 22) f22 fd22)
    (h23 : Hd K "cuts" (top 23) f23 fd23)
    (h24 : Hd K "steps_of" (top 24) f24 fd24)
    (h25 : Hd K "stepped" (top 25) f25 fd25)
    (h27 : Hd K "row_along" (top 27) f27 fd27)
    (h28 : Hd K "path_from" (top 28) f28 fd28)
    (a29 : PySem.W.nsIn K mainGlobals "web_of" = some (some (.ref f29)))
    (l29 : K.lookup f29 = some ⟨oc, od, .func (PySem.W.fnOf "web_of" "web_of" (defArgs (top 29)) (defBody (top 29)) (defScope (top 29)) .none kV doc pm an (.ref cw) ct), osl⟩) (c29 : PySem.W.codeIn K (.ref cw) "web_of" = true) (k29 : PySem.W.keepIn K (.ref f29) = true)
    (hemp : ∀ q ∈ [Pt], h.get? q = some (PySem.W.tabObj #[])) (hout : K.lookup Pt = none) (hcode : PySem.W.codeHdIn K cw Pt = true)
    (h30 : Hd K "piece_cost" (top 30) f30 fd30)
    (h31 : Hd K "sizes_of" (top 31) f31 fd31)
    (h33 : Hd K "cost_of" (top 33) f33 fd33)
    (h34 : Hd K "least_steps" (top 34) f34 fd34)
    (h36 : Hd K "good_of" (top 36) f36 fd36)
    (h37 : Hd K "good_steps" (top 37) f37 fd37)
    (h38 : Hd K "first_good" (top 38) f38 fd38)
    (h39 : Hd K "is_in_row" (top 39) f39 fd39)
    (h40 : Hd K "good_counts" (top 40) f40 fd40)
    (h42 : Hd K "_law_begun" (top 42) f42 fd42)
    (h43 : Hd K "_law_draw" (top 43) f43 fd43)
    (h44 : Hd K "_law_of" (top 44) f44 fd44)
    (h45 : Hd K "_law_like" (top 45) f45 fd45)
    (h46 : Hd K "_law_lay" (top 46) f46 fd46)
    (h47 : Hd K "_law_mates" (top 47) f47 fd47)
    (h48 : Hd K "_law_heaps" (top 48) f48 fd48)
    (h49 : Hd K "_law_kind" (top 49) f49 fd49)
    (h50 : Hd K "_law_pieces" (top 50) f50 fd50)
    (h51 : Hd K "_law_cost" (top 51) f51 fd51)
    (h52 : Hd K "_law_after" (top 52) f52 fd52)
    (h53 : Hd K "_law_counts" (top 53) f53 fd53)
    (h54 : Hd K "_law_led_right" (top 54) f54 fd54)
    (h55 : Hd K "law" (top 55) f55 fd55)
    (hM : PySem.W.nsIn K mainGlobals "MOST_LINKS" = some (some (.int 12 tm)))
    (z_isinstance : PySem.W.nsIn K mainGlobals "isinstance" = some none)
    (z_int : PySem.W.nsIn K mainGlobals "int" = some none)
    (z_bool : PySem.W.nsIn K mainGlobals "bool" = some none)
    (z_tuple : PySem.W.nsIn K mainGlobals "tuple" = some none)
    (z_len : PySem.W.nsIn K mainGlobals "len" = some none)
    (z_enumerate : PySem.W.nsIn K mainGlobals "enumerate" = some none)
    (z_range : PySem.W.nsIn K mainGlobals "range" = some none)
    (z_list : PySem.W.nsIn K mainGlobals "list" = some none)
    (z_repr : PySem.W.nsIn K mainGlobals "repr" = some none)
    (z_sorted : PySem.W.nsIn K mainGlobals "sorted" = some none)
    (z_sum : PySem.W.nsIn K mainGlobals "sum" = some none)
    (z_min : PySem.W.nsIn K mainGlobals "min" = some none)
    (z_max : PySem.W.nsIn K mainGlobals "max" = some none)
    (z_abs : PySem.W.nsIn K mainGlobals "abs" = some none)
    (z_zip : PySem.W.nsIn K mainGlobals "zip" = some none)
    (z_all : PySem.W.nsIn K mainGlobals "all" = some none)
    (z_any : PySem.W.nsIn K mainGlobals "any" = some none)
    (hb : ∀ (s : Shared) (v : Value), BindsTo s fd55 ⟨[v], []⟩ [("script", v)]) :
    ∃ (fd : FuncData) (c T : Addr), TabHd K h c T ∧ (∀ (s : Shared) (v : Value), BindsTo s fd ⟨[v], []⟩ [("script", v)]) ∧ ∀ base : Heap, K.In base → base.Ns mainGlobals mg → TabB base mg c T → OkG l.prog w K mg base CX0 10 fa fd ["script"] (spLaw K T) := by
  have e := hfa.symm.trans (PySem.W.mg_of X G h55.a)
  cases e
  have B : Bn mg := ⟨PySem.W.mg_none_of X G z_isinstance, PySem.W.mg_none_of X G z_int, PySem.W.mg_none_of X G z_bool, PySem.W.mg_none_of X G z_tuple, PySem.W.mg_none_of X G z_len, PySem.W.mg_none_of X G z_enumerate, PySem.W.mg_none_of X G z_range, PySem.W.mg_none_of X G z_list, PySem.W.mg_none_of X G z_repr, PySem.W.mg_none_of X G z_sorted, PySem.W.mg_none_of X G z_sum, PySem.W.mg_none_of X G z_min, PySem.W.mg_none_of X G z_max, PySem.W.mg_none_of X G z_abs, PySem.W.mg_none_of X G z_zip, PySem.W.mg_none_of X G z_all⟩
  have n_any : mg "any" = none := PySem.W.mg_none_of X G z_any
  have hM := PySem.W.mg_of X G hM
  have D6 : Df K mg "is_int" f6 fd6 ["value"] := ⟨PySem.W.mg_of X G h6.a, h6.F.kp, h6.F.binds (ps := ["value"]) fun _ _ _ _ _ _ us hl => match us, hl with | [_], _ => rfl⟩
  have D7 : Df K mg "is_from" f7 fd7 ["value", "least", "most"] := ⟨PySem.W.mg_of X G h7.a, h7.F.kp, h7.F.binds (ps := ["value", "least", "most"]) fun _ _ _ _ _ _ us hl => match us, hl with | [_, _, _], _ => rfl⟩
  have D8 : Df K mg "is_pair" f8 fd8 ["value"] := ⟨PySem.W.mg_of X G h8.a, h8.F.kp, h8.F.binds (ps := ["value"]) fun _ _ _ _ _ _ us hl => match us, hl with | [_], _ => rfl⟩
  have D9 : Df K mg "is_joint" f9 fd9 ["value", "links"] := ⟨PySem.W.mg_of X G h9.a, h9.F.kp, h9.F.binds (ps := ["value", "links"]) fun _ _ _ _ _ _ us hl => match us, hl with | [_, _], _ => rfl⟩
  have D10 : Df K mg "false_joint" f10 fd10 ["joints", "links"] := ⟨PySem.W.mg_of X G h10.a, h10.F.kp, h10.F.binds (ps := ["joints", "links"]) fun _ _ _ _ _ _ us hl => match us, hl with | [_, _], _ => rfl⟩
  have D12 : Df K mg "need_lay" f12 fd12 ["lay"] := ⟨PySem.W.mg_of X G h12.a, h12.F.kp, h12.F.binds (ps := ["lay"]) fun _ _ _ _ _ _ us hl => match us, hl with | [_], _ => rfl⟩
  have D14 : Df K mg "need_alike" f14 fd14 ["lays"] := ⟨PySem.W.mg_of X G h14.a, h14.F.kp, h14.F.binds (ps := ["lays"]) fun _ _ _ _ _ _ us hl => match us, hl with | [_], _ => rfl⟩
  have D13 : Df K mg "need_two" f13 fd13 ["one", "other"] := ⟨PySem.W.mg_of X G h13.a, h13.F.kp, h13.F.binds (ps := ["one", "other"]) fun _ _ _ _ _ _ us hl => match us, hl with | [_, _], _ => rfl⟩
  have D15 : Df K mg "joint_of" f15 fd15 ["one", "other"] := ⟨PySem.W.mg_of X G h15.a, h15.F.kp, h15.F.binds (ps := ["one", "other"]) fun _ _ _ _ _ _ us hl => match us, hl with | [_, _], _ => rfl⟩
  have D16 : Df K mg "mates" f16 fd16 ["lay"] := ⟨PySem.W.mg_of X G h16.a, h16.F.kp, h16.F.binds (ps := ["lay"]) fun _ _ _ _ _ _ us hl => match us, hl with | [_], _ => rfl⟩
  have D17 : Df K mg "free_of" f17 fd17 ["lay"] := ⟨PySem.W.mg_of X G h17.a, h17.F.kp, h17.F.binds (ps := ["lay"]) fun _ _ _ _ _ _ us hl => match us, hl with | [_], _ => rfl⟩
  have D19 : Df K mg "pairings" f19 fd19 ["one", "other"] := ⟨PySem.W.mg_of X G h19.a, h19.F.kp, h19.F.binds (ps := ["one", "other"]) fun _ _ _ _ _ _ us hl => match us, hl with | [_, _], _ => rfl⟩
  have D20 : Df K mg "doubles" f20 fd20 ["joints"] := ⟨PySem.W.mg_of X G h20.a, h20.F.kp, h20.F.binds (ps := ["joints"]) fun _ _ _ _ _ _ us hl => match us, hl with | [_], _ => rfl⟩
  have D21 : Df K mg "shifts" f21 fd21 ["joints", "free"] := ⟨PySem.W.mg_of X G h21.a, h21.F.kp, h21.F.binds (ps := ["joints", "free"]) fun _ _ _ _ _ _ us hl => match us, hl with | [_, _], _ => rfl⟩
  have D22 : Df K mg "joins" f22 fd22 ["free"] := ⟨PySem.W.mg_of X G h22.a, h22.F.kp, h22.F.binds (ps := ["free"]) fun _ _ _ _ _ _ us hl => match us, hl with | [_], _ => rfl⟩
  have D23 : Df K mg "cuts" f23 fd23 ["joints"] := ⟨PySem.W.mg_of X G h23.a, h23.F.kp, h23.F.binds (ps := ["joints"]) fun _ _ _ _ _ _ us hl => match us, hl with | [_], _ => rfl⟩
  have D24 : Df K mg "steps_of" f24 fd24 ["lay"] := ⟨PySem.W.mg_of X G h24.a, h24.F.kp, h24.F.binds (ps := ["lay"]) fun _ _ _ _ _ _ us hl => match us, hl with | [_], _ => rfl⟩
  have D25 : Df K mg "stepped" f25 fd25 ["lay", "step"] := ⟨PySem.W.mg_of X G h25.a, h25.F.kp, h25.F.binds (ps := ["lay", "step"]) fun _ _ _ _ _ _ us hl => match us, hl with | [_, _], _ => rfl⟩
  have D27 : Df K mg "row_along" f27 fd27 ["first", "second", "begun"] := ⟨PySem.W.mg_of X G h27.a, h27.F.kp, h27.F.binds (ps := ["first", "second", "begun"]) fun _ _ _ _ _ _ us hl => match us, hl with | [_, _, _], _ => rfl⟩
  have D28 : Df K mg "path_from" f28 fd28 ["ones", "others", "end"] := ⟨PySem.W.mg_of X G h28.a, h28.F.kp, h28.F.binds (ps := ["ones", "others", "end"]) fun _ _ _ _ _ _ us hl => match us, hl with | [_, _, _], _ => rfl⟩
  have F29 := fun_mk l29 c29 k29
  have D29 : Df K mg "web_of" f29 _ ["one", "other"] := ⟨PySem.W.mg_of X G a29, F29.kp, F29.binds (ps := ["one", "other"]) fun _ _ _ _ _ _ us hl => match us, hl with | [_, _], _ => rfl⟩
  have D30 : Df K mg "piece_cost" f30 fd30 ["kind", "size"] := ⟨PySem.W.mg_of X G h30.a, h30.F.kp, h30.F.binds (ps := ["kind", "size"]) fun _ _ _ _ _ _ us hl => match us, hl with | [_, _], _ => rfl⟩
  have D31 : Df K mg "sizes_of" f31 fd31 ["one", "other"] := ⟨PySem.W.mg_of X G h31.a, h31.F.kp, h31.F.binds (ps := ["one", "other"]) fun _ _ _ _ _ _ us hl => match us, hl with | [_, _], _ => rfl⟩
  have D33 : Df K mg "cost_of" f33 fd33 ["one", "other"] := ⟨PySem.W.mg_of X G h33.a, h33.F.kp, h33.F.binds (ps := ["one", "other"]) fun _ _ _ _ _ _ us hl => match us, hl with | [_, _], _ => rfl⟩
  have D34 : Df K mg "least_steps" f34 fd34 ["one", "other"] := ⟨PySem.W.mg_of X G h34.a, h34.F.kp, h34.F.binds (ps := ["one", "other"]) fun _ _ _ _ _ _ us hl => match us, hl with | [_, _], _ => rfl⟩
  have D36 : Df K mg "good_of" f36 fd36 ["one", "other"] := ⟨PySem.W.mg_of X G h36.a, h36.F.kp, h36.F.binds (ps := ["one", "other"]) fun _ _ _ _ _ _ us hl => match us, hl with | [_, _], _ => rfl⟩
  have D37 : Df K mg "good_steps" f37 fd37 ["one", "other"] := ⟨PySem.W.mg_of X G h37.a, h37.F.kp, h37.F.binds (ps := ["one", "other"]) fun _ _ _ _ _ _ us hl => match us, hl with | [_, _], _ => rfl⟩
  have D38 : Df K mg "first_good" f38 fd38 ["one", "other"] := ⟨PySem.W.mg_of X G h38.a, h38.F.kp, h38.F.binds (ps := ["one", "other"]) fun _ _ _ _ _ _ us hl => match us, hl with | [_, _], _ => rfl⟩
  have D39 : Df K mg "is_in_row" f39 fd39 ["step", "row"] := ⟨PySem.W.mg_of X G h39.a, h39.F.kp, h39.F.binds (ps := ["step", "row"]) fun _ _ _ _ _ _ us hl => match us, hl with | [_, _], _ => rfl⟩
  have D40 : Df K mg "good_counts" f40 fd40 ["one", "other"] := ⟨PySem.W.mg_of X G h40.a, h40.F.kp, h40.F.binds (ps := ["one", "other"]) fun _ _ _ _ _ _ us hl => match us, hl with | [_, _], _ => rfl⟩
  have D42 : Df K mg "_law_begun" f42 fd42 ["script"] := ⟨PySem.W.mg_of X G h42.a, h42.F.kp, h42.F.binds (ps := ["script"]) fun _ _ _ _ _ _ us hl => match us, hl with | [_], _ => rfl⟩
  have D43 : Df K mg "_law_draw" f43 fd43 ["m", "limit"] := ⟨PySem.W.mg_of X G h43.a, h43.F.kp, h43.F.binds (ps := ["m", "limit"]) fun _ _ _ _ _ _ us hl => match us, hl with | [_, _], _ => rfl⟩
  have D44 : Df K mg "_law_of" f44 fd44 ["m", "some"] := ⟨PySem.W.mg_of X G h44.a, h44.F.kp, h44.F.binds (ps := ["m", "some"]) fun _ _ _ _ _ _ us hl => match us, hl with | [_, _], _ => rfl⟩
  have D45 : Df K mg "_law_like" f45 fd45 ["told", "due"] := ⟨PySem.W.mg_of X G h45.a, h45.F.kp, h45.F.binds (ps := ["told", "due"]) fun _ _ _ _ _ _ us hl => match us, hl with | [_, _], _ => rfl⟩
  have D46 : Df K mg "_law_lay" f46 fd46 ["m", "links"] := ⟨PySem.W.mg_of X G h46.a, h46.F.kp, h46.F.binds (ps := ["m", "links"]) fun _ _ _ _ _ _ us hl => match us, hl with | [_, _], _ => rfl⟩
  have D47 : Df K mg "_law_mates" f47 fd47 ["lay"] := ⟨PySem.W.mg_of X G h47.a, h47.F.kp, h47.F.binds (ps := ["lay"]) fun _ _ _ _ _ _ us hl => match us, hl with | [_], _ => rfl⟩
  have D48 : Df K mg "_law_heaps" f48 fd48 ["one", "other"] := ⟨PySem.W.mg_of X G h48.a, h48.F.kp, h48.F.binds (ps := ["one", "other"]) fun _ _ _ _ _ _ us hl => match us, hl with | [_, _], _ => rfl⟩
  have D49 : Df K mg "_law_kind" f49 fd49 ["one", "other", "heap"] := ⟨PySem.W.mg_of X G h49.a, h49.F.kp, h49.F.binds (ps := ["one", "other", "heap"]) fun _ _ _ _ _ _ us hl => match us, hl with | [_, _, _], _ => rfl⟩
  have D50 : Df K mg "_law_pieces" f50 fd50 ["one", "other"] := ⟨PySem.W.mg_of X G h50.a, h50.F.kp, h50.F.binds (ps := ["one", "other"]) fun _ _ _ _ _ _ us hl => match us, hl with | [_, _], _ => rfl⟩
  have D51 : Df K mg "_law_cost" f51 fd51 ["one", "other"] := ⟨PySem.W.mg_of X G h51.a, h51.F.kp, h51.F.binds (ps := ["one", "other"]) fun _ _ _ _ _ _ us hl => match us, hl with | [_, _], _ => rfl⟩
  have D52 : Df K mg "_law_after" f52 fd52 ["lay", "step_so"] := ⟨PySem.W.mg_of X G h52.a, h52.F.kp, h52.F.binds (ps := ["lay", "step_so"]) fun _ _ _ _ _ _ us hl => match us, hl with | [_, _], _ => rfl⟩
  have D53 : Df K mg "_law_counts" f53 fd53 ["one", "other"] := ⟨PySem.W.mg_of X G h53.a, h53.F.kp, h53.F.binds (ps := ["one", "other"]) fun _ _ _ _ _ _ us hl => match us, hl with | [_, _], _ => rfl⟩
  have D54 : Df K mg "_law_led_right" f54 fd54 ["one", "other"] := ⟨PySem.W.mg_of X G h54.a, h54.F.kp, h54.F.binds (ps := ["one", "other"]) fun _ _ _ _ _ _ us hl => match us, hl with | [_, _], _ => rfl⟩
  refine ⟨fd55, cw, Pt, ⟨hemp Pt List.mem_cons_self, hout, PySem.W.codeHd_of_K X hcode⟩, hb, fun base _ _ TB => ?_⟩
  have G6 : OkF l.prog w K mg base 1 f6 fd6 ["value"] spInt := ok7 h6.F B
  have G7 := ok8 h7.F D6 G6
  have G8 : OkF l.prog w K mg base 1 f8 fd8 ["value"] (spPair K) := ok9 h8.F B
  have G9 := ok10 h9.F D7 G7 D8 G8
  have G10 := ok11 h10.F B D9 G9
  have G12 := ok13 h12.F B hM D7 G7 D8 G8 D10 G10
  have G14 : OkF l.prog w K mg base 1 f14 fd14 ["lays"] (spAlike K) := ok15 h14.F n_any
  have G13 := ok14 h13.F D12 G12 D14 G14
  have G15 : OkF l.prog w K mg base 1 f15 fd15 ["one", "other"] (spJt K) := okJt h15.F B
  have G16 : OkF l.prog w K mg base 1 f16 fd16 ["lay"] (spMates K) := ok17 h16.F B
  have G17 := okFree h17.F B D16 G16
  have G19 := okPg h19.F D15 G15
  have G20 := okDb h20.F B D19 G19
  have G21 := okSh h21.F D15 G15
  have G22 : OkF l.prog w K mg base 1 f22 fd22 ["free"] (spJoins K) := okJn h22.F B
  have G23 : OkF l.prog w K mg base 1 f23 fd23 ["joints"] (spCuts K) := okCu h23.F
  have G24 := okSo h24.F B D17 G17 D20 G20 D21 G21 D23 G23 D22 G22
  have G25 : OkF l.prog w K mg base 1 f25 fd25 ["lay", "step"] (spAf K) := okSp h25.F B
  have G27 : OkF l.prog w K mg base 1 f27 fd27 ["first", "second", "begun"] spAlong := ok20 h27.F B
  have G28 := ok21 h28.F B D27 G27
  have G29 : OkF l.prog w K mg base 3 f29 _ ["one", "other"] (spWeb K Pt) := ok22 l29 c29 TB B D16 G16 D27 G27 D28 G28
  have G30 : OkF l.prog w K mg base 1 f30 fd30 ["kind", "size"] spPco := okPco h30.F
  have G31 := ok23 h31.F B D29 G29
  have G33 := okCo h33.F B D31 G31 D30 G30
  have G34 := okLst h34.F D13 G13 D33 G33
  have G36 := okGo h36.F B D33 G33 D25 G25 D24 G24
  have G37 := okGs h37.F B D13 G13 D36 G36
  have G38 := okFg h38.F B D37 G37
  have G39 : OkF l.prog w K mg base 1 f39 fd39 ["step", "row"] (spIr K) := okIr h39.F B
  have G40 := okGc h40.F B n_any D37 G37 D29 G29 D39 G39
  have G42 : OkF l.prog w K mg base 1 f42 fd42 ["script"] (spBegun K) := ok26 h42.F B
  have G43 : OkF l.prog w K mg base 1 f43 fd43 ["m", "limit"] spDraw := ok27 h43.F B
  have G44 := ok28 h44.F B D43 G43
  have G45 : OkF l.prog w K mg base 1 f45 fd45 ["told", "due"] (spLike K) := ok29 h45.F B
  have G46 := ok30 h46.F B D43 G43 D44 G44
  have G47 : OkF l.prog w K mg base 1 f47 fd47 ["lay"] (spLm K) := ok34 h47.F B
  have G48 := okHeaps h48.F B D47 G47
  have G49 := okKind h49.F B D47 G47
  have G50 := okLp h50.F B D48 G48 D49 G49
  have G51 := okLcs h51.F B D50 G50
  have G52 : OkF l.prog w K mg base 1 f52 fd52 ["lay", "step_so"] (spAf K) := okAf h52.F B
  have G53 := okLo h53.F B D50 G50
  have G54 := okLe h54.F B D51 G51 D34 G34 D38 G38 D52 G52
  exact okLaw h55.F B D42 G42 D44 G44 D46 G46 D53 G53 D45 G45 D40 G40 D37 G37 D54 G54
theorem walk {l : PySem.W.OpenLaw} {q : Program} {loose : List Str} {XP : (Str → Option Value) → Heap → Prop} {YP : World → Heap → Prop} {d : DefRec} {K : Params → PySem.W.Frag} (hn : l.most = some 63) (hdf : d.params.defaults = [])
    (hY : ∀ (w : World) (h : Heap), YP w h → (K w.params).In h)
    (F : ∀ (w : World) (mg : Str → Option Value) (fa : Addr) (h : Heap), YP w h → (K w.params).In h → h.Ns mainGlobals mg → mg d.name = some (.ref fa) →
      ∃ (fd : FuncData) (c T : Addr), TabHd (K w.params) h c T ∧ (∀ (s : Shared) (u : Value), BindsTo s fd ⟨[u], []⟩ [("script", u)]) ∧ ∀ base : Heap, (K w.params).In base → base.Ns mainGlobals mg → TabB base mg c T → OkG l.prog w (K w.params) mg base CX0 10 fa fd ["script"] (spLaw (K w.params) T)) :
    PySem.W.WalkO q loose XP YP l.row.toRowW d [] (fun f vs => PySem.call f vs) :=
  walkT (n := 63) (k := 10) (x := "script") (cx := fun _ => CX0) (sp := fun w T => spLaw (K w.params) T) hn (by decide) hdf ⟨rfl, by decide, by decide⟩ hY F (fun _ T H a ns hl hT hS => ⟨a, ns, rfl, hS, hl, fun p hp => by obtain rfl := List.mem_singleton.mp hp; exact TabS.nil hT, fun _ => rfl⟩) fun _ _ _ _ _ z => z
end K15
-- K15zz
set_option Elab.async false
set_option linter.all false
set_option maxRecDepth 100000
open PySem PySem.W PyProof.Rows in
set_option maxHeartbeats 0 in
theorem PySem.Challenge.cw_doublecut_k15_whole_good_steps_by_pieces_holds : PySem.Challenge.rw_doublecut_k15_whole_good_steps_by_pieces.Holds := by
  w_on; o_law; k_head; (case hw => w_witness2)
  k_fill
  refine K15.walk (l := PySem.Challenge.rw_doublecut_k15_whole_good_steps_by_pieces) rfl rfl (fun w h Y => PySem.W.km_in_of Y) ?F
  case F =>
    intro w mg fa h Y KX G hmg
    refine' K15.all_mk KX G hmg (K15.hd_mk ?a6 ?l6 ?c6 ?k6) (K15.hd_mk ?a7 ?l7 ?c7 ?k7) (K15.hd_mk ?a8 ?l8 ?c8 ?k8) (K15.hd_mk ?a9 ?l9 ?c9 ?k9) (K15.hd_mk ?a10 ?l10 ?c10 ?k10) (K15.hd_mk ?a12 ?l12 ?c12 ?k12) (K15.hd_mk ?a14 ?l14 ?c14 ?k14) (K15.hd_mk ?a13 ?l13 ?c13 ?k13) (K15.hd_mk ?a15 ?l15 ?c15 ?k15) (K15.hd_mk ?a16 ?l16 ?c16 ?k16) (K15.hd_mk ?a17 ?l17 ?c17 ?k17) (K15.hd_mk ?a19 ?l19 ?c19 ?k19) (K15.hd_mk ?a20 ?l20 ?c20 ?k20) (K15.hd_mk ?a21 ?l21 ?c21 ?k21) (K15.hd_mk ?a22 ?l22 ?c22 ?k22) (K15.hd_mk ?a23 ?l23 ?c23 ?k23) (K15.hd_mk ?a24 ?l24 ?c24 ?k24) (K15.hd_mk ?a25 ?l25 ?c25 ?k25) (K15.hd_mk ?a27 ?l27 ?c27 ?k27) (K15.hd_mk ?a28 ?l28 ?c28 ?k28) ?a29 ?l29 ?c29 ?k29 (PySem.W.km_tabs_of Y) ?hout ?hcode (K15.hd_mk ?a30 ?l30 ?c30 ?k30) (K15.hd_mk ?a31 ?l31 ?c31 ?k31) (K15.hd_mk ?a33 ?l33 ?c33 ?k33) (K15.hd_mk ?a34 ?l34 ?c34 ?k34) (K15.hd_mk ?a36 ?l36 ?c36 ?k36) (K15.hd_mk ?a37 ?l37 ?c37 ?k37) (K15.hd_mk ?a38 ?l38 ?c38 ?k38) (K15.hd_mk ?a39 ?l39 ?c39 ?k39) (K15.hd_mk ?a40 ?l40 ?c40 ?k40) (K15.hd_mk ?a42 ?l42 ?c42 ?k42) (K15.hd_mk ?a43 ?l43 ?c43 ?k43) (K15.hd_mk ?a44 ?l44 ?c44 ?k44) (K15.hd_mk ?a45 ?l45 ?c45 ?k45) (K15.hd_mk ?a46 ?l46 ?c46 ?k46) (K15.hd_mk ?a47 ?l47 ?c47 ?k47) (K15.hd_mk ?a48 ?l48 ?c48 ?k48) (K15.hd_mk ?a49 ?l49 ?c49 ?k49) (K15.hd_mk ?a50 ?l50 ?c50 ?k50) (K15.hd_mk ?a51 ?l51 ?c51 ?k51) (K15.hd_mk ?a52 ?l52 ?c52 ?k52) (K15.hd_mk ?a53 ?l53 ?c53 ?k53) (K15.hd_mk ?a54 ?l54 ?c54 ?k54) (K15.hd_mk ?a55 ?l55 ?c55 ?k55) ?hM ?z_isinstance ?z_int ?z_bool ?z_tuple ?z_len ?z_enumerate ?z_range ?z_list ?z_repr ?z_sorted ?z_sum ?z_min ?z_max ?z_abs ?z_zip ?z_all ?z_any (fun s v => .of_eq rfl)
    (case a6 => k_is)
    (case l6 => k_is)
    (case c6 => k_is)
    (case k6 => k_is)
    (case a7 => k_is)
    (case l7 => k_is)
    (case c7 => k_is)
    (case k7 => k_is)
    (case a8 => k_is)
    (case l8 => k_is)
    (case c8 => k_is)
    (case k8 => k_is)
    (case a9 => k_is)
    (case l9 => k_is)
    (case c9 => k_is)
    (case k9 => k_is)
    (case a10 => k_is)
    (case l10 => k_is)
    (case c10 => k_is)
    (case k10 => k_is)
    (case a12 => k_is)
    (case l12 => k_is)
    (case c12 => k_is)
    (case k12 => k_is)
    (case a14 => k_is)
    (case l14 => k_is)
    (case c14 => k_is)
    (case k14 => k_is)
    (case a13 => k_is)
    (case l13 => k_is)
    (case c13 => k_is)
    (case k13 => k_is)
    (case a15 => k_is)
    (case l15 => k_is)
    (case c15 => k_is)
    (case k15 => k_is)
    (case a16 => k_is)
    (case l16 => k_is)
    (case c16 => k_is)
    (case k16 => k_is)
    (case a17 => k_is)
    (case l17 => k_is)
    (case c17 => k_is)
    (case k17 => k_is)
    (case a19 => k_is)
    (case l19 => k_is)
    (case c19 => k_is)
    (case k19 => k_is)
    (case a20 => k_is)
    (case l20 => k_is)
    (case c20 => k_is)
    (case k20 => k_is)
    (case a21 => k_is)
    (case l21 => k_is)
    (case c21 => k_is)
    (case k21 => k_is)
    (case a22 => k_is)
    (case l22 => k_is)
    (case c22 => k_is)
    (case k22 => k_is)
    (case a23 => k_is)
    (case l23 => k_is)
    (case c23 => k_is)
    (case k23 => k_is)
    (case a24 => k_is)
    (case l24 => k_is)
    (case c24 => k_is)
    (case k24 => k_is)
    (case a25 => k_is)
    (case l25 => k_is)
    (case c25 => k_is)
    (case k25 => k_is)
    (case a27 => k_is)
    (case l27 => k_is)
    (case c27 => k_is)
    (case k27 => k_is)
    (case a28 => k_is)
    (case l28 => k_is)
    (case c28 => k_is)
    (case k28 => k_is)
    (case a29 => k_is)
    (case l29 => k_is)
    (case c29 => k_is)
    (case k29 => k_is)
    (case hout => kernel_rfl)
    (case hcode => kernel_rfl)
    (case a30 => k_is)
    (case l30 => k_is)
    (case c30 => k_is)
    (case k30 => k_is)
    (case a31 => k_is)
    (case l31 => k_is)
    (case c31 => k_is)
    (case k31 => k_is)
    (case a33 => k_is)
    (case l33 => k_is)
    (case c33 => k_is)
    (case k33 => k_is)
    (case a34 => k_is)
    (case l34 => k_is)
    (case c34 => k_is)
    (case k34 => k_is)
    (case a36 => k_is)
    (case l36 => k_is)
    (case c36 => k_is)
    (case k36 => k_is)
    (case a37 => k_is)
    (case l37 => k_is)
    (case c37 => k_is)
    (case k37 => k_is)
    (case a38 => k_is)
    (case l38 => k_is)
    (case c38 => k_is)
    (case k38 => k_is)
    (case a39 => k_is)
    (case l39 => k_is)
    (case c39 => k_is)
    (case k39 => k_is)
    (case a40 => k_is)
    (case l40 => k_is)
    (case c40 => k_is)
    (case k40 => k_is)
    (case a42 => k_is)
    (case l42 => k_is)
    (case c42 => k_is)
    (case k42 => k_is)
    (case a43 => k_is)
    (case l43 => k_is)
    (case c43 => k_is)
    (case k43 => k_is)
    (case a44 => k_is)
    (case l44 => k_is)
    (case c44 => k_is)
    (case k44 => k_is)
    (case a45 => k_is)
    (case l45 => k_is)
    (case c45 => k_is)
    (case k45 => k_is)
    (case a46 => k_is)
    (case l46 => k_is)
    (case c46 => k_is)
    (case k46 => k_is)
    (case a47 => k_is)
    (case l47 => k_is)
    (case c47 => k_is)
    (case k47 => k_is)
    (case a48 => k_is)
    (case l48 => k_is)
    (case c48 => k_is)
    (case k48 => k_is)
    (case a49 => k_is)
    (case l49 => k_is)
    (case c49 => k_is)
    (case k49 => k_is)
    (case a50 => k_is)
    (case l50 => k_is)
    (case c50 => k_is)
    (case k50 => k_is)
    (case a51 => k_is)
    (case l51 => k_is)
    (case c51 => k_is)
    (case k51 => k_is)
    (case a52 => k_is)
    (case l52 => k_is)
    (case c52 => k_is)
    (case k52 => k_is)
    (case a53 => k_is)
    (case l53 => k_is)
    (case c53 => k_is)
    (case k53 => k_is)
    (case a54 => k_is)
    (case l54 => k_is)
    (case c54 => k_is)
    (case k54 => k_is)
    (case a55 => k_is)
    (case l55 => k_is)
    (case c55 => k_is)
    (case k55 => k_is)
    (case hM => k_is)
    (case z_isinstance => k_is)
    (case z_int => k_is)
    (case z_bool => k_is)
    (case z_tuple => k_is)
    (case z_len => k_is)
    (case z_enumerate => k_is)
    (case z_range => k_is)
    (case z_list => k_is)
    (case z_repr => k_is)
    (case z_sorted => k_is)
    (case z_sum => k_is)
    (case z_min => k_is)
    (case z_max => k_is)
    (case z_abs => k_is)
    (case z_zip => k_is)
    (case z_all => k_is)
    (case z_any => k_is)
