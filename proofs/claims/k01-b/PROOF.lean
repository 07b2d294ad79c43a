import PyProof.Rows.All
import Wide.All
import OpenK.AllK
import Wide.FinOn
import KE.KStateDown
import Lean
import HandS.Base
import HandS.Call
import HandS.Ends
import HandS.More
import HandS.Words
import HandS.WordsExc
import HandS.Defaults
import HandS.HeadEnd
import HandS.ForMost
import HandS.IsInst
import HandS.Wide
import HandS.TupAny
import HandS.Style
import HandS.Gcd
import KE.DataEq
import KE.DataCmp
import KE.DataMinMax
import KE.DataAny
import KE.SortData
import PyProof.ReprReads
import HandS.ListItems
import HandS.DictTup
import HandS.Dict
import HandS.Head0
import HandS.Head1
import HandS.Head2
import HandS.HeadHook1
import HandS.HeadHook2
import PySem.Challenge.RW_claimduel_k01_plain_values_and_settings
set_option Elab.async false
set_option linter.all false
set_option maxRecDepth 100000
set_option maxHeartbeats 1000000
namespace PD
open PySem PySem.Spec PyProof.Rows L2
/-- a def's promise where no repr runs around -/
structure FnG (P : Program) (w : World) (K : PySem.W.Frag) (mg : Str → Option Value) (base : Heap) (k : Nat) (f : Addr) (fd : FuncData) (ps : List Str) (sp : Sp) : Prop where
  len : ∀ vs H Q E, sp vs H Q E → vs.length = ps.length
  run : ∀ (A : Around) (ol : List Env) (s : Shared) (H : Hp) (args : Args) (us : List Value) (vs : List V) (Q : VK) (E : XK), A.guards = some [] → Room k A → Env0 P w K mg base A ol s H →
    BindsTo s fd args (ps.zip us) → Vals vs us → sp vs H Q E → codeAny (model P w) A (.call (.ref f) args) (CR CX0 ol P w H s Q E) s
theorem FnG.mono {P : Program} {w : World} {K : PySem.W.Frag} {mg : Str → Option Value} {base : Heap} {j k : Nat} {f : Addr} {fd : FuncData} {ps : List Str} {sp : Sp} (F : FnG P w K mg base j f fd ps sp) (h : j ≤ k) : FnG P w K mg base k f fd ps sp :=
  ⟨F.len, fun A ol s H args us vs Q E hg hr => F.run A ol s H args us vs Q E hg (hr.mono h)⟩
section
variable {X : Cx} {k n : Nat} {f : Addr} {fd : FuncData} {ps ks : List Str} {sp : Sp} {dvs : List V} {dls : List Value} {x : Str} {p pos : Pos} {e : Expr} {es : List Expr} {kws : List Keyword} {t tk : TA} {gg : List Value → List Value → List Value} {gV : List V → List V → List V}
theorem g_end {pins : List (Addr × Obj)} {σ : L2.St} {H : Hp} {s s' : Shared} {Q : VK} {r : Result} (I : Inv X pins σ H s) (hq : CR CX0 X.stack X.prog X.w H s Q E0 r s') : (match r with
    | .ok (.ret u) => EP X pins σ Q u s'
    | .ok _ => False
    | .error u => X.xe u s') := by
  match r, hq with
  | .error _, hq => exact hq.elim
  | .ok (.ret _), hq => exact I.after hq
  | .ok .next, hq => exact hq.elim
  | .ok .brk, hq => exact hq.elim
  | .ok .cont, hq => exact hq.elim
theorem run_g {pins : List (Addr × Obj)} {σ : L2.St} {H : Hp} {s : Shared} {Q : VK} {us : List Value} {vs : List V} (G : FnG X.prog X.w X.K X.mg X.base k f fd ps sp) (hg : X.A.guards = some []) (hr : Room k X.A) (hb : Binds X.K fd ps dls) (hd : Vals dvs dls) (I : Inv X pins σ H s) (r : Vals vs us)
    (h : sp (vs ++ dvs) H Q E0) : wpAny (model X.prog X.w) X.A (call (.ref f) us) (EP X pins σ Q) X.xe s := by
  have rr := r.append hd
  have hn : (us ++ dls).length = ps.length := (Vals.length rr).symm.trans (G.len _ _ _ _ h)
  refine wpAny_call (codeAny_mono (G.run X.A X.stack s H ⟨us, []⟩ _ _ Q E0 hg hr I.env0 (hb s us I.kIn hn) rr h) (fun r s' q => ?_)); have z := g_end I q
  cases r with
  | error _ => exact z
  | ok fl => cases fl <;> first | exact z | exact z.elim
theorem pe_g (G : FnG X.prog X.w X.K X.mg X.base k f fd ps sp) (hgd : X.A.guards = some []) (hr : Room k X.A) (hg : Gl X x) (hm : X.mg x = some (.ref f)) (hk : PySem.W.keepIn X.K (.ref f) = true) (hb : Binds X.K fd ps dls) (hd : Vals dvs dls) (ha : PA X (e :: es) t)
    (hdb : (x == ("__debug__" : Str)) = false) (he : starEach (e :: es) X.env = (false, eval e X.env) :: starEach es X.env) (hpl : (backTo pos (starEach es X.env)).any (·.1) = false) : PE X (.Call (.Name x p) (e :: es) [] pos) (fun σ H Q => t σ H fun vs H1 => sp (vs ++ dvs) H1 Q E0) := by
  constructor; intro pins s σ H Q I h
  exact wpAny_Call_Name_kw (ld_glob I hg hm (PySem.W.callWith_K (h₀ := X.base) I.ok.mod.kin hk (thn (ha.run pos pins s σ H _ I h) (fun us s1 z => let ⟨vs, H1, I1, r, q⟩ := z; ⟨I1.kIn, run_g G hgd hr hb hd I1 r q⟩)) he hpl) hdb)
theorem run_gk {pins : List (Addr × Obj)} {σ : L2.St} {H : Hp} {s : Shared} {Q : VK} {us ws : List Value} {vs zs : List V} (G : FnG X.prog X.w X.K X.mg X.base k f fd ps sp) (hg : X.A.guards = some []) (hr : Room k X.A) (hb : KBn X.K fd ps n ks gg gV) (I : Inv X pins σ H s) (r : Vals vs us) (rz : Vals zs ws) (l1 : vs.length = n) (l2 : zs.length = ks.length)
    (h : sp (gV vs zs) H Q E0) : wpAny (model X.prog X.w) X.A (call (.ref f) us (ks.zip ws)) (EP X pins σ Q) X.xe s := by
  have rr := hb.rel r rz
  refine wpAny_call (codeAny_mono (G.run X.A X.stack s H ⟨us, ks.zip ws⟩ _ _ Q E0 hg hr I.env0 (hb.to s us ws I.kIn (r.length.symm.trans l1) (rz.length.symm.trans l2)) rr h) (fun r s' q => ?_)); have z := g_end I q
  cases r with
  | error _ => exact z
  | ok fl => cases fl <;> first | exact z | exact z.elim
theorem pe_gk (G : FnG X.prog X.w X.K X.mg X.base k f fd ps sp) (hgd : X.A.guards = some []) (hr : Room k X.A) (hg : Gl X x) (hm : X.mg x = some (.ref f)) (hk : PySem.W.keepIn X.K (.ref f) = true) (hb : KBn X.K fd ps n ks gg gV) (ha : PA X (e :: es) t) (hkw : PK X kws tk)
    (hall : (backToKw pos (keywordEach kws X.env)).all (·.1.isSome) = true) (hks : (backToKw pos (keywordEach kws X.env)).filterMap (·.1) = ks) (hdb : (x == ("__debug__" : Str)) = false) (he : starEach (e :: es) X.env = (false, eval e X.env) :: starEach es X.env)
    (hpl : ((backTo pos (starEach (e :: es) X.env)).any (·.1) || (backToKw pos (keywordEach kws X.env)).any (·.1.isNone)) = false) : PE X (.Call (.Name x p) (e :: es) kws pos) (fun σ H Q => t σ H fun vs H1 => tk σ H1 fun zs H2 => vs.length = n ∧ zs.length = ks.length ∧ sp (gV vs zs) H2 Q E0) := by
  constructor; intro pins s σ H Q I h
  refine wpAny_Call_Name_kw (ld_glob I hg hm (PySem.W.callWith_KW (h₀ := X.base) I.ok.mod.kin hk hall (thn (ha.run pos pins s σ H _ I h) (fun us s1 z => ?_)) hpl he) hdb)
  obtain ⟨vs, H1, I1, r, q⟩ := z
  refine thn (hkw.run pos pins s1 σ H1 _ I1 q) (fun ws s2 z => ?_); obtain ⟨zs, H2, I2, rz, q2⟩ := z
  refine ⟨I2.kIn, ?_⟩; rw [hks]; exact run_gk G hgd hr hb I2 r rz q2.1 q2.2.1 q2.2.2
end
section
variable {X : Cx} {k : Nat} {f : Addr} {fd : FuncData} {ps ks : List Str} {sp : Sp} {x : Str} {p pos : Pos} {kws : List Keyword} {tk : TA} {gg : List Value → List Value → List Value} {gV : List V → List V → List V}
theorem pe_gk0 (G : FnG X.prog X.w X.K X.mg X.base k f fd ps sp) (hgd : X.A.guards = some []) (hr : Room k X.A) (hg : Gl X x) (hm : X.mg x = some (.ref f)) (hk : PySem.W.keepIn X.K (.ref f) = true) (hb : KBn X.K fd ps 0 ks gg gV) (hkw : PK X kws tk)
    (hall : (backToKw pos (keywordEach kws X.env)).all (·.1.isSome) = true) (hks : (backToKw pos (keywordEach kws X.env)).filterMap (·.1) = ks) (hdb : (x == ("__debug__" : Str)) = false)
    (hpl : ((backTo pos (starEach [] X.env)).any (·.1) || (backToKw pos (keywordEach kws X.env)).any (·.1.isNone)) = false) : PE X (.Call (.Name x p) [] kws pos) (fun σ H Q => tk σ H fun zs H2 => ([] : List V).length = 0 ∧ zs.length = ks.length ∧ sp (gV [] zs) H2 Q E0) := by
  constructor; intro pins s σ H Q I h
  refine wpAny_Call_Name_kw (ld_glob I hg hm (PySem.W.callWith_KW0 (h₀ := X.base) I.ok.mod.kin hk hall (thn (hkw.run pos pins s σ H _ I h) (fun ws s2 z => ?_)) hpl) hdb)
  obtain ⟨zs, H2, I2, rz, q2⟩ := z
  refine ⟨I2.kIn, ?_⟩; rw [hks]; exact run_gk G hgd hr hb I2 .nil rz rfl q2.2.1 q2.2.2
end
theorem fn_g {P : Program} {w : World} {K : PySem.W.Frag} {mg : Str → Option Value} {base : Heap} {x qual : Str} {params : Arguments} {body : List Stmt} {scope : Scope} {dvs : List V} {kws : List (Str × V)} {f : Addr} {fd : FuncData} {N ps : List Str} {k : Nat} {sp : Sp}
    (Fd : FunD K x qual params body scope dvs kws f fd) (S : FnScope N ps scope) (hlen : ∀ vs H Q E, sp vs H Q E → vs.length = ps.length)
    (hbody : ∀ (cdv : Value) (A : Around) (ol : List Env) (s : Shared) (H : Hp) (vs : List V) (Q : VK) (E : XK), A.guards = some [] → Room k (A.deeper (envOfC qual scope s.heap.objs.size f cdv)) → sp vs H Q E →
      ∃ t, PSs (cxOf CX0 P w K mg base N qual scope f cdv A ol s H E) body t ∧ t { nx := fun _ H' => Q .non H', rt := Q } (L2.start N vs) H) : FnG P w K mg base (k + 1) f fd ps sp := by
  obtain ⟨oc, od, dV, kV, doc, pm, an, cdv, ct, osl, rfl, lk, hcd, _, _⟩ := Fd.ex
  refine ⟨hlen, ?_⟩; intro A ol s H args us vs Q E hg hr e0 hb r hsp
  have KX : K.In s.heap := PySem.W.Frag.In.keeps e0.mod.kin (fun b o e => (e0.bs b o e).1)
  have lim : s.heap.NoLimit := Heap.NoLimit.keeps e0.mod.nolimit (fun b o e => (e0.bs b o e).1)
  have hkind : ∀ y ∈ ps.zip us, scope.names.lookup y.1 = some .local ∨ (scope.names.lookup y.1 = some .cell ∧ ((cellsFrom (s.heap.objs.size + 1) scope.names []).lookup y.1).isSome = true) := by
    intro y hy; have h1 := S.par y.1 (List.of_mem_zip (a := y.1) (b := y.2) hy).1
    exact h1.imp id (fun q => ⟨q, PySem.W.cellsFrom_some _ _ _ (Or.inl q)⟩)
  refine codeAny_call_function hr.depth (KX _ _ lk) rfl S.co S.gen rfl (PySem.W.codeRec_of KX hcd) (hb _ _ _ _ (wpAny_newFunctionEnv_cells S.kind hkind (fun env he s1 xx => ?_)))
  subst he; refine ⟨lim.keeps xx.toInCall.keep, codeAny_func ?_⟩
  obtain ⟨t, ht, hq⟩ := hbody cdv A ol s H vs Q E hg (hr.deeper _) hsp
  have I := inv_start (CX := CX0) (P := P) (w := w) (K := K) (mg := mg) (base := base) (qual := qual) (f := f) (cd := cdv) (E := E) S hr.hd e0 (hlen _ _ _ _ hsp) r xx
  refine wpAny_mono (ht.run [] s1 (L2.start N vs) H _ I hq) (fun fl s' hs => ?_) (fun _ _ z => z)
  match fl, hs with
  | .ret u, ⟨v, σ', H', J, rv, q⟩ => exact ⟨v, H', J.os, J.bare, J.base, J.hok, rv, q⟩
  | .next, ⟨σ', H', J, q⟩ => exact ⟨V.non, H', J.os, J.bare, J.base, J.hok, rfl, q⟩
  | .brk, ⟨_, _, _, q⟩ => exact q.elim
  | .cont, ⟨_, _, _, q⟩ => exact q.elim
/-! ### the law's end -/
theorem law_g {P : Program} {w : World} {K : PySem.W.Frag} {mg mb : Str → Option Value} {k : Nat} {fa a : Addr} {fd : FuncData} {x : Str} {sp : Sp} {s₁ : Shared} {vs : List Value} {ns : List Int} (KX : K.In s₁.heap) (hns : s₁.heap.Ns mainGlobals mg) (hb : s₁.heap.Ns builtinsNs mb)
    (hbb : ∀ x : Str, x ≠ "__name__" → mb x = bootBuiltins x) (hlim : s₁.heap.NoLimit) (hg : s₁.gens = #[]) (ha : s₁.heap.get? a = some { cls := .type "list", data := .seq vs.toArray }) (hi : IntsAre vs ns) (hl : ns.length ≤ sizeLine) (hr : Room k callerA)
    (F : ∀ base : Heap, K.In base → base.Ns mainGlobals mg → FnG P w K mg base k fa fd [x] sp) (hbind : ∀ (s : Shared) (u : Value), BindsTo s fd ⟨[u], []⟩ [(x, u)]) (hsp : ∀ H : Hp, Only H → SqL K H a (ns.map V.int) → sp [.ref a] H (fun v _ => v = .bl true) (fun _ _ _ => False)) :
    codeAny (model P w) callerA (.call (.ref fa) ⟨[.ref a], []⟩) (fun r s' => r = .ok (.ret (.bool true)) ∧ OldK s₁.heap s'.heap ∧ s'.os = s₁.os ∧ AllBare s'.gens) s₁ := by
  have rv : Vals (ns.map V.int) vs := vals_ints hi
  have lenV : vs.length = ns.length := hi.length
  suffices core : ∀ H : Hp, Only H → SqL K H a (ns.map V.int) → HOk P w H s₁.heap → (∀ b, H b ≠ none → b = a) → (H a ≠ none → K.lookup a = none) → codeAny (model P w) callerA (.call (.ref fa) ⟨[.ref a], []⟩) (fun r s' => r = .ok (.ret (.bool true)) ∧ OldK s₁.heap s'.heap ∧ s'.os = s₁.os ∧ AllBare s'.gens) s₁ by
    cases hk : K.lookup a with
    | some o =>
      have e := (KX a o hk).symm.trans ha
      cases e
      exact core (fun _ => none) (fun _ => Or.inl rfl) (Or.inr ⟨_, vs.toArray, _, hk, rfl, rfl, rfl, by rw [List.size_toArray, lenV]; exact hl, by simpa using rv⟩) (fun b u z => nomatch (show (none : Option HO) = some u from z)) (fun b z => absurd rfl z) (fun z => absurd rfl z)
    | none =>
      let H1 : Hp := fun b => if b = a then some (.frz { cls := .type "list", data := .seq vs.toArray } (.lst (ns.map V.int))) else none
      have at1 : H1 a = some (.frz { cls := .type "list", data := .seq vs.toArray } (.lst (ns.map V.int))) := if_pos rfl
      have at2 : ∀ b, b ≠ a → H1 b = none := fun b q => if_neg q
      refine core H1 (fun b => ?_) (Or.inl (Or.inr ⟨_, at1⟩)) (fun b u z => ?_) (fun b z => Decidable.byContradiction (fun q => z (at2 b q))) (fun _ => hk)
      · by_cases q : b = a
        · subst q; exact Or.inr ⟨_, _, at1⟩
        · exact Or.inl (at2 b q)
      · by_cases q : b = a
        · subst q; cases at1.symm.trans z; exact ⟨ha, by rw [List.length_map]; exact hl, vs, _, rv, ha⟩
        · cases (at2 b q).symm.trans z
  intro H hO hS hok hA hK
  have noA : ∀ {b : Addr} {o : Obj} {es : Array DictEntry} {ep : Nat}, s₁.heap.get? b = some o → o.data = .dict es ep → H b = none := by
    intro b o es ep e d
    refine Decidable.byContradiction (fun q => ?_)
    have e' := hA b q
    subst e'; cases ha.symm.trans e; exact nomatch (show Data.seq vs.toArray _ = Data.dict es ep from d)
  have nsK : ∀ {b : Addr} {m : Str → Option Value}, s₁.heap.Ns b m → (hidT s₁.heap H).Ns b m := by
    rintro b m ⟨o, es, ep, e, d, r⟩; exact ⟨o, es, ep, hidT_get e (noA e d), d, r⟩
  have hKb : K.In (hidT s₁.heap H) := by
    intro b o e
    refine hidT_get (KX b o e) (Decidable.byContradiction (fun q => ?_))
    have e' := hA b q
    subst e'; rw [hK q] at e; cases e
  have hM : Mod K mg (hidT s₁.heap H) := ⟨hKb, nsK hns, ⟨mb, nsK hb, hbb⟩, hlim.elim (fun mc z => ⟨mc, nsK z.1, z.2⟩)⟩
  have e0 : Env0 P w K mg (hidT s₁.heap H) callerA [] s₁ H := ⟨rfl, hM, fun b o e => of_hidT e, Nat.le_of_eq (hidT_size _ _), trivial, fun b hb => (nomatch (show b ∈ ([] : List Addr) from hb)), hok, .of_eq hg⟩
  refine codeAny_mono ((F _ hKb (nsK hns)).run callerA [] s₁ H ⟨[.ref a], []⟩ [.ref a] [.ref a] _ _ rfl hr e0 (hbind s₁ (.ref a)) (.cons rfl .nil) (hsp H hO hS)) (fun r s' h => ?_)
  match r, h with
  | .error _, h => exact h.elim
  | .ok .next, h => exact h.elim
  | .ok .brk, h => exact h.elim
  | .ok .cont, h => exact h.elim
  | .ok (.ret u), ⟨v, H', os, bare, un, hok', r', q⟩ =>
    have q' : v = .bl true := q
    subst q'
    have r'' : u = Value.bool true := r'
    subst r''
    refine ⟨rfl, OldK.of_keep (fun b o e => ?_), os, bare⟩
    cases q : H b with
    | none => exact un.keep b o e q (fun z => nomatch (show b ∈ ([] : List Addr) from z)) (fun z => nomatch z)
    | some u =>
      rcases hO b with z | ⟨ob, xs, z⟩
      · cases q.symm.trans z
      · obtain ⟨e1, _⟩ := hok b _ z
        obtain ⟨e2, _⟩ := hok' b _ (un.frzs b ob _ z)
        cases e.symm.trans e1; exact e2
theorem walk_g {l : PySem.W.OpenLaw} {n k : Nat} {q : Program} {loose : List Str} {XP : (Str → Option Value) → Heap → Prop} {YP : World → Heap → Prop} {d : DefRec} {x : Str} (hn : l.most = some n) (hn2 : n ≤ sizeLine) (hdf : d.params.defaults = []) (hr : Room k callerA)
    (F : ∀ (w : World) (mg : Str → Option Value) (fa : Addr) (h : Heap), YP w h → h.Ns mainGlobals mg → mg d.name = some (.ref fa) → ∃ (K : PySem.W.Frag) (fd : FuncData) (sp : Sp), K.In h ∧ (∀ (s : Shared) (u : Value), BindsTo s fd ⟨[u], []⟩ [(x, u)]) ∧
      (∀ (H : Hp) (a : Addr) (ns : List Int), ns.length ≤ n → Only H → SqL K H a (ns.map V.int) → sp [.ref a] H (fun v _ => v = .bl true) (fun _ _ _ => False)) ∧ ∀ base : Heap, K.In base → base.Ns mainGlobals mg → FnG l.prog w K mg base k fa fd [x] sp) :
    PySem.W.WalkO q loose XP YP l.row.toRowW d [] (fun f vs => PySem.call f vs) := by
  refine Att.attach_call hn hdf (fun w s₀ s₁ mg mb fa o pm cd doc a vs ns G Y ho hd hcd hmg hobj hints hlen hg => ?_)
  obtain ⟨K, fd, sp, KX, hb, hsp, hF⟩ := F w mg fa _ Y G.T.g hmg
  exact law_g KX G.T.g G.T.b G.T.builtins G.T.nolimit hg hobj hints (Nat.le_trans hlen hn2) hr hF hb (fun H hO hS => hsp H a ns hlen hO hS)
end PD
set_option Elab.async false
set_option linter.all false
set_option maxRecDepth 100000
set_option maxHeartbeats 1000000
namespace PD
open PySem L2
/-! ### values as data -/
def kD : Key → PyData
  | .inl i => .int i
  | .inr x => .str x
mutual
inductive DR (K : PySem.W.Frag) (H : Hp) : V → PyData → Prop
  | non : DR K H .non .none
  | bl (b : Bool) : DR K H (.bl b) (.bool b)
  | int (i : Int) : DR K H (.int i) (.int i)
  | str (x : Str) : DR K H (.str x) (.str x)
  | lst {a : Addr} {xs : List V} {ds : List PyData} : H a = some (.lst xs) → DRs K H xs ds → DR K H (.ref a) (.list ds)
  | tup {a : Addr} {xs : List V} {ds : List PyData} : SqT K H a xs → DRs K H xs ds → DR K H (.ref a) (.tuple ds)
  | dct {a : Addr} {kvs : List (Key × V)} {ds : List (PyData × PyData)} : H a = some (.dK kvs) → DRk K H kvs ds → DR K H (.ref a) (.dict ds)
inductive DRs (K : PySem.W.Frag) (H : Hp) : List V → List PyData → Prop
  | nil : DRs K H [] []
  | cons {v : V} {vs : List V} {d : PyData} {ds : List PyData} : DR K H v d → DRs K H vs ds → DRs K H (v :: vs) (d :: ds)
inductive DRk (K : PySem.W.Frag) (H : Hp) : List (Key × V) → List (PyData × PyData) → Prop
  | nil : DRk K H [] []
  | cons {k : Key} {v : V} {vs : List (Key × V)} {d : PyData} {ds : List (PyData × PyData)} : DR K H v d → DRk K H vs ds → DRk K H ((k, v) :: vs) ((kD k, d) :: ds)
end
section
variable {K : PySem.W.Frag} {H H' : Hp}
theorem Same.sqt {a : Addr} {xs : List V} (e : Same H H') (h : SqT K H a xs) : SqT K H' a xs := by
  rcases h with (h | ⟨o, h⟩) | h
  · exact .inl (.inl (e _ _ h))
  · exact .inl (.inr ⟨o, e _ _ h⟩)
  · exact .inr h
mutual
theorem DR.mono (e : Same H H') : ∀ (d : PyData) (v : V), DR K H v d → DR K H' v d
  | .none, _, h => by cases h; exact .non
  | .bool b, _, h => by cases h; exact .bl b
  | .int b, _, h => by cases h; exact .int b
  | .str b, _, h => by cases h; exact .str b
  | .list ds, _, h => by cases h with | lst h1 h2 => exact .lst (e _ _ h1) (DRs.mono e ds _ h2)
  | .tuple ds, _, h => by cases h with | tup h1 h2 => exact .tup (Same.sqt e h1) (DRs.mono e ds _ h2)
  | .dict ds, _, h => by cases h with | dct h1 h2 => exact .dct (e _ _ h1) (DRk.mono e ds _ h2)
theorem DRs.mono (e : Same H H') : ∀ (ds : List PyData) (vs : List V), DRs K H vs ds → DRs K H' vs ds
  | [], _, h => by cases h; exact .nil
  | d :: ds, _, h => by cases h with | cons h1 h2 => exact .cons (DR.mono e d _ h1) (DRs.mono e ds _ h2)
theorem DRk.mono (e : Same H H') : ∀ (ds : List (PyData × PyData)) (vs : List (Key × V)), DRk K H vs ds → DRk K H' vs ds
  | [], _, h => by cases h; exact .nil
  | (_, d) :: ds, _, h => by cases h with | cons h1 h2 => exact .cons (DR.mono e d _ h1) (DRk.mono e ds _ h2)
end
theorem DRs.length : ∀ {vs : List V} {ds : List PyData}, DRs K H vs ds → vs.length = ds.length
  | _, _, .nil => rfl
  | _, _, .cons _ t => by simp [DRs.length t]
theorem DRs.get : ∀ {vs : List V} {ds : List PyData} {i : Nat} {d : PyData}, DRs K H vs ds → ds[i]? = some d → ∃ v, vs[i]? = some v ∧ DR K H v d
  | _, _, _, _, .nil, e => by simp at e
  | _, _, 0, _, .cons r _, e => by simp at e; subst e; exact ⟨_, rfl, r⟩
  | _, _, i + 1, _, .cons _ t, e => by
    obtain ⟨u, h1, h2⟩ := DRs.get (i := i) t (by simpa using e)
    exact ⟨u, by simpa using h1, h2⟩
theorem DRs.append : ∀ {xs ys : List V} {us ws : List PyData}, DRs K H xs us → DRs K H ys ws → DRs K H (xs ++ ys) (us ++ ws)
  | _, _, _, _, .nil, s => s
  | _, _, _, _, .cons r t, s => .cons r (DRs.append t s)
theorem DRs.take : ∀ {xs : List V} {us : List PyData} (n : Nat), DRs K H xs us → DRs K H (xs.take n) (us.take n)
  | _, _, 0, _ => .nil
  | _, _, _ + 1, .nil => .nil
  | _, _, n + 1, .cons r t => .cons r (DRs.take n t)
theorem DRs.drop : ∀ {xs : List V} {us : List PyData} (n : Nat), DRs K H xs us → DRs K H (xs.drop n) (us.drop n)
  | _, _, 0, r => r
  | _, _, _ + 1, .nil => .nil
  | _, _, n + 1, .cons _ t => DRs.drop n t
theorem DRs.set : ∀ {xs : List V} {us : List PyData} (n : Nat) {v : V} {d : PyData}, DRs K H xs us → DR K H v d → DRs K H (xs.set n v) (us.set n d)
  | _, _, _, _, _, .nil, _ => .nil
  | _, _, 0, _, _, .cons _ t, r => .cons r t
  | _, _, n + 1, _, _, .cons q t, r => .cons q (DRs.set n t r)
theorem DRs.reverse : ∀ {xs : List V} {us : List PyData}, DRs K H xs us → DRs K H xs.reverse us.reverse
  | _, _, .nil => .nil
  | _, _, .cons r t => by
    rw [List.reverse_cons, List.reverse_cons]
    exact (DRs.reverse t).append (.cons r .nil)
end
/-! ### the hidden part -/
noncomputable section
open Classical in
def hid (S : Addr → Prop) (H : Hp) : Hp := fun a => if S a then none else H a
end
theorem hid_out {S : Addr → Prop} {H : Hp} {a : Addr} (h : ¬ S a) : hid S H a = H a := by unfold hid; rw [if_neg h]
theorem hid_in {S : Addr → Prop} {H : Hp} {a : Addr} (h : S a) : hid S H a = none := by unfold hid; rw [if_pos h]
theorem hid_some {S : Addr → Prop} {H : Hp} {a : Addr} {o : HO} (h : hid S H a = some o) : ¬ S a ∧ H a = some o := by
  by_cases q : S a
  · rw [hid_in q] at h; cases h
  · rw [hid_out q] at h; exact ⟨q, h⟩
theorem hid_same {S : Addr → Prop} {H : Hp} : Same (hid S H) H := fun _ _ h => (hid_some h).2
theorem hid_sub {S S' : Addr → Prop} {H H' : Hp} (h : ∀ a, S' a → S a) (e : ∀ a o, ¬ S a → H a = some o → H' a = some o) : Same (hid S H) (hid S' H') := fun a o q => by
  obtain ⟨q1, q2⟩ := hid_some q
  rw [hid_out fun z => q1 (h a z)]
  exact e a o q1 q2
/-! ### the state at the level of data -/
inductive DV where
  | d (x : PyData) | sat | scr (ns : List Int) | own (xs : List PyData) | tab (kvs : List (Key × PyData))
structure DS where
  ρ : List (Option DV)
  n : Nat
  c : Option (List Int) := none
structure Fr where
  mb : Option Addr
  S0 : Addr → Prop
  H0 : Hp
def RT (K : PySem.W.Frag) (F : Fr) (S : Addr → Prop) (H : Hp) (v : V) : DV → Prop
  | .d x => DR K (hid S H) v x
  | .sat => ∃ b, F.mb = some b ∧ v = .ref b
  | .scr ns => ∃ a, v = .ref a ∧ SqL K (hid S H) a (ns.map V.int)
  | _ => False
def DKs (K : PySem.W.Frag) (H : Hp) : List (Key × V) → List (Key × PyData) → Prop := Paired fun p q => p.1 = q.1 ∧ DR K H p.2 q.2
def RV (K : PySem.W.Frag) (F : Fr) (S : Addr → Prop) (H : Hp) (M : Nat → Option Addr) (i : Nat) (v : V) : DV → Prop
  | .d x => DR K (hid S H) v x
  | .sat => ∃ b, F.mb = some b ∧ v = .ref b
  | .scr ns => ∃ a, v = .ref a ∧ SqL K (hid S H) a (ns.map V.int)
  | .own xs => ∃ a vs, v = .ref a ∧ M i = some a ∧ H a = some (.lst vs) ∧ DRs K (hid S H) vs xs
  | .tab kvs => ∃ a vs, v = .ref a ∧ M i = some a ∧ H a = some (.dK vs) ∧ DKs K (hid S H) vs kvs
/-- the satchel: its cells, its turn (below n), its rest -/
def SatAt (K : PySem.W.Frag) (S : Addr → Prop) (H : Hp) (b : Addr) (n : Nat) (cl : Option (List Int)) : Prop := ∃ (c : Addr) (cells : List Int) (at_ rest : Int),
  H b = some (.lst [.ref c, .int at_, .int rest]) ∧ hid S H c = some (.lst (cells.map V.int)) ∧ cells.length ≤ 63 ∧ 0 ≤ at_ ∧ at_ ≤ n ∧ 0 ≤ rest ∧ ∀ x, cl = some x → cells = x
def SM (F : Fr) (M : Nat → Option Addr) : Addr → Prop := fun a => F.S0 a ∨ ∃ i, M i = some a
structure RelM (K : PySem.W.Frag) (F : Fr) (M : Nat → Option Addr) (σ : St) (H : Hp) (s : DS) (vs : List V) (ds : List DV) : Prop where
  len : σ.length = s.ρ.length
  vals : ∀ i x, s.ρ[i]? = some (some x) → ∃ v, σ[i]? = some (some v) ∧ RV K F (SM F M) H M i v x
  inj : ∀ i j a, M i = some a → M j = some a → i = j
  out : ∀ i a, M i = some a → ¬ F.S0 a ∧ ∃ o, H a = some o
  new : ∀ i a, M i = some a → F.H0 a = none
  there : ∀ a, F.S0 a → ∃ o, H a = some o
  sat : ∀ b, F.mb = some b → F.S0 b ∧ SatAt K (SM F M) H b s.n s.c
  ext : ∀ a o, F.H0 a = some o → F.mb ≠ some a → H a = some o
  tmp : Paired (RT K F (SM F M) H) vs ds
def Rel (K : PySem.W.Frag) (F : Fr) (σ : St) (H : Hp) (s : DS) (vs : List V) (ds : List DV) : Prop := ∃ M, RelM K F M σ H s vs ds
/-- what a def hands back -/
structure Ret (K : PySem.W.Frag) (F : Fr) (H : Hp) (v : V) (d : DV) (n : Nat) : Prop where
  val : RT K F F.S0 H v d
  there : ∀ a, F.S0 a → ∃ o, H a = some o
  sat : ∀ b, F.mb = some b → F.S0 b ∧ SatAt K F.S0 H b n none
  ext : ∀ a o, F.H0 a = some o → F.mb ≠ some a → H a = some o
section
variable {K : PySem.W.Frag} {F : Fr} {M M' : Nat → Option Addr} {σ : St} {H H' : Hp} {s : DS} {vs ws : List V} {ds es : List DV}
theorem SatAt.mono {S S' : Addr → Prop} {b : Addr} {n n' : Nat} {cl : Option (List Int)} (h : SatAt K S H b n cl) (hb : H' b = H b) (e : Same (hid S H) (hid S' H')) (hn : n ≤ n') : SatAt K S' H' b n' cl := by
  obtain ⟨c, cells, at_, rest, h1, h2, h3, h4, h5, h6⟩ := h
  exact ⟨c, cells, at_, rest, hb.trans h1, e _ _ h2, h3, h4, by omega, h6⟩
theorem SatAt.forget {S : Addr → Prop} {b : Addr} {n : Nat} {cl : Option (List Int)} (h : SatAt K S H b n cl) : SatAt K S H b n none := by
  obtain ⟨c, cells, at_, rest, h1, h2, h3, h4, h5, h6, _⟩ := h
  exact ⟨c, cells, at_, rest, h1, h2, h3, h4, h5, h6, fun _ z => nomatch z⟩
theorem RT.mono {S S' : Addr → Prop} {v : V} {d : DV} (h : RT K F S H v d) (e : Same (hid S H) (hid S' H')) : RT K F S' H' v d := by
  cases d with
  | d x => exact DR.mono e x v h
  | sat => exact h
  | scr ns => obtain ⟨a, h1, h2⟩ := h; exact ⟨a, h1, e.seq h2⟩
  | own xs => exact h
  | tab xs => exact h
theorem DKs.mono (e : Same H H') {xs : List (Key × V)} {ys : List (Key × PyData)} (h : DKs K H xs ys) : DKs K H' xs ys := Paired.mapP h fun _ _ q => ⟨q.1, DR.mono e _ _ q.2⟩
/-- the heap grows, nothing that stood changes -/
theorem RelM.grow (R : RelM K F M σ H s vs ds) (e : Same H H') : RelM K F M σ H' s vs ds := by
  have eh : Same (hid (SM F M) H) (hid (SM F M) H') := hid_sub (fun _ z => z) fun a o _ q => e a o q
  refine ⟨R.len, fun i x q => ?_, R.inj, fun i a q => ?_, R.new, fun a q => ?_, fun b q => ?_, fun a o q z => e _ _ (R.ext a o q z), Paired.mapP R.tmp fun _ _ q => q.mono eh⟩
  · obtain ⟨v, h1, h2⟩ := R.vals i x q
    refine ⟨v, h1, ?_⟩
    cases x with
    | d x => exact DR.mono eh x v h2
    | sat => exact h2
    | scr ns => obtain ⟨a, h1, h2⟩ := h2; exact ⟨a, h1, eh.seq h2⟩
    | own xs => obtain ⟨a, ys, h3, h4, h5, h6⟩ := h2; exact ⟨a, ys, h3, h4, e _ _ h5, DRs.mono eh _ _ h6⟩
    | tab xs => obtain ⟨a, ys, h3, h4, h5, h6⟩ := h2; exact ⟨a, ys, h3, h4, e _ _ h5, DKs.mono eh h6⟩
  · obtain ⟨h1, o, h2⟩ := R.out i a q
    exact ⟨h1, o, e _ _ h2⟩
  · obtain ⟨o, h2⟩ := R.there a q
    exact ⟨o, e _ _ h2⟩
  · obtain ⟨h1, h2⟩ := R.sat b q
    obtain ⟨o, h3⟩ := R.there b h1
    exact ⟨h1, h2.mono ((e _ _ h3).trans h3.symm) eh (Nat.le_refl _)⟩
theorem Rel.grow (R : Rel K F σ H s vs ds) (e : Same H H') : Rel K F σ H' s vs ds := let ⟨M, R⟩ := R; ⟨M, R.grow e⟩
theorem RelM.tmps (R : RelM K F M σ H s vs ds) (h : Paired (RT K F (SM F M) H) ws es) : RelM K F M σ H s ws es := ⟨R.len, R.vals, R.inj, R.out, R.new, R.there, R.sat, R.ext, h⟩
theorem RelM.push {v : V} {d : DV} (R : RelM K F M σ H s vs ds) (h : RT K F (SM F M) H v d) : RelM K F M σ H s (v :: vs) (d :: ds) := R.tmps (.cons h R.tmp)
theorem Rel.pop {v : V} {d : DV} (R : Rel K F σ H s (v :: vs) (d :: ds)) : Rel K F σ H s vs ds := by
  obtain ⟨M, R⟩ := R
  refine ⟨M, R.tmps ?_⟩
  cases R.tmp with | cons _ t => exact t
theorem RelM.top {v : V} {d : DV} (R : RelM K F M σ H s (v :: vs) (d :: ds)) : RT K F (SM F M) H v d := by
  cases R.tmp with | cons h _ => exact h
/-- an object laid at a free place -/
theorem same_new {p : Addr} {o : HO} (h : H p = none) : Same H (upd H p o) := fun b u e => by
  rw [upd_ne (ne_of_none e h)]; exact e
theorem RelM.free {p : Addr} (R : RelM K F M σ H s vs ds) (h : H p = none) : ¬ SM F M p := by
  rintro (q | ⟨i, q⟩)
  · obtain ⟨o, z⟩ := R.there p q; rw [h] at z; cases z
  · obtain ⟨_, o, z⟩ := R.out i p q; rw [h] at z; cases z
end
end PD
set_option Elab.async false
set_option linter.all false
set_option maxRecDepth 100000
set_option maxHeartbeats 1000000
namespace PD
open PySem L2
/-! ### judgements -/
structure Sg where
  P : Program
  w : World
  K : PySem.W.Frag
  mg : Str → Option Value
  base : Heap
  N : List Str
  sc : Scope
  lv : Nat
  isDef : Bool
structure Sg.has (g : Sg) (X : Cx) : Prop where
  prog : X.prog = g.P
  w : X.w = g.w
  K : X.K = g.K
  mg : X.mg = g.mg
  base : X.base = g.base
  N : X.N = g.N
  sc : X.env.scope = g.sc
  calm : X.calm = true
  xe : X.xe = fun _ _ => False
  room : Room g.lv X.A
  gd : X.A.guards = some []
  fn : g.isDef = true → X.fn = fun _ => true
abbrev TED := DS → (DV → DS → Prop) → Prop
abbrev TTD := DS → (Bool → DS → Prop) → Prop
abbrev TAD := DS → (List DV → DS → Prop) → Prop
structure DEnds where
  nx : DS → Prop
  rt : DV → Nat → Prop
  bk : DS → Prop := fun _ => False
  ct : DS → Prop := fun _ => False
abbrev TSD := DEnds → DS → Prop
def LE (K : PySem.W.Frag) (te : TE) (t : TED) : Prop := ∀ (F : Fr) (σ : St) (H : Hp) (s : DS) (vs : List V) (ds : List DV) (Q : DV → DS → Prop) (R : VK), Rel K F σ H s vs ds → t s Q →
  (∀ v H' d s', Rel K F σ H' s' (v :: vs) (d :: ds) → Q d s' → R v H') → te σ H R
def LT (K : PySem.W.Frag) (te : TT) (t : TTD) : Prop := ∀ (F : Fr) (σ : St) (H : Hp) (s : DS) (vs : List V) (ds : List DV) (Q : Bool → DS → Prop) (R : Bool → Hp → Prop), Rel K F σ H s vs ds → t s Q →
  (∀ b H' s', Rel K F σ H' s' vs ds → Q b s' → R b H') → te σ H R
def LA (K : PySem.W.Frag) (te : TA) (t : TAD) : Prop := ∀ (F : Fr) (σ : St) (H : Hp) (s : DS) (vs : List V) (ds : List DV) (Q : List DV → DS → Prop) (R : List V → Hp → Prop), Rel K F σ H s vs ds → t s Q →
  (∀ ws H' es s', Rel K F σ H' s' (ws ++ vs) (es ++ ds) → Q es s' → R ws H') → te σ H R
def LS (K : PySem.W.Frag) (te : TS) (t : TSD) : Prop := ∀ (F : Fr) (σ : St) (H : Hp) (s : DS) (vs : List V) (ds : List DV) (D : DEnds) (E : Ends), Rel K F σ H s vs ds → t D s →
  (∀ σ' H' s', Rel K F σ' H' s' vs ds → D.nx s' → E.nx σ' H') → (∀ v H' d n, Ret K F H' v d n → D.rt d n → E.rt v H') →
  (∀ σ' H' s', Rel K F σ' H' s' vs ds → D.bk s' → E.bk σ' H') → (∀ σ' H' s', Rel K F σ' H' s' vs ds → D.ct s' → E.ct σ' H') → te E σ H
structure DE (g : Sg) (e : Expr) (t : TED) : Prop where
  ex : ∃ te, (∀ X, g.has X → PE X e te) ∧ LE g.K te t
structure DT (g : Sg) (e : Expr) (t : TTD) : Prop where
  ex : ∃ te, (∀ X, g.has X → PT X e te) ∧ LT g.K te t
structure DW (g : Sg) (e : Expr) (t : TTD) : Prop where
  ex : ∃ te, (∀ X, g.has X → PW X e te) ∧ LT g.K te t
structure DA (g : Sg) (es : List Expr) (t : TAD) : Prop where
  ex : ∃ te, (∀ X, g.has X → PA X es te) ∧ LA g.K te t
structure DSt (g : Sg) (st : Stmt) (t : TSD) : Prop where
  ex : ∃ te, (∀ X, g.has X → PS X st te) ∧ LS g.K te t
structure DSs (g : Sg) (st : List Stmt) (t : TSD) : Prop where
  ex : ∃ te, (∀ X, g.has X → PSs X st te) ∧ LS g.K te t
section
variable {g : Sg} {e a b c : Expr} {es : List Expr} {t ta tb tc : TED} {pos : Pos}
theorem DW.dt {t : TTD} (h : DW g e t) : DT g e t := let ⟨te, h1, h2⟩ := h.ex; ⟨te, fun X hX => (h1 X hX).pt, h2⟩
/-! ### names, constants -/
def DV.frz : DV → DV
  | .own xs => .d (.list xs)
  | .tab kvs => .d (.dict (kvs.map fun p => (kD p.1, p.2)))
  | x => x
def dVarK (i : Nat) (x : DV) : TED := fun s Q => match x with
  | .own xs => Q (.d (.list xs)) { s with ρ := s.ρ.set i (some (.d (.list xs))) }
  | .tab kvs => Q (.d (.dict (kvs.map fun p => (kD p.1, p.2)))) { s with ρ := s.ρ.set i (some (.d (.dict (kvs.map fun p => (kD p.1, p.2))))) }
  | x => Q x s
def dVar (i : Nat) : TED := fun s Q => match s.ρ[i]? with
  | some (some x) => dVarK i x s Q
  | _ => False
theorem dVar_ok {i : Nat} {s : DS} {Q : DV → DS → Prop} (h : dVar i s Q) : ∃ x, s.ρ[i]? = some (some x) ∧ dVarK i x s Q := by
  unfold dVar at h
  split at h
  · rename_i x e; exact ⟨x, e, h⟩
  · exact h.elim
theorem DKs.drk {K : PySem.W.Frag} {H : Hp} : ∀ {vs : List (Key × V)} {kvs : List (Key × PyData)}, DKs K H vs kvs → DRk K H vs (kvs.map fun p => (kD p.1, p.2))
  | _, _, .nil => .nil
  | (k, v) :: vs, (k', d) :: ds, .cons ⟨h1, h2⟩ t => by
    cases (show k = k' from h1)
    exact .cons h2 (DKs.drk t)
/-- a slot of one's own is given free -/
theorem RelM.freeze {K : PySem.W.Frag} {F : Fr} {M : Nat → Option Addr} {σ : St} {H : Hp} {s : DS} {vs : List V} {ds : List DV} {i : Nat} {v : V} {d : DV} (R : RelM K F M σ H s vs ds) (hσ : σ[i]? = some (some v))
    (h : RT K F (SM F fun j => if j = i then none else M j) H v d) (hd : ∀ xs, d ≠ .own xs) (ht : ∀ xs, d ≠ .tab xs) :
    RelM K F (fun j => if j = i then none else M j) σ H { s with ρ := s.ρ.set i (some d) } (v :: vs) (d :: ds) := by
  have sub : ∀ a, SM F (fun j => if j = i then none else M j) a → SM F M a := fun a z => by
    rcases z with z | ⟨j, z⟩
    · exact .inl z
    · by_cases q : j = i
      · simp [q] at z
      · simp [q] at z; exact .inr ⟨j, z⟩
  have eh : Same (hid (SM F M) H) (hid (SM F fun j => if j = i then none else M j) H) := hid_sub sub fun _ _ _ q => q
  refine ⟨by simp [R.len], fun j x q => ?_, fun a b c h1 h2 => ?_, fun j a q => ?_, fun j a q => ?_, R.there, fun b q => ?_, R.ext, .cons h (Paired.mapP R.tmp fun _ _ q => q.mono eh)⟩
  · by_cases hj : j = i
    · subst hj
      have hl : j < s.ρ.length := by
        by_cases z : j < s.ρ.length
        · exact z
        · rw [List.getElem?_eq_none (by simp; omega)] at q; cases q
      rw [List.getElem?_set_self hl] at q
      cases q
      refine ⟨v, hσ, ?_⟩
      cases d with
      | d x => exact h
      | sat => exact h
      | scr => exact h
      | own xs => exact absurd rfl (hd xs)
      | tab xs => exact absurd rfl (ht xs)
    · rw [List.getElem?_set_ne (fun z => hj z.symm)] at q
      obtain ⟨v', h1, h2⟩ := R.vals j x q
      refine ⟨v', h1, ?_⟩
      cases x with
      | d x => exact DR.mono eh x _ h2
      | sat => exact h2
      | scr ns => obtain ⟨a, h1, h2⟩ := h2; exact ⟨a, h1, eh.seq h2⟩
      | own xs => obtain ⟨a, ys, h3, h4, h5, h6⟩ := h2; exact ⟨a, ys, h3, by simp [hj, h4], h5, DRs.mono eh _ _ h6⟩
      | tab xs => obtain ⟨a, ys, h3, h4, h5, h6⟩ := h2; exact ⟨a, ys, h3, by simp [hj, h4], h5, DKs.mono eh h6⟩
  · by_cases q1 : a = i <;> by_cases q2 : b = i <;> simp [q1, q2] at h1 h2
    exact R.inj a b c h1 h2
  · by_cases q1 : j = i <;> simp [q1] at q
    exact R.out j a q
  · by_cases q1 : j = i <;> simp [q1] at q
    exact R.new j a q
  · obtain ⟨h1, h2⟩ := R.sat b q
    exact ⟨h1, h2.mono rfl eh (Nat.le_refl _)⟩
theorem le_var (K : PySem.W.Frag) (i : Nat) : LE K (tVar i) (dVar i) := by
  intro F σ H s vs ds Q R ⟨M, r⟩ q h
  obtain ⟨x, hx, q⟩ := dVar_ok q
  obtain ⟨v, hv, rv⟩ := r.vals i x hx
  refine ⟨v, hv, ?_⟩
  have frz : ∀ a, v = .ref a → M i = some a → ¬ SM F (fun j => if j = i then none else M j) a := fun a e1 e2 z => by
    rcases z with z | ⟨j, z⟩
    · exact (r.out i a e2).1 z
    · by_cases q : j = i
      · simp [q] at z
      · simp [q] at z; exact q (r.inj j i a z e2)
  have sub : ∀ a, SM F (fun j => if j = i then none else M j) a → SM F M a := fun a z => by
    rcases z with z | ⟨j, z⟩
    · exact .inl z
    · by_cases q : j = i
      · simp [q] at z
      · simp [q] at z; exact .inr ⟨j, z⟩
  have eh : Same (hid (SM F M) H) (hid (SM F fun j => if j = i then none else M j) H) := hid_sub sub fun _ _ _ q => q
  cases x with
  | d x => exact h _ _ _ _ ⟨M, r.push (d := .d x) rv⟩ q
  | sat => exact h _ _ _ _ ⟨M, r.push (d := .sat) rv⟩ q
  | scr ns => exact h _ _ _ _ ⟨M, r.push (d := .scr ns) rv⟩ q
  | own xs =>
    obtain ⟨a, ys, h3, h4, h5, h6⟩ := rv
    refine h _ _ _ _ ⟨_, r.freeze hv (d := .d (.list xs)) ?_ (fun _ z => nomatch z) (fun _ z => nomatch z)⟩ q
    subst h3
    exact .lst ((hid_out (frz a rfl h4)).trans h5) (DRs.mono eh _ _ h6)
  | tab xs =>
    obtain ⟨a, ys, h3, h4, h5, h6⟩ := rv
    refine h _ _ _ _ ⟨_, r.freeze hv (d := .d _) ?_ (fun _ z => nomatch z) (fun _ z => nomatch z)⟩ q
    subst h3
    exact .dct ((hid_out (frz a rfl h4)).trans h5) (DKs.mono eh h6).drk
theorem de_var (i : Nat) {x : Str} (hN : g.N[i]? = some x := by rfl) (hv : Vis g.sc x := by first | exact Or.inl rfl | exact Or.inr (Or.inl rfl) | exact Or.inr (Or.inr rfl)) (hd : (x == ("__debug__" : Str)) = false := by decide)
    (hcd : (x == ("__classdict__" : Str)) = false := by decide) : DE g (.Name x pos) (dVar i) :=
  ⟨_, fun X h => pe_var (by rw [h.N]; exact hN) (by rw [h.sc]; exact hv) hd hcd, le_var _ i⟩
def dLit (x : PyData) : TED := fun s Q => Q (.d x) s
theorem le_lit {K : PySem.W.Frag} {v : V} {x : PyData} (h : ∀ H, DR K H v x) : LE K (tC v) (dLit x) := by
  intro F σ H s vs ds Q R ⟨M, r⟩ q k
  exact k _ _ _ _ ⟨M, r.push (d := .d x) (h _)⟩ q
theorem de_int {i j pos} : DE g (.Constant (.int i) j pos) (dLit (.int i)) := ⟨_, fun _ _ => pe_int, le_lit fun _ => .int i⟩
theorem de_bl {b j pos} : DE g (.Constant (.bool b) j pos) (dLit (.bool b)) := ⟨_, fun _ _ => pe_bl, le_lit fun _ => .bl b⟩
theorem de_non {j pos} : DE g (.Constant .none j pos) (dLit .none) := ⟨_, fun _ _ => pe_non, le_lit fun _ => .non⟩
theorem de_str {x j pos} : DE g (.Constant (.str x) j pos) (dLit (.str x)) := ⟨_, fun _ _ => pe_str, le_lit fun _ => .str x⟩
/-- a constant of the module -/
theorem de_glob {x : Str} {v : V} {d : PyData} {u : Value} (hm : g.mg x = some u) (r : RelV v u) (hd : ∀ H, DR g.K H v d) (hg : g.sc.names.lookup x = some .globalImplicit := by rfl) (hdb : (x == ("__debug__" : Str)) = false := by decide) : DE g (.Name x pos) (dLit d) :=
  ⟨_, fun X h => pe_glob (by show X.env.scope.names.lookup x = _; rw [h.sc]; exact hg) (by rw [h.mg]; exact hm) r hdb, le_lit hd⟩
/-! ### operations on data -/
/-- a rule by values does what t says of the data; what stands stays -/
def LO2 (K : PySem.W.Frag) (r : R2) (t : PyData → PyData → (PyData → Prop) → Prop) : Prop := ∀ (S : Addr → Prop) (H : Hp) (x y : V) (dx dy : PyData) (Q : PyData → Prop) (R : VK), (∀ a, S a → ∃ o, H a = some o) →
  DR K (hid S H) x dx → DR K (hid S H) y dy → t dx dy Q → (∀ v H' d, Same H H' → DR K (hid S H') v d → Q d → R v H') → r x y H R
def LO1 (K : PySem.W.Frag) (r : V → Hp → VK → Prop) (t : PyData → (PyData → Prop) → Prop) : Prop := ∀ (S : Addr → Prop) (H : Hp) (x : V) (dx : PyData) (Q : PyData → Prop) (R : VK), (∀ a, S a → ∃ o, H a = some o) →
  DR K (hid S H) x dx → t dx Q → (∀ v H' d, Same H H' → DR K (hid S H') v d → Q d → R v H') → r x H R
def LOn (K : PySem.W.Frag) (r : List V → Hp → VK → Prop) (t : List PyData → (PyData → Prop) → Prop) : Prop := ∀ (S : Addr → Prop) (H : Hp) (xs : List V) (dxs : List PyData) (Q : PyData → Prop) (R : VK), (∀ a, S a → ∃ o, H a = some o) →
  DRs K (hid S H) xs dxs → t dxs Q → (∀ v H' d, Same H H' → DR K (hid S H') v d → Q d → R v H') → r xs H R
theorem same_hid {S : Addr → Prop} {H H' : Hp} (e : Same H H') : Same (hid S H) (hid S H') := hid_sub (fun _ z => z) fun a o _ q => e a o q
theorem free_hid {S : Addr → Prop} {H : Hp} {p : Addr} {o : HO} (hS : ∀ a, S a → ∃ o, H a = some o) (h : H p = none) : hid S (upd H p o) p = some o := by
  rw [hid_out, upd_same]
  intro z
  obtain ⟨o, q⟩ := hS p z
  rw [h] at q; cases q
def isD : DV → (PyData → Prop) → Prop := fun v k => match v with
  | .d x => k x
  | _ => False
theorem isD_ok {v : DV} {k : PyData → Prop} (h : isD v k) : ∃ x, v = .d x ∧ k x := by
  cases v with
  | d x => exact ⟨x, rfl, h⟩
  | _ => exact h.elim
def dBin (t2 : PyData → PyData → (PyData → Prop) → Prop) (ta tb : TED) : TED := fun s Q => ta s fun x s1 => tb s1 fun y s2 => isD x fun dx => isD y fun dy => t2 dx dy fun d => Q (.d d) s2
theorem RelM.hS {K : PySem.W.Frag} {F : Fr} {M : Nat → Option Addr} {σ : St} {H : Hp} {s : DS} {vs : List V} {ds : List DV} (R : RelM K F M σ H s vs ds) : ∀ a, SM F M a → ∃ o, H a = some o := fun a z => by
  rcases z with z | ⟨i, z⟩
  · exact R.there a z
  · exact (R.out i a z).2
theorem le_bin {K : PySem.W.Frag} {r : R2} {t2 : PyData → PyData → (PyData → Prop) → Prop} {ea eb : TE} (hr : LO2 K r t2) (ha : LE K ea ta) (hb : LE K eb tb) : LE K (tOp r ea eb) (dBin t2 ta tb) := by
  intro F σ H s vs ds Q R r0 q k
  refine ha F σ H s vs ds _ _ r0 q fun x H1 dx s1 r1 q1 => ?_
  refine hb F σ H1 s1 _ _ _ _ r1 q1 fun y H2 dy s2 r2 q2 => ?_
  obtain ⟨xx, rfl, q3⟩ := isD_ok q2
  obtain ⟨yy, rfl, q4⟩ := isD_ok q3
  obtain ⟨M, r2⟩ := r2
  cases r2.tmp with
  | cons hy t =>
    cases t with
    | cons hx t =>
      refine hr (SM F M) H2 x y xx yy _ _ r2.hS hx hy q4 fun v H3 d e1 e2 q5 => ?_
      exact k v H3 _ s2 ⟨M, ((r2.tmps t).grow e1).push (d := .d d) e2⟩ q5
theorem de_bin {op : Operator} {r : R2} {t2 : PyData → PyData → (PyData → Prop) → Prop} (ho : ∀ X, g.has X → OpR X (binaryOp op) r) (hr : LO2 g.K r t2) (ha : DE g a ta) (hb : DE g b tb) : DE g (.BinOp a op b pos) (dBin t2 ta tb) :=
  let ⟨_, a1, a2⟩ := ha.ex; let ⟨_, b1, b2⟩ := hb.ex; ⟨_, fun X h => pe_op (ho X h) (a1 X h) (b1 X h), le_bin hr a2 b2⟩
theorem de_cmp {op : CmpOp} {r : R2} {t2 : PyData → PyData → (PyData → Prop) → Prop} (ho : ∀ X, g.has X → OpR X (compareOp op) r) (hr : LO2 g.K r t2) (ha : DE g a ta) (hb : DE g b tb) (hm : behindInMarks op b = false := by first | exact nomark _ | rfl) :
    DE g (.Compare a [op] [b] pos) (dBin t2 ta tb) :=
  let ⟨_, a1, a2⟩ := ha.ex; let ⟨_, b1, b2⟩ := hb.ex; ⟨_, fun X h => pe_cmpR (ho X h) (a1 X h) (b1 X h) hm, le_bin hr a2 b2⟩
def dUn (t1 : PyData → (PyData → Prop) → Prop) (ta : TED) : TED := fun s Q => ta s fun x s1 => isD x fun dx => t1 dx fun d => Q (.d d) s1
theorem le_un {K : PySem.W.Frag} {r : V → Hp → VK → Prop} {t1 : PyData → (PyData → Prop) → Prop} {ea : TE} (hr : LO1 K r t1) (ha : LE K ea ta) : LE K (tUn r ea) (dUn t1 ta) := by
  intro F σ H s vs ds Q R r0 q k
  refine ha F σ H s vs ds _ _ r0 q fun x H1 dx s1 r1 q1 => ?_
  obtain ⟨xx, rfl, q3⟩ := isD_ok q1
  obtain ⟨M, r2⟩ := r1
  cases r2.tmp with
  | cons hx t =>
    refine hr (SM F M) H1 x xx _ _ r2.hS hx q3 fun v H3 d e1 e2 q5 => ?_
    exact k v H3 _ s1 ⟨M, ((r2.tmps t).grow e1).push (d := .d d) e2⟩ q5
theorem de_un {op : UnaryOp} {r : V → Hp → VK → Prop} {t1 : PyData → (PyData → Prop) → Prop} (ho : ∀ X, g.has X → UnR X (unaryOp op) r) (hr : LO1 g.K r t1) (ha : DE g a ta) : DE g (.UnaryOp op a pos) (dUn t1 ta) :=
  let ⟨_, a1, a2⟩ := ha.ex; ⟨_, fun X h => pe_un (ho X h) (a1 X h), le_un hr a2⟩
/-! ### arguments, displays, calls of built-ins -/
def dNil : TAD := fun s Q => Q [] s
def dCons (t : TED) (u : TAD) : TAD := fun s Q => t s fun x s1 => u s1 fun xs s2 => Q (x :: xs) s2
theorem da_nil : DA g [] dNil := ⟨_, fun _ _ => pa_nil, fun F σ H s vs ds Q R r q k => k [] H [] s r q⟩
theorem paired_app {α β : Type} {R : α → β → Prop} : ∀ {xs ys : List α} {us ws : List β}, Paired R xs us → Paired R ys ws → Paired R (xs ++ ys) (us ++ ws)
  | _, _, _, _, .nil, s => s
  | _, _, _, _, .cons r t, s => .cons r (paired_app t s)
theorem paired_split {α β : Type} {R : α → β → Prop} : ∀ {xs ys : List α} {us ws : List β}, xs.length = us.length → Paired R (xs ++ ys) (us ++ ws) → Paired R xs us ∧ Paired R ys ws
  | [], _, [], _, _, h => ⟨.nil, h⟩
  | x :: xs, _, u :: us, _, e, .cons r t => let ⟨h1, h2⟩ := paired_split (by simpa using e) t; ⟨.cons r h1, h2⟩
theorem le_cons {K : PySem.W.Frag} {te : TE} {ta' : TA} {u : TAD} (ha : LE K te t) (hr : LA K ta' u) (hl : ∀ σ H R, ta' σ H R → True) : LA K (tCons te ta') (dCons t u) := by
  intro F σ H s vs ds Q R r0 q k
  refine ha F σ H s vs ds _ _ r0 q fun x H1 dx s1 r1 q1 => ?_
  refine hr F σ H1 s1 _ _ _ _ r1 q1 fun ws H2 es s2 r2 q2 => ?_
  refine k (x :: ws) H2 (dx :: es) s2 ?_ q2
  obtain ⟨M, r2⟩ := r2
  refine ⟨M, r2.tmps ?_⟩
  -- ws ++ x :: vs against es ++ dx :: ds
  have : ∀ {xs : List V} {us : List DV} , Paired (RT K F (SM F M) H2) (xs ++ x :: vs) (us ++ dx :: ds) → Paired (RT K F (SM F M) H2) (x :: vs) (dx :: ds) → xs.length = us.length → Paired (RT K F (SM F M) H2) (x :: xs ++ vs) (dx :: us ++ ds) := by
    intro xs us h1 _ h3
    obtain ⟨h4, h5⟩ := paired_split h3 h1
    cases h5 with
    | cons h6 h7 => exact .cons h6 (paired_app h4 h7)
  have hlen : ws.length = es.length := by
    have h1 := Paired.length r2.tmp
    obtain ⟨M1, r1⟩ := r1
    have h2 := Paired.length r1.tmp
    simp at h1 h2
    omega
  exact this r2.tmp (paired_split hlen r2.tmp).2 hlen
theorem da_cons {u : TAD} (ha : DE g e t) (hr : DA g es u) (hs : ∀ X : Cx, starEach (e :: es) X.env = (false, eval e X.env) :: starEach es X.env := by intro _; rfl) : DA g (e :: es) (dCons t u) :=
  let ⟨_, a1, a2⟩ := ha.ex; let ⟨_, b1, b2⟩ := hr.ex; ⟨_, fun X h => pa_cons (a1 X h) (b1 X h) (hs X), le_cons a2 b2 fun _ _ _ _ => trivial⟩
/-- all are data -/
def areD : List DV → (List PyData → Prop) → Prop
  | [], k => k []
  | v :: vs, k => isD v fun x => areD vs fun xs => k (x :: xs)
theorem areD_ok {K : PySem.W.Frag} {F : Fr} {S : Addr → Prop} {H : Hp} : ∀ {vs : List DV} {k : List PyData → Prop}, areD vs k → ∃ xs, vs = xs.map DV.d ∧ k xs
  | [], k, h => ⟨[], rfl, h⟩
  | v :: vs, k, h => by
    obtain ⟨x, rfl, h1⟩ := isD_ok h
    obtain ⟨xs, rfl, h2⟩ := areD_ok (K := K) (F := F) (S := S) (H := H) h1
    exact ⟨x :: xs, rfl, h2⟩
theorem drs_of {K : PySem.W.Frag} {F : Fr} {S : Addr → Prop} {H : Hp} : ∀ {vs : List V} {xs : List PyData}, Paired (RT K F S H) vs (xs.map DV.d) → DRs K (hid S H) vs xs
  | [], [], _ => .nil
  | v :: vs, x :: xs, .cons h t => .cons h (drs_of t)
  | [], _ :: _, h => nomatch h
  | _ :: _, [], h => nomatch h
def dCall (tn : List PyData → (PyData → Prop) → Prop) (ta : TAD) : TED := fun s Q => ta s fun xs s1 => areD xs fun ds => tn ds fun d => Q (.d d) s1
theorem le_calln {K : PySem.W.Frag} {r : List V → Hp → VK → Prop} {tn : List PyData → (PyData → Prop) → Prop} {ea : TA} {ua : TAD} (hr : LOn K r tn) (ha : LA K ea ua) : LE K (fun σ H Q => ea σ H fun vs H1 => r vs H1 Q) (dCall tn ua) := by
  intro F σ H s vs ds Q R r0 q k
  refine ha F σ H s vs ds _ _ r0 q fun ws H1 es s1 r1 q1 => ?_
  obtain ⟨M, r1⟩ := r1
  obtain ⟨xs, rfl, q2⟩ := areD_ok (K := K) (F := F) (S := SM F M) (H := H1) q1
  have hlen : ws.length = (xs.map DV.d).length := by
    have h1 := Paired.length r1.tmp
    obtain ⟨M0, r0⟩ := r0
    have h2 := Paired.length r0.tmp
    simp only [List.length_append] at h1
    omega
  obtain ⟨h4, h5⟩ := paired_split hlen r1.tmp
  refine hr (SM F M) H1 ws xs _ _ r1.hS (drs_of h4) q2 fun v H3 d e1 e2 q5 => ?_
  exact k v H3 _ s1 ⟨M, ((r1.tmps h5).grow e1).push (d := .d d) e2⟩ q5
theorem de_callB {id : String} {x : Str} {p : Pos} {r : List V → Hp → VK → Prop} {tn : List PyData → (PyData → Prop) → Prop} {u : TAD} (hc : ∀ X, g.has X → CallR X (.builtin id) r) (hr : LOn g.K r tn) (hm : g.mg x = none) (hv : bootBuiltins x = some (.builtin id)) (ha : DA g (e :: es) u)
    (hg : g.sc.names.lookup x = some .globalImplicit := by rfl) (hn : x ≠ "__name__" := by decide) (hdb : (x == ("__debug__" : Str)) = false := by decide)
    (he : ∀ X : Cx, starEach (e :: es) X.env = (false, eval e X.env) :: starEach es X.env := by intro _; rfl) (hpl : ∀ X : Cx, (backTo pos (starEach es X.env)).any (·.1) = false := by intro _; rfl) : DE g (.Call (.Name x p) (e :: es) [] pos) (dCall tn u) :=
  let ⟨_, a1, a2⟩ := ha.ex
  ⟨_, fun X h => pe_callB (hc X h) (by show X.env.scope.names.lookup x = _; rw [h.sc]; exact hg) (by rw [h.mg]; exact hm) hv (a1 X h) hn hdb (he X) (hpl X), le_calln hr a2⟩
theorem de_callTy {id : String} {x : Str} {p : Pos} {r : List V → Hp → VK → Prop} {tn : List PyData → (PyData → Prop) → Prop} {u : TAD} (hc : ∀ X, g.has X → CallR X (.type id) r) (hr : LOn g.K r tn) (hm : g.mg x = none) (hv : bootBuiltins x = some (.type id)) (ha : DA g (e :: es) u)
    (hg : g.sc.names.lookup x = some .globalImplicit := by rfl) (hn : x ≠ "__name__" := by decide) (hdb : (x == ("__debug__" : Str)) = false := by decide)
    (he : ∀ X : Cx, starEach (e :: es) X.env = (false, eval e X.env) :: starEach es X.env := by intro _; rfl) (hpl : ∀ X : Cx, (backTo pos (starEach es X.env)).any (·.1) = false := by intro _; rfl) : DE g (.Call (.Name x p) (e :: es) [] pos) (dCall tn u) :=
  let ⟨_, a1, a2⟩ := ha.ex
  ⟨_, fun X h => pe_callTy (hc X h) (by show X.env.scope.names.lookup x = _; rw [h.sc]; exact hg) (by rw [h.mg]; exact hm) hv (a1 X h) hn hdb (he X) (hpl X), le_calln hr a2⟩
def dTup (ta : TAD) : TED := dCall (fun xs Q => xs.length ≤ sizeLine ∧ Q (.tuple xs)) ta
def dLst (ta : TAD) : TED := dCall (fun xs Q => xs.length ≤ sizeLine ∧ Q (.list xs)) ta
theorem lo_tup {K : PySem.W.Frag} : LOn K (fun xs H Q => xs.length ≤ sizeLine ∧ ∀ p, H p = none → Q (.ref p) (upd H p (.tup xs))) (fun xs Q => xs.length ≤ sizeLine ∧ Q (.tuple xs)) := by
  intro S H xs dxs Q R hS h ⟨h1, q⟩ k
  refine ⟨by rw [h.length]; exact h1, fun p hp => k _ _ _ (same_new hp) (.tup (SqT.of (free_hid hS hp)) (DRs.mono (same_hid (same_new hp)) _ _ h)) q⟩
theorem lo_lst {K : PySem.W.Frag} : LOn K (fun xs H Q => xs.length ≤ sizeLine ∧ ∀ p, H p = none → Q (.ref p) (upd H p (.lst xs))) (fun xs Q => xs.length ≤ sizeLine ∧ Q (.list xs)) := by
  intro S H xs dxs Q R hS h ⟨h1, q⟩ k
  refine ⟨by rw [h.length]; exact h1, fun p hp => k _ _ _ (same_new hp) (.lst (free_hid hS hp) (DRs.mono (same_hid (same_new hp)) _ _ h)) q⟩
theorem de_tup {u : TAD} {x1} (ha : DA g es u) : DE g (.Tuple es x1 pos) (dTup u) := let ⟨_, a1, a2⟩ := ha.ex; ⟨_, fun X h => pe_tup (a1 X h), le_calln lo_tup a2⟩
theorem de_lst {u : TAD} (ha : DA g es u) : DE g (.List es pos) (dLst u) := let ⟨_, a1, a2⟩ := ha.ex; ⟨_, fun X h => pe_lst (a1 X h), le_calln lo_lst a2⟩
/-! ### tests -/
def dVal (t : TED) : TTD := fun s Q => t s fun x s1 => isD x fun d => (match d with
  | .bool b => Q b s1
  | _ => False)
theorem lt_val {K : PySem.W.Frag} {te : TE} (h : LE K te t) : LT K (tB te) (dVal t) := by
  intro F σ H s vs ds Q R r0 q k
  refine h F σ H s vs ds _ _ r0 q fun x H1 dx s1 r1 q1 => ?_
  obtain ⟨d, rfl, q2⟩ := isD_ok q1
  cases d with
  | bool b =>
    have h1 := (show ∃ M, RelM K F M σ H1 s1 (x :: vs) (.d (.bool b) :: ds) from r1)
    obtain ⟨M, r1'⟩ := h1
    have h2 : DR K _ x (.bool b) := r1'.top
    cases h2
    exact ⟨b, rfl, k b H1 s1 r1.pop q2⟩
  | _ => exact q2.elim
theorem dt_val (h : DE g e t) (he : ∀ (X : Cx) (whole : Sem Value), isTrue e X.env whole = (do let v ← whole; standAt e.pos; holding [v] (truthy v)) := by intro _ _; rfl) : DT g e (dVal t) :=
  let ⟨_, a1, a2⟩ := h.ex; ⟨_, fun X hX => pt_val (a1 X hX) (he X), lt_val a2⟩
theorem lt_cmp {K : PySem.W.Frag} {te : TE} (h : LE K te t) : LT K (tTest te) (dVal t) := lt_val h
theorem dt_cmp {op : CmpOp} {r : R2} {t2 : PyData → PyData → (PyData → Prop) → Prop} (ho : ∀ X, g.has X → OpR X (compareOp op) r) (hr : LO2 g.K r t2) (ha : DE g a ta) (hb : DE g b tb) (hm : behindInMarks op b = false := by first | exact nomark _ | rfl) :
    DT g (.Compare a [op] [b] pos) (dVal (dBin t2 ta tb)) :=
  let ⟨_, a1, a2⟩ := ha.ex; let ⟨_, b1, b2⟩ := hb.ex; ⟨_, fun X h => pt_cmpR (ho X h) (a1 X h) (b1 X h) hm, lt_val (le_bin hr a2 b2)⟩
def dAnd (t u : TTD) : TTD := fun s Q => t s fun c s1 => if c = true then u s1 Q else Q false s1
def dOr (t u : TTD) : TTD := fun s Q => t s fun c s1 => if c = true then Q true s1 else u s1 Q
def dNot (t : TTD) : TTD := fun s Q => t s fun c s1 => Q (!c) s1
theorem lt_and {K : PySem.W.Frag} {te ue : TT} {t u : TTD} (h : LT K te t) (h' : LT K ue u) : LT K (tAnd te ue) (dAnd t u) := by
  intro F σ H s vs ds Q R r0 q k
  refine h F σ H s vs ds _ _ r0 q fun c H1 s1 r1 q1 => ?_
  cases c with
  | true => exact h' F σ H1 s1 vs ds _ _ r1 q1 k
  | false => exact k false H1 s1 r1 q1
theorem lt_or {K : PySem.W.Frag} {te ue : TT} {t u : TTD} (h : LT K te t) (h' : LT K ue u) : LT K (tOr te ue) (dOr t u) := by
  intro F σ H s vs ds Q R r0 q k
  refine h F σ H s vs ds _ _ r0 q fun c H1 s1 r1 q1 => ?_
  cases c with
  | false => exact h' F σ H1 s1 vs ds _ _ r1 q1 k
  | true => exact k true H1 s1 r1 q1
theorem lt_not {K : PySem.W.Frag} {te : TT} {t : TTD} (h : LT K te t) : LT K (tNot te) (dNot t) := by
  intro F σ H s vs ds Q R r0 q k
  exact h F σ H s vs ds _ _ r0 q fun c H1 s1 r1 q1 => k _ H1 s1 r1 q1
section
variable {t u : TTD} {rest : List Expr}
theorem dw_and1 (ha : DT g a t) : DW g (.BoolOp .And [a] pos) t := let ⟨_, a1, a2⟩ := ha.ex; ⟨_, fun X h => pw_and1 (a1 X h), a2⟩
theorem dw_or1 (ha : DT g a t) : DW g (.BoolOp .Or [a] pos) t := let ⟨_, a1, a2⟩ := ha.ex; ⟨_, fun X h => pw_or1 (a1 X h), a2⟩
theorem dw_and (ha : DT g a t) (hb : DW g (.BoolOp .And (b :: rest) pos) u) : DW g (.BoolOp .And (a :: b :: rest) pos) (dAnd t u) :=
  let ⟨_, a1, a2⟩ := ha.ex; let ⟨_, b1, b2⟩ := hb.ex; ⟨_, fun X h => pw_and (a1 X h) (b1 X h), lt_and a2 b2⟩
theorem dw_or (ha : DT g a t) (hb : DW g (.BoolOp .Or (b :: rest) pos) u) : DW g (.BoolOp .Or (a :: b :: rest) pos) (dOr t u) :=
  let ⟨_, a1, a2⟩ := ha.ex; let ⟨_, b1, b2⟩ := hb.ex; ⟨_, fun X h => pw_or (a1 X h) (b1 X h), lt_or a2 b2⟩
theorem dt_not (ha : DT g a t) : DT g (.UnaryOp .Not a pos) (dNot t) := let ⟨_, a1, a2⟩ := ha.ex; ⟨_, fun X h => pt_not (a1 X h), lt_not a2⟩
end
/-! ### values of and, or, not, if else -/
def dIfE (c : TTD) (ta tb : TED) : TED := fun s Q => c s fun k s1 => if k = true then ta s1 Q else tb s1 Q
theorem de_ifExp {tt : TTD} (hc : DT g c tt) (ha : DE g a ta) (hb : DE g b tb) : DE g (.IfExp c a b pos) (dIfE tt ta tb) := by
  obtain ⟨_, c1, c2⟩ := hc.ex
  obtain ⟨_, a1, a2⟩ := ha.ex
  obtain ⟨_, b1, b2⟩ := hb.ex
  refine ⟨_, fun X h => pe_ifExp (c1 X h) (a1 X h) (b1 X h), ?_⟩
  intro F σ H s vs ds Q R r0 q k
  refine c2 F σ H s vs ds _ _ r0 q fun c H1 s1 r1 q1 => ?_
  cases c with
  | true => exact a2 F σ H1 s1 vs ds _ _ r1 q1 k
  | false => exact b2 F σ H1 s1 vs ds _ _ r1 q1 k
def bOf (v : DV) (k : Bool → Prop) : Prop := isD v fun d => (match d with
  | .bool b => k b
  | _ => False)
def dAndE (ta tb : TED) : TED := fun s Q => ta s fun x s1 => bOf x fun c => if c = true then tb s1 Q else Q (.d (.bool false)) s1
def dOrE (ta tb : TED) : TED := fun s Q => ta s fun x s1 => bOf x fun c => if c = true then Q (.d (.bool true)) s1 else tb s1 Q
def dNotE (ta : TED) : TED := fun s Q => ta s fun x s1 => bOf x fun c => Q (.d (.bool !c)) s1
theorem bOf_ok {K : PySem.W.Frag} {F : Fr} {σ : St} {H : Hp} {s : DS} {vs : List V} {ds : List DV} {x : V} {v : DV} {k : Bool → Prop} (r : Rel K F σ H s (x :: vs) (v :: ds)) (h : bOf v k) : ∃ b, x = .bl b ∧ v = .d (.bool b) ∧ k b := by
  obtain ⟨d, rfl, h1⟩ := isD_ok h
  cases d with
  | bool b =>
    obtain ⟨M, r⟩ := r
    have h2 : DR K _ x (.bool b) := r.top
    cases h2
    exact ⟨b, rfl, rfl, h1⟩
  | _ => exact h1.elim
theorem de_one {op} (h : DE g a ta) : DE g (.BoolOp op [a] pos) ta := let ⟨_, a1, a2⟩ := h.ex; ⟨_, fun X h => pe_one (a1 X h), a2⟩
theorem Rel.lit {K : PySem.W.Frag} {F : Fr} {σ : St} {H : Hp} {s : DS} {vs : List V} {ds : List DV} {x : V} {d : PyData} (r : Rel K F σ H s vs ds) (h : ∀ H, DR K H x d) : Rel K F σ H s (x :: vs) (.d d :: ds) := let ⟨M, r⟩ := r; ⟨M, r.push (d := .d d) (h _)⟩
theorem de_and {rest : List Expr} (ha : DE g a ta) (hb : DE g (.BoolOp .And (b :: rest) pos) tb) : DE g (.BoolOp .And (a :: b :: rest) pos) (dAndE ta tb) := by
  obtain ⟨_, a1, a2⟩ := ha.ex
  obtain ⟨_, b1, b2⟩ := hb.ex
  refine ⟨_, fun X h => pe_and (a1 X h) (b1 X h), ?_⟩
  intro F σ H s vs ds Q R r0 q k
  refine a2 F σ H s vs ds _ _ r0 q fun x H1 dx s1 r1 q1 => ?_
  obtain ⟨c, rfl, rfl, q2⟩ := bOf_ok r1 q1
  refine ⟨c, rfl, ?_⟩
  cases c with
  | true => exact b2 F σ H1 s1 vs ds _ _ r1.pop q2 k
  | false => exact k _ H1 _ s1 r1 q2
theorem de_or {rest : List Expr} (ha : DE g a ta) (hb : DE g (.BoolOp .Or (b :: rest) pos) tb) : DE g (.BoolOp .Or (a :: b :: rest) pos) (dOrE ta tb) := by
  obtain ⟨_, a1, a2⟩ := ha.ex
  obtain ⟨_, b1, b2⟩ := hb.ex
  refine ⟨_, fun X h => pe_or (a1 X h) (b1 X h), ?_⟩
  intro F σ H s vs ds Q R r0 q k
  refine a2 F σ H s vs ds _ _ r0 q fun x H1 dx s1 r1 q1 => ?_
  obtain ⟨c, rfl, rfl, q2⟩ := bOf_ok r1 q1
  refine ⟨c, rfl, ?_⟩
  cases c with
  | false => exact b2 F σ H1 s1 vs ds _ _ r1.pop q2 k
  | true => exact k _ H1 _ s1 r1 q2
theorem de_not (ha : DE g a ta) : DE g (.UnaryOp .Not a pos) (dNotE ta) := by
  obtain ⟨_, a1, a2⟩ := ha.ex
  refine ⟨_, fun X h => pe_not (a1 X h), ?_⟩
  intro F σ H s vs ds Q R r0 q k
  refine a2 F σ H s vs ds _ _ r0 q fun x H1 dx s1 r1 q1 => ?_
  obtain ⟨c, rfl, rfl, q2⟩ := bOf_ok r1 q1
  exact ⟨c, rfl, k _ H1 _ s1 (r1.pop.lit fun _ => .bl _) q2⟩
/-! ### chains -/
def dChain (t2 t2' : PyData → PyData → (PyData → Prop) → Prop) (ta tb tc : TED) : TED := fun s Q => ta s fun x s1 => tb s1 fun y s2 => isD x fun dx => isD y fun dy => t2 dx dy fun z => (match z with
  | .bool k => if k = true then tc s2 fun w s3 => isD w fun dw => t2' dy dw fun d => Q (.d d) s3 else Q (.d (.bool false)) s2
  | _ => False)
theorem le_chain {K : PySem.W.Frag} {r r' : R2} {t2 t2' : PyData → PyData → (PyData → Prop) → Prop} {ea eb ec : TE} (hr : LO2 K r t2) (hr' : LO2 K r' t2') (ha : LE K ea ta) (hb : LE K eb tb) (hc : LE K ec tc) : LE K (tChain r r' ea eb ec) (dChain t2 t2' ta tb tc) := by
  intro F σ H s vs ds Q R r0 q k
  refine ha F σ H s vs ds _ _ r0 q fun x H1 dx s1 r1 q1 => ?_
  refine hb F σ H1 s1 _ _ _ _ r1 q1 fun y H2 dy s2 r2 q2 => ?_
  obtain ⟨xx, rfl, q3⟩ := isD_ok q2
  obtain ⟨yy, rfl, q4⟩ := isD_ok q3
  obtain ⟨M, r2⟩ := r2
  cases r2.tmp with
  | cons hy t =>
    cases t with
    | cons hx t =>
      refine hr (SM F M) H2 x y xx yy _ _ r2.hS hx hy q4 fun v H3 d e1 e2 q5 => ?_
      cases d with
      | bool b =>
        cases e2
        refine ⟨b, rfl, ?_⟩
        cases b with
        | false => exact k _ H3 _ s2 ⟨M, ((r2.tmps t).grow e1).push (d := .d (.bool false)) (.bl _)⟩ q5
        | true =>
          have r3 : Rel K F σ H3 s2 (y :: vs) (.d yy :: ds) := ⟨M, (r2.tmps (.cons hy t)).grow e1⟩
          refine hc F σ H3 s2 _ _ _ _ r3 q5 fun w H4 dw s4 r4 q6 => ?_
          obtain ⟨ww, rfl, q7⟩ := isD_ok q6
          obtain ⟨M4, r4⟩ := r4
          cases r4.tmp with
          | cons hw t =>
            cases t with
            | cons hy t =>
              refine hr' (SM F M4) H4 y w yy ww _ _ r4.hS hy hw q7 fun v H5 d e1 e2 q5 => ?_
              exact k v H5 _ s4 ⟨M4, ((r4.tmps t).grow e1).push (d := .d d) e2⟩ q5
      | _ => exact q5.elim
theorem de_chain {op op' : CmpOp} {r r' : R2} {t2 t2' : PyData → PyData → (PyData → Prop) → Prop} (ho : ∀ X, g.has X → OpR X (compareOp op) r) (hr : LO2 g.K r t2) (ho' : ∀ X, g.has X → OpR X (compareOp op') r') (hr' : LO2 g.K r' t2') (ha : DE g a ta) (hb : DE g b tb) (hc : DE g c tc) (hm : lastMarks [op, op'] [b, c] = false := by rfl) :
    DE g (.Compare a [op, op'] [b, c] pos) (dChain t2 t2' ta tb tc) :=
  let ⟨_, a1, a2⟩ := ha.ex; let ⟨_, b1, b2⟩ := hb.ex; let ⟨_, c1, c2⟩ := hc.ex
  ⟨_, fun X h => pe_chain (ho X h) (ho' X h) (a1 X h) (b1 X h) (c1 X h) (hm := hm), le_chain hr hr' a2 b2 c2⟩
theorem dt_chain {op op' : CmpOp} {r r' : R2} {t2 t2' : PyData → PyData → (PyData → Prop) → Prop} (ho : ∀ X, g.has X → OpR X (compareOp op) r) (hr : LO2 g.K r t2) (ho' : ∀ X, g.has X → OpR X (compareOp op') r') (hr' : LO2 g.K r' t2') (ha : DE g a ta) (hb : DE g b tb) (hc : DE g c tc) (hm : lastMarks [op, op'] [b, c] = false := by rfl) :
    DT g (.Compare a [op, op'] [b, c] pos) (dVal (dChain t2 t2' ta tb tc)) :=
  let ⟨_, a1, a2⟩ := ha.ex; let ⟨_, b1, b2⟩ := hb.ex; let ⟨_, c1, c2⟩ := hc.ex
  ⟨_, fun X h => pt_chain (ho X h) (ho' X h) (a1 X h) (b1 X h) (c1 X h) (hm := hm), lt_val (le_chain hr hr' a2 b2 c2)⟩
end
end PD
set_option Elab.async false
set_option linter.all false
set_option maxRecDepth 100000
set_option maxHeartbeats 1000000
namespace PD
open PySem L2
section
variable {K : PySem.W.Frag} {F : Fr} {M : Nat → Option Addr} {σ : St} {H H' : Hp} {s : DS} {vs ws : List V} {ds es : List DV} {i : Nat} {v : V} {d : DV}
abbrev drop1 (M : Nat → Option Addr) (i : Nat) : Nat → Option Addr := fun j => if j = i then none else M j
theorem drop1_sub {a : Addr} (z : SM F (drop1 M i) a) : SM F M a := by
  rcases z with z | ⟨j, z⟩
  · exact .inl z
  · by_cases q : j = i
    · simp [drop1, q] at z
    · simp [drop1, q] at z; exact .inr ⟨j, z⟩
theorem drop1_same : Same (hid (SM F M) H) (hid (SM F (drop1 M i)) H) := hid_sub (fun _ z => drop1_sub z) fun _ _ _ q => q
theorem RV.drop1 {j : Nat} {x : DV} (h : RV K F (SM F M) H M j v x) (hj : j ≠ i) : RV K F (SM F (drop1 M i)) H (drop1 M i) j v x := by
  have eh : Same (hid (SM F M) H) (hid (SM F (PD.drop1 M i)) H) := drop1_same
  cases x with
  | d x => exact DR.mono eh x _ h
  | sat => exact h
  | scr ns => obtain ⟨a, h1, h2⟩ := h; exact ⟨a, h1, eh.seq h2⟩
  | own xs => obtain ⟨a, ys, h3, h4, h5, h6⟩ := h; exact ⟨a, ys, h3, by simp [PD.drop1, hj, h4], h5, DRs.mono eh _ _ h6⟩
  | tab xs => obtain ⟨a, ys, h3, h4, h5, h6⟩ := h; exact ⟨a, ys, h3, by simp [PD.drop1, hj, h4], h5, DKs.mono eh h6⟩
/-- a value goes to a slot -/
theorem RelM.store (R : RelM K F M σ H s (v :: vs) (d :: ds)) (hi : i < s.ρ.length) : RelM K F (drop1 M i) (σ.set i (some v)) H { s with ρ := s.ρ.set i (some d) } vs ds := by
  have eh : Same (hid (SM F M) H) (hid (SM F (drop1 M i)) H) := drop1_same
  cases R.tmp with
  | cons h t =>
  have hl := R.len
  refine ⟨by simp [R.len], fun j x q => ?_, fun a b c h1 h2 => ?_, fun j a q => ?_, fun j a q => ?_, R.there, fun b q => ?_, R.ext, Paired.mapP t fun _ _ q => q.mono eh⟩
  · by_cases hj : j = i
    · subst hj
      rw [List.getElem?_set_self hi] at q
      cases q
      refine ⟨v, List.getElem?_set_self (by omega), ?_⟩
      have h' := h.mono eh
      cases d with
      | d x => exact h'
      | sat => exact h'
      | scr ns => exact h'
      | own xs => exact h.elim
      | tab xs => exact h.elim
    · rw [List.getElem?_set_ne (fun z => hj z.symm)] at q
      obtain ⟨v', h1, h2⟩ := R.vals j x q
      exact ⟨v', by rw [List.getElem?_set_ne (fun z => hj z.symm)]; exact h1, h2.drop1 hj⟩
  · by_cases q1 : a = i <;> by_cases q2 : b = i <;> simp [drop1, q1, q2] at h1 h2
    exact R.inj a b c h1 h2
  · by_cases q1 : j = i <;> simp [drop1, q1] at q
    exact R.out j a q
  · by_cases q1 : j = i <;> simp [drop1, q1] at q
    exact R.new j a q
  · obtain ⟨h1, h2⟩ := R.sat b q
    exact ⟨h1, h2.mono rfl eh (Nat.le_refl _)⟩
theorem Rel.store (R : Rel K F σ H s (v :: vs) (d :: ds)) (hi : i < s.ρ.length) : Rel K F (σ.set i (some v)) H { s with ρ := s.ρ.set i (some d) } vs ds := let ⟨_, R⟩ := R; ⟨_, R.store hi⟩
/-- slots may be forgotten -/
theorem RelM.weak {σ' : St} {ρ' : List (Option DV)} (R : RelM K F M σ H s vs ds) (hl : σ'.length = ρ'.length) (h : ∀ (i : Nat) (x : DV), ρ'[i]? = some (some x) → s.ρ[i]? = some (some x) ∧ ∀ v : V, σ[i]? = some (some v) → σ'[i]? = some (some v)) : RelM K F M σ' H { s with ρ := ρ' } vs ds :=
  ⟨hl, fun i x q => by
    obtain ⟨h1, h2⟩ := h i x q
    obtain ⟨v, h3, h4⟩ := R.vals i x h1
    exact ⟨v, h2 v h3, h4⟩, R.inj, R.out, R.new, R.there, R.sat, R.ext, R.tmp⟩
theorem Rel.ret (R : Rel K F σ H s (v :: vs) (d :: ds)) : Ret K F H v d s.n := by
  obtain ⟨M, R⟩ := R
  have eh : Same (hid (SM F M) H) (hid F.S0 H) := hid_sub (fun _ z => .inl z) fun _ _ _ q => q
  exact ⟨R.top.mono eh, R.there, fun b q => ⟨(R.sat b q).1, ((R.sat b q).2.mono rfl eh (Nat.le_refl _)).forget⟩, R.ext⟩
end
section
variable {g : Sg} {e a b c : Expr} {es : List Expr} {t ta tb tc : TED} {pos : Pos} {st : Stmt} {rest body orelse : List Stmt} {ts us : TSD}
/-! ### blocks -/
def dNext : TSD := fun D s => D.nx s
def dSeq (t u : TSD) : TSD := fun D s => t { D with nx := u D } s
theorem dss_nil : DSs g [] dNext := ⟨_, fun _ _ => pss_nil, fun F σ H s vs ds D E r q hn _ _ _ => hn σ H s r q⟩
theorem dss_cons (h1 : DSt g st ts) (h2 : DSs g rest us) : DSs g (st :: rest) (dSeq ts us) := by
  obtain ⟨_, a1, a2⟩ := h1.ex
  obtain ⟨_, b1, b2⟩ := h2.ex
  refine ⟨_, fun X h => pss_cons (a1 X h) (b1 X h), ?_⟩
  intro F σ H s vs ds D E r q hn hr hb hc
  exact a2 F σ H s vs ds _ _ r q (fun σ' H' s' r' q' => b2 F σ' H' s' vs ds D E r' q' hn hr hb hc) hr hb hc
theorem dss_one (h1 : DSt g st ts) : DSs g [st] ts := let ⟨_, a1, a2⟩ := h1.ex; ⟨_, fun X h => pss_one (a1 X h), a2⟩
def dNever : TSD := fun _ _ => False
theorem ds_never : DSt g st dNever := ⟨_, fun _ _ => ps_never, fun _ _ _ _ _ _ _ _ _ q _ _ _ _ => q.elim⟩
theorem ds_pass : DSt g (.Pass pos) dNext := ⟨_, fun _ _ => ps_pass, fun F σ H s vs ds D E r q hn _ _ _ => hn σ H s r q⟩
def dBreak : TSD := fun D s => D.bk s
def dCont : TSD := fun D s => D.ct s
theorem ds_break : DSt g (.Break pos) dBreak := ⟨_, fun _ _ => ps_break, fun F σ H s vs ds D E r q _ _ hb _ => hb σ H s r q⟩
theorem ds_cont : DSt g (.Continue pos) dCont := ⟨_, fun _ _ => ps_continue, fun F σ H s vs ds D E r q _ _ _ hc => hc σ H s r q⟩
def dRet (t : TED) : TSD := fun D s => t s fun x s1 => D.rt x s1.n
theorem ds_ret (he : DE g e t) : DSt g (.Return (some e) pos) (dRet t) := by
  obtain ⟨_, a1, a2⟩ := he.ex
  refine ⟨_, fun X h => ps_ret (a1 X h), ?_⟩
  intro F σ H s vs ds D E r q hn hr hb hc
  exact a2 F σ H s vs ds _ _ r q fun v H' d s' r' q' => hr v H' d s'.n r'.ret q'
def dDrop (t : TED) : TSD := fun D s => t s fun _ s1 => D.nx s1
theorem ds_expr (he : DE g e t) (hs : ∀ X : Cx, swapsWith e none pos.line X.env = pure false := by intro _; rfl) : DSt g (.Expr e pos) (dDrop t) := by
  obtain ⟨_, a1, a2⟩ := he.ex
  refine ⟨_, fun X h => ps_expr (a1 X h) (hs X), ?_⟩
  intro F σ H s vs ds D E r q hn hr hb hc
  exact a2 F σ H s vs ds _ _ r q fun v H' d s' r' q' => hn σ H' s' r'.pop q'
def dIf (c : TTD) (t u : TSD) : TSD := fun D s => c s fun k s1 => if k = true then t D s1 else u D s1
theorem ds_if {tt : TTD} (hc : DT g c tt) (ha : DSs g body ts) (hb : DSs g orelse us) : DSt g (.If c body orelse pos) (dIf tt ts us) := by
  obtain ⟨_, c1, c2⟩ := hc.ex
  obtain ⟨_, a1, a2⟩ := ha.ex
  obtain ⟨_, b1, b2⟩ := hb.ex
  refine ⟨_, fun X h => ps_if (c1 X h) (a1 X h) (b1 X h), ?_⟩
  intro F σ H s vs ds D E r q hn hr hb hc
  refine c2 F σ H s vs ds _ _ r q fun k H1 s1 r1 q1 => ?_
  cases k with
  | true => exact a2 F σ H1 s1 vs ds D E r1 q1 hn hr hb hc
  | false => exact b2 F σ H1 s1 vs ds D E r1 q1 hn hr hb hc
/-! ### assignments -/
def putS (s : DS) (i : Nat) (x : DV) : DS := { s with ρ := s.ρ.set i (some x) }
def dSet (i : Nat) (t : TED) : TSD := fun D s => t s fun x s1 => i < s1.ρ.length ∧ D.nx (putS s1 i x)
theorem ls_set {K : PySem.W.Frag} {te : TE} {i : Nat} (h : LE K te t) : LS K (tAsg te (gName i)) (dSet i t) := by
  intro F σ H s vs ds D E r q hn hr hb hc
  exact h F σ H s vs ds _ _ r q fun v H' d s' r' ⟨q1, q2⟩ => hn _ H' _ (r'.store q1) q2
theorem ds_set {i : Nat} {x : Str} {pos' : Pos} (hN : g.N.Nodup) (hi : g.N[i]? = some x) (hx : Loc g.sc x) (he : DE g e t) (hf : g.isDef = true := by rfl) (hs : ∀ X : Cx, swapsWith e (some (.Name x pos')) pos.line X.env = pure false := by intro _; rfl) :
    DSt g (.Assign [.Name x pos'] e pos) (dSet i t) := by
  obtain ⟨_, a1, a2⟩ := he.ex
  exact ⟨_, fun X h => ps_set (by rw [h.N]; exact hN) (by rw [h.N]; exact hi) (by rw [h.sc]; exact hx) (a1 X h) (hs X) (.inl (by rw [h.fn hf])), ls_set a2⟩
/-! ### targets -/
abbrev TGD := DV → DS → (DS → Prop) → Prop
abbrev TGsD := List DV → DS → (DS → Prop) → Prop
def Wip (is : List Nat) (σ σ' : St) : Prop := ∀ own : List Nat, (∀ i ∈ is, i ∈ own) → wipe σ' own = wipe σ own
def LG (K : PySem.W.Frag) (is : List Nat) (tg : TG) (t : TGD) : Prop := ∀ (F : Fr) (σ : St) (H : Hp) (s : DS) (v : V) (d : DV) (vs : List V) (ds : List DV) (Q : DS → Prop) (R : St → Hp → Prop), Rel K F σ H s (v :: vs) (d :: ds) → t d s Q →
  (∀ σ' s', Rel K F σ' H s' vs ds → Q s' → Wip is σ σ' → R σ' H) → tg v σ H R
def LGs (K : PySem.W.Frag) (is : List Nat) (tg : TGs) (t : TGsD) : Prop := ∀ (F : Fr) (σ : St) (H : Hp) (s : DS) (ws : List V) (es : List DV) (vs : List V) (ds : List DV) (Q : DS → Prop) (R : St → Hp → Prop), Rel K F σ H s (ws ++ vs) (es ++ ds) → ws.length = es.length → t es s Q →
  (∀ σ' s', Rel K F σ' H s' vs ds → Q s' → Wip is σ σ' → R σ' H) → tg ws σ H R
structure DG (g : Sg) (e : Expr) (is : List Nat) (t : TGD) : Prop where
  ex : ∃ tg, (∀ X, g.has X → PG X e tg) ∧ LG g.K is tg t
structure DGs (g : Sg) (e : List Expr) (is : List Nat) (t : TGsD) : Prop where
  ex : ∃ tg, (∀ X, g.has X → PGs X e tg) ∧ LGs g.K is tg t
def gdName (i : Nat) : TGD := fun x s Q => i < s.ρ.length ∧ Q (putS s i x)
theorem wipe_set {i : Nat} {x : Option V} : ∀ {own : List Nat} {σ : St}, i ∈ own → wipe (σ.set i x) own = wipe σ own
  | j :: own, σ, h => by
    unfold wipe
    by_cases hj : i ∈ own
    · rw [wipe_set hj]
    · have e : i = j := by simpa [hj] using h
      subst e
      have : ∀ (own : List Nat) (σ : St), (wipe (σ.set i x) own).set i none = (wipe σ own).set i none := by
        intro own
        induction own with
        | nil => intro σ; simp [wipe]
        | cons k own ih =>
          intro σ
          unfold wipe
          by_cases hk : k = i
          · subst hk; simp [ih]
          · rw [List.set_comm _ _ hk, ih, List.set_comm _ _ (Ne.symm hk)]
      exact this own σ
theorem dg_name {i : Nat} {x : Str} (hN : g.N.Nodup) (hi : g.N[i]? = some x) (hx : Loc g.sc x) (hf : g.isDef = true ∨ g.sc.names.lookup x = some .local := by first | exact .inl rfl | exact .inr rfl) : DG g (.Name x pos) [i] (gdName i) := by
  refine ⟨_, fun X h => pg_name (by rw [h.N]; exact hN) (by rw [h.N]; exact hi) (by rw [h.sc]; exact hx) (hf.imp (fun z => by rw [h.fn z]) fun z => by rw [h.sc]; exact z), ?_⟩
  intro F σ H s v d vs ds Q R r q k
  exact k _ _ (r.store q.1) q.2 fun own ho => wipe_set (ho i (by simp))
def gdNil : TGsD := fun vs s Q => vs = [] ∧ Q s
def gdCons (t : TGD) (u : TGsD) : TGsD := fun vs s Q => match vs with
  | v :: r => t v s fun s' => u r s' Q
  | [] => False
theorem dgs_nil : DGs g [] [] gdNil := by
  refine ⟨_, fun X h => pgs_nil, ?_⟩
  intro F σ H s ws es vs ds Q R r hl ⟨e, q⟩ k
  subst e
  cases ws with
  | nil => exact ⟨rfl, k _ _ r q fun _ _ => rfl⟩
  | cons => cases hl
theorem dgs_cons {is js : List Nat} {tg : TGD} {ug : TGsD} (h1 : DG g e is tg) (h2 : DGs g es js ug) (hs : ∀ X : Cx, List.map (fun x => x.snd) (assignEach (e :: es) X.env) = assign e X.env :: List.map (fun x => x.snd) (assignEach es X.env) := by intro _; rfl) : DGs g (e :: es) (is ++ js) (gdCons tg ug) := by
  obtain ⟨t1, a1, a2⟩ := h1.ex
  obtain ⟨t2, b1, b2⟩ := h2.ex
  refine ⟨_, fun X h => pgs_cons (a1 X h) (b1 X h) (hs X), ?_⟩
  intro F σ H s ws es vs ds Q R r hl q k
  cases es with
  | nil => exact q.elim
  | cons d es =>
    cases ws with
    | nil => cases hl
    | cons v ws =>
      refine ⟨v, ws, rfl, ?_⟩
      exact a2 F σ H s v d _ _ _ _ r q fun σ' s' r' q' w1 => b2 F σ' H s' ws es vs ds Q R r' (by simpa using hl) q' fun σ2 s2 r2 q2 w2 =>
        k σ2 s2 r2 q2 fun own ho => (w2 own fun i hi => ho i (by simp [hi])).trans (w1 own fun i hi => ho i (by simp [hi]))
theorem Rel.parts {K : PySem.W.Frag} {F : Fr} {σ : St} {H : Hp} {s : DS} {a : Addr} {xs : List V} {dx : List PyData} {vs : List V} {ds : List DV} (r : Rel K F σ H s (.ref a :: vs) (.d (.tuple dx) :: ds)) : ∃ xs, SqT K H a xs ∧ xs.length = dx.length ∧ Rel K F σ H s (xs ++ vs) (dx.map DV.d ++ ds) := by
  obtain ⟨M, r⟩ := r
  cases r.tmp with
  | cons h t =>
    cases h with
    | tup h1 h2 =>
      refine ⟨_, Same.sqt hid_same h1, h2.length, M, r.tmps (paired_app ?_ t)⟩
      have : ∀ {xs : List V} {dx : List PyData}, DRs K (hid (SM F M) H) xs dx → Paired (RT K F (SM F M) H) xs (dx.map DV.d) := by
        intro xs dx h
        induction dx generalizing xs with
        | nil => cases h; exact .nil
        | cons d dx ih => cases h with | cons a b => exact .cons a (ih b)
      exact this h2
def gdTup (n : Nat) (t : TGsD) : TGD := fun v s Q => isD v fun d => (match d with
  | .tuple xs => xs.length = n ∧ t (xs.map DV.d) s Q
  | _ => False)
theorem dg_tup {is : List Nat} {k : Nat} {ug : TGsD} {n : Nat} (h : DGs g es is ug) (hn : ∀ X : Cx, (assignEach es X.env).length = n := by intro _; rfl) (hst : ∀ X : Cx, (assignEach es X.env).findIdx? (·.1) = none := by intro _; rfl) : DG g (.Tuple es k pos) is (gdTup n ug) := by
  obtain ⟨t1, a1, a2⟩ := h.ex
  refine ⟨gTup g.K n t1, fun X h => by have z := pg_tup (k := k) (pos := pos) h.calm (a1 X h) (hn X) (hst X); rw [h.K] at z; exact z, ?_⟩
  intro F σ H s v d vs ds Q R r q k
  obtain ⟨x, rfl, q1⟩ := isD_ok q
  cases x with
  | tuple xs =>
    obtain ⟨hl, q2⟩ := q1
    have : ∃ a, v = .ref a := by
      obtain ⟨M, r⟩ := r
      have z : DR _ _ v (.tuple xs) := r.top
      cases z; exact ⟨_, rfl⟩
    obtain ⟨a, rfl⟩ := this
    obtain ⟨ys, h1, h2, r'⟩ := r.parts (xs := [])
    exact ⟨a, ys, rfl, h1, h2.trans hl, a2 F σ H s ys (xs.map DV.d) vs ds Q R r' (by simp [h2]) q2 k⟩
  | _ => exact q1.elim
def dAsg (t : TED) (tg : TGD) : TSD := fun D s => t s fun x s1 => tg x s1 D.nx
theorem ds_asg {is : List Nat} {tgt : Expr} {tg : TGD} (he : DE g e t) (hg : DG g tgt is tg) (hs : ∀ X : Cx, swapsWithSole [tgt] e pos.line X.env = pure false := by intro _; rfl) (hw : ∀ X : Cx, swappedStores [tgt] e X.env = pure none := by intro _; rfl) (h1 : ∀ X : Cx, List.map (fun x => x.snd) (assignEach [tgt] X.env) = [assign tgt X.env] := by intro _; rfl) :
    DSt g (.Assign [tgt] e pos) (dAsg t tg) := by
  obtain ⟨_, a1, a2⟩ := he.ex
  obtain ⟨_, b1, b2⟩ := hg.ex
  refine ⟨_, fun X h => ps_asg (a1 X h) (b1 X h) (hs X) (hw X) (h1 X), ?_⟩
  intro F σ H s vs ds D E r q hn hr hb hc
  exact a2 F σ H s vs ds _ _ r q fun v H' d s' r' q' => b2 F σ H' s' v d vs ds _ _ r' q' fun σ' s2 r2 q2 _ => hn σ' H' s2 r2 q2
/-! ### what is walked -/
structure Walk (K : PySem.W.Frag) (J : It) (v : V) (d : DV) (items : List PyData) : Prop where
  go : ∀ (F : Fr) (σ : St) (H : Hp) (s : DS) (vs : List V) (ds : List DV) (i : Nat) (x : PyData), Rel K F σ H s (v :: vs) (d :: ds) → items[i]? = some x → J.go i H ∧ ∀ y H', J.yld i H y H' → Same H H' ∧ Rel K F σ H' s (y :: v :: vs) (.d x :: d :: ds)
  stop : ∀ (F : Fr) (σ : St) (H : Hp) (s : DS) (vs : List V) (ds : List DV) (i : Nat), Rel K F σ H s (v :: vs) (d :: ds) → items.length ≤ i → J.stop i H
abbrev TID := DS → (List PyData → DS → Prop) → Prop
def LI (K : PySem.W.Frag) (wi : TI) (t : TID) : Prop := ∀ (F : Fr) (σ : St) (H : Hp) (s : DS) (vs : List V) (ds : List DV) (Q : List PyData → DS → Prop) (R : It → Hp → Prop), Rel K F σ H s vs ds → t s Q →
  (∀ J H' v d items s', Rel K F σ H' s' (v :: vs) (d :: ds) → Walk K J v d items → Q items s' → R J H') → wi σ H R
structure DI (g : Sg) (tg iter : Expr) (t : TID) : Prop where
  ex : ∃ wi, (∀ X, g.has X → PI X tg iter wi) ∧ LI g.K wi t
/-- a list, a tuple, a text -/
def iSeq (K : PySem.W.Frag) (tl : TE) : TI := fun σ H R => tl σ H fun x H1 => (∃ a, x = .ref a ∧ (∃ xs, SqL K H1 a xs) ∧ R (Itl K a) H1) ∨ (∃ a, x = .ref a ∧ (∃ xs, SqT K H1 a xs) ∧ R (Itt K a) H1) ∨ ∃ z, x = .str z ∧ R (Its z) H1
theorem pi_seq {X : Cx} {tg l : Expr} {tl : TE} (hl : PE X l tl) : PI X tg l (iSeq X.K tl) := by
  refine ⟨fun pins s σ H R I h => ?_⟩
  refine thn (hl.run pins s σ H _ I h) fun v s1 ⟨x, H1, I1, r1, q1⟩ => ?_
  rcases q1 with ⟨a, e, ⟨xs, hq⟩, q⟩ | ⟨a, e, ⟨xs, hq⟩, q⟩ | ⟨z, e, q⟩
  · subst e
    cases r1
    obtain ⟨its, rv, p, hz⟩ := I1.list hq
    refine PySem.wpAny_pyIter_list p.isList ?_
    refine ⟨s1.heap.objs.size, [s1.heap.objs.size], _, _, H1, rfl, I1.kept (t' := s1.toks) fun b o e => Heap.get?_push_of_some _ e, turn_list a _, ⟨_, Heap.get?_push_size _ rfl, rfl, rfl⟩, fun b hb => ?_, q⟩
    have e : b = s1.heap.objs.size := by simpa using hb
    subst e
    exact I1.fpOk (Nat.le_refl _) (I1.hok.fresh (Nat.le_refl _))
  · subst e
    cases r1
    obtain ⟨its, rv, p, hz⟩ := I1.tuple hq
    refine PySem.wpAny_pyIter_tuple (show s1.heap.IsTuple a its.toArray from p) ?_
    refine ⟨s1.heap.objs.size, [s1.heap.objs.size], _, _, H1, rfl, I1.kept (t' := s1.toks) fun b o e => Heap.get?_push_of_some _ e, turn_tuple a _, ⟨_, Heap.get?_push_size _ rfl, rfl, rfl⟩, fun b hb => ?_, q⟩
    have e : b = s1.heap.objs.size := by simpa using hb
    subst e
    exact I1.fpOk (Nat.le_refl _) (I1.hok.fresh (Nat.le_refl _))
  · subst e
    obtain ⟨t, rfl⟩ := r1
    cases ha : z.cps.all (· < 128)
    · exact PySem.wpAny_pyIter_wide ha (pi_one (tk := s1.toks) I1 _ (turn_str _ z t "str_iterator" (.inr rfl)) ⟨_, Heap.get?_push_size _ rfl, rfl, rfl⟩ q)
    · exact PySem.wpAny_pyIter_ascii ha (pi_one (tk := s1.toks) I1 _ (turn_str _ z t "str_ascii_iterator" (.inl rfl)) ⟨_, Heap.get?_push_size _ rfl, rfl, rfl⟩ q)
def signs (z : Str) : List PyData := z.cps.toList.map fun c => .str ⟨#[c]⟩
def itemsD (d : PyData) (k : List PyData → Prop) : Prop := match d with
  | .list xs => k xs
  | .tuple xs => k xs
  | .str z => k (signs z)
  | _ => False
def dSeqI (t : TED) : TID := fun s Q => t s fun x s1 => isD x fun d => itemsD d fun xs => Q xs s1
theorem walk_list {K : PySem.W.Frag} {a : Addr} {xs : List PyData} : Walk K (Itl K a) (.ref a) (.d (.list xs)) xs where
  go F σ H s vs ds i x r hx := by
    obtain ⟨M, r⟩ := r
    have h : DR K (hid (SM F M) H) (.ref a) (.list xs) := r.top
    cases h with
    | lst h1 h2 =>
      obtain ⟨y, hy, hr⟩ := h2.get hx
      have h3 := SqL.of (K := K) (hid_some h1).2
      refine ⟨⟨_, y, h3, hy⟩, fun z H' ⟨e, k⟩ => ?_⟩
      subst e
      have e2 := k _ h3
      rw [hy] at e2
      cases e2
      exact ⟨Same.refl _, M, r.push (d := .d x) hr⟩
  stop F σ H s vs ds i r hi := by
    obtain ⟨M, r⟩ := r
    have h : DR K (hid (SM F M) H) (.ref a) (.list xs) := r.top
    cases h with
    | lst h1 h2 => exact ⟨_, SqL.of (hid_some h1).2, by rw [h2.length]; exact hi⟩
theorem walk_tup {K : PySem.W.Frag} {a : Addr} {xs : List PyData} : Walk K (Itt K a) (.ref a) (.d (.tuple xs)) xs where
  go F σ H s vs ds i x r hx := by
    obtain ⟨M, r⟩ := r
    have h : DR K (hid (SM F M) H) (.ref a) (.tuple xs) := r.top
    cases h with
    | tup h1 h2 =>
      obtain ⟨y, hy, hr⟩ := h2.get hx
      have h3 := Same.sqt hid_same h1
      refine ⟨⟨_, y, h3, hy⟩, fun z H' ⟨e, k⟩ => ?_⟩
      subst e
      have e2 := k _ h3
      rw [hy] at e2
      cases e2
      exact ⟨Same.refl _, M, r.push (d := .d x) hr⟩
  stop F σ H s vs ds i r hi := by
    obtain ⟨M, r⟩ := r
    have h : DR K (hid (SM F M) H) (.ref a) (.tuple xs) := r.top
    cases h with
    | tup h1 h2 => exact ⟨_, Same.sqt hid_same h1, by rw [h2.length]; exact hi⟩
theorem walk_str {K : PySem.W.Frag} {z : Str} {v : V} {d : DV} : Walk K (Its z) v d (signs z) where
  go F σ H s vs ds i x r hx := by
    unfold signs at hx
    rw [List.getElem?_map] at hx
    cases e : z.cps.toList[i]? with
    | none => rw [e] at hx; cases hx
    | some c =>
      rw [e] at hx
      cases hx
      rw [Array.getElem?_toList] at e
      refine ⟨?_, fun y H' ⟨e1, c', e2, e3⟩ => ?_⟩
      · show i < z.cps.size
        exact (Array.getElem?_eq_some_iff.mp e).1
      · subst e1 e3
        rw [e] at e2
        cases e2
        exact ⟨Same.refl _, r.lit fun _ => .str _⟩
  stop F σ H s vs ds i r hi := by
    show z.cps.size ≤ i
    simpa [signs] using hi
theorem di_seq {tg : Expr} (h : DE g e t) : DI g tg e (dSeqI t) := by
  obtain ⟨_, a1, a2⟩ := h.ex
  refine ⟨iSeq g.K _, fun X hX => by have z := pi_seq (tg := tg) (a1 X hX); rw [hX.K] at z; exact z, ?_⟩
  intro F σ H s vs ds Q R r q k
  refine a2 F σ H s vs ds _ _ r q fun v H' d s' r' q' => ?_
  obtain ⟨x, rfl, q1⟩ := isD_ok q'
  have top : ∃ M, DR g.K (hid (SM F M) H') v x := let ⟨M, r⟩ := r'; ⟨M, r.top⟩
  obtain ⟨M, top⟩ := top
  cases x with
  | list xs =>
    cases top with
    | lst h1 h2 => exact .inl ⟨_, rfl, ⟨_, SqL.of (hid_some h1).2⟩, k _ _ _ _ _ _ r' walk_list q1⟩
  | tuple xs =>
    cases top with
    | tup h1 h2 => exact .inr (.inl ⟨_, rfl, ⟨_, Same.sqt hid_same h1⟩, k _ _ _ _ _ _ r' walk_tup q1⟩)
  | str z =>
    cases top
    exact .inr (.inr ⟨_, rfl, k _ _ _ _ _ _ r' walk_str q1⟩)
  | _ => exact q1.elim
/-- range(n), range(lo, hi) -/
def rangeD (lo : Int) (n : Nat) : List PyData := (List.range n).map fun i => .int (lo + (i : Nat))
theorem walk_rng {K : PySem.W.Frag} {lo : Int} {n : Nat} {v : V} {d : DV} : Walk K (Itr lo n) v d (rangeD lo n) where
  go F σ H s vs ds i x r hx := by
    unfold rangeD at hx
    rw [List.getElem?_map] at hx
    cases e : (List.range n)[i]? with
    | none => rw [e] at hx; cases hx
    | some c =>
      rw [e] at hx
      cases hx
      have h1 := List.getElem?_eq_some_iff.mp e
      obtain ⟨h1, h2⟩ := h1
      simp at h1 h2
      subst h2
      refine ⟨h1, fun y H' ⟨e1, e2⟩ => ?_⟩
      subst e1 e2
      exact ⟨Same.refl _, r.lit fun _ => .int _⟩
  stop F σ H s vs ds i r hi := by
    show n ≤ i
    simpa [rangeD] using hi
def intD (v : DV) (k : Int → Prop) : Prop := isD v fun d => (match d with
  | .int i => k i
  | _ => False)
theorem intD_ok {K : PySem.W.Frag} {F : Fr} {S : Addr → Prop} {H : Hp} {x : V} {v : DV} {k : Int → Prop} (r : RT K F S H x v) (h : intD v k) : ∃ i, x = .int i ∧ v = .d (.int i) ∧ k i := by
  obtain ⟨d, rfl, h1⟩ := isD_ok h
  cases d with
  | int b =>
    have h2 : DR K _ x (.int b) := r
    cases h2
    exact ⟨b, rfl, rfl, h1⟩
  | _ => exact h1.elim
def dRng1 (t : TED) : TID := fun s Q => t s fun x s1 => intD x fun j => -(2 ^ 62) ≤ j ∧ j < 2 ^ 62 ∧ Q (rangeD 0 j.toNat) s1
theorem di_range1 {tg : Expr} {p : Pos} (h : DE g e t) (hm : g.mg "range" = none) (hg : g.sc.names.lookup ("range" : Str) = some .globalImplicit := by rfl) (hs : ∀ X : Cx, starEach [e] X.env = [(false, eval e X.env)] := by intro _; rfl) : DI g tg (.Call (.Name "range" p) [e] [] pos) (dRng1 t) := by
  obtain ⟨te, a1, a2⟩ := h.ex
  refine ⟨_, fun X hX => pi_range1 (by show X.env.scope.names.lookup _ = _; rw [hX.sc]; exact hg) (by rw [hX.mg]; exact hm) (pa_cons (a1 X hX) pa_nil (hs X)) (hs X), ?_⟩
  intro F σ H s vs ds Q R r q k
  refine a2 F σ H s vs ds _ _ r q fun v H' d s' r' q' => ?_
  have z : ∃ M, RT g.K F (SM F M) H' v d := let ⟨M, r⟩ := r'; ⟨M, r.top⟩
  obtain ⟨M, z⟩ := z
  obtain ⟨i, rfl, rfl, h1, h2, h3⟩ := intD_ok z q'
  exact ⟨i, rfl, h1, h2, k _ _ _ _ _ _ r' walk_rng h3⟩
/-! ### for -/
def dForGo (tg : TGD) (body : TSD) : List PyData → TSD
  | [], D, s => D.nx s
  | d :: ds, D, s => tg (.d d) s fun s1 => body { D with nx := dForGo tg body ds D, ct := dForGo tg body ds D, bk := D.nx } s1
def dFor (ti : TID) (tg : TGD) (body : TSD) : TSD := fun D s => ti s fun items s1 => dForGo tg body items D s1
theorem ds_for {is : List Nat} {iter tgt : Expr} {ti : TID} {tg : TGD} (hi : DI g tgt iter ti) (hg : DG g tgt is tg) (hb : DSs g body ts) (hs : ∀ (X : Cx) x, foldedSetIterable iter X.env x = pure x := by intro _ _; rfl) : DSt g (.For tgt iter body [] pos) (dFor ti tg ts) := by
  obtain ⟨wi, a1, a2⟩ := hi.ex
  obtain ⟨gg, b1, b2⟩ := hg.ex
  obtain ⟨tb, c1, c2⟩ := hb.ex
  refine ⟨_, fun X h => ps_for (by rw [h.xe]; exact PassesOwn.never) h.calm (a1 X h) (b1 X h) (c1 X h) (hs X), ?_⟩
  intro F σ H s vs ds D E r q hn hr hb hc
  refine a2 F σ H s vs ds _ _ r q fun J H1 v d items s1 r1 W q1 => ?_
  refine ⟨fun i m σ H => m = items.length - i ∧ i ≤ items.length ∧ ∃ s, Rel g.K F σ H s (v :: vs) (d :: ds) ∧ dForGo tg ts (items.drop i) D s, ⟨items.length, by simp, Nat.zero_le _, s1, r1, q1⟩, ?_⟩
  rintro i m σ H ⟨rfl, hi, s, r, q⟩
  by_cases hlt : i < items.length
  · have e1 : items.drop i = items[i] :: items.drop (i + 1) := List.drop_eq_getElem_cons hlt
    have e2 : items[i]? = some items[i] := List.getElem?_eq_getElem hlt
    obtain ⟨g1, g2⟩ := W.go F σ H s vs ds i _ r e2
    rw [e1] at q
    refine .inr ⟨g1, fun σ' H' => ∃ s, Rel g.K F σ' H' s (v :: vs) (d :: ds) ∧ dForGo tg ts (items.drop (i + 1)) D s, fun σ' H' ⟨s', r', q'⟩ => ⟨items.length - (i + 1), by omega, rfl, hlt, s', r', q'⟩, fun x H' y => ?_⟩
    obtain ⟨e, rx⟩ := g2 x H' y
    refine b2 F σ H' s x _ _ _ _ _ rx q fun σ2 s2 r2 q2 _ => ?_
    exact c2 F σ2 H' s2 _ _ _ _ r2 q2 (fun σ3 H3 s3 r3 q3 => ⟨s3, r3, q3⟩) hr (fun σ3 H3 s3 r3 q3 => hn σ3 H3 s3 r3.pop q3) (fun σ3 H3 s3 r3 q3 => ⟨s3, r3, q3⟩)
  · have e : i = items.length := by omega
    subst e
    rw [List.drop_length] at q
    exact .inl ⟨W.stop F σ H s vs ds _ r (Nat.le_refl _), hn σ H s r.pop q⟩
/-! ### while -/
def dWhGo (c : TTD) (body : TSD) : Nat → TSD
  | 0, _, _ => False
  | k + 1, D, s => c s fun b s1 => if b = true then body { D with nx := dWhGo c body k D, ct := dWhGo c body k D, bk := D.nx } s1 else D.nx s1
def dWhile (c : TTD) (body : TSD) : TSD := fun D s => ∃ k, dWhGo c body k D s
theorem ds_while {tt : TTD} (hc : DT g c tt) (hb : DSs g body ts) : DSt g (.While c body [] pos) (dWhile tt ts) := by
  obtain ⟨tc, a1, a2⟩ := hc.ex
  obtain ⟨tb, c1, c2⟩ := hb.ex
  refine ⟨_, fun X h => ps_while (by rw [h.xe]; exact PassesOwn.never) (a1 X h) (c1 X h), ?_⟩
  intro F σ H s vs ds D E r ⟨k, q⟩ hn hr hb hc
  refine ⟨fun m σ H => ∃ s, Rel g.K F σ H s vs ds ∧ dWhGo tt ts m D s, ⟨k, s, r, q⟩, ?_⟩
  rintro m σ H ⟨s, r, q⟩
  cases m with
  | zero => exact q.elim
  | succ m =>
    refine a2 F σ H s vs ds _ _ r q fun b H1 s1 r1 q1 => ?_
    cases b with
    | false => exact hn σ H1 s1 r1 q1
    | true =>
      exact ⟨fun σ' H' => ∃ s', Rel g.K F σ' H' s' vs ds ∧ dWhGo tt ts m D s', fun σ' H' h => ⟨m, by omega, h⟩, c2 F σ H1 s1 vs ds _ _ r1 q1 (fun σ3 H3 s3 r3 q3 => ⟨s3, r3, q3⟩) hr (fun σ3 H3 s3 r3 q3 => hn σ3 H3 s3 r3 q3) (fun σ3 H3 s3 r3 q3 => ⟨s3, r3, q3⟩)⟩
end
end PD
set_option Elab.async false
set_option linter.all false
set_option maxRecDepth 100000
set_option maxHeartbeats 1000000
namespace PD
open PySem L2
/-! ### comprehensions -/
def wipeR (ρ : List (Option DV)) : List Nat → List (Option DV)
  | [] => ρ
  | i :: is => (wipeR ρ is).set i none
def wipeS (s : DS) (own : List Nat) : DS := { s with ρ := wipeR s.ρ own }
theorem wipeR_length (ρ : List (Option DV)) : ∀ own, (wipeR ρ own).length = ρ.length
  | [] => rfl
  | i :: is => by unfold wipeR; rw [List.length_set, wipeR_length ρ is]
theorem wipeR_some {ρ : List (Option DV)} {i : Nat} {x : DV} : ∀ {own : List Nat}, (wipeR ρ own)[i]? = some (some x) → ρ[i]? = some (some x) ∧ i ∉ own
  | [], h => ⟨h, by simp⟩
  | v :: vs, h => by
    unfold wipeR at h
    by_cases hi : v = i
    · subst hi
      by_cases hv : v < (wipeR ρ vs).length
      · rw [List.getElem?_set_self hv] at h; cases h
      · rw [List.getElem?_eq_none (by simpa using hv)] at h; cases h
    · rw [List.getElem?_set_ne hi] at h
      obtain ⟨h1, h2⟩ := wipeR_some h
      exact ⟨h1, by simp only [List.mem_cons, not_or]; exact ⟨fun e => hi e.symm, h2⟩⟩
theorem wipe_in {σ : St} {i : Nat} : ∀ {own : List Nat}, i ∈ own → ∀ v, (wipe σ own)[i]? ≠ some (some v)
  | own, h, v, q => (wipe_some q).2 h
theorem wipe_wipe {σ : St} {own : List Nat} : wipe (wipe σ own) own = wipe σ own := by
  have : ∀ (o : List Nat) (σ : St), (∀ i ∈ o, ∀ h : i < σ.length, σ[i] = none) → wipe σ o = σ := by
    intro o
    induction o with
    | nil => intro σ _; rfl
    | cons i o ih =>
      intro σ h
      unfold wipe
      rw [ih σ fun j hj => h j (List.mem_cons_of_mem _ hj)]
      by_cases hl : i < σ.length
      · have e := h i (List.mem_cons_self ..) hl
        apply List.ext_getElem (by simp)
        intro n h1 h2
        rw [List.getElem_set]
        split
        · rename_i q; subst q; exact e.symm
        · rfl
      · exact List.set_eq_of_length_le (by omega)
  refine this own _ fun i hi hl => ?_
  cases e : (wipe σ own)[i] with
  | none => rfl
  | some v => exact absurd (show (wipe σ own)[i]? = some (some v) by rw [List.getElem?_eq_getElem hl, e]) (wipe_in hi v)
theorem Rel.wipe {K : PySem.W.Frag} {F : Fr} {σ : St} {H : Hp} {s : DS} {vs : List V} {ds : List DV} {own : List Nat} (r : Rel K F σ H s vs ds) : Rel K F (wipe σ own) H (wipeS s own) vs ds := by
  obtain ⟨M, r⟩ := r
  refine ⟨M, r.weak (by rw [wipe_length, wipeR_length]; exact r.len) fun i x q => ?_⟩
  obtain ⟨h1, h2⟩ := wipeR_some q
  exact ⟨h1, fun v hv => by rw [wipe_out h2]; exact hv⟩
/-- with a list being made at D, hidden -/
def frD (F : Fr) (D : Addr) (acc : List V) : Fr := ⟨F.mb, fun a => F.S0 a ∨ a = D, upd F.H0 D (.lst acc)⟩
theorem hid_upd {S : Addr → Prop} {H : Hp} {a : Addr} {o : HO} (h : S a) : hid S (upd H a o) = hid S H := by
  funext b
  by_cases q : S b
  · rw [hid_in q, hid_in q]
  · rw [hid_out q, hid_out q, upd_ne]; rintro rfl; exact q h
section
variable {K : PySem.W.Frag} {F : Fr} {M : Nat → Option Addr} {σ : St} {H : Hp} {s : DS} {vs accV : List V} {ds : List DV} {D : Addr}
theorem RelM.toD (r : RelM K F M σ H s vs ds) (hD : H D = none) : RelM K (frD F D []) M σ (upd H D (.lst [])) s vs ds := by
  have nS := r.free hD
  have eh : Same (hid (SM F M) H) (hid (SM (frD F D []) M) (upd H D (.lst []))) := fun a o q => by
    obtain ⟨q1, q2⟩ := hid_some q
    have ne : a ≠ D := ne_of_none q2 hD
    rw [hid_out, upd_ne ne]
    · exact q2
    · rintro ((z | z) | z)
      · exact q1 (.inl z)
      · exact ne z
      · exact q1 (.inr z)
  have F0 : F.H0 D = none := by
    cases e : F.H0 D with
    | none => rfl
    | some o =>
      have := r.ext D o e (fun z => nS (.inl (r.sat D z).1))
      rw [hD] at this; cases this
  refine ⟨r.len, fun i x q => ?_, r.inj, fun i a q => ?_, fun i a q => ?_, fun a q => ?_, fun b q => ?_, fun a o q z => ?_, Paired.mapP r.tmp fun _ _ q => ?_⟩
  · obtain ⟨v, h1, h2⟩ := r.vals i x q
    refine ⟨v, h1, ?_⟩
    cases x with
    | d x => exact DR.mono eh x v h2
    | sat => exact h2
    | scr ns => obtain ⟨a, h1, h2⟩ := h2; exact ⟨a, h1, eh.seq h2⟩
    | own xs => obtain ⟨a, ys, h3, h4, h5, h6⟩ := h2; exact ⟨a, ys, h3, h4, by rw [upd_ne (ne_of_none h5 hD)]; exact h5, DRs.mono eh _ _ h6⟩
    | tab xs => obtain ⟨a, ys, h3, h4, h5, h6⟩ := h2; exact ⟨a, ys, h3, h4, by rw [upd_ne (ne_of_none h5 hD)]; exact h5, DKs.mono eh h6⟩
  · obtain ⟨h1, o, h2⟩ := r.out i a q
    refine ⟨?_, o, by rw [upd_ne (ne_of_none h2 hD)]; exact h2⟩
    rintro (z | z)
    · exact h1 z
    · exact ne_of_none h2 hD z
  · obtain ⟨h1, o, h2⟩ := r.out i a q
    show upd F.H0 D _ a = none
    rw [upd_ne (ne_of_none h2 hD)]
    exact r.new i a q
  · rcases q with q | q
    · obtain ⟨o, h⟩ := r.there a q
      exact ⟨o, by rw [upd_ne (ne_of_none h hD)]; exact h⟩
    · subst q; exact ⟨_, upd_same⟩
  · obtain ⟨h1, h2⟩ := r.sat b q
    obtain ⟨o, h⟩ := r.there b h1
    exact ⟨.inl h1, h2.mono (upd_ne (ne_of_none h hD)) eh (Nat.le_refl _)⟩
  · by_cases e : a = D
    · subst e
      rw [upd_same]
      have q : upd F.H0 a (.lst []) a = some o := q
      rw [upd_same] at q
      exact q
    · have q : upd F.H0 D (.lst []) a = some o := q
      rw [upd_ne e] at q ⊢
      exact r.ext a o q z
  · rename_i q; exact q.mono eh
theorem RelM.addD {acc2 : List V} (r : RelM K (frD F D accV) M σ H s vs ds) (hm : F.mb ≠ some D) : RelM K (frD F D acc2) M σ (upd H D (.lst acc2)) s vs ds := by
  have inS : SM (frD F D accV) M D := .inl (.inr rfl)
  have eS : SM (frD F D acc2) M = SM (frD F D accV) M := rfl
  have eh : Same (hid (SM (frD F D accV) M) H) (hid (SM (frD F D acc2) M) (upd H D (.lst acc2))) := by
    rw [eS, hid_upd inS]; exact Same.refl _
  have neM : ∀ i a, M i = some a → a ≠ D := fun i a q z => (r.out i a q).1 (.inr z)
  refine ⟨r.len, fun i x q => ?_, r.inj, fun i a q => ?_, fun i a q => ?_, fun a q => ?_, fun b q => ?_, fun a o q z => ?_, Paired.mapP r.tmp fun _ _ q => ?_⟩
  · obtain ⟨v, h1, h2⟩ := r.vals i x q
    refine ⟨v, h1, ?_⟩
    cases x with
    | d x => exact DR.mono eh x v h2
    | sat => exact h2
    | scr ns => obtain ⟨a, h1, h2⟩ := h2; exact ⟨a, h1, eh.seq h2⟩
    | own xs => obtain ⟨a, ys, h3, h4, h5, h6⟩ := h2; exact ⟨a, ys, h3, h4, by rw [upd_ne (neM i a h4)]; exact h5, DRs.mono eh _ _ h6⟩
    | tab xs => obtain ⟨a, ys, h3, h4, h5, h6⟩ := h2; exact ⟨a, ys, h3, h4, by rw [upd_ne (neM i a h4)]; exact h5, DKs.mono eh h6⟩
  · obtain ⟨h1, o, h2⟩ := r.out i a q
    exact ⟨h1, o, by rw [upd_ne (neM i a q)]; exact h2⟩
  · have h := r.new i a q
    show upd F.H0 D _ a = none
    have h : upd F.H0 D _ a = none := h
    rw [upd_ne (neM i a q)] at h ⊢
    exact h
  · by_cases e : a = D
    · subst e; exact ⟨_, upd_same⟩
    · obtain ⟨o, h⟩ := r.there a q
      exact ⟨o, by rw [upd_ne e]; exact h⟩
  · obtain ⟨h1, h2⟩ := r.sat b q
    exact ⟨h1, h2.mono (upd_ne fun z => hm (z ▸ q)) eh (Nat.le_refl _)⟩
  · by_cases e : a = D
    · subst e
      have q : upd F.H0 a (.lst acc2) a = some o := q
      rw [upd_same] at q ⊢
      exact q
    · have q : upd F.H0 D (.lst acc2) a = some o := q
      rw [upd_ne e] at q ⊢
      exact r.ext a o (by show upd F.H0 D _ a = _; rw [upd_ne e]; exact q) z
  · rename_i q; exact q.mono eh
theorem RelM.hasD (r : RelM K (frD F D accV) M σ H s vs ds) (hm : F.mb ≠ some D) : H D = some (.lst accV) := r.ext D _ (by show upd F.H0 D _ D = _; rw [upd_same]) hm
theorem RelM.fromD {acc : List PyData} {v : V} {d : DV} {vs0 : List V} {ds0 : List DV} {σ0 : St} (r : RelM K (frD F D accV) M σ H s (v :: (accV ++ vs0)) (d :: (acc.map DV.d ++ ds0))) (hl : accV.length = acc.length) (hm : F.mb ≠ some D) (hS : ¬ F.S0 D) (h0 : F.H0 D = none)
    (hσ : σ0.length = s.ρ.length) (hσ2 : ∀ (i : Nat) (v : V), σ[i]? = some (some v) → σ0[i]? = some (some v)) : RelM K F M σ0 H s (.ref D :: vs0) (.d (.list acc) :: ds0) := by
  have eh : Same (hid (SM (frD F D accV) M) H) (hid (SM F M) H) := hid_sub (fun a z => z.elim (fun z => .inl (.inl z)) .inr) fun _ _ _ q => q
  have nD : ¬ SM F M D := by
    rintro (z | ⟨i, z⟩)
    · exact hS z
    · exact (r.out i D z).1 (.inr rfl)
  have tm : Paired (RT K F (SM F M) H) (v :: (accV ++ vs0)) (d :: (acc.map DV.d ++ ds0)) := Paired.mapP r.tmp fun _ _ q => q.mono eh
  refine ⟨hσ, fun i x q => ?_, r.inj, fun i a q => ⟨fun z => (r.out i a q).1 (.inl z), (r.out i a q).2⟩, fun i a q => ?_, fun a q => r.there a (.inl q), fun b q => ?_, fun a o q z => ?_, ?_⟩
  · obtain ⟨v, h1, h2⟩ := r.vals i x q
    refine ⟨v, hσ2 i v h1, ?_⟩
    cases x with
    | d x => exact DR.mono eh x v h2
    | sat => exact h2
    | scr ns => obtain ⟨a, h1, h2⟩ := h2; exact ⟨a, h1, eh.seq h2⟩
    | own xs => obtain ⟨a, ys, h3, h4, h5, h6⟩ := h2; exact ⟨a, ys, h3, h4, h5, DRs.mono eh _ _ h6⟩
    | tab xs => obtain ⟨a, ys, h3, h4, h5, h6⟩ := h2; exact ⟨a, ys, h3, h4, h5, DKs.mono eh h6⟩
  · have h : upd F.H0 D _ a = none := r.new i a q
    by_cases e : a = D
    · subst e; rw [upd_same] at h; cases h
    · rw [upd_ne e] at h; exact h
  · obtain ⟨h1, h2⟩ := r.sat b q
    rcases h1 with h1 | h1
    · exact ⟨h1, h2.mono rfl eh (Nat.le_refl _)⟩
    · subst h1; exact absurd q hm
  · have e : a ≠ D := fun e => by subst e; rw [h0] at q; cases q
    exact r.ext a o (by show upd F.H0 D _ a = _; rw [upd_ne e]; exact q) z
  · cases tm with
    | cons _ t =>
      obtain ⟨h1, h2⟩ := paired_split (by simp [hl]) t
      exact .cons (.lst ((hid_out nD).trans (r.hasD hm)) (drs_of h1)) h2
end
theorem paired_rot {α β : Type} {R : α → β → Prop} {y v : α} {dy d : β} {xs vs : List α} {us ds : List β} (hl : xs.length = us.length) (h : Paired R (y :: v :: (xs ++ vs)) (dy :: d :: (us ++ ds))) : Paired R (v :: ((xs ++ [y]) ++ vs)) (d :: ((us ++ [dy]) ++ ds)) := by
  cases h with
  | cons h1 t =>
    cases t with
    | cons h2 t =>
      obtain ⟨h3, h4⟩ := paired_split hl t
      exact .cons h2 (paired_app (paired_app h3 (.cons h1 .nil)) h4)
def dCompGo (own : List Nat) (tg : TGD) (tt : TTD) (te : TED) : List PyData → List PyData → DS → (List PyData → DS → Prop) → Prop
  | [], acc, s, Q => Q acc s
  | d :: ds, acc, s, Q => tg (.d d) s fun s1 => tt s1 fun b s2 => if b = true then te s2 fun y s3 => isD y fun yd => acc.length < sizeLine ∧ dCompGo own tg tt te ds (acc ++ [yd]) (wipeS s3 own) Q
    else dCompGo own tg tt te ds acc (wipeS s2 own) Q
def dComp (own : List Nat) (ti : TID) (tg : TGD) (tt : TTD) (te : TED) : TED := fun s Q => ti s fun items s1 => dCompGo own tg tt te items [] (wipeS s1 own) fun acc s2 => Q (.d (.list acc)) s2
theorem le_comp {K : PySem.W.Frag} {wi : TI} {ti : TID} {is : List Nat} {gg : TG} {tg : TGD} {ct : TT} {tt : TTD} {ce : TE} {te : TED} {own : List Nat} (hi : LI K wi ti) (hg : LG K is gg tg) (ht : LT K ct tt) (he : LE K ce te) (ho : ∀ i ∈ is, i ∈ own) : LE K (tLc wi gg ct ce own) (dComp own ti tg tt te) := by
  intro F σ H s vs ds Q R r q k
  refine hi F σ H s vs ds _ _ r q fun J H1 v d items s1 r1 W q1 D hD => ?_
  have hm : F.mb ≠ some D := by
    obtain ⟨M, r1⟩ := r1
    exact fun z => r1.free hD (.inl (r1.sat D z).1)
  have hS : ¬ F.S0 D := by
    obtain ⟨M, r1⟩ := r1
    exact fun z => r1.free hD (.inl z)
  have h0 : F.H0 D = none := by
    obtain ⟨M, r1⟩ := r1
    cases e : F.H0 D with
    | none => rfl
    | some o => have := r1.ext D o e hm; rw [hD] at this; cases this
  have hlen : s1.ρ.length = σ.length := by obtain ⟨M, r1⟩ := r1; exact r1.len.symm
  refine ⟨fun i m H => m = items.length - i ∧ i ≤ items.length ∧ ∃ (s : DS) (acc : List PyData) (accV : List V), accV.length = acc.length ∧ Rel K (frD F D accV) (wipe σ own) H s (v :: (accV ++ vs)) (d :: (acc.map DV.d ++ ds)) ∧
      dCompGo own tg tt te (items.drop i) acc s fun acc s2 => Q (.d (.list acc)) s2, ⟨items.length, by simp, Nat.zero_le _, wipeS s1 own, [], [], rfl, ?_, q1⟩, ?_⟩
  · obtain ⟨M, r1⟩ := r1
    exact Rel.wipe ⟨M, r1.toD hD⟩
  rintro i m H ⟨rfl, hi, s, acc, accV, hl, r, q⟩
  by_cases hlt : i < items.length
  · have e1 : items.drop i = items[i] :: items.drop (i + 1) := List.drop_eq_getElem_cons hlt
    have e2 : items[i]? = some items[i] := List.getElem?_eq_getElem hlt
    obtain ⟨g1, g2⟩ := W.go _ _ H s _ _ i _ r e2
    rw [e1] at q
    refine .inr ⟨g1, fun H' => ∃ (s : DS) (acc : List PyData) (accV : List V), accV.length = acc.length ∧ Rel K (frD F D accV) (wipe σ own) H' s (v :: (accV ++ vs)) (d :: (acc.map DV.d ++ ds)) ∧ dCompGo own tg tt te (items.drop (i + 1)) acc s fun acc s2 => Q (.d (.list acc)) s2,
      fun H' h => ⟨items.length - (i + 1), by omega, rfl, hlt, h⟩, fun x H' y => ?_⟩
    obtain ⟨e, rx⟩ := g2 x H' y
    refine hg _ _ H' s x _ _ _ _ _ rx q fun σ2 s2 r2 q2 w2 => ?_
    have hw : wipe σ2 own = wipe σ own := (w2 own ho).trans wipe_wipe
    refine ⟨hw, ?_⟩
    refine ht _ _ H' s2 _ _ _ _ r2 q2 fun b H3 s3 r3 q3 => ?_
    cases b with
    | false =>
      refine ⟨wipeS s3 own, acc, accV, hl, ?_, q3⟩
      rw [← hw]
      exact r3.wipe
    | true =>
      refine he _ _ H3 s3 _ _ _ _ r3 q3 fun yv H4 dy s4 r4 q4 => ?_
      obtain ⟨yd, rfl, q5, q6⟩ := isD_ok q4
      obtain ⟨M4, r4⟩ := r4
      refine ⟨accV, r4.hasD hm, by omega, wipeS s4 own, acc ++ [yd], accV ++ [yv], by simp [hl], ?_, q6⟩
      rw [← hw]
      refine Rel.wipe ⟨M4, ?_⟩
      have r5 := (r4.addD (acc2 := accV ++ [yv]) hm)
      refine r5.tmps ?_
      have := paired_rot (by simp [hl]) r5.tmp
      rw [List.map_append]
      exact this
  · have e : i = items.length := by omega
    subst e
    rw [List.drop_length] at q
    refine .inl ⟨W.stop _ _ H s _ _ _ r (Nat.le_refl _), k _ H _ s ?_ q⟩
    obtain ⟨M, r⟩ := r
    refine ⟨M, r.fromD hl hm hS h0 ?_ ?_⟩
    · have := r.len; rw [wipe_length] at this; exact this
    · intro i v h; exact (wipe_some h).1
def Sg.blk (g : Sg) (scope : Scope) : Sg := { g with sc := relS scope g.sc, isDef := false }
theorem Sg.has.blk {g : Sg} {X : Cx} {scope : Scope} (h : g.has X) (s : Shared) (H : Hp) (C : Addr) (cl : List (Str × Addr)) (fp : List Addr) : (g.blk scope).has (X.blk s H scope (compEnvC scope cl C X.env) fp) := by
  refine ⟨h.prog, h.w, h.K, h.mg, h.base, h.N, ?_, h.calm, rfl, h.room, h.gd, fun z => nomatch z⟩
  show relabel scope X.env = relS scope g.sc
  rw [← h.sc]
  rfl
structure DTs (g : Sg) (es : List Expr) (t : TTD) : Prop where
  ex : ∃ te, (∀ X, g.has X → PTs X es te) ∧ LT g.K te t
def dYes : TTD := fun s Q => Q true s
section
variable {g : Sg} {e elt iter tgt : Expr} {ifs es : List Expr} {t te : TED} {tt : TTD} {pos : Pos} {scope : Scope} {is : List Nat} {ti : TID} {tg : TGD}
theorem dts_nil : DTs g [] dYes := ⟨_, fun _ _ => pts_nil, fun F σ H s vs ds Q R r q k => k true H s r q⟩
theorem dts_one (h : DT g e tt) : DTs g [e] tt := let ⟨_, a1, a2⟩ := h.ex; ⟨_, fun X hX => pts_one (a1 X hX), a2⟩
theorem de_comp (own : List (Str × Nat)) (hN : g.N.Nodup) (hi : DI g tgt iter ti) (ok : blkC g.N g.sc scope own = true) (hg : DG (g.blk scope) tgt is tg) (ht : DTs (g.blk scope) ifs tt) (he : DE (g.blk scope) elt te) (ho : ∀ i ∈ is, i ∈ own.map (·.2) := by decide)
    (hs : ∀ (X : Cx) x, foldedSetIterable iter X.env x = pure x := by intro _ _; rfl) : DE g (.ListComp elt [⟨tgt, iter, ifs, 0⟩] scope pos) (dComp (own.map (·.2)) ti tg tt te) := by
  obtain ⟨_, a1, a2⟩ := hi.ex
  obtain ⟨_, b1, b2⟩ := hg.ex
  obtain ⟨_, c1, c2⟩ := ht.ex
  obtain ⟨_, d1, d2⟩ := he.ex
  exact ⟨_, fun X h => pe_lc h.calm (by rw [h.N]; exact hN) (a1 X h) (by rw [h.N, h.sc]; exact blkOk_by ok) (fun s H C cl fp => b1 _ (h.blk s H C cl fp)) (fun s H C cl fp => c1 _ (h.blk s H C cl fp)) (fun s H C cl fp => d1 _ (h.blk s H C cl fp)) (hs X), le_comp a2 b2 c2 d2 ho⟩
/-- y = [..], y a local, on one line -/
theorem ds_setComp {i : Nat} {y : Str} {py spos : Pos} (own : List (Str × Nat)) (hN : g.N.Nodup) (hy : g.N[i]? = some y) (hyl : g.sc.names.lookup y = some .local) (hk : g.sc.kind = .function) (hl : (py.line == pos.line) = true)
    (ha : (scope.names.any fun (n, k) => n == y && (k == .local || k == .cell)) = false) (hi : DI g tgt iter ti) (ok : blkC g.N g.sc scope own = true) (hg : DG (g.blk scope) tgt is tg) (ht : DTs (g.blk scope) ifs tt) (he : DE (g.blk scope) elt te) (ho : ∀ i ∈ is, i ∈ own.map (·.2) := by decide)
    (hs : ∀ (X : Cx) x, foldedSetIterable iter X.env x = pure x := by intro _ _; rfl) : DSt g (.Assign [.Name y py] (.ListComp elt [⟨tgt, iter, ifs, 0⟩] scope pos) spos) (dSet i (dComp (own.map (·.2)) ti tg tt te)) := by
  obtain ⟨_, a1, a2⟩ := hi.ex
  obtain ⟨_, b1, b2⟩ := hg.ex
  obtain ⟨_, c1, c2⟩ := ht.ex
  obtain ⟨_, d1, d2⟩ := he.ex
  exact ⟨_, fun X h => ps_setLc h.calm (by rw [h.N]; exact hN) (by rw [h.N]; exact hy) (by rw [h.sc]; exact hyl) (sw_true (by rw [h.sc]; exact hk) (by rw [h.sc]; exact hyl) hl ha) (a1 X h) (by rw [h.N, h.sc]; exact blkOk_by ok) (fun s H C cl fp => b1 _ (h.blk s H C cl fp)) (fun s H C cl fp => c1 _ (h.blk s H C cl fp)) (fun s H C cl fp => d1 _ (h.blk s H C cl fp)) (hs X),
    ls_set (le_comp a2 b2 c2 d2 ho)⟩
end
/-! ### defs -/
/-- what a def does, by its data: arguments, turns so far, the wish -/
abbrev DSp := List DV → Nat → (DV → Nat → Prop) → Prop
def Lift (K : PySem.W.Frag) (np : Nat) (sp : DSp) : Sp := fun vs H Q _ => vs.length = np ∧ ∃ (F : Fr) (ds : List DV) (n : Nat) (Qd : DV → Nat → Prop), F.H0 = H ∧ (∀ a, F.S0 a → ∃ o, H a = some o) ∧ (∀ b, F.mb = some b → F.S0 b ∧ SatAt K F.S0 H b n none) ∧
  Paired (RT K F F.S0 H) vs ds ∧ sp ds n Qd ∧ ∀ v H' d n', Ret K F H' v d n' → Qd d n' → Q v H'
section
variable {g : Sg} {e : Expr} {es : List Expr} {pos p : Pos}
def dFn (sp : DSp) (ta : TAD) : TED := fun s Q => ta s fun xs s1 => sp xs s1.n fun d n' => Q d { s1 with n := n', c := none }
theorem retM {K : PySem.W.Frag} {F : Fr} {M : Nat → Option Addr} {σ : St} {H H' : Hp} {s : DS} {vs : List V} {ds : List DV} {v : V} {d : DV} {n' : Nat} (r : RelM K F M σ H s vs ds) (h : Ret K ⟨F.mb, SM F M, H⟩ H' v d n') : RelM K F M σ H' { s with n := n', c := none } (v :: vs) (d :: ds) := by
  have ex : ∀ a o, H a = some o → F.mb ≠ some a → H' a = some o := h.ext
  have eh : Same (hid (SM F M) H) (hid (SM F M) H') := hid_sub (fun _ z => z) fun a o q q2 => ex a o q2 fun z => q (.inl (r.sat a z).1)
  have nb : ∀ i a, M i = some a → F.mb ≠ some a := fun i a q z => (r.out i a q).1 (r.sat a z).1
  refine ⟨r.len, fun i x q => ?_, r.inj, fun i a q => ?_, r.new, fun a q => h.there a (.inl q), fun b q => ⟨(r.sat b q).1, (h.sat b q).2⟩, fun a o q z => ex a o (r.ext a o q z) z, .cons ?_ (Paired.mapP r.tmp fun _ _ q => q.mono eh)⟩
  · obtain ⟨v, h1, h2⟩ := r.vals i x q
    refine ⟨v, h1, ?_⟩
    cases x with
    | d x => exact DR.mono eh x v h2
    | sat => exact h2
    | scr ns => obtain ⟨a, h1, h2⟩ := h2; exact ⟨a, h1, eh.seq h2⟩
    | own xs => obtain ⟨a, ys, h3, h4, h5, h6⟩ := h2; exact ⟨a, ys, h3, h4, ex _ _ h5 (nb i a h4), DRs.mono eh _ _ h6⟩
    | tab xs => obtain ⟨a, ys, h3, h4, h5, h6⟩ := h2; exact ⟨a, ys, h3, h4, ex _ _ h5 (nb i a h4), DKs.mono eh h6⟩
  · obtain ⟨h1, o, h2⟩ := r.out i a q
    exact ⟨h1, o, ex a o h2 (nb i a q)⟩
  · have hv := h.val
    cases d with
    | d x => exact hv
    | sat => exact hv
    | scr ns => exact hv
    | own xs => exact hv
    | tab xs => exact hv
theorem le_fn {K : PySem.W.Frag} {np : Nat} {sp : DSp} {ea : TA} {ua : TAD} {dvs : List V} {dds : List DV} {E : XK} (ha : LA K ea ua) (hd : ∀ F S H, Paired (RT K F S H) dvs dds) (hn : ∀ xs n Q, sp xs n Q → xs.length = np) : LE K (fun σ H Q => ea σ H fun vs H1 => Lift K np sp (vs ++ dvs) H1 Q E) (fun s Q => ua s fun xs s1 => sp (xs ++ dds) s1.n fun d n' => Q d { s1 with n := n', c := none }) := by
  intro F σ H s vs ds Q R r0 q k
  refine ha F σ H s vs ds _ _ r0 q fun ws H1 es s1 r1 q1 => ?_
  obtain ⟨M, r1⟩ := r1
  have hlen : ws.length = es.length := by
    have h1 := Paired.length r1.tmp
    obtain ⟨M0, r0⟩ := r0
    have h2 := Paired.length r0.tmp
    simp only [List.length_append] at h1
    omega
  obtain ⟨h4, h5⟩ := paired_split hlen r1.tmp
  have h6 := paired_app h4 (hd F (SM F M) H1)
  refine ⟨by rw [← hn _ _ _ q1]; exact Paired.length h6, ⟨F.mb, SM F M, H1⟩, es ++ dds, s1.n, _, rfl, r1.hS, fun b z => ⟨.inl (r1.sat b z).1, (r1.sat b z).2.forget⟩, ?_, q1, fun v H' d n' hr hq => ?_⟩
  · exact Paired.mapP h6 fun v d z => by cases d <;> exact z
  · exact k v H' d _ ⟨M, retM (r1.tmps h5) hr⟩ hq
/-- a def at f of level k keeps sp -/
structure FnD (g : Sg) (k : Nat) (f : Addr) (fd : FuncData) (ps : List Str) (sp : DSp) : Prop where
  ok : FnG g.P g.w g.K g.mg g.base k f fd ps (Lift g.K ps.length sp)
  len : ∀ xs n Q, sp xs n Q → xs.length = ps.length
/-- f(e, ..) -/
theorem de_fn {x : Str} {f : Addr} {fd : FuncData} {ps : List Str} {k : Nat} {sp : DSp} {u : TAD} (G : FnD g k f fd ps sp) (hk : k ≤ g.lv) (hm : g.mg x = some (.ref f)) (kp : PySem.W.keepIn g.K (.ref f) = true) (hb : Binds g.K fd ps []) (ha : DA g (e :: es) u)
    (hg : g.sc.names.lookup x = some .globalImplicit := by rfl) (hdb : (x == ("__debug__" : Str)) = false := by decide) (he : ∀ X : Cx, starEach (e :: es) X.env = (false, eval e X.env) :: starEach es X.env := by intro _; rfl) (hpl : ∀ X : Cx, (backTo pos (starEach es X.env)).any (·.1) = false := by intro _; rfl) :
    DE g (.Call (.Name x p) (e :: es) [] pos) (dFn sp u) := by
  obtain ⟨ta, a1, a2⟩ := ha.ex
  refine ⟨fun σ H Q => ta σ H fun vs H1 => Lift g.K ps.length sp (vs ++ []) H1 Q E0, fun X h => ?_, ?_⟩
  · have F : FnG X.prog X.w X.K X.mg X.base k f fd ps (Lift g.K ps.length sp) := by rw [h.prog, h.w, h.K, h.mg, h.base]; exact G.ok
    exact pe_g F h.gd (h.room.mono hk) (by show X.env.scope.names.lookup x = _; rw [h.sc]; exact hg) (by rw [h.mg]; exact hm) (by rw [h.K]; exact kp) (by rw [h.K]; exact hb) .nil (a1 X h) hdb (he X) (hpl X)
  · have z := le_fn (np := ps.length) (sp := sp) (E := E0) (dvs := []) (dds := []) a2 (fun _ _ _ => .nil) G.len
    have e : (fun s Q => u s fun xs s1 => sp (xs ++ []) s1.n fun d n' => Q d { s1 with n := n', c := none }) = dFn sp u := by
      funext s Q
      simp only [List.append_nil]
      rfl
    rw [e] at z
    exact z
/-- f(e, .., k = v, ..): in place of the order of the text that of the parameters -/
structure DK (g : Sg) (kws : List Keyword) (t : TAD) : Prop where
  ex : ∃ te, (∀ X, g.has X → PK X kws te) ∧ LA g.K te t
theorem dk_nil : DK g [] dNil := ⟨_, fun _ _ => pk_nil, fun F σ H s vs ds Q R r q k => k [] H [] s r q⟩
theorem dk_cons {nm : Option Str} {kpos : Pos} {kws : List Keyword} {t : TED} {u : TAD} (ha : DE g e t) (hr : DK g kws u) : DK g (⟨nm, e, kpos⟩ :: kws) (dCons t u) :=
  let ⟨_, a1, a2⟩ := ha.ex; let ⟨_, b1, b2⟩ := hr.ex; ⟨_, fun X h => pk_cons (a1 X h) (b1 X h), le_cons a2 b2 fun _ _ _ _ => trivial⟩
/-- places: perm l puts l in the order of places -/
def permL {α : Type} (is : List Nat) (xs : List α) : List α := is.filterMap fun i => xs[i]?
theorem permL_pair {α β : Type} {R : α → β → Prop} {xs : List α} {us : List β} (h : Paired R xs us) : ∀ is : List Nat, Paired R (permL is xs) (permL is us)
  | [] => .nil
  | i :: is => by
    have ih := permL_pair h is
    unfold permL at ih ⊢
    rw [List.filterMap_cons, List.filterMap_cons]
    cases e : xs[i]? with
    | none =>
      have e2 : us[i]? = none := by
        have := Paired.length h
        rw [List.getElem?_eq_none_iff] at e ⊢; omega
      rw [e2]; exact ih
    | some x =>
      have : ∀ {xs : List α} {us : List β} {i : Nat}, Paired R xs us → xs[i]? = some x → ∃ u, us[i]? = some u ∧ R x u := by
        intro xs us i h
        induction h generalizing i with
        | nil => intro z; simp at z
        | cons a t ih =>
          cases i with
          | zero => intro z; simp at z; subst z; exact ⟨_, rfl, a⟩
          | succ i => intro z; simpa using ih (i := i) (by simpa using z)
      obtain ⟨u, e2, hr⟩ := this h e
      rw [e2]; exact .cons hr ih
def dFnK (sp : DSp) (is : List Nat) (n m : Nat) (ta tk : TAD) : TED := fun s Q => ta s fun xs s1 => tk s1 fun ys s2 => xs.length = n ∧ ys.length = m ∧ sp (permL is (xs ++ ys)) s2.n fun d n' => Q d { s2 with n := n', c := none }
theorem le_fnK {K : PySem.W.Frag} {np n m : Nat} {sp : DSp} {is : List Nat} {ea ek : TA} {ua uk : TAD} (ha : LA K ea ua) (hk : LA K ek uk) (hn : ∀ xs n Q, sp xs n Q → xs.length = np) :
    LE K (fun σ H Q => ea σ H fun vs H1 => ek σ H1 fun zs H2 => vs.length = n ∧ zs.length = m ∧ Lift K np sp (permL is (vs ++ zs)) H2 Q E0) (dFnK sp is n m ua uk) := by
  intro F σ H s vs ds Q R r0 q k
  refine ha F σ H s vs ds _ _ r0 q fun ws H1 es s1 r1 q1 => ?_
  refine hk F σ H1 s1 _ _ _ _ r1 q1 fun zs H2 fs s2 r2 ⟨qa, qb, q2⟩ => ?_
  have l0 : vs.length = ds.length := by obtain ⟨M, r⟩ := r0; exact Paired.length r.tmp
  have l1 : ws.length = es.length := by obtain ⟨M, r⟩ := r1; have := Paired.length r.tmp; simp only [List.length_append] at this; omega
  obtain ⟨M, r2⟩ := r2
  have l2 : zs.length = fs.length := by have := Paired.length r2.tmp; simp only [List.length_append] at this; omega
  obtain ⟨h1, h2⟩ := paired_split l2 r2.tmp
  obtain ⟨h3, h4⟩ := paired_split l1 h2
  have h5 := permL_pair (paired_app h3 h1) is
  refine ⟨l1.trans qa, l2.trans qb, by rw [← hn _ _ _ q2]; exact Paired.length h5, ⟨F.mb, SM F M, H2⟩, _, s2.n, _, rfl, r2.hS, fun b z => ⟨.inl (r2.sat b z).1, (r2.sat b z).2.forget⟩, ?_, q2, fun v H' d n' hr hq => ?_⟩
  · exact Paired.mapP h5 fun v d z => by cases d <;> exact z
  · exact k v H' d _ ⟨M, retM (r2.tmps h4) hr⟩ hq
theorem de_fnK {x : Str} {f : Addr} {fd : FuncData} {ps ks : List Str} {k n : Nat} {sp : DSp} {u uk : TAD} {kws : List Keyword} (is : List Nat) (G : FnD g k f fd ps sp) (hk : k ≤ g.lv) (hm : g.mg x = some (.ref f)) (kp : PySem.W.keepIn g.K (.ref f) = true)
    (hb : KBn g.K fd ps n ks (fun us ws => permL is (us ++ ws)) fun vs zs => permL is (vs ++ zs)) (ha : DA g (e :: es) u) (hkw : DK g kws uk) (hall : ∀ X : Cx, (backToKw pos (keywordEach kws X.env)).all (·.1.isSome) = true := by intro _; rfl) (hks : ∀ X : Cx, (backToKw pos (keywordEach kws X.env)).filterMap (·.1) = ks := by intro _; rfl)
    (hg : g.sc.names.lookup x = some .globalImplicit := by rfl) (hdb : (x == ("__debug__" : Str)) = false := by decide) (he : ∀ X : Cx, starEach (e :: es) X.env = (false, eval e X.env) :: starEach es X.env := by intro _; rfl)
    (hpl : ∀ X : Cx, ((backTo pos (starEach (e :: es) X.env)).any (·.1) || (backToKw pos (keywordEach kws X.env)).any (·.1.isNone)) = false := by intro _; rfl) : DE g (.Call (.Name x p) (e :: es) kws pos) (dFnK sp is n ks.length u uk) := by
  obtain ⟨ta, a1, a2⟩ := ha.ex
  obtain ⟨tk, b1, b2⟩ := hkw.ex
  refine ⟨_, fun X h => ?_, le_fnK a2 b2 G.len⟩
  have F : FnG X.prog X.w X.K X.mg X.base k f fd ps (Lift g.K ps.length sp) := by rw [h.prog, h.w, h.K, h.mg, h.base]; exact G.ok
  exact pe_gk F h.gd (h.room.mono hk) (by show X.env.scope.names.lookup x = _; rw [h.sc]; exact hg) (by rw [h.mg]; exact hm) (by rw [h.K]; exact kp) (by rw [h.K]; exact hb) (a1 X h) (b1 X h) (hall X) (hks X) hdb (he X) (hpl X)
theorem de_fnK0 {x : Str} {f : Addr} {fd : FuncData} {ps ks : List Str} {k : Nat} {sp : DSp} {uk : TAD} {kws : List Keyword} (is : List Nat) (G : FnD g k f fd ps sp) (hk : k ≤ g.lv) (hm : g.mg x = some (.ref f)) (kp : PySem.W.keepIn g.K (.ref f) = true)
    (hb : KBn g.K fd ps 0 ks (fun us ws => permL is (us ++ ws)) fun vs zs => permL is (vs ++ zs)) (hkw : DK g kws uk) (hall : ∀ X : Cx, (backToKw pos (keywordEach kws X.env)).all (·.1.isSome) = true := by intro _; rfl) (hks : ∀ X : Cx, (backToKw pos (keywordEach kws X.env)).filterMap (·.1) = ks := by intro _; rfl)
    (hg : g.sc.names.lookup x = some .globalImplicit := by rfl) (hdb : (x == ("__debug__" : Str)) = false := by decide)
    (hpl : ∀ X : Cx, ((backTo pos (starEach [] X.env)).any (·.1) || (backToKw pos (keywordEach kws X.env)).any (·.1.isNone)) = false := by intro _; rfl) : DE g (.Call (.Name x p) [] kws pos) (dFnK sp is 0 ks.length dNil uk) := by
  obtain ⟨tk, b1, b2⟩ := hkw.ex
  refine ⟨_, fun X h => ?_, le_fnK (ea := tNil) (fun F σ H s vs ds Q R r q k => k [] H [] s r q) b2 G.len⟩
  have F : FnG X.prog X.w X.K X.mg X.base k f fd ps (Lift g.K ps.length sp) := by rw [h.prog, h.w, h.K, h.mg, h.base]; exact G.ok
  exact pe_gk0 F h.gd (h.room.mono hk) (by show X.env.scope.names.lookup x = _; rw [h.sc]; exact hg) (by rw [h.mg]; exact hm) (by rw [h.K]; exact kp) (by rw [h.K]; exact hb) (b1 X h) (hall X) (hks X) hdb (hpl X)
theorem RelM.start {K : PySem.W.Frag} {F : Fr} {N : List Str} {H : Hp} {vs : List V} {ds : List DV} {n : Nat} (hH : F.H0 = H) (hS : ∀ a, F.S0 a → ∃ o, H a = some o) (hb : ∀ b, F.mb = some b → F.S0 b ∧ SatAt K F.S0 H b n none) (hp : Paired (RT K F F.S0 H) vs ds) :
    RelM K F (fun _ => none) (start N vs) H ⟨ds.map some ++ List.replicate (N.length - ds.length) none, n, none⟩ [] [] := by
  have eS : SM F (fun _ => none) = F.S0 := by
    funext a
    exact propext ⟨fun z => z.elim id fun ⟨_, z⟩ => (nomatch z), Or.inl⟩
  have hl := Paired.length hp
  refine ⟨by simp [L2.start, hl], fun i x q => ?_, fun _ _ _ z => (nomatch z), fun _ _ z => (nomatch z), fun _ _ z => (nomatch z), hS, fun b q => by rw [eS]; exact hb b q, fun a o q _ => by rw [← hH]; exact q, .nil⟩
  rw [eS]
  have hi : i < ds.length := by
    by_cases hi : i < ds.length
    · exact hi
    · have q : (ds.map some ++ List.replicate (N.length - ds.length) none)[i]? = some (some x) := q
      rw [List.getElem?_append_right (by simpa using hi), List.getElem?_replicate] at q
      split at q <;> cases q
  have q : (ds.map some ++ List.replicate (N.length - ds.length) none)[i]? = some (some x) := q
  rw [List.getElem?_append_left (by simpa using hi), List.getElem?_map] at q
  have e1 : ds[i]? = some x := by
    cases e : ds[i]? with
    | none => rw [e] at q; cases q
    | some y => rw [e] at q; cases q; rfl
  have : ∀ {vs : List V} {ds : List DV} {i : Nat}, Paired (RT K F F.S0 H) vs ds → ds[i]? = some x → ∃ v, vs[i]? = some v ∧ RT K F F.S0 H v x := by
    intro vs ds i h
    induction h generalizing i with
    | nil => intro z; simp at z
    | cons a t ih =>
      cases i with
      | zero => intro z; simp at z; subst z; exact ⟨_, rfl, a⟩
      | succ i => intro z; simpa using ih (i := i) (by simpa using z)
  obtain ⟨v, h1, h2⟩ := this hp e1
  refine ⟨v, ?_, ?_⟩
  · unfold L2.start
    rw [List.getElem?_append_left (by rw [List.length_map, hl]; exact hi), List.getElem?_map, h1]
    rfl
  · cases x with
    | d x => exact h2
    | sat => exact h2
    | scr ns => exact h2
    | own xs => exact h2.elim
    | tab xs => exact h2.elim
/-- a def's body read by data -/
def bodyD (nN : Nat) (t : TSD) : DSp := fun ds n Q => t { nx := fun s => Q (.d .none) s.n, rt := Q } ⟨ds.map some ++ List.replicate (nN - ds.length) none, n, none⟩
theorem fn_body {K : PySem.W.Frag} {P : Program} {w : World} {mg : Str → Option Value} {base : Heap} {x qual : Str} {params : Arguments} {body : List Stmt} {scope : Scope} {dvs : List V} {kws : List (Str × V)} {f : Addr} {fd : FuncData} {N ps : List Str} {k : Nat} {t : TSD}
    (Fd : FunD K x qual params body scope dvs kws f fd) (S : FnScope N ps scope) (hb : DSs ⟨P, w, K, mg, base, N, scope, k, true⟩ body t) : FnG P w K mg base (k + 1) f fd ps (Lift K ps.length (fun ds n Q => ds.length = ps.length ∧ bodyD N.length t ds n Q)) := by
  obtain ⟨te, h1, h2⟩ := hb.ex
  refine fn_g Fd S (fun vs H Q E h => h.1) (fun cdv A outer s H vs Q E hg hr h => ?_)
  refine ⟨te, ?_, ?_⟩
  · refine PSs.nox (h1 _ ⟨rfl, rfl, rfl, rfl, rfl, rfl, rfl, rfl, rfl, hr, hg, fun _ => rfl⟩)
  · obtain ⟨hl, F, ds, n, Qd, hH, hS, hsat, hp, ⟨hds, hq⟩, k⟩ := h
    refine h2 F _ H _ [] [] _ _ ⟨_, RelM.start (N := N) hH hS hsat hp⟩ hq (fun σ' H' s' r q => ?_) (fun v H' d n r q => k v H' d n r q) (fun _ _ _ _ z => z.elim) (fun _ _ _ _ z => z.elim)
    obtain ⟨M, r⟩ := r
    exact k _ H' _ _ (Rel.ret ⟨M, r.push (d := .d .none) (v := V.non) .non⟩) q
end
end PD
set_option Elab.async false
set_option linter.all false
set_option maxRecDepth 100000
set_option maxHeartbeats 1000000
namespace PD
open PySem L2
open PySem.W (alike dataLt)
/-! ### data in the heap of the model -/
section
variable {X : Cx} {pins : List (Addr × Obj)} {σ : St} {H : Hp} {s : Shared}
theorem keys_read {K0 : Key} {v : Value} {h : Heap} (r : keyIs K0 v = true) : Reads h v (kD K0) [] := by
  rcases keyIs_shape r with ⟨i, t, rfl, rfl⟩ | ⟨x, t, rfl, rfl⟩
  · exact .int i t
  · exact .str x t
mutual
theorem DR.reads (I : Inv X pins σ H s) : ∀ (d : PyData) (v : V) (u : Value), DR X.K H v d → RelV v u → ∃ as, Reads s.heap u d as
  | .none, _, _, h, r => by cases h; cases r; exact ⟨_, .none⟩
  | .bool b, _, _, h, r => by cases h; cases r; exact ⟨_, .bool b⟩
  | .int i, _, _, h, r => by cases h; obtain ⟨t, rfl⟩ := r; exact ⟨_, .int i t⟩
  | .str x, _, _, h, r => by cases h; obtain ⟨t, rfl⟩ := r; exact ⟨_, .str x t⟩
  | .list ds, _, _, h, r => by
    cases h with
    | lst hs ha =>
      cases r
      obtain ⟨its, rv, ⟨o, n, ho, hc, _, hd⟩, _⟩ := I.list (SqL.of hs)
      obtain ⟨as, hr⟩ := DRs.reads I ds _ its ha rv
      exact ⟨_, .list ho hc hd hr⟩
  | .tuple ds, _, _, h, r => by
    cases h with
    | tup hs ha =>
      cases r
      obtain ⟨its, rv, ⟨o, ho, hc, n, hd⟩, _⟩ := I.tuple hs
      obtain ⟨as, hr⟩ := DRs.reads I ds _ its ha rv
      exact ⟨_, .tuple ho hc hd hr⟩
  | .dict ds, _, _, h, r => by
    cases h with
    | dct hs ha =>
      cases r
      obtain ⟨_, _, vs, kv, o, es, ep, ho, hx, hd, _, hp, _⟩ := (show ObjOk X.prog X.w H s.heap _ (.dK _) from I.hok _ _ hs)
      obtain ⟨as, bs, h1, h2⟩ := DRk.reads I ds _ vs es.toList ha kv hp
      exact ⟨_, .dict ho hx.1 hd h1 h2⟩
theorem DRs.reads (I : Inv X pins σ H s) : ∀ (ds : List PyData) (vs : List V) (us : List Value), DRs X.K H vs ds → Vals vs us → ∃ as, ReadsAll s.heap us ds as
  | [], _, _, h, r => by cases h; cases r; exact ⟨_, .nil⟩
  | d :: ds, _, _, h, r => by
    cases h with
    | cons h1 h2 =>
      cases r with
      | cons r1 r2 =>
        obtain ⟨as, q1⟩ := DR.reads I d _ _ h1 r1
        obtain ⟨bs, q2⟩ := DRs.reads I ds _ _ h2 r2
        exact ⟨_, .cons q1 q2⟩
theorem DRk.reads (I : Inv X pins σ H s) : ∀ (ds : List (PyData × PyData)) (vs : List (Key × V)) (us : List (Key × Value)) (es : List DictEntry), DRk X.K H vs ds → KV vs us → Pairs (mixKind X.prog X.w) es us → ∃ as bs, ReadsAll s.heap (es.map (·.key)) (ds.map (·.1)) as ∧ ReadsAll s.heap (es.map (·.val)) (ds.map (·.2)) bs
  | [], _, _, _, h, r, p => by cases h; cases r; cases p; exact ⟨_, _, .nil, .nil⟩
  | (_, d) :: ds, _, _, _, h, r, p => by
    cases h with
    | cons h1 h2 =>
      cases r with
      | cons r1 r2 =>
        cases p with
        | cons p1 p2 p3 =>
          obtain ⟨as, q1⟩ := DR.reads I d _ _ h1 r1.2
          obtain ⟨bs, cs, q2, q3⟩ := DRk.reads I ds _ _ _ h2 r2 p3
          have ek : _ = _ := r1.1
          have e1 : keyIs _ _ = true := p1
          rw [← ek] at e1
          rw [← p2] at q1
          exact ⟨_, _, .cons (keys_read e1) q2, .cons q1 q3⟩
end
end
/-! ### comparisons -/
def rCmp (K : PySem.W.Frag) (C : PyData → PyData → Prop) (f : PyData → PyData → Bool) : R2 := fun x y H Q => ∃ dx dy, DR K H x dx ∧ DR K H y dy ∧ C dx dy ∧ Q (.bl (f dx dy)) H
def cmpD (C : PyData → PyData → Prop) (f : PyData → PyData → Bool) (dx dy : PyData) (Q : PyData → Prop) : Prop := C dx dy ∧ Q (.bool (f dx dy))
theorem lo_cmp {K : PySem.W.Frag} {C : PyData → PyData → Prop} {f : PyData → PyData → Bool} : LO2 K (rCmp K C f) (cmpD C f) := fun S H x y dx dy Q R hS hx hy ⟨c, q⟩ k =>
  ⟨dx, dy, DR.mono hid_same _ _ hx, DR.mono hid_same _ _ hy, c, k _ H _ (Same.refl _) (.bl _) q⟩
def pl2 (dx dy : PyData) : Prop := dx.plain = true ∧ dy.plain = true ∧ min dx.depth dy.depth ≤ 60
def al2 (dx dy : PyData) : Prop := alike dx dy = true ∧ dx ≠ .none ∧ min dx.depth dy.depth ≤ 60
section
variable {g : Sg} {X : Cx}
theorem Sg.has.un (h : g.has X) : X.A.units + 64 < cLine := h.room.units
theorem o_eq (h : g.has X) : OpR X (compareOp .Eq) (rCmp g.K pl2 PyData.eqv) := by
  intro pins s σ H x y v u Q I rx ry ⟨dx, dy, hx, hy, ⟨c1, c2, c3⟩, q⟩
  obtain ⟨as, r1⟩ := DR.reads I dx x v (by rw [h.K]; exact hx) rx
  obtain ⟨bs, r2⟩ := DR.reads I dy y u (by rw [h.K]; exact hy) ry
  exact PySem.SeqAt.eq_plain r1 r2 c1 c2 (by have := h.un; omega) ⟨.bl _, H, I, rfl, q⟩
theorem o_ne (h : g.has X) : OpR X (compareOp .NotEq) (rCmp g.K pl2 fun a b => !PyData.eqv a b) := by
  intro pins s σ H x y v u Q I rx ry ⟨dx, dy, hx, hy, ⟨c1, c2, c3⟩, q⟩
  obtain ⟨as, r1⟩ := DR.reads I dx x v (by rw [h.K]; exact hx) rx
  obtain ⟨bs, r2⟩ := DR.reads I dy y u (by rw [h.K]; exact hy) ry
  exact PySem.SeqAt.ne_plain r1 r2 c1 c2 (by have := h.un; omega) ⟨.bl _, H, I, rfl, q⟩
theorem o_lt (h : g.has X) : OpR X (compareOp .Lt) (rCmp g.K al2 dataLt) := by
  intro pins s σ H x y v u Q I rx ry ⟨dx, dy, hx, hy, ⟨c1, c2, c3⟩, q⟩
  obtain ⟨as, r1⟩ := DR.reads I dx x v (by rw [h.K]; exact hx) rx
  obtain ⟨bs, r2⟩ := DR.reads I dy y u (by rw [h.K]; exact hy) ry
  exact PySem.W.lt_data r1 r2 c1 c2 (by have := h.un; omega) ⟨.bl _, H, I, rfl, q⟩
theorem o_gt (h : g.has X) : OpR X (compareOp .Gt) (rCmp g.K al2 fun a b => dataLt b a) := by
  intro pins s σ H x y v u Q I rx ry ⟨dx, dy, hx, hy, ⟨c1, c2, c3⟩, q⟩
  obtain ⟨as, r1⟩ := DR.reads I dx x v (by rw [h.K]; exact hx) rx
  obtain ⟨bs, r2⟩ := DR.reads I dy y u (by rw [h.K]; exact hy) ry
  exact PySem.W.gt_data r1 r2 c1 c2 (by have := h.un; omega) ⟨.bl _, H, I, rfl, q⟩
theorem o_le (h : g.has X) : OpR X (compareOp .LtE) (rCmp g.K al2 fun a b => !dataLt b a) := by
  intro pins s σ H x y v u Q I rx ry ⟨dx, dy, hx, hy, ⟨c1, c2, c3⟩, q⟩
  obtain ⟨as, r1⟩ := DR.reads I dx x v (by rw [h.K]; exact hx) rx
  obtain ⟨bs, r2⟩ := DR.reads I dy y u (by rw [h.K]; exact hy) ry
  exact PySem.W.le_data r1 r2 c1 c2 (by have := h.un; omega) ⟨.bl _, H, I, rfl, q⟩
theorem o_ge (h : g.has X) : OpR X (compareOp .GtE) (rCmp g.K al2 fun a b => !dataLt a b) := by
  intro pins s σ H x y v u Q I rx ry ⟨dx, dy, hx, hy, ⟨c1, c2, c3⟩, q⟩
  obtain ⟨as, r1⟩ := DR.reads I dx x v (by rw [h.K]; exact hx) rx
  obtain ⟨bs, r2⟩ := DR.reads I dy y u (by rw [h.K]; exact hy) ry
  exact PySem.W.ge_data r1 r2 c1 c2 (by have := h.un; omega) ⟨.bl _, H, I, rfl, q⟩
/-- is None, is not None -/
theorem o_is (h : g.has X) : OpR X (compareOp .Is) (rCmp g.K (fun _ b => b = .none) fun a _ => match a with | .none => true | _ => false) := by
  intro pins s σ H x y v u Q I rx ry ⟨dx, dy, hx, hy, c, q⟩
  subst c
  cases hy
  refine op_isN pins s σ H x _ v u Q I rx ry ⟨rfl, ?_⟩
  cases hx <;> exact q
theorem o_isNot (h : g.has X) : OpR X (compareOp .IsNot) (rCmp g.K (fun _ b => b = .none) fun a _ => match a with | .none => false | _ => true) := by
  intro pins s σ H x y v u Q I rx ry ⟨dx, dy, hx, hy, c, q⟩
  subst c
  cases hy
  refine op_notN pins s σ H x _ v u Q I rx ry ⟨rfl, ?_⟩
  cases hx <;> exact q
/-! ### in -/
def strIn (a b : Str) : Bool := !(Builtin.Str.occurrences b a 0 b.length 1).isEmpty
def inD (neg : Bool) (dx dy : PyData) (Q : PyData → Prop) : Prop := match dy with
  | .list xs => PyData.plainAll xs = true ∧ dx.plain = true ∧ min (PyData.depthAll xs) dx.depth ≤ 60 ∧ Q (.bool (neg != xs.any fun y => PyData.eqv y dx))
  | .tuple xs => PyData.plainAll xs = true ∧ dx.plain = true ∧ min (PyData.depthAll xs) dx.depth ≤ 60 ∧ Q (.bool (neg != xs.any fun y => PyData.eqv y dx))
  | .str b => (match dx with
    | .str a => Q (.bool (neg != strIn a b))
    | _ => False)
  | .dict kvs => (∃ k, dx = kD k) ∧ Q (.bool (neg != kvs.any fun p => PyData.eqv p.1 dx))
  | _ => False
def rInA (K : PySem.W.Frag) (neg : Bool) : R2 := fun x y H Q => ∃ dx dy, DR K H x dx ∧ DR K H y dy ∧ inD neg dx dy fun d => ∃ b, d = .bool b ∧ Q (.bl b) H
theorem inD_mono {neg : Bool} {dx dy : PyData} {Q Q' : PyData → Prop} (h : inD neg dx dy Q) (k : ∀ b, Q (.bool b) → Q' (.bool b)) : inD neg dx dy Q' := by
  cases dy with
  | list xs => exact ⟨h.1, h.2.1, h.2.2.1, k _ h.2.2.2⟩
  | tuple xs => exact ⟨h.1, h.2.1, h.2.2.1, k _ h.2.2.2⟩
  | str b => cases dx with
    | str a => exact k _ h
    | _ => exact h.elim
  | dict kvs => exact ⟨h.1, k _ h.2⟩
  | _ => exact h.elim
theorem lo_in {K : PySem.W.Frag} {neg : Bool} : LO2 K (rInA K neg) (inD neg) := fun S H x y dx dy Q R hS hx hy q k =>
  ⟨dx, dy, DR.mono hid_same _ _ hx, DR.mono hid_same _ _ hy, inD_mono q fun b q => ⟨b, rfl, k _ H _ (Same.refl _) (.bl _) q⟩⟩
theorem kD_inj {a b : Key} (h : kD a = kD b) : a = b := by
  cases a <;> cases b <;> simp [kD] at h <;> simp [h]
theorem kD_V {K : PySem.W.Frag} {H : Hp} {v : V} {k : Key} (h : DR K H v (kD k)) : v = kV k := by
  cases k with
  | inl i => cases h; rfl
  | inr x => cases h; rfl
theorem eqv_kD (a b : Key) : PyData.eqv (kD a) (kD b) = decide (a = b) := by
  cases a with
  | inl i => cases b with
    | inl j => simp only [kD, PyData.eqv, PyData.eqv.eq_def]; rw [key_ll]
    | inr y => simp [kD, PyData.eqv]
  | inr x => cases b with
    | inl j => simp [kD, PyData.eqv]
    | inr y => simp only [kD, PyData.eqv]; rw [key_rr]; try simp [Bool.beq_eq_decide_eq]
theorem valV_has {κ : Type} [DecidableEq κ] (k : κ) : ∀ kvs : List (κ × V), (valV kvs k).isSome = kvs.any fun p => decide (p.1 = k)
  | kvs => (valV_any k kvs).symm
theorem DRk.any {K : PySem.W.Frag} {H : Hp} {k : Key} : ∀ {kvs : List (Key × V)} {ds : List (PyData × PyData)}, DRk K H kvs ds → (ds.any fun p => PyData.eqv p.1 (kD k)) = (valV kvs k).isSome
  | _, _, .nil => rfl
  | _, _, .cons (k := a) h t => by
    rw [valV_has, List.any_cons, List.any_cons, ← valV_has, ← DRk.any t, eqv_kD]
theorem o_in (h : g.has X) : OpR X (compareOp .In) (rInA g.K false) := by
  intro pins s σ H x y v u Q I rx ry ⟨dx, dy, hx, hy, q⟩
  have hu := h.un
  obtain ⟨as, r1⟩ := DR.reads I dx x v (by rw [h.K]; exact hx) rx
  obtain ⟨bs, r2⟩ := DR.reads I dy y u (by rw [h.K]; exact hy) ry
  cases dy with
  | list xs =>
    obtain ⟨c1, c2, c3, b, e, q⟩ := q
    cases e
    exact PySem.SeqAt.in_list_data r2 r1 c1 c2 (by omega) ⟨.bl _, H, I, rfl, by simpa using q⟩
  | tuple xs =>
    obtain ⟨c1, c2, c3, b, e, q⟩ := q
    cases e
    exact PySem.SeqAt.in_tuple_data r2 r1 c1 c2 (by omega) ⟨.bl _, H, I, rfl, by simpa using q⟩
  | str b =>
    cases dx with
    | str a =>
      obtain ⟨c, e, q⟩ := q
      cases e
      cases hx; cases hy
      exact op_in_str pins s σ H _ _ v u Q I rx ry ⟨a, b, rfl, rfl, by simpa [strIn] using q⟩
    | _ => exact q.elim
  | dict ds =>
    obtain ⟨⟨k, rfl⟩, c, e, q⟩ := q
    cases e
    cases hy with
    | dct h1 h2 =>
      cases ry
      have e2 := kD_V hx
      subst e2
      refine d_in (by omega) I (DGet.k h1) rx fun s' I' => ⟨.bl _, H, I', rfl, ?_⟩
      rw [← h2.any]
      simpa using q
  | _ => exact q.elim
theorem o_notIn (h : g.has X) : OpR X (compareOp .NotIn) (rInA g.K true) := by
  intro pins s σ H x y v u Q I rx ry ⟨dx, dy, hx, hy, q⟩
  have hu := h.un
  obtain ⟨as, r1⟩ := DR.reads I dx x v (by rw [h.K]; exact hx) rx
  obtain ⟨bs, r2⟩ := DR.reads I dy y u (by rw [h.K]; exact hy) ry
  cases dy with
  | list xs =>
    obtain ⟨c1, c2, c3, b, e, q⟩ := q
    cases e
    exact PySem.SeqAt.notIn_list_data r2 r1 c1 c2 (by omega) ⟨.bl _, H, I, rfl, by simpa using q⟩
  | tuple xs =>
    obtain ⟨c1, c2, c3, b, e, q⟩ := q
    cases e
    exact PySem.SeqAt.notIn_tuple_data r2 r1 c1 c2 (by omega) ⟨.bl _, H, I, rfl, by simpa using q⟩
  | str b =>
    cases dx with
    | str a =>
      obtain ⟨c, e, q⟩ := q
      cases e
      cases hx; cases hy
      exact L2.op_notin_str pins s σ H _ _ v u Q I rx ry ⟨a, b, rfl, rfl, by simpa [strIn] using q⟩
    | _ => exact q.elim
  | dict ds =>
    obtain ⟨⟨k, rfl⟩, c, e, q⟩ := q
    cases e
    cases hy with
    | dct h1 h2 =>
      cases ry
      have e2 := kD_V hx
      subst e2
      refine d_notIn (by omega) I (DGet.k h1) rx fun s' I' => ⟨.bl _, H, I', rfl, ?_⟩
      rw [← h2.any]
      simpa using q
  | _ => exact q.elim
end
end PD
set_option Elab.async false
set_option linter.all false
set_option maxRecDepth 100000
set_option maxHeartbeats 1000000
namespace PD
open PySem L2
open PySem.W (alike dataLt)
section
variable {g : Sg} {X : Cx}
/-! ### arithmetic -/
def mulOk (i j : Int) : Prop := CMul i j ∨ CMulW i j
def addD (dx dy : PyData) (Q : PyData → Prop) : Prop := match dx, dy with
  | .int i, .int j => Q (.int (i + j))
  | .str a, .str b => a.length + b.length ≤ sizeLine ∧ Q (.str (a ++ b))
  | .list a, .list b => a.length + b.length ≤ sizeLine ∧ Q (.list (a ++ b))
  | .tuple a, .tuple b => a.length + b.length ≤ sizeLine ∧ Q (.tuple (a ++ b))
  | _, _ => False
def subD (dx dy : PyData) (Q : PyData → Prop) : Prop := match dx, dy with
  | .int i, .int j => Q (.int (i - j))
  | _, _ => False
def mulD (dx dy : PyData) (Q : PyData → Prop) : Prop := match dx, dy with
  | .int i, .int j => mulOk i j ∧ Q (.int (i * j))
  | .list a, .int k => -(2 ^ 63) ≤ k ∧ k < 2 ^ 63 ∧ a.length * k.toNat ≤ sizeLine ∧ Q (.list (List.replicate k.toNat a).flatten)
  | _, _ => False
def divD (dx dy : PyData) (Q : PyData → Prop) : Prop := match dx, dy with
  | .int i, .int j => CDivW i j ∧ Q (.int (i / j))
  | _, _ => False
def modD (dx dy : PyData) (Q : PyData → Prop) : Prop := match dx, dy with
  | .int i, .int j => 0 < j ∧ Q (.int (i % j))
  | _, _ => False
def powD (dx dy : PyData) (Q : PyData → Prop) : Prop := match dx, dy with
  | .int i, .int j => CPow i j ∧ Q (.int (i ^ j.toNat))
  | _, _ => False
def rAddA (K : PySem.W.Frag) : R2 := fun x y H Q => (rI0 fun i j => .int (i + j)) x y H Q ∨ (∃ i j, x = .str i ∧ y = .str j ∧ i.length + j.length ≤ sizeLine ∧ Q (.str (i ++ j)) H) ∨ rCat x y H Q ∨ rCatA K x y H Q
theorem o_add (h : g.has X) : OpR X (binaryOp .Add) (rAddA g.K) := by
  rw [← h.K]
  exact OpR.or op_add (OpR.or op_add_str (OpR.or op_cat op_catA))
theorem sqt_mono {K : PySem.W.Frag} {S : Addr → Prop} {H : Hp} {a : Addr} {xs : List V} (h : SqT K (hid S H) a xs) : SqT K H a xs := Same.sqt hid_same h
theorem lo_add {K : PySem.W.Frag} : LO2 K (rAddA K) addD := by
  intro S H x y dx dy Q R hS hx hy q k
  cases dx <;> cases dy <;> first | exact q.elim | skip
  · cases hx; cases hy; exact .inl ⟨_, _, rfl, rfl, k _ H _ (Same.refl _) (.int _) q⟩
  · cases hx; cases hy; exact .inr (.inl ⟨_, _, rfl, rfl, q.1, k _ H _ (Same.refl _) (.str _) q.2⟩)
  · cases hx with
    | lst h1 h2 => cases hy with
      | lst h3 h4 =>
        refine .inr (.inr (.inl ⟨_, _, _, _, rfl, rfl, (hid_some h1).2, (hid_some h3).2, by rw [h2.length, h4.length]; exact q.1, fun p hp => k _ _ _ (same_new hp) ?_ q.2⟩))
        exact .lst (free_hid hS hp) (DRs.mono (same_hid (same_new hp)) _ _ (h2.append h4))
  · cases hx with
    | tup h1 h2 => cases hy with
      | tup h3 h4 =>
        refine .inr (.inr (.inr ⟨_, _, _, _, rfl, rfl, sqt_mono h1, sqt_mono h3, by rw [h2.length, h4.length]; exact q.1, fun e => ?_, fun _ e => ?_, fun _ _ p hp => k _ _ _ (same_new hp) ?_ q.2⟩))
        · subst e
          cases h2
          exact k _ H _ (Same.refl _) (.tup h3 h4) q.2
        · subst e
          cases h4
          refine k _ H _ (Same.refl _) (.tup h1 ?_) q.2
          rw [List.append_nil]; exact h2
        · exact .tup (SqT.of (free_hid hS hp)) (DRs.mono (same_hid (same_new hp)) _ _ (h2.append h4))
def rSubA : R2 := rI0 fun i j => .int (i - j)
theorem o_sub (h : g.has X) : OpR X (binaryOp .Sub) rSubA := op_sub
theorem lo_sub {K : PySem.W.Frag} : LO2 K rSubA subD := by
  intro S H x y dx dy Q R hS hx hy q k
  cases dx <;> cases dy <;> first | exact q.elim | skip
  cases hx; cases hy; exact ⟨_, _, rfl, rfl, k _ H _ (Same.refl _) (.int _) q⟩
def rMulA : R2 := fun x y H Q => (rI CMul fun i j => .int (i * j)) x y H Q ∨ (rI CMulW fun i j => .int (i * j)) x y H Q ∨ rRep x y H Q
theorem o_mul (h : g.has X) : OpR X (binaryOp .Mult) rMulA := OpR.or op_mul (OpR.or op_mulW op_rep)
theorem DRs.rep {K : PySem.W.Frag} {H : Hp} {xs : List V} {us : List PyData} (h : DRs K H xs us) : ∀ k : Nat, DRs K H (List.replicate k xs).flatten (List.replicate k us).flatten
  | 0 => .nil
  | k + 1 => by
    rw [List.replicate_succ, List.replicate_succ, List.flatten_cons, List.flatten_cons]
    exact h.append (DRs.rep h k)
theorem lo_mul {K : PySem.W.Frag} : LO2 K rMulA mulD := by
  intro S H x y dx dy Q R hS hx hy q k
  cases dx <;> cases dy <;> first | exact q.elim | skip
  · cases hx; cases hy
    rcases q.1 with c | c
    · exact .inl ⟨_, _, rfl, rfl, c, k _ H _ (Same.refl _) (.int _) q.2⟩
    · exact .inr (.inl ⟨_, _, rfl, rfl, c, k _ H _ (Same.refl _) (.int _) q.2⟩)
  · cases hy
    cases hx with
    | lst h1 h2 =>
      refine .inr (.inr ⟨_, _, _, rfl, rfl, (hid_some h1).2, q.1, q.2.1, by rw [h2.length]; exact q.2.2.1, fun p hp => k _ _ _ (same_new hp) ?_ q.2.2.2⟩)
      exact .lst (free_hid hS hp) (DRs.mono (same_hid (same_new hp)) _ _ (h2.rep _))
def rDivA : R2 := rI CDivW fun i j => .int (i / j)
theorem o_div (h : g.has X) : OpR X (binaryOp .FloorDiv) rDivA := op_fdivW
theorem lo_div {K : PySem.W.Frag} : LO2 K rDivA divD := by
  intro S H x y dx dy Q R hS hx hy q k
  cases dx <;> cases dy <;> first | exact q.elim | skip
  cases hx; cases hy; exact ⟨_, _, rfl, rfl, q.1, k _ H _ (Same.refl _) (.int _) q.2⟩
def rModA : R2 := rI (fun _ j => 0 < j) fun i j => .int (i % j)
theorem o_mod (h : g.has X) : OpR X (binaryOp .Mod) rModA := op_mod
theorem lo_mod {K : PySem.W.Frag} : LO2 K rModA modD := by
  intro S H x y dx dy Q R hS hx hy q k
  cases dx <;> cases dy <;> first | exact q.elim | skip
  cases hx; cases hy; exact ⟨_, _, rfl, rfl, q.1, k _ H _ (Same.refl _) (.int _) q.2⟩
def rPowA : R2 := rI CPow fun i j => .int (i ^ j.toNat)
theorem o_pow (h : g.has X) : OpR X (binaryOp .Pow) rPowA := op_pow
theorem lo_pow {K : PySem.W.Frag} : LO2 K rPowA powD := by
  intro S H x y dx dy Q R hS hx hy q k
  cases dx <;> cases dy <;> first | exact q.elim | skip
  cases hx; cases hy; exact ⟨_, _, rfl, rfl, q.1, k _ H _ (Same.refl _) (.int _) q.2⟩
def negD (dx : PyData) (Q : PyData → Prop) : Prop := match dx with
  | .int i => Q (.int (-i))
  | _ => False
def rNegA : V → Hp → VK → Prop := rU fun i => .int (-i)
theorem o_neg (h : g.has X) : UnR X (unaryOp .USub) rNegA := un_neg
theorem lo_neg {K : PySem.W.Frag} : LO1 K rNegA negD := by
  intro S H x dx Q R hS hx q k
  cases dx <;> first | exact q.elim | skip
  cases hx; exact ⟨_, rfl, k _ H _ (Same.refl _) (.int _) q⟩
/-! ### subscripts -/
def keyAt (kvs : List (PyData × PyData)) (d : PyData) : Option PyData := (kvs.find? fun p => PyData.eqv p.1 d).map (·.2)
def ixD (dx dy : PyData) (Q : PyData → Prop) : Prop := match dx, dy with
  | .list xs, .int i => ∃ d, atI xs i = some d ∧ Q d
  | .tuple xs, .int i => ∃ d, atI xs i = some d ∧ Q d
  | .str z, .int i => z.length ≤ sizeLine ∧ ∃ c, atI z.cps.toList i = some c ∧ Q (.str ⟨#[c]⟩)
  | .dict kvs, d => (∃ k, d = kD k) ∧ ∃ v, keyAt kvs d = some v ∧ Q v
  | _, _ => False
def rIxK : R2 := fun x y H Q => ∃ a v kvs k, x = .ref a ∧ y = kV k ∧ H a = some (.dK kvs) ∧ valV kvs k = some v ∧ Q v H
theorem ix_dict {lv : Nat} (hr : Room lv X.A) : IxR X rIxK := by
  intro value slice pins s σ H x y v u Q I rx ry ⟨a, w, kvs, k, ex, ey, h1, h2, q⟩ hs
  subst ex ey
  cases rx
  have gg : DGet H a (kV k) (some w) := by rw [← h2]; exact DGet.k h1
  exact PyProof.Rows.tail_any (dict_typeIs I gg) PySem.F.slot_dict_getitem.lookup (d_getItem (by have := hr.un; omega) I gg ry fun w' s3 I3 rw' => ⟨w, H, I3, rw', q⟩) hs
def rIxA (K : PySem.W.Frag) : R2 := fun x y H Q => rIx K x y H Q ∨ rIxK x y H Q
theorem o_ix (h : g.has X) : IxR X (rIxA g.K) := by
  rw [← h.K]
  exact IxR.or ix_seq (ix_dict h.room)
theorem DRs.atI {K : PySem.W.Frag} {H : Hp} {xs : List V} {ds : List PyData} {i : Int} {d : PyData} (h : DRs K H xs ds) (e : L2.atI ds i = some d) : ∃ v, L2.atI xs i = some v ∧ DR K H v d := by
  unfold L2.atI at e ⊢
  rw [h.length]
  cases q : ixN ds.length i with
  | none => rw [q] at e; cases e
  | some j =>
    rw [q] at e
    obtain ⟨v, h1, h2⟩ := h.get (i := j) e
    exact ⟨v, h1, h2⟩
theorem DRk.at {K : PySem.W.Frag} {H : Hp} {k : Key} {d : PyData} : ∀ {kvs : List (Key × V)} {ds : List (PyData × PyData)}, DRk K H kvs ds → keyAt ds (kD k) = some d → ∃ v, valV kvs k = some v ∧ DR K H v d
  | _, _, .nil, e => by cases e
  | _, _, .cons (k := a) (v := v) h t, e => by
    unfold keyAt at e
    by_cases q : a = k
    · subst q
      rw [List.find?_cons_of_pos (by simp [eqv_kD])] at e
      cases e
      exact ⟨v, valV_pos rfl, h⟩
    · rw [List.find?_cons_of_neg (by simp [eqv_kD, q])] at e
      obtain ⟨w, h1, h2⟩ := DRk.at t e
      exact ⟨w, by rw [valV_neg q]; exact h1, h2⟩
theorem lo_ix {K : PySem.W.Frag} : LO2 K (rIxA K) ixD := by
  intro S H x y dx dy Q R hS hx hy q k
  cases dx with
  | list xs =>
    cases dy <;> first | exact q.elim | skip
    obtain ⟨d, e, q⟩ := q
    cases hy
    cases hx with
    | lst h1 h2 =>
      obtain ⟨v, h3, h4⟩ := h2.atI e
      exact .inl (.inl ⟨_, _, _, v, rfl, rfl, SqL.of (hid_some h1).2, h3, k v H _ (Same.refl _) h4 q⟩)
  | tuple xs =>
    cases dy <;> first | exact q.elim | skip
    obtain ⟨d, e, q⟩ := q
    cases hy
    cases hx with
    | tup h1 h2 =>
      obtain ⟨v, h3, h4⟩ := h2.atI e
      exact .inl (.inr (.inl ⟨_, _, _, v, rfl, rfl, sqt_mono h1, h3, k v H _ (Same.refl _) h4 q⟩))
  | str z =>
    cases dy <;> first | exact q.elim | skip
    obtain ⟨h0, c, e, q⟩ := q
    cases hy
    cases hx
    exact .inl (.inr (.inr ⟨_, _, c, rfl, rfl, h0, e, k _ H _ (Same.refl _) (.str _) q⟩))
  | dict kvs =>
    obtain ⟨⟨kk, rfl⟩, v, e, q⟩ := (show (∃ k, dy = kD k) ∧ ∃ v, keyAt kvs dy = some v ∧ Q v from by cases dy <;> exact q)
    cases hx with
    | dct h1 h2 =>
      obtain ⟨w, h3, h4⟩ := h2.at e
      exact .inr ⟨_, w, _, kk, rfl, kD_V hy, (hid_some h1).2, h3, k w H _ (Same.refl _) h4 q⟩
  | _ => exact q.elim
theorem de_ix {a b : Expr} {ta tb : TED} {pos : Pos} (ha : DE g a ta) (hb : DE g b tb) (hs : PlainIx b := by intro _ _; rfl) : DE g (.Subscript a b pos) (dBin ixD ta tb) :=
  let ⟨_, a1, a2⟩ := ha.ex; let ⟨_, b1, b2⟩ := hb.ex; ⟨_, fun X h => pe_ix (o_ix h) (a1 X h) (b1 X h) hs, le_bin lo_ix a2 b2⟩
/-! ### slices -/
structure DO (g : Sg) (e : Option Expr) (t : DS → (Option Int → DS → Prop) → Prop) : Prop where
  ex : ∃ te, (∀ X, g.has X → PO X e te) ∧ ∀ (F : Fr) (σ : St) (H : Hp) (s : DS) (vs : List V) (ds : List DV) (Q : Option Int → DS → Prop) (R : Option Int → Hp → Prop), Rel g.K F σ H s vs ds → t s Q → (∀ b H' s', Rel g.K F σ H' s' vs ds → Q b s' → R b H') → te σ H R
def dNoPart : DS → (Option Int → DS → Prop) → Prop := fun s Q => Q none s
def dPart (t : TED) : DS → (Option Int → DS → Prop) → Prop := fun s Q => t s fun x s1 => intD x fun i => Q (some i) s1
theorem do_none : DO g none dNoPart := ⟨_, fun _ _ => po_none, fun F σ H s vs ds Q R r q k => k none H s r q⟩
theorem do_some {e : Expr} {t : TED} (h : DE g e t) : DO g (some e) (dPart t) := by
  obtain ⟨_, a1, a2⟩ := h.ex
  refine ⟨_, fun X hX => po_some (a1 X hX), fun F σ H s vs ds Q R r q k => a2 F σ H s vs ds _ _ r q fun v H' d s' r' q' => ?_⟩
  have z : ∃ M, RT g.K F (SM F M) H' v d := let ⟨M, r⟩ := r'; ⟨M, r.top⟩
  obtain ⟨M, z⟩ := z
  obtain ⟨i, rfl, rfl, h3⟩ := intD_ok z q'
  exact ⟨i, rfl, k _ H' s' r'.pop h3⟩
def cutD {α : Type} (xs : List α) (lo hi : Option Int) : List α := (xs.drop (HT.sIx xs.length 0 lo)).take (HT.sIx xs.length xs.length hi - HT.sIx xs.length 0 lo)
def sliceD (d : PyData) (lo hi : Option Int) (Q : PyData → Prop) : Prop := match d with
  | .list xs => Q (.list (cutD xs lo hi))
  | .tuple xs => Q (.tuple (cutD xs lo hi))
  | .str z => z.length ≤ sizeLine ∧ Q (.str ⟨(cutD z.cps.toList lo hi).toArray⟩)
  | _ => False
def rSlice (K : PySem.W.Frag) : V → Option Int → Option Int → Hp → VK → Prop := fun x lo hi H Q => rSlL K x lo hi H Q ∨ rSlA K x lo hi H Q ∨ rSlS x lo hi H Q
theorem o_slice (h : g.has X) : SlR X (rSlice g.K) := by
  rw [← h.K]
  exact SlR.or sl_list (SlR.or sl_tupA sl_str)
theorem DRs.cut {K : PySem.W.Frag} {H : Hp} {xs : List V} {ds : List PyData} (h : DRs K H xs ds) (lo hi : Option Int) : DRs K H (cutV xs lo hi) (cutD ds lo hi) := by
  unfold cutV cutD
  rw [h.length]
  exact (h.drop _).take _
theorem cutS_cutD (z : Str) (lo hi : Option Int) : cutS z lo hi = ⟨(cutD z.cps.toList lo hi).toArray⟩ := by
  unfold cutS cutD
  have e : z.cps.toList.length = z.length := by simp [Str.length]
  rw [e]
def dSlice (t : TED) (tl th : DS → (Option Int → DS → Prop) → Prop) : TED := fun s Q => t s fun x s1 => tl s1 fun lo s2 => th s2 fun hi s3 => isD x fun d => sliceD d lo hi fun d' => Q (.d d') s3
theorem de_slice {e : Expr} {lo hi : Option Expr} {t : TED} {tl th : DS → (Option Int → DS → Prop) → Prop} {pos p2 : Pos} (he : DE g e t) (hl : DO g lo tl) (hh : DO g hi th) : DE g (.Subscript e (.Slice lo hi none p2) pos) (dSlice t tl th) := by
  obtain ⟨_, a1, a2⟩ := he.ex
  obtain ⟨_, b1, b2⟩ := hl.ex
  obtain ⟨_, c1, c2⟩ := hh.ex
  refine ⟨_, fun X h => pe_slice (o_slice h) (a1 X h) (b1 X h) (c1 X h), ?_⟩
  intro F σ H s vs ds Q R r q k
  refine a2 F σ H s vs ds _ _ r q fun v H1 d s1 r1 q1 => ?_
  refine b2 F σ H1 s1 _ _ _ _ r1 q1 fun lo H2 s2 r2 q2 => ?_
  refine c2 F σ H2 s2 _ _ _ _ r2 q2 fun hi H3 s3 r3 q3 => ?_
  obtain ⟨x, rfl, q4⟩ := isD_ok q3
  obtain ⟨M, r3⟩ := r3
  have hx : DR g.K (hid (SM F M) H3) v x := r3.top
  have rp := (show Rel g.K F σ H3 s3 (v :: vs) (.d x :: ds) from ⟨M, r3⟩).pop
  cases r3.tmp with
  | cons _ tmp =>
  have fin : ∀ v' H' d', Same H3 H' → DR g.K (hid (SM F M) H') v' d' → Q (.d d') s3 → R v' H' := fun v' H' d' e1 e2 q => k v' H' _ s3 ⟨M, ((r3.tmps tmp).grow e1).push (d := .d d') e2⟩ q
  cases x with
  | list xs =>
    cases hx with
    | lst h1 h2 => exact .inl ⟨_, _, rfl, SqL.of (hid_some h1).2, fun p hp => fin _ _ _ (same_new hp) (.lst (free_hid r3.hS hp) (DRs.mono (same_hid (same_new hp)) _ _ (h2.cut lo hi))) q4⟩
  | tuple xs =>
    cases hx with
    | @tup a ys _ h1 h2 =>
      refine .inr (.inl ⟨_, _, rfl, sqt_mono h1, fun e => ?_, fun _ p hp => fin _ _ _ (same_new hp) (.tup (SqT.of (free_hid r3.hS hp)) (DRs.mono (same_hid (same_new hp)) _ _ (h2.cut lo hi))) q4⟩)
      refine fin _ H3 _ (Same.refl _) (.tup h1 ?_) q4
      have e2 := h2.cut lo hi
      have : cutV ys lo hi = ys := by
        unfold cutV
        rw [e.1, e.2]
        simp
      rw [this] at e2
      exact e2
  | str z =>
    cases hx
    exact .inr (.inr ⟨_, rfl, q4.1, fin _ H3 _ (Same.refl _) (by rw [cutS_cutD]; exact .str _) q4.2⟩)
  | _ => exact q4.elim
/-- xs[::-1] -/
def revD (d : PyData) (Q : PyData → Prop) : Prop := match d with
  | .list xs => Q (.list xs.reverse)
  | _ => False
theorem de_rev {e : Expr} {t : TED} {k : Nat} {p1 p2 p3 pos : Pos} (he : DE g e t) : DE g (.Subscript e (.Slice none none (some (.UnaryOp .USub (.Constant (.int 1) k p1) p2)) p3) pos) (dUn revD t) := by
  obtain ⟨_, a1, a2⟩ := he.ex
  refine ⟨tRevL g.K _, fun X h => by rw [← h.K]; exact pe_revL (a1 X h), ?_⟩
  refine le_un (r := fun x H1 Q => ∃ a xs, x = .ref a ∧ SqL g.K H1 a xs ∧ ∀ p, H1 p = none → Q (.ref p) (upd H1 p (.lst xs.reverse))) ?_ a2
  intro S H x dx Q R hS hx q k
  cases dx <;> first | exact q.elim | skip
  cases hx with
  | lst h1 h2 => exact ⟨_, _, rfl, SqL.of (hid_some h1).2, fun p hp => k _ _ _ (same_new hp) (.lst (free_hid hS hp) (DRs.mono (same_hid (same_new hp)) _ _ h2.reverse)) q⟩
end
end PD
set_option Elab.async false
set_option linter.all false
set_option maxRecDepth 100000
set_option maxHeartbeats 1000000
namespace PD
open PySem L2
open PySem.W (alike dataLt)
section
variable {g : Sg} {X : Cx}
/-! ### isinstance -/
def tyN : PyData → String
  | .none => "NoneType"
  | .bool _ => "bool"
  | .int _ => "int"
  | .str _ => "str"
  | .list _ => "list"
  | .tuple _ => "tuple"
  | .dict _ => "dict"
theorem DR.ty {K : PySem.W.Frag} {S : Addr → Prop} {H : Hp} {v : V} {d : PyData} (h : DR K (hid S H) v d) : TyX K H v (.type (tyN d)) := by
  cases h with
  | non => exact .base .non
  | bl b => exact .base (.bl b)
  | int i => exact .base (.int i)
  | str x => exact .base (.str x)
  | lst h1 h2 => exact .base (.lst (hid_some h1).2)
  | tup h1 h2 =>
    rcases h1 with (h | ⟨o, h⟩) | ⟨o, its, n, h1, h2, _⟩
    · exact .base (.tup (hid_some h).2)
    · exact .fTuple (hid_some h).2
    · exact .kTuple h1 h2
  | dct h1 h2 => exact .base (.dK (hid_some h1).2)
/-- one class T; b: what kitB says of each kind -/
def isT (T : String) (d : PyData) : Bool := (kitB (tyN d) T).getD false
def okT (T : String) : Bool := ["NoneType", "bool", "int", "str", "list", "tuple", "dict"].all fun a => (kitB a T).isSome
theorem isT_ok {T : String} (h : okT T = true) (d : PyData) {K : PySem.W.Frag} : PySem.W.kitOne K (.type (tyN d)) (.type T) = some (isT T d) := by
  refine kit_ty ?_
  unfold okT at h
  rw [List.all_eq_true] at h
  have : (kitB (tyN d) T).isSome = true := by cases d <;> exact h _ (by simp [tyN])
  unfold isT
  cases e : kitB (tyN d) T with
  | none => rw [e] at this; cases this
  | some b => rfl
def dIsI (f : PyData → Bool) (t : TED) : TED := fun s Q => t s fun x s1 => isD x fun d => Q (.d (.bool (f d))) s1
theorem de_isI {T : String} {nT : Str} {e : Expr} {t : TED} {p p2 pos : Pos} (he : DE g e t) (hm : g.mg "isinstance" = none) (hT : g.mg nT = none) (hv : bootBuiltins nT = some (.type T)) (ok : okT T = true)
    (hg : g.sc.names.lookup ("isinstance" : Str) = some .globalImplicit := by rfl) (hgT : g.sc.names.lookup nT = some .globalImplicit := by rfl) (hn : nT ≠ "__name__" := by decide) (hdb : (nT == ("__debug__" : Str)) = false := by decide)
    (hs : ∀ X : Cx, starEach (e :: [.Name nT p2]) X.env = (false, eval e X.env) :: starEach [.Name nT p2] X.env := by intro _; rfl) : DE g (.Call (.Name "isinstance" p) [e, .Name nT p2] [] pos) (dIsI (isT T) t) := by
  obtain ⟨te, a1, a2⟩ := he.ex
  refine ⟨fun σ H Q => tCons te (tCons (tC (.ty T)) tNil) σ H fun vs H1 => rIsi g.K vs H1 Q, fun X h => ?_, ?_⟩
  · have z := pe_callB (p := p) (pos := pos) (call_isi (X := X)) (x := "isinstance") (by show X.env.scope.names.lookup _ = _; rw [h.sc]; exact hg) (by rw [h.mg]; exact hm) (by decide +kernel) (pa_cons (a1 X h) (pa_cons (pe_bltn (pos := p2) (v := .ty T) (by show X.env.scope.names.lookup _ = _; rw [h.sc]; exact hgT) (by rw [h.mg]; exact hT) hv rfl hn hdb) pa_nil (by rfl)) (hs X)) (by decide) (by decide) (hs X) (by rfl)
    rw [h.K] at z
    exact z
  · intro F σ H s vs ds Q R r q k
    refine a2 F σ H s vs ds _ _ r q fun v H1 d s1 r1 q1 => ?_
    obtain ⟨x, rfl, q2⟩ := isD_ok q1
    have hx : ∃ M, DR g.K (hid (SM F M) H1) v x := let ⟨M, r⟩ := r1; ⟨M, r.top⟩
    obtain ⟨M, hx⟩ := hx
    exact ⟨v, .ty T, _, _, _, rfl, .ty T, hx.ty, isT_ok ok x, k _ H1 _ s1 (r1.pop.lit fun _ => .bl _) q2⟩
/-- two classes -/
theorem de_isI2 {T U : String} {nT nU : Str} {e : Expr} {t : TED} {p p2 p3 p4 pos : Pos} {kk : Nat} (he : DE g e t) (hm : g.mg "isinstance" = none) (hT : g.mg nT = none) (hv : bootBuiltins nT = some (.type T)) (ok : okT T = true) (hU : g.mg nU = none) (hvU : bootBuiltins nU = some (.type U)) (okU : okT U = true)
    (hg : g.sc.names.lookup ("isinstance" : Str) = some .globalImplicit := by rfl) (hgT : g.sc.names.lookup nT = some .globalImplicit := by rfl) (hgU : g.sc.names.lookup nU = some .globalImplicit := by rfl) (hn : nT ≠ "__name__" := by decide) (hdb : (nT == ("__debug__" : Str)) = false := by decide) (hnU : nU ≠ "__name__" := by decide) (hdbU : (nU == ("__debug__" : Str)) = false := by decide)
    (hs : ∀ X : Cx, starEach (e :: [.Tuple [.Name nT p2, .Name nU p3] kk p4]) X.env = (false, eval e X.env) :: starEach [.Tuple [.Name nT p2, .Name nU p3] kk p4] X.env := by intro _; rfl) :
    DE g (.Call (.Name "isinstance" p) [e, .Tuple [.Name nT p2, .Name nU p3] kk p4] [] pos) (dIsI (fun d => isT T d || isT U d) t) := by
  obtain ⟨te, a1, a2⟩ := he.ex
  refine ⟨fun σ H Q => tCons te (tCons (tTup (tCons (tC (.ty T)) (tCons (tC (.ty U)) tNil))) tNil) σ H fun vs H1 => rIsiT g.K vs H1 Q, fun X h => ?_, ?_⟩
  · have gT : PE X (.Name nT p2) (tC (.ty T)) := pe_bltn (by show X.env.scope.names.lookup _ = _; rw [h.sc]; exact hgT) (by rw [h.mg]; exact hT) hv rfl hn hdb
    have gU : PE X (.Name nU p3) (tC (.ty U)) := pe_bltn (by show X.env.scope.names.lookup _ = _; rw [h.sc]; exact hgU) (by rw [h.mg]; exact hU) hvU rfl hnU hdbU
    have z := pe_callB (p := p) (pos := pos) (call_isiT (X := X)) (x := "isinstance") (by show X.env.scope.names.lookup _ = _; rw [h.sc]; exact hg) (by rw [h.mg]; exact hm) (by decide +kernel) (pa_cons (a1 X h) (pa_cons (pe_tup (x1 := kk) (pos := p4) (pa_cons gT (pa_cons gU pa_nil (by rfl)) (by rfl))) pa_nil (by rfl)) (hs X)) (by decide) (by decide) (hs X) (by rfl)
    rw [h.K] at z
    exact z
  · intro F σ H s vs ds Q R r q k
    refine a2 F σ H s vs ds _ _ r q fun v H1 d s1 r1 q1 => ?_
    obtain ⟨x, rfl, q2⟩ := isD_ok q1
    refine ⟨by show 2 ≤ sizeLine; decide, fun tp htp => ?_⟩
    have r2 : Rel g.K F σ (upd H1 tp (.tup [.ty T, .ty U])) s1 (v :: vs) (.d x :: ds) := r1.grow (same_new htp)
    have hx : ∃ M, DR g.K (hid (SM F M) (upd H1 tp (.tup [.ty T, .ty U]))) v x := let ⟨M, r⟩ := r2; ⟨M, r.top⟩
    obtain ⟨M, hx⟩ := hx
    refine ⟨v, tp, [.ty T, .ty U], _, [.type T, .type U], (isT T x || isT U x), rfl, upd_same, .cons (.ty T) (.cons (.ty U) .nil), hx.ty, ?_, k _ _ _ s1 (r2.pop.lit fun _ => .bl _) q2⟩
    refine kitAny_cons (isT_ok ok x) (fun e => ?_) (fun e => by rw [e]; rfl)
    refine kitAny_cons (isT_ok okU x) (fun e2 => ?_) (fun e2 => by rw [e, e2]; rfl)
    rw [e, e2]; rfl
/-! ### built-ins on data -/
def lenD (ds : List PyData) (Q : PyData → Prop) : Prop := match ds with
  | [.str z] => z.length ≤ sizeLine ∧ Q (.int z.length)
  | [.list xs] => Q (.int xs.length)
  | [.tuple xs] => Q (.int xs.length)
  | [.dict xs] => Q (.int xs.length)
  | _ => False
def rLen2 (K : PySem.W.Frag) : List V → Hp → VK → Prop := fun xs H Q => (∃ p ys, xs = [.ref p] ∧ (SqL K H p ys ∨ SqT K H p ys) ∧ Q (.int ys.length) H) ∨ (∃ z, xs = [.str z] ∧ z.length ≤ sizeLine ∧ Q (.int z.length) H) ∨ (∃ a kvs, xs = [V.ref a] ∧ H a = some (.dK kvs) ∧ Q (.int kvs.length) H)
theorem o_len (h : g.has X) : CallR X (.builtin "len") (rLen2 g.K) := by
  rw [← h.K]
  exact CallR.or call_len_seq (CallR.or call_len_str call_lenD)
theorem DRk.length {K : PySem.W.Frag} {H : Hp} : ∀ {kvs : List (Key × V)} {ds : List (PyData × PyData)}, DRk K H kvs ds → kvs.length = ds.length
  | _, _, .nil => rfl
  | _, _, .cons _ t => by simp [DRk.length t]
theorem lo_len {K : PySem.W.Frag} : LOn K (rLen2 K) lenD := by
  intro S H xs dxs Q R hS h q k
  cases h with
  | nil => exact q.elim
  | cons hx t =>
    cases t with
    | cons _ _ => exact (by cases hx <;> exact q.elim)
    | nil =>
      cases hx with
      | str z => exact .inr (.inl ⟨z, rfl, q.1, k _ H _ (Same.refl _) (.int _) q.2⟩)
      | lst h1 h2 =>
        refine .inl ⟨_, _, rfl, .inl (SqL.of (hid_some h1).2), ?_⟩
        rw [h2.length]
        exact k _ H _ (Same.refl _) (.int _) q
      | tup h1 h2 =>
        refine .inl ⟨_, _, rfl, .inr (sqt_mono h1), ?_⟩
        rw [h2.length]
        exact k _ H _ (Same.refl _) (.int _) q
      | dct h1 h2 =>
        refine .inr (.inr ⟨_, _, rfl, (hid_some h1).2, ?_⟩)
        rw [h2.length]
        exact k _ H _ (Same.refl _) (.int _) q
      | _ => exact q.elim
def tupleD (ds : List PyData) (Q : PyData → Prop) : Prop := match ds with
  | [.list xs] => Q (.tuple xs)
  | [.tuple xs] => Q (.tuple xs)
  | _ => False
def listD (ds : List PyData) (Q : PyData → Prop) : Prop := match ds with
  | [.list xs] => Q (.list xs)
  | [.tuple xs] => Q (.list xs)
  | _ => False
def rTupleOf (K : PySem.W.Frag) : List V → Hp → VK → Prop := fun xs H Q => ∃ p ys, xs = [.ref p] ∧ ((SqL K H p ys ∧ ∀ l, H l = none → Q (.ref l) (upd H l (.tup ys))) ∨ (SqT K H p ys ∧ Q (.ref p) H))
def rListOf (K : PySem.W.Frag) : List V → Hp → VK → Prop := fun xs H Q => ∃ p ys, xs = [.ref p] ∧ (SqL K H p ys ∨ SqT K H p ys) ∧ ∀ l, H l = none → Q (.ref l) (upd H l (.lst ys))
theorem o_tuple (h : g.has X) : CallR X (.type "tuple") (rTupleOf g.K) := by rw [← h.K]; exact call_tuple_of
theorem o_list (h : g.has X) : CallR X (.type "list") (rListOf g.K) := by rw [← h.K]; exact call_list_of
theorem lo_tuple {K : PySem.W.Frag} : LOn K (rTupleOf K) tupleD := by
  intro S H xs dxs Q R hS h q k
  cases h with
  | nil => exact q.elim
  | cons hx t =>
    cases t with
    | cons _ _ => exact (by cases hx <;> exact q.elim)
    | nil =>
      cases hx with
      | lst h1 h2 => exact ⟨_, _, rfl, .inl ⟨SqL.of (hid_some h1).2, fun l hl => k _ _ _ (same_new hl) (.tup (SqT.of (free_hid hS hl)) (DRs.mono (same_hid (same_new hl)) _ _ h2)) q⟩⟩
      | tup h1 h2 => exact ⟨_, _, rfl, .inr ⟨sqt_mono h1, k _ H _ (Same.refl _) (.tup h1 h2) q⟩⟩
      | _ => exact q.elim
theorem lo_list {K : PySem.W.Frag} : LOn K (rListOf K) listD := by
  intro S H xs dxs Q R hS h q k
  cases h with
  | nil => exact q.elim
  | cons hx t =>
    cases t with
    | cons _ _ => exact (by cases hx <;> exact q.elim)
    | nil =>
      cases hx with
      | lst h1 h2 => exact ⟨_, _, rfl, .inl (SqL.of (hid_some h1).2), fun l hl => k _ _ _ (same_new hl) (.lst (free_hid hS hl) (DRs.mono (same_hid (same_new hl)) _ _ h2)) q⟩
      | tup h1 h2 => exact ⟨_, _, rfl, .inr (sqt_mono h1), fun l hl => k _ _ _ (same_new hl) (.lst (free_hid hS hl) (DRs.mono (same_hid (same_new hl)) _ _ h2)) q⟩
      | _ => exact q.elim
def intOfD (ds : List PyData) (Q : PyData → Prop) : Prop := match ds with
  | [.int i] => Q (.int i)
  | [.bool b] => Q (.int (if b then 1 else 0))
  | _ => False
def rIntOf : List V → Hp → VK → Prop := fun xs H Q => (∃ i, xs = [.int i] ∧ Q (.int i) H) ∨ ∃ k, xs = [.bl k] ∧ Q (.int (if k then 1 else 0)) H
theorem o_int (h : g.has X) : CallR X (.type "int") rIntOf := call_int1
theorem lo_int {K : PySem.W.Frag} : LOn K rIntOf intOfD := by
  intro S H xs dxs Q R hS h q k
  cases h with
  | nil => exact q.elim
  | cons hx t =>
    cases t with
    | cons _ _ => exact (by cases hx <;> exact q.elim)
    | nil =>
      cases hx with
      | int i => exact .inl ⟨i, rfl, k _ H _ (Same.refl _) (.int _) q⟩
      | bl b => exact .inr ⟨b, rfl, k _ H _ (Same.refl _) (.int _) q⟩
      | _ => exact q.elim
def absD (ds : List PyData) (Q : PyData → Prop) : Prop := match ds with
  | [.int i] => Q (.int (if i < 0 then -i else i))
  | _ => False
def rAbsOf : List V → Hp → VK → Prop := fun xs H Q => ∃ i, xs = [.int i] ∧ Q (.int (if i < 0 then -i else i)) H
theorem o_abs (h : g.has X) : CallR X (.builtin "abs") rAbsOf := call_abs
theorem lo_abs {K : PySem.W.Frag} : LOn K rAbsOf absD := by
  intro S H xs dxs Q R hS h q k
  cases h with
  | nil => exact q.elim
  | cons hx t =>
    cases t with
    | cons _ _ => exact (by cases hx <;> exact q.elim)
    | nil =>
      cases hx with
      | int i => exact ⟨i, rfl, k _ H _ (Same.refl _) (.int _) q⟩
      | _ => exact q.elim
def strOfD (ds : List PyData) (Q : PyData → Prop) : Prop := match ds with
  | [.int i] => i.natAbs.log2 < 1920 ∧ Q (.str (toString i))
  | _ => False
def rStrOf : List V → Hp → VK → Prop := fun xs H Q => ∃ i, xs = [.int i] ∧ i.natAbs.log2 < 1920 ∧ Q (.str (toString i)) H
theorem o_str (h : g.has X) : CallR X (.type "str") rStrOf := call_str_int
theorem lo_str {K : PySem.W.Frag} : LOn K rStrOf strOfD := by
  intro S H xs dxs Q R hS h q k
  cases h with
  | nil => exact q.elim
  | cons hx t =>
    cases t with
    | cons _ _ => exact (by cases hx <;> exact q.elim)
    | nil =>
      cases hx with
      | int i => exact ⟨i, rfl, q.1, k _ H _ (Same.refl _) (.str _) q.2⟩
      | _ => exact q.elim
/-- all, any of a list of truth values; sum of ints -/
theorem DRs.bls {K : PySem.W.Frag} {H : Hp} : ∀ {xs : List V} {bs : List Bool}, DRs K H xs (bs.map .bool) → xs = bs.map V.bl
  | _, [], h => by cases h; rfl
  | _, b :: bs, h => by
    cases h with
    | cons h1 h2 => cases h1; rw [DRs.bls h2]; rfl
theorem DRs.ints {K : PySem.W.Frag} {H : Hp} : ∀ {xs : List V} {bs : List Int}, DRs K H xs (bs.map .int) → xs = bs.map V.int
  | _, [], h => by cases h; rfl
  | _, b :: bs, h => by
    cases h with
    | cons h1 h2 => cases h1; rw [DRs.ints h2]; rfl
theorem DRs.strs {K : PySem.W.Frag} {H : Hp} : ∀ {xs : List V} {bs : List Str}, DRs K H xs (bs.map .str) → xs = bs.map V.str
  | _, [], h => by cases h; rfl
  | _, b :: bs, h => by
    cases h with
    | cons h1 h2 => cases h1; rw [DRs.strs h2]; rfl
def allD (ds : List PyData) (Q : PyData → Prop) : Prop := ∃ bs : List Bool, ds = [.list (bs.map .bool)] ∧ Q (.bool (bs.all id))
def anyD (ds : List PyData) (Q : PyData → Prop) : Prop := ∃ bs : List Bool, ds = [.list (bs.map .bool)] ∧ Q (.bool (bs.any id))
def sumD (ds : List PyData) (Q : PyData → Prop) : Prop := ∃ ns : List Int, ds = [.list (ns.map .int)] ∧ Q (.int ns.sum)
def minD (ds : List PyData) (Q : PyData → Prop) : Prop := ∃ ns : List Int, ds = [.list (ns.map .int)] ∧ 0 < ns.length ∧ ∀ m, m ∈ ns → (∀ y, y ∈ ns → m ≤ y) → Q (.int m)
def maxD (ds : List PyData) (Q : PyData → Prop) : Prop := ∃ ns : List Int, ds = [.list (ns.map .int)] ∧ 0 < ns.length ∧ ∀ m, m ∈ ns → (∀ y, y ∈ ns → y ≤ m) → Q (.int m)
def rAllA (K : PySem.W.Frag) : List V → Hp → VK → Prop := fun vs H Q => ∃ (a : Addr) (bs : List Bool), vs = [V.ref a] ∧ SqL K H a (bs.map V.bl) ∧ Q (.bl (bs.all id)) H
def rAnyA (K : PySem.W.Frag) : List V → Hp → VK → Prop := fun vs H Q => ∃ (a : Addr) (bs : List Bool), vs = [V.ref a] ∧ SqL K H a (bs.map V.bl) ∧ Q (.bl (bs.any id)) H
theorem o_all (h : g.has X) : CallR X (.builtin "all") (rAllA g.K) := by rw [← h.K]; exact cr_all h.calm
theorem o_any (h : g.has X) : CallR X (.builtin "any") (rAnyA g.K) := by rw [← h.K]; exact cr_any h.calm
theorem o_sum (h : g.has X) : CallR X (.builtin "sum") (rSum g.K) := by rw [← h.K]; exact cr_sum h.calm
theorem o_min (h : g.has X) : CallR X (.builtin "min") (rMin g.K) := by rw [← h.K]; exact cr_min h.calm
theorem o_max (h : g.has X) : CallR X (.builtin "max") (rMax g.K) := by rw [← h.K]; exact cr_max h.calm
theorem one_list {K : PySem.W.Frag} {S : Addr → Prop} {H : Hp} {xs : List V} {ds : List PyData} (h : DRs K (hid S H) xs [.list ds]) : ∃ a ys, xs = [.ref a] ∧ SqL K H a ys ∧ DRs K (hid S H) ys ds := by
  cases h with
  | cons h1 h2 =>
    cases h2
    cases h1 with
    | lst h3 h4 => exact ⟨_, _, rfl, SqL.of (hid_some h3).2, h4⟩
theorem lo_all {K : PySem.W.Frag} : LOn K (rAllA K) allD := by
  rintro S H xs dxs Q R hS h ⟨bs, rfl, q⟩ k
  obtain ⟨a, ys, rfl, h1, h2⟩ := one_list h
  exact ⟨a, bs, rfl, by rw [← h2.bls]; exact h1, k _ H _ (Same.refl _) (.bl _) q⟩
theorem lo_any {K : PySem.W.Frag} : LOn K (rAnyA K) anyD := by
  rintro S H xs dxs Q R hS h ⟨bs, rfl, q⟩ k
  obtain ⟨a, ys, rfl, h1, h2⟩ := one_list h
  exact ⟨a, bs, rfl, by rw [← h2.bls]; exact h1, k _ H _ (Same.refl _) (.bl _) q⟩
theorem lo_sum {K : PySem.W.Frag} : LOn K (rSum K) sumD := by
  rintro S H xs dxs Q R hS h ⟨bs, rfl, q⟩ k
  obtain ⟨a, ys, rfl, h1, h2⟩ := one_list h
  exact ⟨a, bs, rfl, by rw [← h2.ints]; exact h1, k _ H _ (Same.refl _) (.int _) q⟩
theorem lo_min {K : PySem.W.Frag} : LOn K (rMin K) minD := by
  rintro S H xs dxs Q R hS h ⟨bs, rfl, hl, q⟩ k
  obtain ⟨a, ys, rfl, h1, h2⟩ := one_list h
  exact ⟨a, bs, rfl, by rw [← h2.ints]; exact h1, hl, fun m h3 h4 => k _ H _ (Same.refl _) (.int _) (q m h3 h4)⟩
theorem lo_max {K : PySem.W.Frag} : LOn K (rMax K) maxD := by
  rintro S H xs dxs Q R hS h ⟨bs, rfl, hl, q⟩ k
  obtain ⟨a, ys, rfl, h1, h2⟩ := one_list h
  exact ⟨a, bs, rfl, by rw [← h2.ints]; exact h1, hl, fun m h3 h4 => k _ H _ (Same.refl _) (.int _) (q m h3 h4)⟩
/-! ### repr -/
def flatD : PyData → Bool
  | .list _ => false
  | .tuple _ => false
  | .dict _ => false
  | _ => true
def dictOk (d : PyData) : Prop := d.hasDict = false ∨ ∃ kvs, d = .dict kvs ∧ kvs.all (fun p => flatD p.1 && flatD p.2) = true
def reprOk (d : PyData) : Prop := d.showable = true ∧ dictOk d ∧ d.depth ≤ 60 ∧ d.shown.length ≤ sizeLine
def reprD (ds : List PyData) (Q : PyData → Prop) : Prop := match ds with
  | [d] => reprOk d ∧ Q (.str d.shown)
  | _ => False
def rReprD (K : PySem.W.Frag) : List V → Hp → VK → Prop := fun xs H Q => ∃ x d, xs = [x] ∧ DR K H x d ∧ reprOk d ∧ Q (.str d.shown) H
theorem flat_reads {h : Heap} {v : Value} {d : PyData} {as : List Addr} (r : Reads h v d as) (f : flatD d = true) : as = [] := by
  cases r <;> first | rfl | cases f
theorem flat_readsAll {h : Heap} : ∀ {vs : List Value} {ds : List PyData} {as : List Addr}, ReadsAll h vs ds as → (∀ d ∈ ds, flatD d = true) → as = []
  | _, _, _, .nil, _ => rfl
  | _, _, _, .cons r t, f => by
    rw [flat_reads r (f _ (List.mem_cons_self ..)), flat_readsAll t fun d hd => f d (List.mem_cons_of_mem _ hd)]
    rfl
theorem reads_noSys {X : Cx} {pins : List (Addr × Obj)} {σ : St} {H : Hp} {s : Shared} (I : Inv X pins σ H s) {d : PyData} {v : V} {u : Value} {as : List Addr} (ok : dictOk d) (hx : DR X.K H v d) (rx : RelV v u) (r : Reads s.heap u d as) : d.hasDict = true → sysModules ∉ as := by
  rcases ok with ok | ⟨kvs, rfl, f⟩
  · exact PyData.noDict_hsm ok
  · intro _ hm
    cases hx with
    | dct h1 h2 =>
      cases rx
      obtain ⟨_, hs, _⟩ := (show ObjOk X.prog X.w H s.heap _ (.dK _) from I.hok _ _ h1)
      rw [List.all_eq_true] at f
      cases r with
      | dict e1 e2 e3 e4 e5 =>
        have f1 := flat_readsAll e4 fun d hd => by
          obtain ⟨p, hp, rfl⟩ := List.mem_map.mp hd
          have := f p hp
          rw [Bool.and_eq_true] at this
          exact this.1
        have f2 := flat_readsAll e5 fun d hd => by
          obtain ⟨p, hp, rfl⟩ := List.mem_map.mp hd
          have := f p hp
          rw [Bool.and_eq_true] at this
          exact this.2
        subst f1 f2
        simp at hm
        rw [← hm] at hs
        simp at hs
theorem o_repr (h : g.has X) : CallR X (.builtin "repr") (rReprD g.K) := by
  intro pins s σ H xs us Q I r ⟨x, d, ex, hx, ⟨c1, c2, c3, c4⟩, q⟩
  subst ex
  obtain ⟨u, rfl, ru⟩ := vals1 r
  rw [← h.K] at hx
  obtain ⟨as, rd⟩ := DR.reads I d x u hx ru
  have hn := reads_noSys I c2 hx ru rd
  have hu := h.un
  cases d with
  | none => cases hx; cases ru; exact PySem.P.repr_of_none ⟨.str _, H, I.tok _, by simp only [PyData.shown]; exact ⟨_, rfl⟩, q⟩
  | bool b => cases hx; cases ru; exact PySem.P.repr_of_bool ⟨.str _, H, I.tok _, by simp only [PyData.shown]; exact ⟨_, rfl⟩, q⟩
  | int i => cases hx; obtain ⟨t, rfl⟩ := ru; exact PySem.P.repr_of_int (by simpa [PyData.showable] using c1) ⟨.str _, H, I.tok _, by simp only [PyData.shown]; exact ⟨_, rfl⟩, q⟩
  | str z => cases hx; obtain ⟨t, rfl⟩ := ru; exact PySem.P.repr_of_str ⟨.str _, H, I.tok _, by simp only [PyData.shown]; exact ⟨_, rfl⟩, q⟩
  | _ =>
    cases hx <;> cases ru <;> exact PySem.repr_of_reads' rd c1 hn h.gd (by omega) (fun _ _ e => e) (fun h' t tk hk => ⟨.str _, H, I.kept (t' := tk) hk, ⟨_, rfl⟩, q⟩) c4
theorem lo_repr {K : PySem.W.Frag} : LOn K (rReprD K) reprD := by
  intro S H xs dxs Q R hS h q k
  cases h with
  | nil => exact q.elim
  | cons hx t =>
    cases t with
    | cons _ _ => exact q.elim
    | nil => exact ⟨_, _, rfl, DR.mono hid_same _ _ hx, q.1, k _ H _ (Same.refl _) (.str _) q.2⟩
end
end PD
set_option Elab.async false
set_option linter.all false
set_option maxRecDepth 100000
set_option maxHeartbeats 1000000
namespace PD
open PySem L2
section
variable {K : PySem.W.Frag} {F : Fr} {M : Nat → Option Addr} {σ : St} {H H' : Hp} {s : DS} {vs ws : List V} {ds es : List DV} {i : Nat} {v : V} {d : DV}
/-! ### a list, a dict of one's own -/
def HOf (K : PySem.W.Frag) (H : Hp) (o : HO) : DV → Prop
  | .own xs => ∃ ys, o = .lst ys ∧ DRs K H ys xs
  | .tab kvs => ∃ ys, o = .dK ys ∧ DKs K H ys kvs
  | _ => False
theorem HOf.mono {o : HO} (h : HOf K H o d) (e : Same H H') : HOf K H' o d := by
  cases d with
  | own xs => obtain ⟨ys, h1, h2⟩ := h; exact ⟨ys, h1, DRs.mono e _ _ h2⟩
  | tab xs => obtain ⟨ys, h1, h2⟩ := h; exact ⟨ys, h1, h2.mono e⟩
  | _ => exact h
theorem HOf.rv {S : Addr → Prop} {M : Nat → Option Addr} {a : Addr} {o : HO} (h : HOf K (hid S H) o d) (hm : M i = some a) (ha : H a = some o) : RV K F S H M i (.ref a) d := by
  cases d with
  | own xs => obtain ⟨ys, rfl, h2⟩ := h; exact ⟨a, ys, rfl, hm, ha, h2⟩
  | tab xs => obtain ⟨ys, rfl, h2⟩ := h; exact ⟨a, ys, rfl, hm, ha, h2⟩
  | _ => exact h.elim
abbrev newM (M : Nat → Option Addr) (i : Nat) (p : Addr) : Nat → Option Addr := fun j => if j = i then some p else M j
/-- a new object of one's own in the slot i -/
theorem RelM.newOwn {p : Addr} {o : HO} (R : RelM K F M σ H s vs ds) (hi : i < s.ρ.length) (hp : H p = none) (h : HOf K (hid (SM F M) H) o d) : RelM K F (newM M i p) (σ.set i (some (.ref p))) (upd H p o) (putS s i d) vs ds := by
  have nS := R.free hp
  have hl := R.len
  have sub : ∀ a, SM F (newM M i p) a → SM F M a ∨ a = p := fun a z => by
    rcases z with z | ⟨j, z⟩
    · exact .inl (.inl z)
    · by_cases q : j = i
      · simp [newM, q] at z; exact .inr z.symm
      · simp [newM, q] at z; exact .inl (.inr ⟨j, z⟩)
  have ne : ∀ {a : Addr} {o : HO}, H a = some o → a ≠ p := fun q => ne_of_none q hp
  have eh : Same (hid (SM F M) H) (hid (SM F (newM M i p)) (upd H p o)) := fun a o q => by
    obtain ⟨q1, q2⟩ := hid_some q
    rw [hid_out, upd_ne (ne q2)]
    · exact q2
    · intro z
      rcases sub a z with z | z
      · exact q1 z
      · exact ne q2 z
  have F0 : F.H0 p = none := by
    cases e : F.H0 p with
    | none => rfl
    | some o =>
      have := R.ext p o e fun z => nS (.inl (R.sat p z).1)
      rw [hp] at this; cases this
  refine ⟨by simp [putS, R.len], fun j x q => ?_, fun a b c h1 h2 => ?_, fun j a q => ?_, fun j a q => ?_, fun a q => ?_, fun b q => ?_, fun a o q z => by rw [upd_ne (fun e => by rw [e, F0] at q; cases q)]; exact R.ext a o q z, Paired.mapP R.tmp fun _ _ q => q.mono eh⟩
  · by_cases hj : j = i
    · subst hj
      have q : (s.ρ.set j (some d))[j]? = some (some x) := q
      rw [List.getElem?_set_self hi] at q
      cases q
      exact ⟨.ref p, List.getElem?_set_self (by omega), (h.mono eh).rv (by simp [newM]) upd_same⟩
    · have q : (s.ρ.set i (some d))[j]? = some (some x) := q
      rw [List.getElem?_set_ne (fun z => hj z.symm)] at q
      obtain ⟨v', h1, h2⟩ := R.vals j x q
      refine ⟨v', by rw [List.getElem?_set_ne (fun z => hj z.symm)]; exact h1, ?_⟩
      cases x with
      | d x => exact DR.mono eh x _ h2
      | sat => exact h2
      | scr ns => obtain ⟨a, h1, h2⟩ := h2; exact ⟨a, h1, eh.seq h2⟩
      | own xs => obtain ⟨a, ys, h3, h4, h5, h6⟩ := h2; exact ⟨a, ys, h3, by simp [newM, hj, h4], by rw [upd_ne (ne h5)]; exact h5, DRs.mono eh _ _ h6⟩
      | tab xs => obtain ⟨a, ys, h3, h4, h5, h6⟩ := h2; exact ⟨a, ys, h3, by simp [newM, hj, h4], by rw [upd_ne (ne h5)]; exact h5, h6.mono eh⟩
  · by_cases q1 : a = i <;> by_cases q2 : b = i <;> simp [newM, q1, q2] at h1 h2
    · rw [q1, q2]
    · subst h1; obtain ⟨_, o, z⟩ := R.out b _ h2; rw [hp] at z; cases z
    · subst h2; obtain ⟨_, o, z⟩ := R.out a _ h1; rw [hp] at z; cases z
    · exact R.inj a b c h1 h2
  · by_cases q1 : j = i <;> simp [newM, q1] at q
    · subst q; exact ⟨fun z => nS (.inl z), _, upd_same⟩
    · obtain ⟨h1, o, h2⟩ := R.out j a q
      exact ⟨h1, o, by rw [upd_ne (ne h2)]; exact h2⟩
  · by_cases q1 : j = i <;> simp [newM, q1] at q
    · subst q; exact F0
    · exact R.new j a q
  · obtain ⟨o, h2⟩ := R.there a q
    exact ⟨o, by rw [upd_ne (ne h2)]; exact h2⟩
  · obtain ⟨h1, h2⟩ := R.sat b q
    obtain ⟨o, h3⟩ := R.there b h1
    exact ⟨h1, h2.mono (upd_ne (ne h3)) eh (Nat.le_refl _)⟩
/-- what stands at the slot's own object is changed -/
theorem RelM.setOwn {a : Addr} {o : HO} (R : RelM K F M σ H s vs ds) (hi : i < s.ρ.length) (hm : M i = some a) (hσ : σ[i]? = some (some (.ref a))) (h : HOf K (hid (SM F M) H) o d) : RelM K F M σ (upd H a o) (putS s i d) vs ds := by
  have inS : SM F M a := .inr ⟨i, hm⟩
  have eq : hid (SM F M) (upd H a o) = hid (SM F M) H := hid_upd inS
  have eh : Same (hid (SM F M) H) (hid (SM F M) (upd H a o)) := by rw [eq]; exact Same.refl _
  have nb : ∀ b, F.S0 b → b ≠ a := fun b z e => (R.out i a hm).1 (e ▸ z)
  refine ⟨by simp [putS, R.len], fun j x q => ?_, R.inj, fun j b q => ?_, R.new, fun b q => ?_, fun b q => ?_, fun b o q z => by rw [upd_ne (fun e => by rw [e, R.new i a hm] at q; cases q)]; exact R.ext b o q z, Paired.mapP R.tmp fun _ _ q => q.mono eh⟩
  · by_cases hj : j = i
    · subst hj
      have q : (s.ρ.set j (some d))[j]? = some (some x) := q
      rw [List.getElem?_set_self hi] at q
      cases q
      exact ⟨.ref a, hσ, (h.mono eh).rv hm upd_same⟩
    · have q : (s.ρ.set i (some d))[j]? = some (some x) := q
      rw [List.getElem?_set_ne (fun z => hj z.symm)] at q
      obtain ⟨v', h1, h2⟩ := R.vals j x q
      refine ⟨v', h1, ?_⟩
      have nj : ∀ b, M j = some b → b ≠ a := fun b z e => hj (R.inj j i a (e ▸ z) hm)
      cases x with
      | d x => exact DR.mono eh x _ h2
      | sat => exact h2
      | scr ns => obtain ⟨b, h1, h2⟩ := h2; exact ⟨b, h1, eh.seq h2⟩
      | own xs => obtain ⟨b, ys, h3, h4, h5, h6⟩ := h2; exact ⟨b, ys, h3, h4, by rw [upd_ne (nj b h4)]; exact h5, DRs.mono eh _ _ h6⟩
      | tab xs => obtain ⟨b, ys, h3, h4, h5, h6⟩ := h2; exact ⟨b, ys, h3, h4, by rw [upd_ne (nj b h4)]; exact h5, h6.mono eh⟩
  · obtain ⟨h1, o', h2⟩ := R.out j b q
    by_cases e : b = a
    · subst e; exact ⟨h1, _, upd_same⟩
    · exact ⟨h1, o', by rw [upd_ne e]; exact h2⟩
  · obtain ⟨o', h2⟩ := R.there b q
    exact ⟨o', by rw [upd_ne (nb b q)]; exact h2⟩
  · obtain ⟨h1, h2⟩ := R.sat b q
    exact ⟨h1, h2.mono (upd_ne (nb b h1)) eh (Nat.le_refl _)⟩
theorem RelM.own {xs : List PyData} (R : RelM K F M σ H s vs ds) (h : s.ρ[i]? = some (some (.own xs))) : ∃ a ys, σ[i]? = some (some (.ref a)) ∧ M i = some a ∧ H a = some (.lst ys) ∧ DRs K (hid (SM F M) H) ys xs ∧ i < s.ρ.length := by
  obtain ⟨v, h1, a, ys, rfl, h3, h4, h5⟩ := R.vals i _ h
  refine ⟨a, ys, h1, h3, h4, h5, ?_⟩
  by_cases z : i < s.ρ.length
  · exact z
  · rw [List.getElem?_eq_none (by omega)] at h; cases h
theorem RelM.tab {xs : List (Key × PyData)} (R : RelM K F M σ H s vs ds) (h : s.ρ[i]? = some (some (.tab xs))) : ∃ a ys, σ[i]? = some (some (.ref a)) ∧ M i = some a ∧ H a = some (.dK ys) ∧ DKs K (hid (SM F M) H) ys xs ∧ i < s.ρ.length := by
  obtain ⟨v, h1, a, ys, rfl, h3, h4, h5⟩ := R.vals i _ h
  refine ⟨a, ys, h1, h3, h4, h5, ?_⟩
  by_cases z : i < s.ρ.length
  · exact z
  · rw [List.getElem?_eq_none (by omega)] at h; cases h
end
section
variable {g : Sg} {e f : Expr} {t u : TED} {pos pos' apos cpos p2 : Pos} {i : Nat} {x : Str}
/-- x = [] -/
def dNewOwn (i : Nat) : TSD := fun D s => i < s.ρ.length ∧ D.nx (putS s i (.own []))
theorem ds_newOwn (hN : g.N.Nodup) (hi : g.N[i]? = some x) (hx : Loc g.sc x) (hf : g.isDef = true := by rfl) : DSt g (.Assign [.Name x pos'] (.List [] p2) pos) (dNewOwn i) := by
  refine ⟨_, fun X h => ps_set (by rw [h.N]; exact hN) (by rw [h.N]; exact hi) (by rw [h.sc]; exact hx) (pe_lst pa_nil) (by rfl) (.inl (by rw [h.fn hf])), ?_⟩
  intro F σ H s vs ds D E ⟨M, r⟩ ⟨hl, q⟩ hn _ _ _
  exact ⟨Nat.zero_le _, fun p hp => hn _ _ _ ⟨_, r.newOwn (d := .own []) hl hp ⟨[], rfl, .nil⟩⟩ q⟩
/-- x = list(e) -/
def dOwnList (i : Nat) (t : TED) : TSD := fun D s => t s fun y s1 => isD y fun d => i < s1.ρ.length ∧ listD [d] fun d' => ∃ xs, d' = .list xs ∧ D.nx (putS s1 i (.own xs))
theorem ds_ownList {p : Pos} (hN : g.N.Nodup) (hi : g.N[i]? = some x) (hx : Loc g.sc x) (he : DE g e t) (hm : g.mg "list" = none) (hgl : g.sc.names.lookup ("list" : Str) = some .globalImplicit := by rfl) (hf : g.isDef = true := by rfl)
    (hs : ∀ X : Cx, starEach [e] X.env = (false, eval e X.env) :: starEach [] X.env := by intro _; rfl) : DSt g (.Assign [.Name x pos'] (.Call (.Name "list" p) [e] [] cpos) pos) (dOwnList i t) := by
  obtain ⟨te, a1, a2⟩ := he.ex
  refine ⟨tAsg (fun σ H Q => tCons te tNil σ H fun vs H1 => rListOf g.K vs H1 Q) (gName i), fun X h => ?_, ?_⟩
  · have z := pe_callTy (p := p) (pos := cpos) (o_list h) (x := "list") (by show X.env.scope.names.lookup _ = _; rw [h.sc]; exact hgl) (by rw [h.mg]; exact hm) (by decide +kernel) (pa_cons (a1 X h) pa_nil (hs X)) (by decide) (by decide) (hs X) (by rfl)
    exact ps_set (by rw [h.N]; exact hN) (by rw [h.N]; exact hi) (by rw [h.sc]; exact hx) z (by rfl) (.inl (by rw [h.fn hf]))
  · intro F σ H s vs ds D E r q hn _ _ _
    refine a2 F σ H s vs ds _ _ r q fun v H1 d s1 r1 q1 => ?_
    obtain ⟨y, rfl, hl, q2⟩ := isD_ok q1
    obtain ⟨M, r1⟩ := r1
    cases r1.tmp with
    | cons hy tmp =>
    have r2 := r1.tmps tmp
    cases y with
    | list xs =>
      obtain ⟨xs, e, q3⟩ := q2
      cases e
      cases hy with
      | lst h1 h2 => exact ⟨_, _, rfl, .inl (SqL.of (hid_some h1).2), fun p hp => hn _ _ _ ⟨_, r2.newOwn (d := .own xs) hl hp ⟨_, rfl, h2⟩⟩ q3⟩
    | tuple xs =>
      obtain ⟨xs, e, q3⟩ := q2
      cases e
      cases hy with
      | tup h1 h2 => exact ⟨_, _, rfl, .inr (sqt_mono h1), fun p hp => hn _ _ _ ⟨_, r2.newOwn (d := .own xs) hl hp ⟨_, rfl, h2⟩⟩ q3⟩
    | _ => exact q2.elim
/-- x.append(e) -/
def dAppend (i : Nat) (t : TED) : TSD := fun D s => (∃ xs, s.ρ[i]? = some (some (.own xs))) ∧ t s fun y s1 => isD y fun yd => ∃ xs, s1.ρ[i]? = some (some (.own xs)) ∧ xs.length < sizeLine ∧ D.nx (putS s1 i (.own (xs ++ [yd])))
theorem ds_append {p : Pos} (hN : g.N[i]? = some x) (hv : Vis g.sc x) (he : DE g e t) (hd : (x == ("__debug__" : Str)) = false := by decide) (hcd : (x == ("__classdict__" : Str)) = false := by decide)
    (hs : ∀ X : Cx, starEach [e] X.env = (false, eval e X.env) :: starEach [] X.env := by intro _; rfl)
    (hfew : ∀ X : Cx, ((backTo cpos (starEach [e] X.env)).all (fun x => !x.1) && (backToKw cpos (keywordEach [] X.env)).all (fun x => x.1.isSome) && decide (([e] : List Expr).length + ([] : List Keyword).length + (if ([] : List Keyword).isEmpty then 0 else 1) < 30)) = true := by intro _; rfl)
    (hline : (apos.endLine == cpos.line) = true := by rfl) : DSt g (.Expr (.Call (.Attribute (.Name x p) "append" apos) [e] [] cpos) pos) (dAppend i t) := by
  obtain ⟨te, a1, a2⟩ := he.ex
  refine ⟨tDrop (tBM g.K "list" rAppend (tVar i) (tCons te tNil)), fun X h => ?_, ?_⟩
  · have z := pe_bm (X := X) (apos := apos) (cpos := cpos) PySem.F.plainAttrs_list PySem.F.slot_list_append PySem.F.type_list_append mt_append (pe_var (pos := p) (by rw [h.N]; exact hN) (by rw [h.sc]; exact hv) hd hcd) (pa_cons (a1 X h) pa_nil (hs X)) (by rfl) (hfew X) hline (hs X) (by rfl)
    rw [h.K] at z
    exact ps_expr z (by rfl)
  · intro F σ H s vs ds D E ⟨M, r⟩ ⟨⟨xs, h0⟩, q⟩ hn _ _ _
    obtain ⟨a, ys, h1, h2, h3, h4, h5⟩ := r.own h0
    refine ⟨_, h1, .inl ⟨rfl, _, SqL.of h3⟩, a2 F σ H s vs ds _ _ ⟨M, r⟩ q fun v H1 d s1 r1 q1 => ?_⟩
    obtain ⟨y, rfl, xs1, g1, g2, q2⟩ := isD_ok q1
    obtain ⟨M1, r1⟩ := r1
    obtain ⟨a1, ys1, k1, k2, k3, k4, k5⟩ := r1.own g1
    rw [h1] at k1
    cases k1
    cases r1.tmp with
    | cons hy tmp =>
    exact ⟨_, _, _, rfl, rfl, k3, by rw [k4.length]; exact g2, hn _ _ _ ⟨_, (r1.tmps tmp).setOwn (d := .own (xs1 ++ [y])) k5 k2 h1 ⟨_, rfl, k4.append (.cons hy .nil)⟩⟩ q2⟩
/-- x.pop() -/
def dPop (i : Nat) : TED := fun s Q => ∃ xs y, s.ρ[i]? = some (some (.own (xs ++ [y]))) ∧ Q (.d y) (putS s i (.own xs))
theorem de_pop {p : Pos} (hN : g.N[i]? = some x) (hv : Vis g.sc x) (hd : (x == ("__debug__" : Str)) = false := by decide) (hcd : (x == ("__classdict__" : Str)) = false := by decide) (hline : (apos.endLine == cpos.line) = true := by rfl) :
    DE g (.Call (.Attribute (.Name x p) "pop" apos) [] [] cpos) (dPop i) := by
  refine ⟨tBM0 g.K "list" rPop (tVar i), fun X h => ?_, ?_⟩
  · have z := pe_bm0 (X := X) (apos := apos) (cpos := cpos) PySem.F.plainAttrs_list PySem.F.slot_list_pop PySem.F.type_list_pop mt_pop (pe_var (pos := p) (by rw [h.N]; exact hN) (by rw [h.sc]; exact hv) hd hcd) (by rfl) hline
    rw [h.K] at z
    exact z
  · intro F σ H s vs ds Q R ⟨M, r⟩ ⟨xs, y, h0, q⟩ k
    obtain ⟨a, ys, h1, h2, h3, h4, h5⟩ := r.own h0
    have hl := h4.length
    obtain ⟨yv, e1, e2⟩ := h4.get (i := xs.length) (d := y) (by simp)
    refine ⟨_, h1, .inl ⟨rfl, _, SqL.of h3⟩, a, ys, yv, rfl, rfl, h3, by rw [hl]; simpa using e1, ?_⟩
    have e3 : DRs g.K (hid (SM F M) H) ys.dropLast xs := by
      have := h4.take xs.length
      rw [List.take_left] at this
      rw [List.dropLast_eq_take, hl]
      simpa using this
    have r2 := r.setOwn (d := .own xs) h5 h2 h1 ⟨_, rfl, e3⟩
    refine k _ _ _ _ ⟨M, r2.push (d := .d y) ?_⟩ q
    show DR _ (hid (SM F M) (upd H a _)) _ _
    rw [hid_upd (.inr ⟨i, h2⟩)]
    exact e2
/-- while x: , if x: -/
def dTruOwn (i : Nat) : TTD := fun s Q => ∃ xs, s.ρ[i]? = some (some (.own xs)) ∧ Q (!xs.isEmpty) s
theorem dt_own (hN : g.N[i]? = some x) (hv : Vis g.sc x) (hd : (x == ("__debug__" : Str)) = false := by decide) (hcd : (x == ("__classdict__" : Str)) = false := by decide) : DT g (.Name x pos) (dTruOwn i) := by
  refine ⟨fun σ H Q => tVar i σ H fun x H' => ∃ k, TruV g.K x H' k ∧ Q k H', fun X h => ?_, ?_⟩
  · have z := pt_truth (X := X) (pe_var (pos := pos) (by rw [h.N]; exact hN) (by rw [h.sc]; exact hv) hd hcd) (by intro _; rfl)
    rw [h.K] at z
    exact z
  · intro F σ H s vs ds Q R ⟨M, r⟩ ⟨xs, h0, q⟩ k
    obtain ⟨a, ys, h1, h2, h3, h4, h5⟩ := r.own h0
    refine ⟨_, h1, !xs.isEmpty, .inl ⟨ys, SqL.of h3, ?_⟩, k _ _ _ ⟨M, r⟩ q⟩
    have := h4.length
    cases xs <;> cases ys <;> simp at this ⊢
/-- a truth of data -/
def truD (d : PyData) (Q : Bool → Prop) : Prop := match d with
  | .none => Q false
  | .bool b => Q b
  | .int i => Q (i != 0)
  | .str z => z.length ≤ sizeLine ∧ Q ((z.length : Int) != 0)
  | .list xs => Q (!xs.isEmpty)
  | .tuple xs => Q (!xs.isEmpty)
  | .dict kvs => Q (!kvs.isEmpty)
def dTru (t : TED) : TTD := fun s Q => t s fun x s1 => isD x fun d => truD d fun b => Q b s1
theorem dt_tru (h : DE g e t) (he : ∀ (X : Cx) (whole : Sem Value), isTrue e X.env whole = (do let v ← whole; standAt e.pos; holding [v] (truthy v)) := by intro _ _; rfl) : DT g e (dTru t) := by
  obtain ⟨te, a1, a2⟩ := h.ex
  refine ⟨fun σ H Q => te σ H fun x H' => ∃ k, TruV g.K x H' k ∧ Q k H', fun X hX => ?_, ?_⟩
  · have z := pt_truth (a1 X hX) (he X)
    rw [hX.K] at z
    exact z
  · intro F σ H s vs ds Q R r q k
    refine a2 F σ H s vs ds _ _ r q fun v H1 d s1 r1 q1 => ?_
    obtain ⟨y, rfl, q2⟩ := isD_ok q1
    obtain ⟨M, r1⟩ := r1
    have hy : DR g.K (hid (SM F M) H1) v y := r1.top
    have r2 := (show Rel g.K F σ H1 s1 (v :: vs) (.d y :: ds) from ⟨M, r1⟩).pop
    cases y with
    | none => cases hy; exact ⟨_, rfl, k _ _ _ r2 q2⟩
    | bool b => cases hy; exact ⟨_, rfl, k _ _ _ r2 q2⟩
    | int b => cases hy; exact ⟨_, rfl, k _ _ _ r2 q2⟩
    | str b => cases hy; exact ⟨_, ⟨q2.1, rfl⟩, k _ _ _ r2 q2.2⟩
    | list xs =>
      cases hy with
      | lst h1 h2 =>
        refine ⟨!xs.isEmpty, .inl ⟨_, SqL.of (hid_some h1).2, ?_⟩, k _ _ _ r2 q2⟩
        have := h2.length
        revert this
        rename_i ys
        cases xs <;> cases ys <;> simp
    | tuple xs =>
      cases hy with
      | tup h1 h2 =>
        refine ⟨!xs.isEmpty, .inr (.inl ⟨_, sqt_mono h1, ?_⟩), k _ _ _ r2 q2⟩
        have := h2.length
        revert this
        rename_i ys
        cases xs <;> cases ys <;> simp
    | dict xs =>
      cases hy with
      | dct h1 h2 =>
        refine ⟨!xs.isEmpty, .inr (.inr ⟨_, (hid_some h1).2, ?_⟩), k _ _ _ r2 q2⟩
        have := h2.length
        revert this
        rename_i ys
        cases xs <;> cases ys <;> simp
/-! ### dicts of one's own -/
def dNewTab (i : Nat) : TSD := fun D s => i < s.ρ.length ∧ D.nx (putS s i (.tab []))
theorem ds_newTab (hN : g.N.Nodup) (hi : g.N[i]? = some x) (hx : Loc g.sc x) (hf : g.isDef = true := by rfl) : DSt g (.Assign [.Name x pos'] (.Dict [] [] p2) pos) (dNewTab i) := by
  refine ⟨_, fun X h => ps_set (by rw [h.N]; exact hN) (by rw [h.N]; exact hi) (by rw [h.sc]; exact hx) pe_dnewK (by rfl) (.inl (by rw [h.fn hf])), ?_⟩
  intro F σ H s vs ds D E ⟨M, r⟩ ⟨hl, q⟩ hn _ _ _
  exact fun p hp => hn _ _ _ ⟨_, r.newOwn (d := .tab []) hl hp ⟨[], rfl, .nil⟩⟩ q
def putT {κ α : Type} [DecidableEq κ] (kvs : List (κ × α)) (k : κ) (v : α) : List (κ × α) := if kvs.any (fun p => decide (p.1 = k)) then kvs.map fun p => if p.1 = k then (p.1, v) else p else kvs ++ [(k, v)]
theorem DKs.put {K : PySem.W.Frag} {H : Hp} {xs : List (Key × V)} {ys : List (Key × PyData)} {k : Key} {v : V} {d : PyData} (h : DKs K H xs ys) (hv : DR K H v d) : DKs K H (putK xs k v) (putT ys k d) := by
  have ha : (xs.any fun p => decide (p.1 = k)) = ys.any fun p => decide (p.1 = k) := by
    induction h with
    | nil => rfl
    | cons a t ih => rw [List.any_cons, List.any_cons, ih, a.1]
  unfold putK putT
  rw [ha]
  split
  · have : ∀ {xs : List (Key × V)} {ys : List (Key × PyData)}, DKs K H xs ys → DKs K H (xs.map fun p => if p.1 = k then (p.1, v) else p) (ys.map fun p => if p.1 = k then (p.1, d) else p) := by
      intro xs ys h
      induction h with
      | nil => exact .nil
      | @cons p q _ _ a t ih =>
        obtain ⟨p1, p2⟩ := p
        obtain ⟨q1, q2⟩ := q
        obtain ⟨e1, e2⟩ := a
        have e1 : p1 = q1 := e1
        subst e1
        refine .cons ?_ ih
        show (if p1 = k then (p1, v) else (p1, p2)).1 = (if p1 = k then (p1, d) else (p1, q2)).1 ∧ DR K H (if p1 = k then (p1, v) else (p1, p2)).2 (if p1 = k then (p1, d) else (p1, q2)).2
        by_cases z : p1 = k
        · rw [if_pos z, if_pos z]; exact ⟨rfl, hv⟩
        · rw [if_neg z, if_neg z]; exact ⟨rfl, e2⟩
    exact this h
  · exact paired_app h (.cons ⟨rfl, hv⟩ .nil)
def keyD (v : DV) (k : Key → Prop) : Prop := isD v fun d => (match d with
  | .int i => k (.inl i)
  | .str x => k (.inr x)
  | _ => False)
theorem keyD_ok {K : PySem.W.Frag} {F : Fr} {S : Addr → Prop} {H : Hp} {x : V} {v : DV} {k : Key → Prop} (r : RT K F S H x v) (h : keyD v k) : ∃ i, x = kV i ∧ v = .d (kD i) ∧ k i := by
  obtain ⟨d, rfl, h1⟩ := isD_ok h
  cases d with
  | int b => have h2 : DR K _ x (.int b) := r; cases h2; exact ⟨.inl b, rfl, rfl, h1⟩
  | str b => have h2 : DR K _ x (.str b) := r; cases h2; exact ⟨.inr b, rfl, rfl, h1⟩
  | _ => exact h1.elim
/-- x[k] = v -/
def dPutTab (i : Nat) (tk tv : TED) : TSD := fun D s => tv s fun v s1 => (∃ kvs, s1.ρ[i]? = some (some (.tab kvs))) ∧ tk s1 fun k s2 => isD v fun vd => keyD k fun key => ∃ kvs, s2.ρ[i]? = some (some (.tab kvs)) ∧ kvs.length < sizeLine ∧ D.nx (putS s2 i (.tab (putT kvs key vd)))
theorem DKs.length {K : PySem.W.Frag} {H : Hp} {xs : List (Key × V)} {ys : List (Key × PyData)} (h : DKs K H xs ys) : xs.length = ys.length := Paired.length h
theorem ds_putTab {tk tv : TED} {value : Expr} {p : Pos} (hN : g.N[i]? = some x) (hv : Vis g.sc x) (hk : DE g e tk) (hval : DE g value tv) (hs : ∀ X : Cx, swapsWith value (some (.Subscript (.Name x p) e pos')) pos.line X.env = pure false := by intro _; rfl)
    (hd : (x == ("__debug__" : Str)) = false := by decide) (hcd : (x == ("__classdict__" : Str)) = false := by decide) : DSt g (.Assign [.Subscript (.Name x p) e pos'] value pos) (dPutTab i tk tv) := by
  obtain ⟨te, a1, a2⟩ := hk.ex
  obtain ⟨tv', b1, b2⟩ := hval.ex
  refine ⟨_, fun X h => ps_dput (by have := h.un; omega) (pe_var (pos := p) (by rw [h.N]; exact hN) (by rw [h.sc]; exact hv) hd hcd) (a1 X h) (b1 X h) (hs X), ?_⟩
  intro F σ H s vs ds D E r q hn _ _ _
  refine b2 F σ H s vs ds _ _ r q fun v H1 d s1 r1 ⟨⟨kvs, h0⟩, q1⟩ => ?_
  have hh : ∃ M, RelM g.K F M σ H1 s1 (v :: vs) (d :: ds) := r1
  obtain ⟨M1, r1'⟩ := hh
  obtain ⟨a, ys, h1, h2, h3, h4, h5⟩ := r1'.tab h0
  refine ⟨_, h1, a2 F σ H1 s1 _ _ _ _ r1 q1 fun k H2 dk s2 r2 q2 => ?_⟩
  obtain ⟨vd, rfl, q3⟩ := isD_ok q2
  obtain ⟨M2, r2⟩ := r2
  cases r2.tmp with
  | cons hk' tmp =>
  obtain ⟨key, rfl, rfl, kvs2, g1, g2, q4⟩ := keyD_ok hk' q3
  obtain ⟨a2', ys2, k1, k2, k3, k4, k5⟩ := r2.tab g1
  rw [h1] at k1
  cases k1
  cases tmp with
  | cons hvd tmp =>
  exact ⟨a, _, rfl, DPut.k k3 (by rw [k4.length]; exact g2), hn _ _ _ ⟨_, (r2.tmps tmp).setOwn (d := .tab (putT kvs2 key vd)) k5 k2 h1 ⟨_, rfl, k4.put hvd⟩⟩ q4⟩
/-- k in x, k not in x -/
def hasT {κ α : Type} [DecidableEq κ] (kvs : List (κ × α)) (k : κ) : Bool := kvs.any fun p => decide (p.1 = k)
def dInTab (neg : Bool) (i : Nat) (tk : TED) : TED := fun s Q => tk s fun k s1 => keyD k fun key => ∃ kvs, s1.ρ[i]? = some (some (.tab kvs)) ∧ Q (.d (.bool (neg != hasT kvs key))) s1
theorem DKs.has {K : PySem.W.Frag} {H : Hp} {xs : List (Key × V)} {ys : List (Key × PyData)} {k : Key} (h : DKs K H xs ys) : (valV xs k).isSome = hasT ys k := by
  rw [valV_has]
  unfold hasT
  induction h with
  | nil => rfl
  | cons a t ih => rw [List.any_cons, List.any_cons, ih, a.1]
theorem le_inTab {K : PySem.W.Frag} {neg : Bool} {te : TE} {tk : TED} (a2 : LE K te tk) : LE K (fun σ H Q => te σ H fun y H1 => tVar i σ H1 fun x H2 => ∃ a o, x = .ref a ∧ DGet H2 a y o ∧ Q (.bl (neg != o.isSome)) H2) (dInTab neg i tk) := by
  intro F σ H s vs ds Q R r q k
  refine a2 F σ H s vs ds _ _ r q fun kv H1 dk s1 r1 q1 => ?_
  obtain ⟨M, r1⟩ := r1
  obtain ⟨key, rfl, rfl, kvs, h0, q2⟩ := keyD_ok r1.top q1
  obtain ⟨a, ys, h1, h2, h3, h4, h5⟩ := r1.tab h0
  refine ⟨_, h1, a, _, rfl, DGet.k h3, ?_⟩
  rw [h4.has]
  cases r1.tmp with
  | cons _ tmp => exact k _ _ _ _ ⟨M, (r1.tmps tmp).push (d := .d (.bool _)) (.bl _)⟩ q2
theorem le_inF {K : PySem.W.Frag} {te : TE} {tk : TED} (a2 : LE K te tk) : LE K (tDIn te (tVar i)) (dInTab false i tk) := by
  have z := le_inTab (neg := false) (i := i) a2
  simp only [Bool.false_bne] at z
  exact z
theorem le_inT {K : PySem.W.Frag} {te : TE} {tk : TED} (a2 : LE K te tk) : LE K (tDNotIn te (tVar i)) (dInTab true i tk) := by
  have z := le_inTab (neg := true) (i := i) a2
  simp only [Bool.true_bne] at z
  exact z
theorem de_inTab {tk : TED} {p : Pos} (hN : g.N[i]? = some x) (hv : Vis g.sc x) (hk : DE g e tk) (hd : (x == ("__debug__" : Str)) = false := by decide) (hcd : (x == ("__classdict__" : Str)) = false := by decide) : DE g (.Compare e [.In] [.Name x p] pos) (dInTab false i tk) := by
  obtain ⟨te, a1, a2⟩ := hk.ex
  exact ⟨_, fun X h => pe_cmp (pos := pos) (pc_din (X := X) (by have := h.un; omega) (a1 X h) (pe_var (pos := p) (by rw [h.N]; exact hN) (by rw [h.sc]; exact hv) hd hcd)) (by rfl), le_inF a2⟩
theorem de_notInTab {tk : TED} {p : Pos} (hN : g.N[i]? = some x) (hv : Vis g.sc x) (hk : DE g e tk) (hd : (x == ("__debug__" : Str)) = false := by decide) (hcd : (x == ("__classdict__" : Str)) = false := by decide) : DE g (.Compare e [.NotIn] [.Name x p] pos) (dInTab true i tk) := by
  obtain ⟨te, a1, a2⟩ := hk.ex
  exact ⟨_, fun X h => pe_cmp (pos := pos) (pc_dnotin (X := X) (by have := h.un; omega) (a1 X h) (pe_var (pos := p) (by rw [h.N]; exact hN) (by rw [h.sc]; exact hv) hd hcd)) (by rfl), le_inT a2⟩
theorem dt_inTab {tk : TED} {p : Pos} (hN : g.N[i]? = some x) (hv : Vis g.sc x) (hk : DE g e tk) (hd : (x == ("__debug__" : Str)) = false := by decide) (hcd : (x == ("__classdict__" : Str)) = false := by decide) : DT g (.Compare e [.In] [.Name x p] pos) (dVal (dInTab false i tk)) := by
  obtain ⟨te, a1, a2⟩ := hk.ex
  exact ⟨_, fun X h => pt_cmp (pos := pos) (pc_din (X := X) (by have := h.un; omega) (a1 X h) (pe_var (pos := p) (by rw [h.N]; exact hN) (by rw [h.sc]; exact hv) hd hcd)) (by rfl), lt_val (le_inF a2)⟩
theorem dt_notInTab {tk : TED} {p : Pos} (hN : g.N[i]? = some x) (hv : Vis g.sc x) (hk : DE g e tk) (hd : (x == ("__debug__" : Str)) = false := by decide) (hcd : (x == ("__classdict__" : Str)) = false := by decide) : DT g (.Compare e [.NotIn] [.Name x p] pos) (dVal (dInTab true i tk)) := by
  obtain ⟨te, a1, a2⟩ := hk.ex
  exact ⟨_, fun X h => pt_cmp (pos := pos) (pc_dnotin (X := X) (by have := h.un; omega) (a1 X h) (pe_var (pos := p) (by rw [h.N]; exact hN) (by rw [h.sc]; exact hv) hd hcd)) (by rfl), lt_val (le_inT a2)⟩
end
end PD
set_option Elab.async false
set_option linter.all false
set_option maxRecDepth 100000
set_option maxHeartbeats 1000000
namespace PD
open PySem L2
open PySem.W (alike dataLt AllAlike Sortable EachIs dataLe)
/-! ### sorted -/
def leD (a b : PyData) : Bool := !dataLt b a
def srtD (ds : List PyData) : List PyData := ds.mergeSort leD
def srtOk (ds : List PyData) : Prop := AllAlike ds ∧ Sortable ds ∧ (∀ d ∈ ds, d.depth ≤ 50) ∧ ds.length ≤ sizeLine
def sortedD (xs : List PyData) (Q : PyData → Prop) : Prop := match xs with
  | [.list ds] => srtOk ds ∧ Q (.list (srtD ds))
  | _ => False
def rSortD (K : PySem.W.Frag) : List V → Hp → VK → Prop := fun xs H Q => ∃ a ys ds, xs = [.ref a] ∧ H a = some (.lst ys) ∧ DRs K H ys ds ∧ srtOk ds ∧ ∀ p, H p = none → ∀ zs : List (V × PyData), zs.map (·.1) = zs.map (·.1) → (∀ z ∈ zs, z ∈ ys.zip ds) → zs.map (·.2) = srtD ds → Q (.ref p) (upd H p (.lst (zs.map (·.1))))
theorem zip_snd {α β : Type} : ∀ {xs : List α} {ys : List β}, xs.length = ys.length → (xs.zip ys).map (·.2) = ys
  | [], [], _ => rfl
  | x :: xs, y :: ys, h => by simp at h; simp [zip_snd h]
theorem each_zip {K : PySem.W.Frag} {H : Hp} : ∀ {ys : List V} {ds : List PyData} {us : List Value}, DRs K H ys ds → Vals ys us → EachIs (fun (u : Value) (z : V × PyData) => RelV z.1 u) us (ys.zip ds)
  | _, _, _, .nil, .nil => .nil
  | _, _, _, .cons h t, .cons r q => .cons r (each_zip t q)
theorem vals_each {us : List Value} {zs : List (V × PyData)} (h : EachIs (fun (u : Value) (z : V × PyData) => RelV z.1 u) us zs) : Vals (zs.map (·.1)) us := by
  induction h with
  | nil => exact .nil
  | cons a t ih => exact .cons a ih
theorem each_reads {X : Cx} {pins : List (Addr × Obj)} {σ : St} {H : Hp} {s : Shared} (I : Inv X pins σ H s) : ∀ {ys : List V} {ds : List PyData} {us : List Value}, DRs X.K H ys ds → Vals ys us → EachIs (fun (u : Value) (z : V × PyData) => ∃ as, Reads s.heap u z.2 as) us (ys.zip ds)
  | _, _, _, .nil, .nil => .nil
  | _, _, _, .cons h t, .cons r q => .cons (DR.reads I _ _ _ h r) (each_reads I t q)
theorem sort_snd {ys : List V} {ds : List PyData} (hl : ys.length = ds.length) : ((ys.zip ds).mergeSort (dataLe false fun z : V × PyData => z.2)).map (·.2) = srtD ds := by
  have z := List.map_mergeSort (r := dataLe false fun z : V × PyData => z.2) (s := leD) (f := fun z : V × PyData => z.2) (l := ys.zip ds) (fun a _ b _ => rfl)
  rw [z, zip_snd hl]
  rfl
section
variable {g : Sg} {X : Cx}
theorem o_sorted (h : g.has X) : CallR X (.builtin "sorted") (rSortD g.K) := by
  intro pins s σ H xs us Q I r ⟨a, ys, ds, ex, ha, hd, ⟨c1, c2, c3, c4⟩, q⟩
  subst ex
  rw [← h.K] at hd
  obtain ⟨its, rv, hl, _⟩ := I.list (SqL.of (K := X.K) ha)
  rw [Vals.ref1 r]
  have hlen := hd.length
  have em : (ys.zip ds).map (fun z : V × PyData => z.2) = ds := zip_snd hlen
  have zl : (ys.zip ds).length = ds.length := by simp [hlen]
  have hu := h.un
  refine PySem.W.sorted_data (R := fun (u : Value) (z : V × PyData) => RelV z.1 u) (enc := fun z : V × PyData => z.2) hl.isList (each_zip hd rv) (each_reads I hd rv) (by rw [em]; exact c1) (by rw [em]; exact c2) (by rw [zl]; exact c4) (fun b hb => ?_) fun out ho he => ?_
  · have : b.2 ∈ ds := by rw [← em]; exact List.mem_map.mpr ⟨b, hb, rfl⟩
    have := c3 _ this
    omega
  · obtain ⟨ep, he'⟩ := PyProof.Rows.sortedAll_at s.heap its (List.toArray out)
    refine ⟨.ref _, upd H (s.heap.objs.size + 1) (.lst (((ys.zip ds).mergeSort (dataLe false fun z : V × PyData => z.2)).map (·.1))), I.laid (t' := s.toks) (fun _ _ => PyProof.Rows.sortedAll_old) (Nat.le_succ _) ⟨?_, out, ep, vals_each he, ?_⟩, rfl, q _ (I.hok.fresh (Nat.le_succ _)) _ rfl (fun z hz => ?_) (sort_snd hlen)⟩
    · rw [List.length_map, List.length_mergeSort, zl]; exact c4
    · simpa using he'
    · exact (List.mergeSort_perm _ _).mem_iff.mp hz
theorem drs_pairs {K : PySem.W.Frag} {H : Hp} : ∀ {zs : List (V × PyData)}, (∀ z ∈ zs, DR K H z.1 z.2) → DRs K H (zs.map (·.1)) (zs.map (·.2))
  | [], _ => .nil
  | z :: zs, h => .cons (h z (List.mem_cons_self ..)) (drs_pairs fun y hy => h y (List.mem_cons_of_mem _ hy))
theorem DRs.zip {K : PySem.W.Frag} {H : Hp} : ∀ {ys : List V} {ds : List PyData}, DRs K H ys ds → ∀ z ∈ ys.zip ds, DR K H z.1 z.2
  | _, _, .nil, z, hz => by simp at hz
  | _, _, .cons h t, z, hz => by
    simp at hz
    rcases hz with rfl | hz
    · exact h
    · exact DRs.zip t z hz
theorem lo_sorted {K : PySem.W.Frag} : LOn K (rSortD K) sortedD := by
  intro S H xs dxs Q R hS h q k
  cases h with
  | nil => exact q.elim
  | cons hx t =>
    cases t with
    | cons _ _ => exact (by cases hx <;> exact q.elim)
    | nil =>
      cases hx with
      | lst h1 h2 =>
        refine ⟨_, _, _, rfl, (hid_some h1).2, DRs.mono hid_same _ _ h2, q.1, fun p hp zs _ hz e => k _ _ _ (same_new hp) (.lst (free_hid hS hp) ?_) (e ▸ q.2)⟩
        exact DRs.mono (same_hid (same_new hp)) _ _ (drs_pairs fun z hm => h2.zip z (hz z hm))
      | _ => exact q.elim
/-! ### methods of texts -/
def strD (v : DV) (k : Str → Prop) : Prop := isD v fun d => (match d with
  | .str a => k a
  | _ => False)
theorem strD_ok {K : PySem.W.Frag} {F : Fr} {S : Addr → Prop} {H : Hp} {x : V} {v : DV} {k : Str → Prop} (r : RT K F S H x v) (h : strD v k) : ∃ a, x = .str a ∧ v = .d (.str a) ∧ k a := by
  obtain ⟨d, rfl, h1⟩ := isD_ok h
  cases d with
  | str b => have h2 : DR K _ x (.str b) := r; cases h2; exact ⟨b, rfl, rfl, h1⟩
  | _ => exact h1.elim
def dMethS (f : Str → PyData → (PyData → Prop) → Prop) (ta tb : TED) : TED := fun s Q => ta s fun x s1 => strD x fun a => tb s1 fun y s2 => isD y fun dy => f a dy fun d => Q (.d d) s2
def joinD (a : Str) (dy : PyData) (Q : PyData → Prop) : Prop := ∃ ys : List Str, (dy = .list (ys.map .str) ∨ dy = .tuple (ys.map .str)) ∧ (ys.map (·.length)).sum + ys.length * a.length ≤ 16777216 ∧ Q (.str (Txt.join a ys))
def splitD (a : Str) (dy : PyData) (Q : PyData → Prop) : Prop := match dy with
  | .str b => (b.length == 0) = false ∧ a.length + 2 ≤ sizeLine ∧ Q (.list ((Txt.split a b).map .str))
  | _ => False
variable {e o f : Expr} {t u w : TED} {pos apos cpos : Pos}
theorem RelM.topH {K : PySem.W.Frag} {F : Fr} {σ : St} {H : Hp} {s : DS} {vs : List V} {ds : List DV} {v : V} {d : DV} (r : Rel K F σ H s (v :: vs) (d :: ds)) : ∃ M, RT K F (SM F M) H v d := let ⟨M, r⟩ := r; ⟨M, r.top⟩
theorem drs_strs {K : PySem.W.Frag} {H : Hp} : ∀ ys : List Str, DRs K H (ys.map V.str) (ys.map .str)
  | [] => .nil
  | y :: ys => .cons (.str y) (drs_strs ys)
theorem de_join (ho : DE g o t) (he : DE g e u) (hs : ∀ X : Cx, starEach [e] X.env = [(false, eval e X.env)] := by intro _; rfl) (hbase : ∀ X : Cx, attributeBase o "join" X.env (eval o X.env) = eval o X.env := by intro _; rfl) (hline : (apos.endLine == pos.line) = true := by rfl) : DE g (.Call (.Attribute o "join" apos) [e] [] pos) (dMethS joinD t u) := by
  obtain ⟨to, a1, a2⟩ := ho.ex
  obtain ⟨te, b1, b2⟩ := he.ex
  refine ⟨_, fun X h => by have z := pe_join (a1 X h) (b1 X h) (hs X) (hbase X) hline; rw [h.K] at z; exact z, ?_⟩
  intro F σ H s vs ds Q R r q k
  refine a2 F σ H s vs ds _ _ r q fun v H1 d s1 r1 q1 => ?_
  obtain ⟨M, hv⟩ := RelM.topH r1
  obtain ⟨a, rfl, rfl, q1⟩ := strD_ok hv q1
  refine ⟨⟨a, rfl⟩, b2 F σ H1 s1 _ _ _ _ r1 q1 fun wv H2 dy s2 r2 q2 => ?_⟩
  obtain ⟨y, rfl, ys, hy, hz, q4⟩ := isD_ok q2
  obtain ⟨M2, hw⟩ := RelM.topH r2
  have fin : R (.str (Txt.join a ys)) H2 := k _ H2 _ s2 ((r2.pop.pop).lit fun _ => .str _) q4
  rcases hy with rfl | rfl
  · cases hw with
    | lst h1 h2 => exact ⟨a, _, ys, rfl, rfl, .inl (by rw [← h2.strs]; exact SqL.of (hid_some h1).2), hz, fin⟩
  · cases hw with
    | tup h1 h2 => exact ⟨a, _, ys, rfl, rfl, .inr (by rw [← h2.strs]; exact sqt_mono h1), hz, fin⟩
theorem de_split (ho : DE g o t) (he : DE g e u) (hs : ∀ X : Cx, starEach [e] X.env = [(false, eval e X.env)] := by intro _; rfl) (hbase : ∀ X : Cx, attributeBase o "split" X.env (eval o X.env) = eval o X.env := by intro _; rfl) (hline : (apos.endLine == pos.line) = true := by rfl) : DE g (.Call (.Attribute o "split" apos) [e] [] pos) (dMethS splitD t u) := by
  obtain ⟨to, a1, a2⟩ := ho.ex
  obtain ⟨te, b1, b2⟩ := he.ex
  refine ⟨_, fun X h => pe_split (a1 X h) (b1 X h) (hs X) (hbase X) hline, ?_⟩
  intro F σ H s vs ds Q R r q k
  refine a2 F σ H s vs ds _ _ r q fun v H1 d s1 r1 q1 => ?_
  obtain ⟨M, hv⟩ := RelM.topH r1
  obtain ⟨a, rfl, rfl, q1⟩ := strD_ok hv q1
  refine ⟨⟨a, rfl⟩, b2 F σ H1 s1 _ _ _ _ r1 q1 fun wv H2 dy s2 r2 q2 => ?_⟩
  obtain ⟨y, rfl, q3⟩ := isD_ok q2
  obtain ⟨M2, hw⟩ := RelM.topH r2
  cases y with
  | str b =>
    cases hw
    obtain ⟨c1, c2, q4⟩ := q3
    refine ⟨a, b, rfl, rfl, c1, c2, fun p hp => ?_⟩
    obtain ⟨M3, r3⟩ := r2.pop.pop
    refine k _ _ _ s2 ⟨M3, (r3.grow (same_new hp)).push (d := .d (.list _)) (.lst (free_hid r3.hS hp) (drs_strs _))⟩ q4
  | _ => exact q3.elim
/-! ### dicts -/
/-- {k: v, ..} -/
def dPairs : List (TED × TED) → DS → (List (DV × DV) → DS → Prop) → Prop
  | [], s, Q => Q [] s
  | (tk, tv) :: r, s, Q => tk s fun x s1 => tv s1 fun y s2 => dPairs r s2 fun ps s3 => Q ((x, y) :: ps) s3
structure DPs (g : Sg) (pos : Pos) (keys : List (Option Expr)) (values : List Expr) (trs : List (TED × TED)) : Prop where
  ex : ∃ tes, (∀ X, g.has X → PPs X pos keys values tes) ∧ ∀ (F : Fr) (σ : St) (H : Hp) (s : DS) (vs : List V) (ds : List DV) (Q : List (DV × DV) → DS → Prop) (R : List (V × V) → Hp → Prop), Rel g.K F σ H s vs ds → dPairs trs s Q →
    (∀ ps H' qs s', (∃ ws es, Rel g.K F σ H' s' (ws ++ vs) (es ++ ds) ∧ ws = ps.flatMap (fun p => [p.1, p.2]) ∧ es = qs.flatMap (fun p => [p.1, p.2]) ∧ ps.length = qs.length) → Q qs s' → R ps H') → tPairs tes σ H R
theorem dps_nil : DPs g pos [] [] [] := ⟨[], fun _ _ => pps_nil, fun F σ H s vs ds Q R r q k => k [] H [] s ⟨[], [], r, rfl, rfl, rfl⟩ q⟩
theorem dps_cons {kx vx : Expr} {ks : List (Option Expr)} {vs : List Expr} {tk tv : TED} {trs : List (TED × TED)} (hk : DE g kx tk) (hv : DE g vx tv) (hr : DPs g pos ks vs trs) : DPs g pos (some kx :: ks) (vx :: vs) ((tk, tv) :: trs) := by
  obtain ⟨t1, a1, a2⟩ := hk.ex
  obtain ⟨t2, b1, b2⟩ := hv.ex
  obtain ⟨t3, c1, c2⟩ := hr.ex
  refine ⟨(t1, t2) :: t3, fun X h => pps_cons (a1 X h) (b1 X h) (c1 X h), ?_⟩
  intro F σ H s vs ds Q R r q k
  refine a2 F σ H s vs ds _ _ r q fun x H1 dx s1 r1 q1 => ?_
  refine b2 F σ H1 s1 _ _ _ _ r1 q1 fun y H2 dy s2 r2 q2 => ?_
  refine c2 F σ H2 s2 _ _ _ _ r2 q2 fun ps H3 qs s3 ⟨ws, es, r3, e1, e2, e3⟩ q3 => ?_
  refine k ((x, y) :: ps) H3 ((dx, dy) :: qs) s3 ⟨[x, y] ++ ws, [dx, dy] ++ es, ?_, by rw [e1]; rfl, by rw [e2]; rfl, by simp [e3]⟩ q3
  obtain ⟨M, r3⟩ := r3
  refine ⟨M, r3.tmps ?_⟩
  have l1 : ws.length = es.length := by
    rw [e1, e2]
    have : ∀ {α : Type} (l : List (α × α)), (l.flatMap fun p => [p.1, p.2]).length = 2 * l.length := by
      intro α l
      induction l with
      | nil => rfl
      | cons a l ih => simp only [List.flatMap_cons, List.length_append, List.length_cons, List.length_nil, ih]; omega
    rw [this, this, e3]
  obtain ⟨h1, h2⟩ := paired_split l1 r3.tmp
  cases h2 with
  | cons hy h2 =>
    cases h2 with
    | cons hx h2 => exact .cons hx (.cons hy (paired_app h1 h2))
def pairsD : List (DV × DV) → (List (Key × PyData) → Prop) → Prop
  | [], k => k []
  | (x, y) :: r, k => keyD x fun a => isD y fun d => pairsD r fun l => k ((a, d) :: l)
def mergeT (kvs more : List (Key × PyData)) : List (Key × PyData) := more.foldl (fun acc kv => putT acc kv.1 kv.2) kvs
def dDict (trs : List (TED × TED)) : TED := fun s Q => dPairs trs s fun qs s1 => pairsD qs fun kvs => kvs.length ≤ 15 ∧ Q (.d (.dict ((mergeT [] kvs).map fun p => (kD p.1, p.2)))) s1
theorem pairsD_ok {K : PySem.W.Frag} {F : Fr} {S : Addr → Prop} {H : Hp} : ∀ {ps : List (V × V)} {qs : List (DV × DV)} {k : List (Key × PyData) → Prop}, ps.length = qs.length → Paired (RT K F S H) (ps.flatMap fun p => [p.1, p.2]) (qs.flatMap fun p => [p.1, p.2]) → pairsD qs k →
    ∃ (kvs : List (Key × V)) (ds : List (Key × PyData)), ps = kvs.map (fun kv => (kV kv.1, kv.2)) ∧ DKs K (hid S H) kvs ds ∧ k ds
  | [], [], k, _, _, h => ⟨[], [], rfl, .nil, h⟩
  | (x, y) :: ps, (a, b) :: qs, k, hl, hp, h => by
    rw [List.flatMap_cons, List.flatMap_cons] at hp
    cases hp with
    | cons h1 hp =>
      cases hp with
      | cons h2 hp =>
        obtain ⟨key, rfl, rfl, h3⟩ := keyD_ok h1 h
        obtain ⟨d, rfl, h4⟩ := isD_ok h3
        obtain ⟨kvs, ds, e1, e2, e3⟩ := pairsD_ok (by simpa using hl) hp h4
        exact ⟨(key, y) :: kvs, (key, d) :: ds, by rw [e1]; rfl, .cons ⟨rfl, h2⟩ e2, e3⟩
theorem DKs.merge {K : PySem.W.Frag} {H : Hp} {more : List (Key × V)} {md : List (Key × PyData)} (h : DKs K H more md) : ∀ {kvs : List (Key × V)} {ds : List (Key × PyData)}, DKs K H kvs ds → DKs K H (mergeK kvs more) (mergeT ds md) := by
  unfold DKs at h
  induction h with
  | nil => intro kvs ds q; exact q
  | @cons p q _ _ a t ih =>
    intro kvs ds r
    obtain ⟨p1, p2⟩ := p
    obtain ⟨q1, q2⟩ := q
    obtain ⟨e1, e2⟩ := a
    have e1 : p1 = q1 := e1
    subst e1
    exact ih (DKs.put r e2)
/-- an object that is made ahead of its content, hidden meanwhile -/
theorem de_dict {keys : List (Option Expr)} {values : List Expr} {trs : List (TED × TED)} (h : DPs g pos keys values trs) (hall : keys.all (·.isSome) = true := by rfl) (hl : keys.length = values.length := by rfl) (h0 : keys ≠ [] := by intro z; cases z) (h15 : keys.length ≤ 15 := by decide) : DE g (.Dict keys values pos) (dDict trs) := by
  obtain ⟨tes, a1, a2⟩ := h.ex
  refine ⟨_, fun X hX => pe_disp (a1 X hX) hall hl h0 h15, ?_⟩
  intro F σ H s vs ds Q R r q k p hp
  -- the dict at p is hidden while its entries are made
  have hm : F.mb ≠ some p := by
    obtain ⟨M, r⟩ := r
    exact fun z => r.free hp (.inl (r.sat p z).1)
  have hS : ¬ F.S0 p := by
    obtain ⟨M, r⟩ := r
    exact fun z => r.free hp (.inl z)
  have h0 : F.H0 p = none := by
    obtain ⟨M, r⟩ := r
    cases e : F.H0 p with
    | none => rfl
    | some o => have := r.ext p o e hm; rw [hp] at this; cases this
  obtain ⟨M, r⟩ := r
  have r1 : RelM g.K ⟨F.mb, fun a => F.S0 a ∨ a = p, upd F.H0 p (.dK [])⟩ M σ (upd H p (.dK [])) s vs ds := by
    have nS := r.free hp
    have eh : Same (hid (SM F M) H) (hid (SM ⟨F.mb, fun a => F.S0 a ∨ a = p, upd F.H0 p (.dK [])⟩ M) (upd H p (.dK []))) := fun a o q => by
      obtain ⟨q1, q2⟩ := hid_some q
      have ne : a ≠ p := ne_of_none q2 hp
      rw [hid_out, upd_ne ne]
      · exact q2
      · rintro ((z | z) | z)
        · exact q1 (.inl z)
        · exact ne z
        · exact q1 (.inr z)
    refine ⟨r.len, fun i x q => ?_, r.inj, fun i a q => ?_, fun i a q => ?_, fun a q => ?_, fun b q => ?_, fun a o q z => ?_, Paired.mapP r.tmp fun _ d q => ?_⟩
    · obtain ⟨v, h1, h2⟩ := r.vals i x q
      refine ⟨v, h1, ?_⟩
      cases x with
      | d x => exact DR.mono eh x v h2
      | sat => exact h2
      | scr ns => obtain ⟨a, h1, h2⟩ := h2; exact ⟨a, h1, eh.seq h2⟩
      | own xs => obtain ⟨a, ys, h3, h4, h5, h6⟩ := h2; exact ⟨a, ys, h3, h4, by rw [upd_ne (ne_of_none h5 hp)]; exact h5, DRs.mono eh _ _ h6⟩
      | tab xs => obtain ⟨a, ys, h3, h4, h5, h6⟩ := h2; exact ⟨a, ys, h3, h4, by rw [upd_ne (ne_of_none h5 hp)]; exact h5, DKs.mono eh h6⟩
    · obtain ⟨h1, o, h2⟩ := r.out i a q
      refine ⟨?_, o, by rw [upd_ne (ne_of_none h2 hp)]; exact h2⟩
      rintro (z | z)
      · exact h1 z
      · exact ne_of_none h2 hp z
    · obtain ⟨h1, o, h2⟩ := r.out i a q
      show upd F.H0 p _ a = none
      rw [upd_ne (ne_of_none h2 hp)]
      exact r.new i a q
    · rcases q with q | q
      · obtain ⟨o, h⟩ := r.there a q
        exact ⟨o, by rw [upd_ne (ne_of_none h hp)]; exact h⟩
      · subst q; exact ⟨_, upd_same⟩
    · obtain ⟨h1, h2⟩ := r.sat b q
      obtain ⟨o, h⟩ := r.there b h1
      exact ⟨.inl h1, h2.mono (upd_ne (ne_of_none h hp)) eh (Nat.le_refl _)⟩
    · by_cases e : a = p
      · subst e
        have q : upd F.H0 a (.dK []) a = some o := q
        rw [upd_same] at q ⊢
        exact q
      · have q : upd F.H0 p (.dK []) a = some o := q
        rw [upd_ne e] at q ⊢
        exact r.ext a o q z
    · have q' := q.mono eh
      cases d <;> exact q'
  refine a2 _ σ _ s vs ds _ _ ⟨M, r1⟩ q fun ps H2 qs s2 ⟨ws, es, ⟨M2, r2⟩, e1, e2, e3⟩ q2 => ?_
  subst e1 e2
  have hl2 : (ps.flatMap fun p => [p.1, p.2]).length = (qs.flatMap fun p => [p.1, p.2]).length := by
    have : ∀ {α : Type} (l : List (α × α)), (l.flatMap fun p => [p.1, p.2]).length = 2 * l.length := by
      intro α l
      induction l with
      | nil => rfl
      | cons a l ih => simp only [List.flatMap_cons, List.length_append, List.length_cons, List.length_nil, ih]; omega
    rw [this, this, e3]
  obtain ⟨t1, t2⟩ := paired_split hl2 r2.tmp
  obtain ⟨kvs, dks, e4, e5, hlen, q3⟩ := pairsD_ok e3 t1 q2
  have hasP : H2 p = some (.dK []) := r2.ext p _ (by show upd F.H0 p _ p = _; rw [upd_same]) hm
  refine ⟨hasP, kvs, e4, by rw [e5.length]; exact hlen, ?_⟩
  refine k _ _ _ s2 ?_ q3
  -- back to F, the dict shown
  have nD : ¬ SM F M2 p := by
    rintro (z | ⟨i, z⟩)
    · exact hS z
    · exact (r2.out i p z).1 (.inr rfl)
  have neM : ∀ i a, M2 i = some a → a ≠ p := fun i a z e => nD (e ▸ .inr ⟨i, z⟩)
  have eh : Same (hid (SM ⟨F.mb, fun a => F.S0 a ∨ a = p, upd F.H0 p (.dK [])⟩ M2) H2) (hid (SM F M2) (upd H2 p (.dK (mergeK [] kvs)))) := fun a o q => by
    obtain ⟨q1, q2⟩ := hid_some q
    have ne : a ≠ p := fun e => q1 (.inl (.inr e))
    rw [hid_out (fun z => q1 (z.elim (fun z => .inl (.inl z)) .inr)), upd_ne ne]
    exact q2
  refine ⟨M2, r2.len, fun i x q => ?_, r2.inj, fun i a q => ?_, fun i a q => ?_, fun a q => ?_, fun b q => ?_, fun a o q z => ?_, .cons ?_ (Paired.mapP t2 fun _ d q => ?_)⟩
  · obtain ⟨v, h1, h2⟩ := r2.vals i x q
    refine ⟨v, h1, ?_⟩
    cases x with
    | d x => exact DR.mono eh x v h2
    | sat => exact h2
    | scr ns => obtain ⟨a, h1, h2⟩ := h2; exact ⟨a, h1, eh.seq h2⟩
    | own xs => obtain ⟨a, ys, h3, h4, h5, h6⟩ := h2; exact ⟨a, ys, h3, h4, by rw [upd_ne (neM i a h4)]; exact h5, DRs.mono eh _ _ h6⟩
    | tab xs => obtain ⟨a, ys, h3, h4, h5, h6⟩ := h2; exact ⟨a, ys, h3, h4, by rw [upd_ne (neM i a h4)]; exact h5, DKs.mono eh h6⟩
  · obtain ⟨h1, o, h2⟩ := r2.out i a q
    exact ⟨fun z => h1 (.inl z), o, by rw [upd_ne (neM i a q)]; exact h2⟩
  · have h := r2.new i a q
    have h : upd F.H0 p _ a = none := h
    rw [upd_ne (neM i a q)] at h
    exact h
  · obtain ⟨o, h⟩ := r2.there a (.inl q)
    have na : a ≠ p := fun e => by subst e; exact hS q
    exact ⟨o, by rw [upd_ne na]; exact h⟩
  · obtain ⟨h1, h2⟩ := r2.sat b q
    have nb : b ≠ p := fun e => hm (e ▸ q)
    rcases h1 with h1 | h1
    · exact ⟨h1, h2.mono (upd_ne nb) eh (Nat.le_refl _)⟩
    · exact absurd h1 nb
  · have e : a ≠ p := fun e => by subst e; rw [h0] at q; cases q
    rw [upd_ne e]
    exact r2.ext a o (by show upd F.H0 p _ a = _; rw [upd_ne e]; exact q) z
  · have m1 : DKs g.K (hid (SM F M2) (upd H2 p (.dK (mergeK [] kvs)))) (mergeK [] kvs) (mergeT [] dks) := (DKs.merge e5 .nil).mono eh
    exact .dct ((hid_out nD).trans upd_same) m1.drk
  · have q' := q.mono eh
    cases d <;> exact q'
/-- list(e.items()) -/
def itemsTD (ds : List (PyData × PyData)) : List PyData := ds.map fun p => .tuple [p.1, p.2]
def itemsD1 (d : PyData) (Q : PyData → Prop) : Prop := match d with
  | .dict kvs => Q (.list (itemsTD kvs))
  | _ => False
theorem DRk.keys {K : PySem.W.Frag} {S : Addr → Prop} {H H' : Hp} : ∀ {kvs : List (Key × V)} {ds : List (PyData × PyData)} {ts : List Addr}, DRk K (hid S H) kvs ds → (∀ a o, ¬ S a → H a = some o → H' a = some o) → (∀ t ∈ ts, ¬ S t) → Paired (fun (t : Addr) (q : Key × V) => H' t = some (.tup [kV q.1, q.2])) ts kvs → DRs K (hid S H') (ts.map V.ref) (itemsTD ds)
  | _, _, _, .nil, _, _, .nil => .nil
  | _, _, _, .cons (k := key) h t, e, f, .cons a b => by
    have m : Same (hid S H) (hid S H') := hid_sub (fun _ z => z) e
    refine .cons (.tup (SqT.of ((hid_out (f _ (List.mem_cons_self ..))).trans a)) (.cons ?_ (.cons (DR.mono m _ _ h) .nil))) (DRk.keys t e (fun x hx => f x (List.mem_cons_of_mem _ hx)) b)
    cases key with
    | inl i => exact .int i
    | inr z => exact .str z
theorem de_listItems {p : Pos} (he : DE g e t) (hm : g.mg "list" = none) (hg : g.sc.names.lookup ("list" : Str) = some .globalImplicit := by rfl) (hbase : ∀ X : Cx, attributeBase e "items" X.env (eval e X.env) = eval e X.env := by intro _; rfl) (hline : (apos.endLine == cpos.line) = true := by rfl)
    (hs : ∀ X : Cx, starEach [.Call (.Attribute e "items" apos) [] [] cpos] X.env = (false, eval (.Call (.Attribute e "items" apos) [] [] cpos) X.env) :: starEach [] X.env := by intro _; rfl) : DE g (.Call (.Name "list" p) [.Call (.Attribute e "items" apos) [] [] cpos] [] pos) (dUn itemsD1 t) := by
  obtain ⟨te, a1, a2⟩ := he.ex
  refine ⟨LiI.tListItems te, fun X h => LiI.pe_listItems h.calm (a1 X h) (by show X.env.scope.names.lookup _ = _; rw [h.sc]; exact hg) (by rw [h.mg]; exact hm) (by decide +kernel) (hbase X) hline (hs X), ?_⟩
  refine le_un (r := LiI.rItemsL) ?_ a2
  intro S H x dx Q R hS hx q k
  cases dx with
  | dict ds =>
    cases hx with
    | dct h1 h2 =>
      refine ⟨_, _, rfl, (hid_some h1).2, fun H' p ts e1 e2 e3 e4 e5 e6 => k _ _ _ e1 (.lst (xs := ts.map V.ref) ?_ ?_) q⟩
      · refine (hid_out fun z => ?_).trans e5
        obtain ⟨o, z⟩ := hS _ z
        rw [e2] at z; cases z
      · refine DRk.keys h2 (fun a o _ z => e1 a o z) (fun t ht z => ?_) e6
        obtain ⟨o, z⟩ := hS _ z
        rw [e3 t ht] at z; cases z
  | _ => exact q.elim
/-- x.get(k, v), x of one's own -/
def getT {κ α : Type} [DecidableEq κ] (kvs : List (κ × α)) (k : κ) : Option α := (kvs.find? fun p => decide (p.1 = k)).map (·.2)
def dGetTab (i : Nat) (tk td : TED) : TED := fun s Q => (∃ kvs, s.ρ[i]? = some (some (.tab kvs))) ∧ tk s fun k s1 => td s1 fun v s2 => keyD k fun key => isD v fun vd => ∃ kvs, s2.ρ[i]? = some (some (.tab kvs)) ∧ Q (.d ((getT kvs key).getD vd)) s2
theorem DKs.getT {K : PySem.W.Frag} {H : Hp} {xs : List (Key × V)} {ys : List (Key × PyData)} (h : DKs K H xs ys) (k : Key) : (valV xs k = none ∧ PD.getT ys k = none) ∨ ∃ v d, valV xs k = some v ∧ PD.getT ys k = some d ∧ DR K H v d := by
  unfold DKs at h
  induction h with
  | nil => exact .inl ⟨rfl, rfl⟩
  | @cons p q _ _ a t ih =>
    obtain ⟨p1, p2⟩ := p
    obtain ⟨q1, q2⟩ := q
    obtain ⟨e1, e2⟩ := a
    have e1 : p1 = q1 := e1
    subst e1
    by_cases z : p1 = k
    · exact .inr ⟨p2, q2, valV_pos z, by unfold PD.getT; rw [List.find?_cons_of_pos (by simpa using z)]; rfl, e2⟩
    · rw [valV_neg z]
      have this : ∀ l : List (Key × PyData), PD.getT ((p1, q2) :: l) k = PD.getT l k := fun l => by unfold PD.getT; rw [List.find?_cons_of_neg (by simpa using z)]
      rw [this]
      exact ih
theorem de_getTab {i : Nat} {x : Str} {p : Pos} {tk td : TED} (hN : g.N[i]? = some x) (hv : Vis g.sc x) (hk : DE g e tk) (hd : DE g f td) (m : ∀ X : Cx, M2 X (.Name x p) "get" apos e f cpos) (hdb : (x == ("__debug__" : Str)) = false := by decide) (hcd : (x == ("__classdict__" : Str)) = false := by decide) :
    DE g (.Call (.Attribute (.Name x p) "get" apos) [e, f] [] cpos) (dGetTab i tk td) := by
  obtain ⟨t1, a1, a2⟩ := hk.ex
  obtain ⟨t2, b1, b2⟩ := hd.ex
  refine ⟨_, fun X h => pe_dget2 (by have := h.un; omega) (pe_var (pos := p) (by rw [h.N]; exact hN) (by rw [h.sc]; exact hv) hdb hcd) (a1 X h) (b1 X h) (m X), ?_⟩
  intro F σ H s vs ds Q R r ⟨⟨kvs, h0⟩, q⟩ k
  obtain ⟨M, r⟩ := r
  obtain ⟨a, ys, h1, h2, h3, h4, h5⟩ := r.tab h0
  refine ⟨_, h1, a, rfl, .inl ⟨_, .inl h3⟩, a2 F σ H s vs ds _ _ ⟨M, r⟩ q fun kv H1 dk s1 r1 q1 => b2 F σ H1 s1 _ _ _ _ r1 q1 fun v H2 dv s2 r2 q2 => ?_⟩
  obtain ⟨M2, r2⟩ := r2
  cases r2.tmp with
  | cons hv' tmp =>
  cases tmp with
  | cons hk' tmp =>
  obtain ⟨key, rfl, rfl, q3⟩ := keyD_ok hk' q2
  obtain ⟨vd, rfl, kvs2, g1, q4⟩ := isD_ok q3
  obtain ⟨a3, ys2, k1, k2, k3, k4, k5⟩ := r2.tab g1
  rw [h1] at k1
  cases k1
  refine ⟨_, DGet.k k3, ?_⟩
  rcases k4.getT key with ⟨e1, e2⟩ | ⟨w, d, e1, e2, e3⟩
  · rw [e2] at q4
    rw [e1]
    exact k _ _ _ s2 ⟨M2, (r2.tmps tmp).push (d := .d vd) hv'⟩ q4
  · rw [e2] at q4
    rw [e1]
    exact k _ _ _ s2 ⟨M2, (r2.tmps tmp).push (d := .d d) e3⟩ q4
end
/-! ### a, b = e, f -/
section
variable {g : Sg} {e f : Expr} {t u : TED} {pos : Pos}
def dPar (i j : Nat) (ta : TAD) : TSD := fun D s => ta s fun xs s1 => match xs with
  | [x, y] => i < s1.ρ.length ∧ j < s1.ρ.length ∧ D.nx (putS (putS s1 i x) j y)
  | _ => False
theorem ds_par {i j : Nat} {x y : Str} {a b : Expr} {ta : TAD} {px py pt : Pos} {kt k2 pt2} (hN : g.N.Nodup) (hi : g.N[i]? = some x) (hj : g.N[j]? = some y) (hij : i ≠ j) (hk : g.sc.kind = .function) (hx : g.sc.names.lookup x = some .local) (hy : g.sc.names.lookup y = some .local) (ha : DA g [a, b] ta)
    (hw : ∀ X : Cx, X.env.scope = g.sc → swappedStores [.Tuple [.Name x px, .Name y py] kt pt] (.Tuple [a, b] k2 pt2) X.env = pure (some [x, y])) (hs : ∀ X : Cx, swapsWithSole [.Tuple [.Name x px, .Name y py] kt pt] (.Tuple [a, b] k2 pt2) pos.line X.env = pure false := by intro _; rfl) :
    DSt g (.Assign [.Tuple [.Name x px, .Name y py] kt pt] (.Tuple [a, b] k2 pt2) pos) (dPar i j ta) := by
  obtain ⟨te, a1, a2⟩ := ha.ex
  refine ⟨_, fun X h => ps_par h.calm (by rw [h.N]; exact hN) (by rw [h.N]; exact hi) (by rw [h.N]; exact hj) hij (by rw [h.sc]; exact hx) (by rw [h.sc]; exact hy) (a1 X h) (hw X h.sc) (hs X), ?_⟩
  intro F σ H s vs ds D E r q hn _ _ _
  refine a2 F σ H s vs ds _ _ r q fun ws H1 es s1 r1 q1 => ?_
  match es, q1 with
  | [dx, dy], ⟨l1, l2, q1⟩ =>
    have hl : ws.length = 2 := by
      obtain ⟨M, r1⟩ := r1
      obtain ⟨M0, r0⟩ := r
      have h1 := Paired.length r1.tmp
      have h2 := Paired.length r0.tmp
      simp at h1
      omega
    match ws, hl with
    | [v, w], _ =>
      refine ⟨v, w, rfl, hn _ _ _ ?_ q1⟩
      have r2 := Rel.store (i := i) (show Rel g.K F σ H1 s1 (v :: (w :: vs)) (dx :: (dy :: ds)) from r1) l1
      exact Rel.store (i := j) r2 (by simpa [putS] using l2)
end
end PD
set_option Elab.async false
set_option linter.all false
set_option maxRecDepth 100000
set_option maxHeartbeats 1000000
namespace PD
open PySem L2
open PySem.W (alike dataLt AllAlike Sortable EachIs dataLe)
theorem pairs_get {P : Program} {w : World} : ∀ {es : List DictEntry} {vs : List (Key × Value)} {j : Nat} {e : DictEntry}, Pairs (mixKind P w) es vs → es[j]? = some e → ∃ q, vs[j]? = some q ∧ keyIs q.1 e.key = true ∧ e.val = q.2
  | _, _, _, _, .nil, h => by simp at h
  | _, _, 0, _, .cons a b t, h => by simp at h; subst h; exact ⟨_, rfl, a, b⟩
  | _, _, j + 1, _, .cons a b t, h => by
    obtain ⟨q, h1, h2⟩ := pairs_get (j := j) t (by simpa using h)
    exact ⟨q, by simpa using h1, h2⟩
/-- the pairs that were made are tracked as tuples -/
theorem tuples_laid {X : Cx} {pins : List (Addr × Obj)} {σ : L2.St} {H : Hp} {s : Shared} {h' : Heap} {tk : Nat} {kvs : List (Key × V)} {vs : List (Key × Value)} {es : Array DictEntry} {as : List Addr} (I : Inv X pins σ H s) (kv : KV kvs vs) (hp : Pairs (mixKind X.prog X.w) es.toList vs)
    (hk : ∀ b o, s.heap.get? b = some o → h'.get? b = some o) (hl : as.length = es.size) (hG : DT.Made es s.heap.objs.size h' as) :
    ∃ H' : Hp, Same H H' ∧ (∀ t ∈ as, H t = none) ∧ Paired (fun (t : Addr) (q : Key × V) => H' t = some (.tup [kV q.1, q.2])) as kvs ∧ Inv X pins σ H' { s with heap := h', toks := tk } := by
  have lk : kvs.length = as.length := by have h1 := Paired.length kv; have h2 := hp.length; simp at h2; omega
  have nd : as.Nodup := List.Pairwise.imp (fun {a b} (h : a < b) => Nat.ne_of_lt h) hG.rise
  have new : ∀ t ∈ as, H t = none := fun t ht => I.hok.fresh (Nat.le_of_lt (hG.above t ht))
  have atP := LiI.putT_at as kvs H lk.symm nd
  have off : ∀ b, b ∉ as → LiI.putT H as kvs b = H b := fun b h1 => LiI.putT_off as kvs _ h1
  have kp : Same H (LiI.putT H as kvs) := fun b u e => (off b (fun z => by rw [new b z] at e; cases e)).trans e
  have low : ∀ b o, s.heap.get? b = some o → b ∉ as := fun b o e z => absurd (Heap.lt_size e) (Nat.not_lt.mpr (Nat.le_of_lt (hG.above b z)))
  refine ⟨LiI.putT H as kvs, kp, new, atP, I.call' (ch := []) rfl ⟨fun b o q _ _ _ => hk b o q, fun b o q _ _ _ => ⟨o.slots, hk b o q⟩, fun b o q n _ => (off b (low b o q)).trans n, fun b o q _ => ⟨o, hk b o q⟩, fun b xs q => kp b _ q, fun b o u q => kp b _ q, fun b ps q => ⟨#[], by rw [kp b _ q]; simp⟩⟩ (fun b u q => ?_) I.bare (fun b z => by simp at z)⟩
  by_cases hb : b ∈ as
  · obtain ⟨j, pk, e1, e2, e3⟩ := LiI.paired_ix atP hb
    rw [e3] at q
    cases q
    obtain ⟨en, f1, f2⟩ := hG.pairs j b e1
    obtain ⟨qv, g1, g2, g3⟩ := pairs_get hp (show es.toList[j]? = some en by simpa using f1)
    obtain ⟨pq, k1, k2, k3⟩ := LiI.paired_get (F := fun (p : Key × V) (q : Key × Value) => p.1 = q.1 ∧ RelV p.2 q.2) kv e2
    rw [g1] at k1
    cases k1
    have rk : RelV (kV pk.1) en.key := by
      have k2' : pk.1 = qv.1 := k2
      rw [k2']
      exact relV_key g2
    exact ⟨by show 2 ≤ sizeLine; decide, [en.key, en.val], .cons rk (.cons (by rw [g3]; exact k3) .nil), ⟨_, f2, rfl, _, rfl⟩⟩
  · rw [off b hb] at q
    exact (I.hok b u q).stay (fun d v _ y => hk d v y) (fun d y => kp d _ y) (fun d xs y => kp d _ y)
theorem dr_kD {K : PySem.W.Frag} {H : Hp} (k : Key) : DR K H (kV k) (kD k) := by
  cases k with
  | inl i => exact .int i
  | inr x => exact .str x
/-- sorted(e.items()) -/
abbrev Z3 : Type := Addr × (Key × V) × (PyData × PyData)
def rSortI (K : PySem.W.Frag) : V → Hp → VK → Prop := fun x H Q => ∃ (d : Addr) (kvs : List (Key × V)) (ds : List (PyData × PyData)), x = .ref d ∧ H d = some (.dK kvs) ∧ DRk K H kvs ds ∧ srtOk (itemsTD ds) ∧ (∀ p ∈ ds, flatD p.2 = true) ∧
  ∀ (H' : Hp) (p : Addr) (zs : List Z3), Same H H' → H p = none → (∀ z ∈ zs, H z.1 = none) → H' p = some (.lst (zs.map fun z => V.ref z.1)) → (∀ z ∈ zs, H' z.1 = some (.tup [kV z.2.1.1, z.2.1.2]) ∧ (z.2.1, z.2.2) ∈ kvs.zip ds) → (zs.map fun z => PyData.tuple [z.2.2.1, z.2.2.2]) = srtD (itemsTD ds) → Q (.ref p) H'
def zip3 : List Addr → List (Key × V) → List (PyData × PyData) → List Z3
  | a :: as, k :: ks, d :: ds => (a, k, d) :: zip3 as ks ds
  | _, _, _ => []
theorem vals_refs : ∀ zs : List Z3, Vals (zs.map fun z => V.ref z.1) (zs.map fun z => Value.ref z.1)
  | [] => .nil
  | _ :: zs => .cons rfl (vals_refs zs)
theorem zip3_len : ∀ {as : List Addr} {ks : List (Key × V)} {ds : List (PyData × PyData)}, as.length = ks.length → ks.length = ds.length → (zip3 as ks ds).length = as.length
  | [], _, _, _, _ => rfl
  | a :: as, k :: ks, d :: ds, h1, h2 => by simp [zip3, zip3_len (as := as) (ks := ks) (ds := ds) (by simpa using h1) (by simpa using h2)]
theorem zip3_enc : ∀ {as : List Addr} {ks : List (Key × V)} {ds : List (PyData × PyData)}, as.length = ks.length → ks.length = ds.length → ((zip3 as ks ds).map fun z => PyData.tuple [z.2.2.1, z.2.2.2]) = itemsTD ds
  | [], [], [], _, _ => rfl
  | a :: as, k :: ks, d :: ds, h1, h2 => by
    show _ :: _ = _ :: _
    rw [zip3_enc (as := as) (ks := ks) (ds := ds) (by simpa using h1) (by simpa using h2)]
    rfl
theorem zip3_mem : ∀ {as : List Addr} {ks : List (Key × V)} {ds : List (PyData × PyData)} {z : Z3}, z ∈ zip3 as ks ds → z.1 ∈ as ∧ (z.2.1, z.2.2) ∈ ks.zip ds
  | a :: as, k :: ks, d :: ds, z, h => by
    rcases List.mem_cons.mp h with e | h
    · subst e; exact ⟨List.mem_cons_self .., List.mem_cons_self ..⟩
    · obtain ⟨h1, h2⟩ := zip3_mem h
      exact ⟨List.mem_cons_of_mem _ h1, List.mem_cons_of_mem _ h2⟩
  | [], _, _, _, h => by simp [zip3] at h
  | _ :: _, [], _, _, h => by simp [zip3] at h
  | _ :: _, _ :: _, [], _, h => by simp [zip3] at h
theorem zip3_pair {F : Addr → Key × V → Prop} : ∀ {as : List Addr} {ks : List (Key × V)} {ds : List (PyData × PyData)} {z : Z3}, Paired F as ks → z ∈ zip3 as ks ds → F z.1 z.2.1
  | _, _, d :: ds, z, .cons a t, h => by
    rcases List.mem_cons.mp h with e | h
    · subst e; exact a
    · exact zip3_pair t h
  | _, _, [], _, .cons a t, h => by simp [zip3] at h
  | _, _, _, _, .nil, h => by simp [zip3] at h
theorem zip3_each : ∀ {as : List Addr} {ks : List (Key × V)} {ds : List (PyData × PyData)}, as.length = ks.length → ks.length = ds.length → EachIs (fun (u : Value) (z : Z3) => u = .ref z.1) (as.map Value.ref) (zip3 as ks ds)
  | [], [], [], _, _ => .nil
  | a :: as, k :: ks, d :: ds, h1, h2 => .cons rfl (zip3_each (by simpa using h1) (by simpa using h2))
theorem each_imp {α β : Type} {R R' : α → β → Prop} {as : List α} {bs : List β} (h : EachIs R as bs) (k : ∀ a b, b ∈ bs → R a b → R' a b) : EachIs R' as bs := by
  induction h with
  | nil => exact .nil
  | cons a t ih => exact .cons (k _ _ (List.mem_cons_self ..) a) (ih fun x y hy => k x y (List.mem_cons_of_mem _ hy))
theorem each_ref {us : List Value} {zs : List Z3} (h : EachIs (fun (u : Value) (z : Z3) => u = .ref z.1) us zs) : us = zs.map fun z => Value.ref z.1 := by
  induction h with
  | nil => rfl
  | cons a t ih => rw [ih, a]; rfl
theorem DRk.zip {K : PySem.W.Frag} {H : Hp} : ∀ {kvs : List (Key × V)} {ds : List (PyData × PyData)}, DRk K H kvs ds → ∀ z ∈ kvs.zip ds, z.2.1 = kD z.1.1 ∧ DR K H z.1.2 z.2.2
  | _, _, .nil, z, hz => by simp at hz
  | _, _, .cons h t, z, hz => by
    simp only [List.zip_cons_cons, List.mem_cons] at hz
    rcases hz with rfl | hz
    · exact ⟨rfl, h⟩
    · exact DRk.zip t z hz
section
variable {g : Sg} {e : Expr} {t : TED} {p pos apos cpos : Pos}
theorem pe_sortItems {X : Cx} {te : TE} (h : g.has X) (he : PE X e te) (hg : Gl X "sorted") (hm : X.mg "sorted" = none) (hbase : attributeBase e "items" X.env (eval e X.env) = eval e X.env) (hline : (apos.endLine == cpos.line) = true)
    (hs : starEach [.Call (.Attribute e "items" apos) [] [] cpos] X.env = (false, eval (.Call (.Attribute e "items" apos) [] [] cpos) X.env) :: starEach [] X.env) :
    PE X (.Call (.Name "sorted" p) [.Call (.Attribute e "items" apos) [] [] cpos] [] pos) (fun σ H Q => te σ H fun x H1 => rSortI g.K x H1 Q) := by
  constructor; intro pins s σ H Q I hq
  refine wpAny_Call_Name_kw (ld_blt I hg hm (u := .builtin "sorted") (by decide +kernel) (PyProof.Rows.callWith_builtin1 ?_ hs rfl))
  rw [hs]
  refine Calls.spliced_cons (wpAny_Call_method (T := "dict") (id := "dict.items") hbase rfl hline F.plainAttrs_dict F.slot_dict_items F.type_dict_items (thn (he.run pins s σ H _ I hq) (fun u s1 z => ?_)))
  obtain ⟨x, H1, I1, rx, d, kvs, ds, ex, hd, hD, c1, c2, q⟩ := z
  subst ex
  obtain rfl : u = Value.ref d := rx
  obtain ⟨hz, hs0, vs, kv, hdo⟩ := id (I1.hok d _ hd)
  obtain ⟨o, es, ep, ho, hx, hdat, hkeys, hpairs, hnd⟩ := id hdo
  have lk : kvs.length = vs.length := Paired.length kv
  have l2 := hpairs.length
  have l3 := hD.length
  have I2 : Inv X pins σ H1 { s1 with heap := s1.heap.push { cls := .type "dict_items", data := .fields #[.ref d] } } := I1.kept (t' := s1.toks) (fun b ob q => Heap.get?_push_of_some _ q)
  refine ⟨hdo.typeIs, hdo.mapOf.noDict, ?_⟩
  show wpAny (model X.prog X.w) X.A (callWith cpos (.builtin "dict.items") [.ref d] [] []) _ _ _
  refine method_meetsIn F.slot_dict_items F.entry_dict_items rfl (PySem.evalArgs_none ⟨rfl, hdo.typeIs, F.args_dict_items_1 _, _, meets_dict_items (mixKind X.prog X.w) d hs0, ⟨vs, hdo⟩, ?_⟩)
  refine Calls.spliced_nil ?_
  refine DT.sortedI (es := es) (ep := ep) (I1.ok.hd h.calm) ⟨_, Heap.get?_push_size _ rfl, rfl, rfl⟩ (DT.Raw.push (⟨o, ho, hx, hdat⟩ : DT.Raw s1.heap d es ep) _) (by have := c1.2.2.2; simp [itemsTD] at this; simp at lk l2; omega) fun h' tk as k1 k2 k3 k4 => ?_
  rw [← h.K] at hD
  have lk3 : kvs.length = ds.length := l3
  have lae : as.length = kvs.length := by simp at l2; omega
  obtain ⟨H2, sm, nw, pr, I3⟩ := tuples_laid (tk := tk) I2 kv hpairs k1 k3 k4
  have hu := h.un
  -- the list is laid behind
  have low : ∀ a ∈ as, a < h'.objs.size := fun a ha => by
    obtain ⟨j, hj⟩ := List.getElem?_of_mem ha
    obtain ⟨en, _, e2⟩ := k4.pairs j a hj
    exact Heap.lt_size e2
  have zl := zip3_len lae lk3
  have hl : (h'.push { cls := Value.type "list", data := Data.seq (List.map Value.ref as).toArray }).get? h'.objs.size = some (PyProof.Rows.seqObj "list" (List.map Value.ref as).toArray 0) := Heap.get?_push_size _ rfl
  have I4 : Inv X pins σ H2 { s1 with heap := h'.push { cls := Value.type "list", data := Data.seq (List.map Value.ref as).toArray }, toks := tk } := I3.kept (t' := tk) fun b o q => Heap.get?_push_of_some _ q
  refine PySem.W.list_sort_data (bs := zip3 as kvs ds) (enc := fun z => .tuple [z.2.2.1, z.2.2.2]) (R := fun u z => u = .ref z.1) hl (zip3_each lae lk3) ?_ (by rw [zip3_enc lae lk3]; exact c1.1) (by rw [zip3_enc lae lk3]; exact c1.2.1) (by rw [zl, lae, lk3]; have := c1.2.2.2; simpa [itemsTD] using this) ?_ ?_
  · refine each_imp (zip3_each lae lk3) fun u z hz e => ?_
    subst e
    obtain ⟨m1, m2⟩ := zip3_mem hz
    obtain ⟨e1, e2⟩ := hD.zip _ m2
    have t1 : H2 z.1 = some (.tup [kV z.2.1.1, z.2.1.2]) := zip3_pair (F := fun (t : Addr) (q : Key × V) => H2 t = some (.tup [kV q.1, q.2])) pr hz
    have d1 : DR X.K H2 (.ref z.1) (.tuple [z.2.2.1, z.2.2.2]) := .tup (SqT.of t1) (.cons (by rw [e1]; exact dr_kD _) (.cons (DR.mono sm _ _ e2) .nil))
    obtain ⟨as', r⟩ := DR.reads I4 _ _ _ d1 rfl
    have : as' = [] := by
      cases r with
      | tuple g1 g2 g3 g4 =>
        refine flat_readsAll g4 fun d hd => ?_
        simp only [List.mem_cons, List.not_mem_nil, or_false] at hd
        rcases hd with rfl | rfl
        · rw [e1]; cases z.2.1.1 <;> rfl
        · exact c2 z.2.2 (List.of_mem_zip m2).2
    subst this
    exact ⟨[], r, by simp⟩
  · intro z hz
    obtain ⟨m1, m2⟩ := zip3_mem hz
    have := c1.2.2.1 (.tuple [z.2.2.1, z.2.2.2]) (List.mem_map.mpr ⟨z.2.2, (List.of_mem_zip m2).2, rfl⟩)
    rw [show X.A.in1.units = X.A.units + 1 from rfl]
    omega
  · intro out ho he
    have oe := each_ref he
    subst oe
    obtain ⟨ep2, ha2⟩ := PyProof.Rows.sortedHeap_at (out := (List.map (fun z => Value.ref z.1) ((zip3 as kvs ds).mergeSort (PySem.W.dataLe false fun z : Z3 => PyData.tuple [z.2.2.1, z.2.2.2]))).toArray) hl
    have fr : H2 h'.objs.size = none := I3.hok.fresh (Nat.le_refl _)
    have fr1 : H1 h'.objs.size = none := I1.hok.fresh (Nat.le_trans (Nat.le_trans (Nat.le_succ _) (by rw [show (Heap.push s1.heap _).objs.size = s1.heap.objs.size + 1 from by simp [Heap.push]] at k2; exact Nat.le_of_lt (Nat.lt_of_le_of_lt (Nat.le_refl _) k2))) (Nat.le_refl _))
    refine ⟨.ref h'.objs.size, upd H2 h'.objs.size (.lst (((zip3 as kvs ds).mergeSort (PySem.W.dataLe false fun z : Z3 => PyData.tuple [z.2.2.1, z.2.2.2])).map fun z => V.ref z.1)), I3.laid (t' := tk) (fun b o q => ?_) (Nat.le_refl _) ⟨?_, _, ep2, ?_, ha2⟩, rfl, q _ _ _ (fun b o q => ?_) fr1 (fun z hz => nw z.1 (zip3_mem ((List.mergeSort_perm _ _).mem_iff.mp hz)).1) (upd_same ..) (fun z hz => ?_) ?_⟩
    · have hlt : b < h'.objs.size := Heap.lt_size q
      rw [PyProof.Rows.sortedHeap_old (Nat.ne_of_lt hlt) (by rw [show (Heap.push h' _).objs.size = h'.objs.size + 1 from by simp [Heap.push]]; exact Nat.lt_succ_of_lt hlt)]
      exact Heap.get?_push_of_some _ q
    · rw [List.length_map, List.length_mergeSort, zl, lae, lk3]; have := c1.2.2.2; simpa [itemsTD] using this
    · exact (vals_refs _)
    · exact upd_ne (ne_of_none (sm b _ q) fr) ▸ sm b _ q
    · obtain ⟨m1, m2⟩ := zip3_mem ((List.mergeSort_perm _ _).mem_iff.mp hz)
      have t1 : H2 z.1 = some (.tup [kV z.2.1.1, z.2.1.2]) := zip3_pair (F := fun (t : Addr) (q : Key × V) => H2 t = some (.tup [kV q.1, q.2])) pr ((List.mergeSort_perm _ _).mem_iff.mp hz)
      exact ⟨by rw [upd_ne (ne_of_none t1 fr)]; exact t1, m2⟩
    · have z := List.map_mergeSort (r := PySem.W.dataLe false fun z : Z3 => PyData.tuple [z.2.2.1, z.2.2.2]) (s := leD) (f := fun z : Z3 => PyData.tuple [z.2.2.1, z.2.2.2]) (l := zip3 as kvs ds) (fun a _ b _ => rfl)
      rw [z, zip3_enc lae lk3]
      rfl
def sortItemsD (d : PyData) (Q : PyData → Prop) : Prop := match d with
  | .dict ds => srtOk (itemsTD ds) ∧ (∀ p ∈ ds, flatD p.2 = true) ∧ Q (.list (srtD (itemsTD ds)))
  | _ => False
theorem lo_sortItems {K : PySem.W.Frag} : LO1 K (rSortI K) sortItemsD := by
  intro S H x dx Q R hS hx q k
  cases hx with
  | dct h1 h2 =>
    obtain ⟨q1, q2, q3⟩ := q
    refine ⟨_, _, _, rfl, (hid_some h1).2, DRk.mono hid_same _ _ h2, q1, q2, fun H' p zs sm hp hz hl ht he => k _ _ _ sm (.lst ((hid_out fun z => ?_).trans hl) ?_) q3⟩
    · obtain ⟨o, e⟩ := hS _ z; rw [hp] at e; cases e
    · rw [← he]
      have : ∀ zs : List Z3, (∀ z ∈ zs, DR K (hid S H') (.ref z.1) (.tuple [z.2.2.1, z.2.2.2])) → DRs K (hid S H') (zs.map fun z => V.ref z.1) (zs.map fun z => PyData.tuple [z.2.2.1, z.2.2.2]) := by
        intro zs h
        induction zs with
        | nil => exact .nil
        | cons z zs ih => exact .cons (h z (List.mem_cons_self ..)) (ih fun y hy => h y (List.mem_cons_of_mem _ hy))
      refine this zs fun z hm => ?_
      obtain ⟨t1, t2⟩ := ht z hm
      obtain ⟨e1, e2⟩ := h2.zip _ t2
      refine .tup (SqT.of ((hid_out fun y => ?_).trans t1)) (.cons (by rw [e1]; exact dr_kD _) (.cons (DR.mono (same_hid sm) _ _ e2) .nil))
      obtain ⟨o, e⟩ := hS _ y
      rw [hz z hm] at e; cases e
  | _ => exact q.elim
theorem de_sortItems (he : DE g e t) (hm : g.mg "sorted" = none) (hg : g.sc.names.lookup ("sorted" : Str) = some .globalImplicit := by rfl)
    (hbase : ∀ X : Cx, attributeBase e "items" X.env (eval e X.env) = eval e X.env := by intro _; rfl) (hline : (apos.endLine == cpos.line) = true := by rfl)
    (hs : ∀ X : Cx, starEach [.Call (.Attribute e "items" apos) [] [] cpos] X.env = (false, eval (.Call (.Attribute e "items" apos) [] [] cpos) X.env) :: starEach [] X.env := by intro _; rfl) :
    DE g (.Call (.Name "sorted" p) [.Call (.Attribute e "items" apos) [] [] cpos] [] pos) (dUn sortItemsD t) := by
  obtain ⟨te, a1, a2⟩ := he.ex
  exact ⟨_, fun X h => pe_sortItems h (a1 X h) (by show X.env.scope.names.lookup _ = _; rw [h.sc]; exact hg) (by rw [h.mg]; exact hm) (hbase X) hline (hs X), le_un lo_sortItems a2⟩
end
end PD
set_option Elab.async false
set_option linter.all false
set_option maxRecDepth 100000
set_option maxHeartbeats 1000000
namespace PD
open PySem L2
section
variable {g : Sg} {e : Expr} {t : TED} {p p2 pos pos' : Pos} {i j : Nat} {x : Str}
/-! ### the satchel -/
def satIs (i : Nat) (s : DS) (k : Prop) : Prop := match s.ρ[i]? with
  | some (some .sat) => k
  | _ => False
theorem satIs_ok {s : DS} {k : Prop} (h : satIs i s k) : s.ρ[i]? = some (some .sat) ∧ k := by
  unfold satIs at h
  split at h
  · rename_i e; exact ⟨e, h⟩
  · exact h.elim
theorem RelM.satAt {K : PySem.W.Frag} {F : Fr} {M : Nat → Option Addr} {σ : St} {H : Hp} {s : DS} {vs : List V} {ds : List DV} (R : RelM K F M σ H s vs ds) (h : s.ρ[i]? = some (some .sat)) :
    ∃ b, σ[i]? = some (some (.ref b)) ∧ F.mb = some b ∧ F.S0 b ∧ SatAt K (SM F M) H b s.n s.c := by
  obtain ⟨v, h1, b, h2, h3⟩ := R.vals i _ h
  subst h3
  exact ⟨b, h1, h2, R.sat b h2⟩
def dSat1 (i : Nat) : TED := fun s Q => satIs i s (∀ k : Int, 0 ≤ k → k ≤ s.n → Q (.d (.int k)) s)
def dSat2 (i : Nat) : TED := fun s Q => satIs i s (∀ k : Int, 0 ≤ k → Q (.d (.int k)) s)
def dSat0 (i : Nat) : TED := fun s Q => satIs i s (match s.c with
  | some cl => Q (.d (.list (cl.map .int))) s
  | none => ∀ cl : List Int, cl.length ≤ 63 → Q (.d (.list (cl.map .int))) { s with c := some cl })
theorem pe_satx {X : Cx} {k : Int} (h : g.has X) (hN : g.N[i]? = some x) (hv : Vis g.sc x) (hd : (x == ("__debug__" : Str)) = false) (hcd : (x == ("__classdict__" : Str)) = false) : PE X (.Subscript (.Name x p) (.Constant (.int k) j p2) pos) (tOp (rIxL g.K) (tVar i) (tC (.int k))) := by
  have z := pe_ix (X := X) (pos := pos) ix_list (pe_var (pos := p) (by rw [h.N]; exact hN) (by rw [h.sc]; exact hv) hd hcd) (pe_int (i := k) (j := j) (pos := p2)) (by intro _ _; rfl)
  rw [h.K] at z
  exact z
theorem de_sat1 (hN : g.N[i]? = some x) (hv : Vis g.sc x := by first | exact Or.inl rfl | exact Or.inr (Or.inl rfl) | exact Or.inr (Or.inr rfl)) (hd : (x == ("__debug__" : Str)) = false := by decide) (hcd : (x == ("__classdict__" : Str)) = false := by decide) :
    DE g (.Subscript (.Name x p) (.Constant (.int 1) j p2) pos) (dSat1 i) := by
  refine ⟨_, fun X h => pe_satx h hN hv hd hcd, ?_⟩
  intro F σ H s vs ds Q R ⟨M, r⟩ q k
  obtain ⟨q0, q⟩ := satIs_ok q
  obtain ⟨b, h1, h2, h3, c, cl, at_, rest, g1, g2, g3, g4, g5, g6, g7⟩ := r.satAt q0
  exact ⟨_, h1, b, _, 1, .int at_, rfl, rfl, SqL.of g1, rfl, k _ _ _ _ ⟨M, r.push (d := .d (.int at_)) (.int _)⟩ (q at_ g4 g5)⟩
theorem de_sat2 (hN : g.N[i]? = some x) (hv : Vis g.sc x := by first | exact Or.inl rfl | exact Or.inr (Or.inl rfl) | exact Or.inr (Or.inr rfl)) (hd : (x == ("__debug__" : Str)) = false := by decide) (hcd : (x == ("__classdict__" : Str)) = false := by decide) :
    DE g (.Subscript (.Name x p) (.Constant (.int 2) j p2) pos) (dSat2 i) := by
  refine ⟨_, fun X h => pe_satx h hN hv hd hcd, ?_⟩
  intro F σ H s vs ds Q R ⟨M, r⟩ q k
  obtain ⟨q0, q⟩ := satIs_ok q
  obtain ⟨b, h1, h2, h3, c, cl, at_, rest, g1, g2, g3, g4, g5, g6, g7⟩ := r.satAt q0
  exact ⟨_, h1, b, _, 2, .int rest, rfl, rfl, SqL.of g1, rfl, k _ _ _ _ ⟨M, r.push (d := .d (.int rest)) (.int _)⟩ (q rest g6)⟩
theorem drs_ints {K : PySem.W.Frag} {H : Hp} : ∀ ns : List Int, DRs K H (ns.map V.int) (ns.map .int)
  | [] => .nil
  | n :: ns => .cons (.int n) (drs_ints ns)
theorem RelM.know {K : PySem.W.Frag} {F : Fr} {M : Nat → Option Addr} {σ : St} {H : Hp} {s : DS} {vs : List V} {ds : List DV} {cl : Option (List Int)} (R : RelM K F M σ H s vs ds) (h : ∀ b, F.mb = some b → SatAt K (SM F M) H b s.n cl) : RelM K F M σ H { s with c := cl } vs ds :=
  ⟨R.len, R.vals, R.inj, R.out, R.new, R.there, fun b q => ⟨(R.sat b q).1, h b q⟩, R.ext, R.tmp⟩
theorem de_sat0 (hN : g.N[i]? = some x) (hv : Vis g.sc x := by first | exact Or.inl rfl | exact Or.inr (Or.inl rfl) | exact Or.inr (Or.inr rfl)) (hd : (x == ("__debug__" : Str)) = false := by decide) (hcd : (x == ("__classdict__" : Str)) = false := by decide) :
    DE g (.Subscript (.Name x p) (.Constant (.int 0) j p2) pos) (dSat0 i) := by
  refine ⟨_, fun X h => pe_satx h hN hv hd hcd, ?_⟩
  intro F σ H s vs ds Q R ⟨M, r⟩ q k
  obtain ⟨q0, q⟩ := satIs_ok q
  obtain ⟨b, h1, h2, h3, c, cl, at_, rest, g1, g2, g3, g4, g5, g6, g7⟩ := r.satAt q0
  refine ⟨_, h1, b, _, 0, .ref c, rfl, rfl, SqL.of g1, rfl, ?_⟩
  cases e : s.c with
  | some cl' =>
    rw [e] at q
    have := g7 _ e
    subst this
    exact k _ _ _ _ ⟨M, r.push (d := .d (.list _)) (.lst g2 (drs_ints _))⟩ q
  | none =>
    rw [e] at q
    refine k _ _ _ _ ⟨M, (r.know (cl := some cl) fun b' hb => ?_).push (d := .d (.list _)) (.lst g2 (drs_ints _))⟩ (q cl g3)
    cases h2.symm.trans hb
    exact ⟨c, cl, at_, rest, g1, g2, g3, g4, g5, g6, fun x z => by cases z; rfl⟩
/-- the satchel changes -/
theorem RelM.satPut {K : PySem.W.Frag} {F : Fr} {M : Nat → Option Addr} {σ : St} {H : Hp} {s : DS} {vs : List V} {ds : List DV} {b c : Addr} {cl : List Int} {at_ rest : Int} {n' : Nat} (R : RelM K F M σ H s vs ds) (hb : F.mb = some b) (hc : hid (SM F M) H c = some (.lst (cl.map V.int))) (hl : cl.length ≤ 63) (ha : 0 ≤ at_) (hn : at_ ≤ n') (hr : 0 ≤ rest)
    (hk : ∀ x, s.c = some x → cl = x) : RelM K F M σ (upd H b (.lst [.ref c, .int at_, .int rest])) { s with n := n' } vs ds := by
  have hS := (R.sat b hb).1
  have off : ∀ a, a ≠ b → upd H b (.lst [.ref c, .int at_, .int rest]) a = H a := fun a z => upd_ne z
  have eh : Same (hid (SM F M) H) (hid (SM F M) (upd H b (.lst [.ref c, .int at_, .int rest]))) := hid_sub (fun _ z => z) fun a o q e => by
    rw [off a fun z => q (by subst z; exact .inl hS)]; exact e
  have nb : ∀ i a, M i = some a → a ≠ b := fun i a q z => (R.out i a q).1 (by subst z; exact hS)
  have ex : ∀ a o, H a = some o → ∃ o, upd H b (.lst [.ref c, .int at_, .int rest]) a = some o := fun a o q => by
    by_cases z : a = b
    · subst z; exact ⟨_, upd_same ..⟩
    · exact ⟨o, (off a z).trans q⟩
  refine ⟨R.len, fun i x q => ?_, R.inj, fun i a q => ⟨(R.out i a q).1, let ⟨o, h⟩ := (R.out i a q).2; ex a o h⟩, R.new, fun a q => let ⟨o, h⟩ := R.there a q; ex a o h, fun b' q => ?_, fun a o q z => ?_, Paired.mapP R.tmp fun _ _ q => q.mono eh⟩
  · obtain ⟨v, h1, h2⟩ := R.vals i x q
    refine ⟨v, h1, ?_⟩
    cases x with
    | d x => exact DR.mono eh x v h2
    | sat => exact h2
    | scr ns => obtain ⟨a, h1, h2⟩ := h2; exact ⟨a, h1, eh.seq h2⟩
    | own xs => obtain ⟨a, ys, h3, h4, h5, h6⟩ := h2; exact ⟨a, ys, h3, h4, (off _ (nb i a h4)).trans h5, DRs.mono eh _ _ h6⟩
    | tab xs => obtain ⟨a, ys, h3, h4, h5, h6⟩ := h2; exact ⟨a, ys, h3, h4, (off _ (nb i a h4)).trans h5, DKs.mono eh h6⟩
  · cases hb.symm.trans q
    exact ⟨hS, c, cl, at_, rest, upd_same .., eh _ _ hc, hl, ha, hn, hr, hk⟩
  · rw [off a fun y => z (by rw [y]; exact hb)]
    exact R.ext a o q z
def dPut1 (i : Nat) (t : TED) : TSD := fun D s => t s fun v s1 => intD v fun k => satIs i s1 (0 ≤ k ∧ k ≤ s1.n + 1 ∧ D.nx { s1 with n := s1.n + 1 })
def dPut2 (i : Nat) (t : TED) : TSD := fun D s => t s fun v s1 => intD v fun k => satIs i s1 (0 ≤ k ∧ D.nx s1)
theorem ps_satx {X : Cx} {k : Int} {te : TE} (h : g.has X) (hN : g.N[i]? = some x) (hv : Vis g.sc x) (he : PE X e te) (hs : swapsWithSole [.Subscript (.Name x p) (.Constant (.int k) j p2) pos'] e pos.line X.env = pure false) (hw : swappedStores [.Subscript (.Name x p) (.Constant (.int k) j p2) pos'] e X.env = pure none) (hd : (x == ("__debug__" : Str)) = false) (hcd : (x == ("__classdict__" : Str)) = false) :
    PS X (.Assign [.Subscript (.Name x p) (.Constant (.int k) j p2) pos'] e pos) (tAsg te (gSub (tVar i) (tC (.int k)) rSetL)) :=
  ps_asg he (pg_sub (pe_var (pos := p) (by rw [h.N]; exact hN) (by rw [h.sc]; exact hv) hd hcd) (pe_int (i := k) (j := j) (pos := p2)) set_list) hs hw
theorem ds_put1 (hN : g.N[i]? = some x) (he : DE g e t) (hv : Vis g.sc x := by first | exact Or.inl rfl | exact Or.inr (Or.inl rfl) | exact Or.inr (Or.inr rfl)) (hs : ∀ X : Cx, swapsWithSole [.Subscript (.Name x p) (.Constant (.int 1) j p2) pos'] e pos.line X.env = pure false := by intro _; rfl) (hw : ∀ X : Cx, swappedStores [.Subscript (.Name x p) (.Constant (.int 1) j p2) pos'] e X.env = pure none := by intro _; rfl)
    (hd : (x == ("__debug__" : Str)) = false := by decide) (hcd : (x == ("__classdict__" : Str)) = false := by decide) : DSt g (.Assign [.Subscript (.Name x p) (.Constant (.int 1) j p2) pos'] e pos) (dPut1 i t) := by
  obtain ⟨te, a1, a2⟩ := he.ex
  refine ⟨_, fun X h => ps_satx h hN hv (a1 X h) (hs X) (hw X) hd hcd, ?_⟩
  intro F σ H s vs ds D E r q hn _ _ _
  refine a2 F σ H s vs ds _ _ r q fun v H1 d s1 r1 q1 => ?_
  obtain ⟨M, r1⟩ := r1
  obtain ⟨k, rfl, rfl, q2⟩ := intD_ok r1.top q1
  obtain ⟨q3, q4, q5, q6⟩ := satIs_ok q2
  obtain ⟨b, h1, h2, h3, c, cl, at_, rest, g1, g2, g3, g4, g5, g6, g7⟩ := r1.satAt q3
  cases r1.tmp with
  | cons _ tmp => exact ⟨_, h1, b, _, 1, 1, rfl, rfl, g1, rfl, hn _ _ _ ⟨M, (r1.tmps tmp).satPut h2 g2 g3 q4 (by simpa using q5) g6 g7⟩ q6⟩
theorem ds_put2 (hN : g.N[i]? = some x) (he : DE g e t) (hv : Vis g.sc x := by first | exact Or.inl rfl | exact Or.inr (Or.inl rfl) | exact Or.inr (Or.inr rfl)) (hs : ∀ X : Cx, swapsWithSole [.Subscript (.Name x p) (.Constant (.int 2) j p2) pos'] e pos.line X.env = pure false := by intro _; rfl) (hw : ∀ X : Cx, swappedStores [.Subscript (.Name x p) (.Constant (.int 2) j p2) pos'] e X.env = pure none := by intro _; rfl)
    (hd : (x == ("__debug__" : Str)) = false := by decide) (hcd : (x == ("__classdict__" : Str)) = false := by decide) : DSt g (.Assign [.Subscript (.Name x p) (.Constant (.int 2) j p2) pos'] e pos) (dPut2 i t) := by
  obtain ⟨te, a1, a2⟩ := he.ex
  refine ⟨_, fun X h => ps_satx h hN hv (a1 X h) (hs X) (hw X) hd hcd, ?_⟩
  intro F σ H s vs ds D E r q hn _ _ _
  refine a2 F σ H s vs ds _ _ r q fun v H1 d s1 r1 q1 => ?_
  obtain ⟨M, r1⟩ := r1
  obtain ⟨k, rfl, rfl, q2⟩ := intD_ok r1.top q1
  obtain ⟨q3, q4, q6⟩ := satIs_ok q2
  obtain ⟨b, h1, h2, h3, c, cl, at_, rest, g1, g2, g3, g4, g5, g6, g7⟩ := r1.satAt q3
  cases r1.tmp with
  | cons _ tmp => exact ⟨_, h1, b, _, 2, 2, rfl, rfl, g1, rfl, hn _ _ _ ⟨M, (r1.tmps tmp).satPut h2 g2 g3 g4 g5 q4 g7⟩ q6⟩
/-! ### the script -/
def scrIs (i : Nat) (s : DS) (k : List Int → Prop) : Prop := match s.ρ[i]? with
  | some (some (.scr ns)) => k ns
  | _ => False
theorem scrIs_ok {s : DS} {k : List Int → Prop} (h : scrIs i s k) : ∃ ns, s.ρ[i]? = some (some (.scr ns)) ∧ k ns := by
  unfold scrIs at h
  split at h
  · rename_i ns e; exact ⟨ns, e, h⟩
  · exact h.elim
def dScrCut (i : Nat) (th : DS → (Option Int → DS → Prop) → Prop) : TED := fun s Q => scrIs i s fun ns => th s fun hi s1 => Q (.d (.list ((cutD ns none hi).map .int))) s1
theorem cutV_ints (ns : List Int) (lo hi : Option Int) : cutV (ns.map V.int) lo hi = (cutD ns lo hi).map V.int := by
  unfold cutV cutD
  simp [List.map_drop, List.map_take]
theorem de_scrCut {hi : Option Expr} {th : DS → (Option Int → DS → Prop) → Prop} (hN : g.N[i]? = some x) (hh : DO g hi th) (hv : Vis g.sc x := by first | exact Or.inl rfl | exact Or.inr (Or.inl rfl) | exact Or.inr (Or.inr rfl)) (hd : (x == ("__debug__" : Str)) = false := by decide) (hcd : (x == ("__classdict__" : Str)) = false := by decide) :
    DE g (.Subscript (.Name x p) (.Slice none hi none p2) pos) (dScrCut i th) := by
  obtain ⟨_, c1, c2⟩ := hh.ex
  refine ⟨_, fun X h => by have z := pe_slice (X := X) (p2 := p2) (pos := pos) sl_list (pe_var (pos := p) (by rw [h.N]; exact hN) (by rw [h.sc]; exact hv) hd hcd) po_none (c1 X h); rw [h.K] at z; exact z, ?_⟩
  intro F σ H s vs ds Q R ⟨M, r⟩ q k
  obtain ⟨ns, q0, q⟩ := scrIs_ok q
  obtain ⟨v, h1, a, rfl, h3⟩ := r.vals i _ q0
  have r' : Rel g.K F σ H s (.ref a :: vs) (.scr ns :: ds) := ⟨M, r.push (d := .scr ns) ⟨a, rfl, h3⟩⟩
  refine ⟨_, h1, c2 F σ H s _ _ _ _ r' q fun hi H1 s1 r1 q1 => ?_⟩
  obtain ⟨M1, r1⟩ := r1
  obtain ⟨a', e', h4⟩ := r1.top
  cases e'
  have h5 : SqL g.K H1 a (ns.map V.int) := hid_same.seq h4
  cases r1.tmp with
  | cons _ tmp =>
  refine ⟨_, _, rfl, h5, fun p hp => k _ _ _ _ ⟨M1, ((r1.tmps tmp).grow (same_new hp)).push (d := .d (.list _)) (.lst (free_hid r1.hS hp) ?_)⟩ q1⟩
  rw [cutV_ints]
  exact drs_ints _
/-! ### a law's body: the first row makes the satchel -/
def sat0 (cl : List Int) : PyData := .list [.list (cl.map .int), .int 0, .int 0]
theorem lst_ints {K : PySem.W.Frag} {H : Hp} : ∀ {ns : List Int} {vs : List V}, DRs K H vs (ns.map .int) → vs = ns.map V.int
  | [], _, h => by cases h; rfl
  | n :: ns, _, h => by
    cases h with
    | cons h1 h2 => cases h1; rw [lst_ints h2]; rfl
theorem law_body {K : PySem.W.Frag} {P : Program} {w : World} {mg : Str → Option Value} {base : Heap} {x qual : Str} {params : Arguments} {st : Stmt} {rest : List Stmt} {scope : Scope} {dvs : List V} {kws : List (Str × V)} {f : Addr} {fd : FuncData} {N : List Str} {ps : List Str} {k m : Nat} {t1 t2 : TSD}
    (Fd : FunD K x qual params (st :: rest) scope dvs kws f fd) (S : FnScope N ps scope) (hp : ps.length = 1) (hN : N.length = m + 2) (h1 : DSt ⟨P, w, K, mg, base, N, scope, k, true⟩ st t1) (h2 : DSs ⟨P, w, K, mg, base, N, scope, k, true⟩ rest t2) :
    FnG P w K mg base (k + 1) f fd ps (fun vs H Q _ => ∃ (a : Addr) (ns : List Int), vs = [.ref a] ∧ SqL K H a (ns.map V.int) ∧ (∀ H', Q (.bl true) H') ∧
      t1 { nx := fun s => (∃ cl n c, cl.length ≤ 63 ∧ s = ⟨some (.scr ns) :: some (.d (sat0 cl)) :: List.replicate m none, n, c⟩), rt := fun _ _ => False } ⟨some (.scr ns) :: List.replicate (m + 1) none, 0, none⟩ ∧
      t2 { nx := fun _ => False, rt := fun d _ => d = .d (.bool true) } ⟨some (.scr ns) :: some .sat :: List.replicate m none, 0, none⟩) := by
  obtain ⟨te1, a1, a2⟩ := h1.ex
  obtain ⟨te2, b1, b2⟩ := h2.ex
  refine fn_g Fd S (fun vs H Q E ⟨a, ns, e, _⟩ => by rw [e, hp]; rfl) (fun cdv A outer s H vs Q E hg hr h => ?_)
  refine ⟨_, PSs.nox (pss_cons (a1 _ ⟨rfl, rfl, rfl, rfl, rfl, rfl, rfl, rfl, rfl, hr, hg, fun _ => rfl⟩) (b1 _ ⟨rfl, rfl, rfl, rfl, rfl, rfl, rfl, rfl, rfl, hr, hg, fun _ => rfl⟩)), ?_⟩
  obtain ⟨a, ns, rfl, hS, hQ, q1, q2⟩ := h
  let F : Fr := ⟨none, fun _ => False, H⟩
  have e0 : hid F.S0 H = H := by funext b; exact hid_out (fun z => z)
  have R0 := RelM.start (K := K) (F := F) (N := N) (H := H) (vs := [.ref a]) (ds := [.scr ns]) (n := 0) rfl (fun _ z => z.elim) (fun _ z => nomatch z) (.cons ⟨a, rfl, by rw [e0]; exact hS⟩ .nil)
  have eN : (N.length - [DV.scr ns].length) = m + 1 := by rw [hN]; rfl
  rw [eN] at R0
  refine a2 F _ H _ [] [] _ _ ⟨_, R0⟩ q1 (fun σ' H' s' r q => ?_) (fun _ _ _ _ _ z => z.elim) (fun _ _ _ _ z => z.elim) (fun _ _ _ _ z => z.elim)
  obtain ⟨cl, n, c0, hl, rfl⟩ := q
  obtain ⟨M, r⟩ := r
  obtain ⟨v0, g1, a', rfl, g2⟩ := r.vals 0 _ rfl
  obtain ⟨v1, k1, k2⟩ := r.vals 1 (.d (sat0 cl)) rfl
  have g3 : SqL K H' a' (ns.map V.int) := hid_same.seq g2
  have k2 : DR K _ v1 (sat0 cl) := k2
  cases k2 with
  | @lst b xs _ l1 l2 =>
  cases l2 with
  | cons d1 d2 =>
  cases d2 with
  | cons d2 d3 =>
  cases d3 with
  | cons d3 d4 =>
  cases d4
  cases d2
  cases d3
  cases d1 with
  | @lst c ys _ m1 m2 =>
  obtain rfl := lst_ints m2
  have l1' := (hid_some l1).2
  have m1' := (hid_some m1).2
  have cb : c ≠ b := fun z => by subst z; rw [l1'] at m1'; cases cl <;> cases m1'
  let F2 : Fr := ⟨some b, fun z => z = b, fun _ => none⟩
  have eS : SM F2 (fun _ => none) = fun z => z = b := by
    funext z
    exact propext ⟨fun y => y.elim id fun ⟨_, y⟩ => (nomatch y), Or.inl⟩
  have sq : SqL K (hid (fun z => z = b) H') a' (ns.map V.int) := by
    rcases g3 with (g | ⟨o, g⟩) | g
    · refine .inl (.inl ((hid_out fun z => ?_).trans g))
      subst z; rw [l1'] at g; cases ns <;> cases g
    · refine .inl (.inr ⟨o, (hid_out fun z => ?_).trans g⟩)
      subst z; rw [l1'] at g; cases g
    · exact .inr g
  have R2 : RelM K F2 (fun _ => none) σ' H' ⟨some (.scr ns) :: some .sat :: List.replicate m none, 0, none⟩ [] [] := by
    refine ⟨r.len, fun i x q => ?_, fun _ _ _ z => (nomatch z), fun _ _ z => (nomatch z), fun _ _ z => (nomatch z), fun z hz => by cases (show z = b from hz); exact ⟨_, l1'⟩, fun z hz => ?_, fun _ _ z => (nomatch z), .nil⟩
    · rw [eS]
      match i, q with
      | 0, q => cases q; exact ⟨_, g1, a', rfl, sq⟩
      | 1, q => cases q; exact ⟨_, k1, b, rfl, rfl⟩
      | i + 2, q =>
        have q : (List.replicate m (none : Option DV))[i]? = some (some x) := q
        rw [List.getElem?_replicate] at q
        split at q <;> cases q
    · cases hz
      rw [eS]
      exact ⟨rfl, c, cl, 0, 0, l1', (hid_out (S := fun z => z = b) (H := H') (a := c) cb).trans m1', hl, Int.le_refl _, Int.le_refl _, Int.le_refl _, fun _ z => nomatch z⟩
  refine b2 F2 σ' H' _ [] [] _ _ ⟨_, R2⟩ q2 (fun _ _ _ _ z => z.elim) (fun v H2 d n2 hr hd => ?_) (fun _ _ _ _ z => z.elim) (fun _ _ _ _ z => z.elim)
  subst hd
  have z : DR K _ v (.bool true) := hr.val
  cases z
  exact hQ _
end
end PD
set_option Elab.async false
set_option linter.all false
set_option maxRecDepth 100000
set_option maxHeartbeats 1000000
namespace PD
open PySem L2
section
variable {g : Sg} {X : Cx}
/-! ### dict(pairs) -/
def pairT (p : Key × PyData) : PyData := .tuple [kD p.1, p.2]
def dictOfD (ds : List PyData) (Q : PyData → Prop) : Prop := ∃ kvs : List (Key × PyData), ds = [.list (kvs.map pairT)] ∧ Q (.dict ((mergeT [] kvs).map fun p => (kD p.1, p.2)))
def rDictP (K : PySem.W.Frag) : List V → Hp → VK → Prop := fun xs H Q => ∃ (a : Addr) (ps : List Addr) (kvs : List (Key × V)), xs = [.ref a] ∧ SqL K H a (ps.map V.ref) ∧ Paired (fun p kv => SqT K H p [kV kv.1, kv.2]) ps kvs ∧ ∀ p, H p = none → Q (.ref p) (upd H p (.dK (mergeK [] kvs)))
theorem o_dict (h : g.has X) : CallR X (.type "dict") (rDictP g.K) := by rw [← h.K]; exact call_dictP h.calm
theorem pairs_read {K : PySem.W.Frag} {S : Addr → Prop} {H : Hp} : ∀ {kvs : List (Key × PyData)} {ys : List V}, DRs K (hid S H) ys (kvs.map pairT) → ∃ (ps : List Addr) (qs : List (Key × V)), ys = ps.map V.ref ∧ Paired (fun p kv => SqT K H p [kV kv.1, kv.2]) ps qs ∧ DKs K (hid S H) qs kvs
  | [], _, h => by cases h; exact ⟨[], [], rfl, .nil, .nil⟩
  | (k, d) :: kvs, _, h => by
    cases h with
    | cons h1 h2 =>
      obtain ⟨ps, qs, rfl, e2, e3⟩ := pairs_read h2
      cases h1 with
      | @tup a xs _ t1 t2 =>
        cases t2 with
        | cons g1 g2 =>
          cases g2 with
          | cons g2 g3 =>
            cases g3
            obtain rfl := kD_V g1
            exact ⟨a :: ps, (k, _) :: qs, rfl, .cons (sqt_mono t1) e2, .cons ⟨rfl, g2⟩ e3⟩
theorem lo_dict {K : PySem.W.Frag} : LOn K (rDictP K) dictOfD := by
  intro S H xs dxs Q R hS h ⟨kvs, e, q⟩ k
  subst e
  cases h with
  | cons hx t =>
    cases t
    cases hx with
    | lst h1 h2 =>
      obtain ⟨ps, qs, rfl, e2, e3⟩ := pairs_read h2
      exact ⟨_, ps, qs, rfl, SqL.of (hid_some h1).2, e2, fun p hp => k _ _ _ (same_new hp) (.dct (free_hid hS hp) ((DKs.merge e3 .nil).mono (same_hid (same_new hp))).drk) q⟩
end
/-! ### calls by keywords: no defaults -/
theorem kbN {K : PySem.W.Frag} {x qual : Str} {params : Arguments} {body : List Stmt} {scope : Scope} {kws : List (Str × V)} {f : Addr} {fd : FuncData} {ps : List Str} {n : Nat} {ks : List Str} {is : List Nat} (F : FunD K x qual params body scope [] kws f fd)
    (h : ∀ (kv doc pm : Value) (an : Option Addr) (cdv ct : Value) (us ws : List Value), us.length = n → ws.length = ks.length → bindArgs (PySem.W.fnOf x qual params body scope .none kv doc pm an cdv ct) ⟨us, ks.zip ws⟩ = pure (ps.zip (permL is (us ++ ws)))) :
    KBn K fd ps n ks (fun us ws => permL is (us ++ ws)) fun vs zs => permL is (vs ++ zs) := by
  obtain ⟨oc, od, dV, kv, doc, pm, an, cdv, ct, osl, rfl, lk, hcd, hD, hK⟩ := F.ex
  rcases hD with ⟨_, rfl⟩ | ⟨e, _⟩
  · exact ⟨fun s us ws X l1 l2 => .of_eq (h kv doc pm an cdv ct us ws l1 l2), fun r1 r2 => permL_pair (r1.append r2) is⟩
  · exact absurd rfl e
/-! ### names of the module -/
section
variable {g : Sg} {pos : Pos} {x : Str}
theorem de_gInt {i : Int} (h : ∃ t, g.mg x = some (.int i t)) (hg : g.sc.names.lookup x = some .globalImplicit := by rfl) (hdb : (x == ("__debug__" : Str)) = false := by decide) : DE g (.Name x pos) (dLit (.int i)) :=
  let ⟨t, h⟩ := h; de_glob (v := .int i) h ⟨t, rfl⟩ (fun _ => .int i) hg hdb
theorem de_gStr {z : Str} (h : ∃ t, g.mg x = some (.str z t)) (hg : g.sc.names.lookup x = some .globalImplicit := by rfl) (hdb : (x == ("__debug__" : Str)) = false := by decide) : DE g (.Name x pos) (dLit (.str z)) :=
  let ⟨t, h⟩ := h; de_glob (v := .str z) h ⟨t, rfl⟩ (fun _ => .str z) hg hdb
theorem de_gTup {a : Addr} {d : PyData} (h : g.mg x = some (.ref a)) (hd : ∀ H, DR g.K H (.ref a) d) (hg : g.sc.names.lookup x = some .globalImplicit := by rfl) (hdb : (x == ("__debug__" : Str)) = false := by decide) : DE g (.Name x pos) (dLit d) :=
  de_glob (v := .ref a) h rfl hd hg hdb
end
theorem ld_tup {K : PySem.W.Frag} {x : Str} {vs : List He.Dv} {ds : List PyData} (h : He.tupB K x vs = true) (hd : ∀ H, DRs K H (vs.map (He.Dv.v K)) ds) (H : Hp) : DR K H (.ref (He.ga K x)) (.tuple ds) := .tup (He.tupB_ok h H) (hd H)
/-! ### the head: facts by names and own tests -/
def obsMG (n : Nat) (fa : List He.Fa) (fn : List He.DefD) (ex : PySem.W.Frag → Bool) (g : Addr → Option Obj) : He.AlD × Bool := (He.obsDG n fa fn g, ex (He.frG g (He.asD g n)))
def hookM (n : Nat) (fa : List He.Fa) (fn : List He.DefD) (ex : PySem.W.Frag → Bool) : PySem.W.Hook where
  α := He.AlD × Bool
  obs := fun s => obsMG n fa fn ex s.heap.get?
  val := fun _ => (He.valD fn, true)
  says := fun _ h => ∃ K : PySem.W.Frag, K.In h ∧ He.SaysD fa fn K ∧ ex K = true
  of := fun _ _ e => ⟨_, He.frG_in, congrArg Prod.fst e, congrArg Prod.snd e⟩
  keeps := fun _ _ _ ⟨K, hK, c⟩ k => ⟨K, PySem.W.Frag.In.keeps hK k, c⟩
theorem obsMG_eq {n : Nat} {fa : List He.Fa} {fn : List He.DefD} {ex : PySem.W.Frag → Bool} {g : Addr → Option Obj} {s : Shared} (h : ∀ a, g a = s.heap.get? a) : obsMG n fa fn ex g = (hookM n fa fn ex).obs s := by
  have e : g = s.heap.get? := funext h
  rw [e]
  rfl
/-! ### a promise made smaller -/
theorem lift_mono {P : Program} {w : World} {K : PySem.W.Frag} {mg : Str → Option Value} {base : Heap} {k : Nat} {f : Addr} {fd : FuncData} {ps : List Str} {np : Nat} {sp sp' : DSp} (G : FnG P w K mg base k f fd ps (Lift K np sp')) (h : ∀ ds n Q, sp ds n Q → sp' ds n Q) : FnG P w K mg base k f fd ps (Lift K np sp) :=
  have up : ∀ vs H Q E, Lift K np sp vs H Q E → Lift K np sp' vs H Q E := fun vs H Q E ⟨h1, F, ds, n, Qd, h2, h3, h4, h5, h6, h7⟩ => ⟨h1, F, ds, n, Qd, h2, h3, h4, h5, h _ _ _ h6, h7⟩
  ⟨fun vs H Q E q => G.len vs H Q E (up _ _ _ _ q), fun A ol s H args us vs Q E hg hr e0 hb hv q => G.run A ol s H args us vs Q E hg hr e0 hb hv (up _ _ _ _ q)⟩
abbrev eqD := cmpD pl2 PyData.eqv
abbrev neD := cmpD pl2 fun a b => !PyData.eqv a b
abbrev ltD := cmpD al2 PySem.W.dataLt
abbrev gtD := cmpD al2 fun a b => PySem.W.dataLt b a
abbrev leqD := cmpD al2 fun a b => !PySem.W.dataLt b a
abbrev geqD := cmpD al2 fun a b => !PySem.W.dataLt a b
abbrev isD0 := cmpD (fun _ b => b = .none) fun a _ => match a with | .none => true | _ => false
abbrev isntD0 := cmpD (fun _ b => b = .none) fun a _ => match a with | .none => false | _ => true
end PD
set_option Elab.async false
set_option linter.all false
set_option maxRecDepth 100000
set_option maxHeartbeats 1000000
namespace PD
open PySem L2
/-! ### reading by data, step by step -/
theorem nd {α : Sort u} {a b : α} (h : a = b) : a = b := h
section
variable {s : DS} {Q : DV → DS → Prop} {D : DEnds}
@[simp] theorem x_seq {t u : TSD} : dSeq t u D s = t { D with nx := u D } s := nd rfl
@[simp] theorem x_next : dNext D s = D.nx s := nd rfl
@[simp] theorem x_ret {t : TED} : dRet t D s = t s fun x s1 => D.rt x s1.n := nd rfl
@[simp] theorem x_set {i : Nat} {t : TED} : dSet i t D s = t s fun x s1 => i < s1.ρ.length ∧ D.nx (putS s1 i x) := nd rfl
@[simp] theorem x_putS {ρ : List (Option DV)} {n : Nat} {c : Option (List Int)} {i : Nat} {x : DV} : putS ⟨ρ, n, c⟩ i x = ⟨ρ.set i (some x), n, c⟩ := nd rfl
@[simp] theorem x_lit {x : PyData} : dLit x s Q = Q (.d x) s := nd rfl
@[simp] theorem x_isD {x : PyData} {k : PyData → Prop} : isD (.d x) k = k x := nd rfl
@[simp] theorem x_bin {t2 : PyData → PyData → (PyData → Prop) → Prop} {ta tb : TED} : dBin t2 ta tb s Q = ta s fun x s1 => tb s1 fun y s2 => isD x fun dx => isD y fun dy => t2 dx dy fun d => Q (.d d) s2 := nd rfl
@[simp] theorem x_un {t1 : PyData → (PyData → Prop) → Prop} {ta : TED} : dUn t1 ta s Q = ta s fun x s1 => isD x fun dx => t1 dx fun d => Q (.d d) s1 := nd rfl
@[simp] theorem x_call {tn : List PyData → (PyData → Prop) → Prop} {ta : TAD} : dCall tn ta s Q = ta s fun xs s1 => areD xs fun ds => tn ds fun d => Q (.d d) s1 := nd rfl
@[simp] theorem x_tup {ta : TAD} : dTup ta s Q = ta s fun xs s1 => areD xs fun ds => ds.length ≤ sizeLine ∧ Q (.d (.tuple ds)) s1 := nd rfl
@[simp] theorem x_lst {ta : TAD} : dLst ta s Q = ta s fun xs s1 => areD xs fun ds => ds.length ≤ sizeLine ∧ Q (.d (.list ds)) s1 := nd rfl
@[simp] theorem x_nil {Q : List DV → DS → Prop} : dNil s Q = Q [] s := nd rfl
@[simp] theorem x_cons {t : TED} {u : TAD} {Q : List DV → DS → Prop} : dCons t u s Q = t s fun x s1 => u s1 fun xs s2 => Q (x :: xs) s2 := nd rfl
@[simp] theorem x_are0 {k : List PyData → Prop} : areD [] k = k [] := nd rfl
@[simp] theorem x_are1 {v : DV} {vs : List DV} {k : List PyData → Prop} : areD (v :: vs) k = isD v fun x => areD vs fun xs => k (x :: xs) := nd rfl
@[simp] theorem x_if {c : TTD} {t u : TSD} : dIf c t u D s = c s fun k s1 => if k = true then t D s1 else u D s1 := nd rfl
@[simp] theorem x_tru {t : TED} {Q : Bool → DS → Prop} : dTru t s Q = t s fun x s1 => isD x fun d => truD d fun b => Q b s1 := nd rfl
@[simp] theorem x_and {t u : TTD} {Q : Bool → DS → Prop} : dAnd t u s Q = t s fun c s1 => if c = true then u s1 Q else Q false s1 := nd rfl
@[simp] theorem x_or {t u : TTD} {Q : Bool → DS → Prop} : dOr t u s Q = t s fun c s1 => if c = true then Q true s1 else u s1 Q := nd rfl
@[simp] theorem x_not {t : TTD} {Q : Bool → DS → Prop} : dNot t s Q = t s fun c s1 => Q (!c) s1 := nd rfl
@[simp] theorem x_ifE {c : TTD} {ta tb : TED} : dIfE c ta tb s Q = c s fun k s1 => if k = true then ta s1 Q else tb s1 Q := nd rfl
@[simp] theorem x_andE {ta tb : TED} : dAndE ta tb s Q = ta s fun x s1 => bOf x fun c => if c = true then tb s1 Q else Q (.d (.bool false)) s1 := nd rfl
@[simp] theorem x_orE {ta tb : TED} : dOrE ta tb s Q = ta s fun x s1 => bOf x fun c => if c = true then Q (.d (.bool true)) s1 else tb s1 Q := nd rfl
@[simp] theorem x_notE {ta : TED} : dNotE ta s Q = ta s fun x s1 => bOf x fun c => Q (.d (.bool !c)) s1 := nd rfl
@[simp] theorem x_bOf {b : Bool} {k : Bool → Prop} : bOf (.d (.bool b)) k = k b := nd rfl
@[simp] theorem x_isI {f : PyData → Bool} {t : TED} : dIsI f t s Q = t s fun x s1 => isD x fun d => Q (.d (.bool (f d))) s1 := nd rfl
@[simp] theorem x_fn {sp : DSp} {ta : TAD} : dFn sp ta s Q = ta s fun xs s1 => sp xs s1.n fun d n' => Q d { s1 with n := n', c := none } := nd rfl
@[simp] theorem x_fnK {sp : DSp} {is : List Nat} {n m : Nat} {ta tk : TAD} : dFnK sp is n m ta tk s Q = ta s fun xs s1 => tk s1 fun ys s2 => xs.length = n ∧ ys.length = m ∧ sp (permL is (xs ++ ys)) s2.n fun d n' => Q d { s2 with n := n', c := none } := nd rfl
@[simp] theorem x_val {t : TED} {Q : Bool → DS → Prop} : dVal t s Q = t s fun x s1 => bOf x fun b => Q b s1 := by
  unfold dVal bOf
  congr 1
theorem x_var {ρ : List (Option DV)} {n : Nat} {c : Option (List Int)} {i : Nat} : dVar i ⟨ρ, n, c⟩ Q = (match ρ[i]? with
  | some (some x) => dVarK i x ⟨ρ, n, c⟩ Q
  | _ => False) := nd rfl
@[simp] theorem x_varD {i : Nat} {x : PyData} : dVarK i (.d x) s Q = Q (.d x) s := nd rfl
@[simp] theorem x_varSat {i : Nat} : dVarK i .sat s Q = Q .sat s := nd rfl
@[simp] theorem x_varScr {i : Nat} {ns : List Int} : dVarK i (.scr ns) s Q = Q (.scr ns) s := nd rfl
@[simp] theorem x_varOwn {i : Nat} {xs : List PyData} : dVarK i (.own xs) s Q = Q (.d (.list xs)) { s with ρ := s.ρ.set i (some (.d (.list xs))) } := nd rfl
@[simp] theorem x_varTab {i : Nat} {kvs : List (Key × PyData)} : dVarK i (.tab kvs) s Q = Q (.d (.dict (kvs.map fun p => (kD p.1, p.2)))) { s with ρ := s.ρ.set i (some (.d (.dict (kvs.map fun p => (kD p.1, p.2))))) } := nd rfl
@[simp] theorem x_intD {i : Int} {k : Int → Prop} : intD (.d (.int i)) k = k i := nd rfl
@[simp] theorem x_cmp {C : PyData → PyData → Prop} {f : PyData → PyData → Bool} {dx dy : PyData} {Q : PyData → Prop} : cmpD C f dx dy Q = (C dx dy ∧ Q (.bool (f dx dy))) := nd rfl
@[simp] theorem x_addI {i j : Int} {Q : PyData → Prop} : addD (.int i) (.int j) Q = Q (.int (i + j)) := nd rfl
@[simp] theorem x_addS {i j : Str} {Q : PyData → Prop} : addD (.str i) (.str j) Q = (i.length + j.length ≤ sizeLine ∧ Q (.str (i ++ j))) := nd rfl
@[simp] theorem x_addL {i j : List PyData} {Q : PyData → Prop} : addD (.list i) (.list j) Q = (i.length + j.length ≤ sizeLine ∧ Q (.list (i ++ j))) := nd rfl
@[simp] theorem x_subI {i j : Int} {Q : PyData → Prop} : subD (.int i) (.int j) Q = Q (.int (i - j)) := nd rfl
@[simp] theorem x_mulI {i j : Int} {Q : PyData → Prop} : mulD (.int i) (.int j) Q = (mulOk i j ∧ Q (.int (i * j))) := nd rfl
@[simp] theorem x_divI {i j : Int} {Q : PyData → Prop} : divD (.int i) (.int j) Q = (CDivW i j ∧ Q (.int (i / j))) := nd rfl
@[simp] theorem x_modI {i j : Int} {Q : PyData → Prop} : modD (.int i) (.int j) Q = (0 < j ∧ Q (.int (i % j))) := nd rfl
@[simp] theorem x_powI {i j : Int} {Q : PyData → Prop} : powD (.int i) (.int j) Q = (CPow i j ∧ Q (.int (i ^ j.toNat))) := nd rfl
@[simp] theorem x_negI {i : Int} {Q : PyData → Prop} : negD (.int i) Q = Q (.int (-i)) := nd rfl
@[simp] theorem x_intI {i : Int} {Q : PyData → Prop} : intOfD [.int i] Q = Q (.int i) := nd rfl
@[simp] theorem x_intB {b : Bool} {Q : PyData → Prop} : intOfD [.bool b] Q = Q (.int (if b then 1 else 0)) := nd rfl
@[simp] theorem x_absI {i : Int} {Q : PyData → Prop} : absD [.int i] Q = Q (.int (if i < 0 then -i else i)) := nd rfl
@[simp] theorem x_truB {b : Bool} {Q : Bool → Prop} : truD (.bool b) Q = Q b := nd rfl
@[simp] theorem x_truI {i : Int} {Q : Bool → Prop} : truD (.int i) Q = Q (i != 0) := nd rfl
@[simp] theorem x_truL {xs : List PyData} {Q : Bool → Prop} : truD (.list xs) Q = Q (!xs.isEmpty) := nd rfl
@[simp] theorem x_truT {xs : List PyData} {Q : Bool → Prop} : truD (.tuple xs) Q = Q (!xs.isEmpty) := nd rfl
@[simp] theorem x_sat1 {ρ : List (Option DV)} {n : Nat} {c : Option (List Int)} {i : Nat} : dSat1 i ⟨ρ, n, c⟩ Q = satIs i ⟨ρ, n, c⟩ (∀ k : Int, 0 ≤ k → k ≤ n → Q (.d (.int k)) ⟨ρ, n, c⟩) := nd rfl
@[simp] theorem x_sat2 {ρ : List (Option DV)} {n : Nat} {c : Option (List Int)} {i : Nat} : dSat2 i ⟨ρ, n, c⟩ Q = satIs i ⟨ρ, n, c⟩ (∀ k : Int, 0 ≤ k → Q (.d (.int k)) ⟨ρ, n, c⟩) := nd rfl
@[simp] theorem x_sat0n {ρ : List (Option DV)} {n : Nat} {i : Nat} : dSat0 i ⟨ρ, n, none⟩ Q = satIs i ⟨ρ, n, none⟩ (∀ cl : List Int, cl.length ≤ 63 → Q (.d (.list (cl.map .int))) ⟨ρ, n, some cl⟩) := nd rfl
@[simp] theorem x_sat0s {ρ : List (Option DV)} {n : Nat} {cl : List Int} {i : Nat} : dSat0 i ⟨ρ, n, some cl⟩ Q = satIs i ⟨ρ, n, some cl⟩ (Q (.d (.list (cl.map .int))) ⟨ρ, n, some cl⟩) := nd rfl
@[simp] theorem x_satIs {ρ : List (Option DV)} {n : Nat} {c : Option (List Int)} {i : Nat} {k : Prop} : satIs i ⟨ρ, n, c⟩ k = (match ρ[i]? with
  | some (some .sat) => k
  | _ => False) := nd rfl
@[simp] theorem x_put1 {i : Nat} {t : TED} : dPut1 i t D s = t s fun v s1 => intD v fun k => satIs i s1 (0 ≤ k ∧ k ≤ s1.n + 1 ∧ D.nx { s1 with n := s1.n + 1 }) := nd rfl
@[simp] theorem x_put2 {i : Nat} {t : TED} : dPut2 i t D s = t s fun v s1 => intD v fun k => satIs i s1 (0 ≤ k ∧ D.nx s1) := nd rfl
@[simp] theorem x_eqI {i j : Int} : PyData.eqv (.int i) (.int j) = decide (i = j) := by simp only [PyData.eqv]; rfl
@[simp] theorem x_ltI {i j : Int} : PySem.W.dataLt (.int i) (.int j) = decide (i < j) := PySem.W.dataLt_int i j
@[simp] theorem x_al2I {i j : Int} : al2 (.int i) (.int j) = True := by simp [al2, PySem.W.alike, PyData.depth]
@[simp] theorem x_pl2I {i j : Int} : pl2 (.int i) (.int j) = True := by simp [pl2, PyData.plain, PyData.depth]
@[simp] theorem x_lenL {xs : List PyData} {Q : PyData → Prop} : lenD [.list xs] Q = Q (.int xs.length) := nd rfl
@[simp] theorem x_lenT {xs : List PyData} {Q : PyData → Prop} : lenD [.tuple xs] Q = Q (.int xs.length) := nd rfl
@[simp] theorem x_lenS {z : Str} {Q : PyData → Prop} : lenD [.str z] Q = (z.length ≤ sizeLine ∧ Q (.int z.length)) := nd rfl
@[simp] theorem x_ixL {xs : List PyData} {i : Int} {Q : PyData → Prop} : ixD (.list xs) (.int i) Q = ∃ d, atI xs i = some d ∧ Q d := nd rfl
@[simp] theorem x_ixT {xs : List PyData} {i : Int} {Q : PyData → Prop} : ixD (.tuple xs) (.int i) Q = ∃ d, atI xs i = some d ∧ Q d := nd rfl
@[simp] theorem x_tupleL {xs : List PyData} {Q : PyData → Prop} : tupleD [.list xs] Q = Q (.tuple xs) := nd rfl
@[simp] theorem x_tupleT {xs : List PyData} {Q : PyData → Prop} : tupleD [.tuple xs] Q = Q (.tuple xs) := nd rfl
@[simp] theorem x_listL {xs : List PyData} {Q : PyData → Prop} : listD [.list xs] Q = Q (.list xs) := nd rfl
@[simp] theorem x_listT {xs : List PyData} {Q : PyData → Prop} : listD [.tuple xs] Q = Q (.list xs) := nd rfl
@[simp] theorem x_strI {i : Int} {Q : PyData → Prop} : strOfD [.int i] Q = (i.natAbs.log2 < 1920 ∧ Q (.str (toString i))) := nd rfl
@[simp] theorem x_repr {d : PyData} {Q : PyData → Prop} : reprD [d] Q = (reprOk d ∧ Q (.str d.shown)) := nd rfl
@[simp] theorem x_sorted {ds : List PyData} {Q : PyData → Prop} : sortedD [.list ds] Q = (srtOk ds ∧ Q (.list (srtD ds))) := nd rfl
@[simp] theorem x_eqvNil {xs : List PyData} : PyData.eqv (.list xs) (.list []) = xs.isEmpty := by cases xs <;> simp [PyData.eqv, PyData.eqvAll]
@[simp] theorem x_pl2Nil {xs : List PyData} : pl2 (.list xs) (.list []) = (PyData.plainAll xs = true) := by
  simp [pl2, PyData.plain, PyData.plainAll, PyData.depth, PyData.depthAll]
@[simp] theorem x_plInts (cl : List Int) : PyData.plainAll (cl.map .int) = true := by induction cl <;> simp_all [PyData.plainAll, PyData.plain]
theorem at_map {α : Type} {f : α → PyData} {cl : List α} {i : Int} (h0 : 0 ≤ i) (h1 : i < cl.length) : ∃ c ∈ cl, atI (cl.map f) i = some (f c) := by
  obtain ⟨k, rfl⟩ := Int.eq_ofNat_of_zero_le h0
  have hk : k < cl.length := by omega
  refine ⟨cl[k], List.getElem_mem _, ?_⟩
  unfold atI ixN
  simp [hk]
theorem at_mem {xs : List PyData} {i : Int} (h0 : 0 ≤ i) (h1 : i < xs.length) : ∃ c ∈ xs, atI xs i = some c := by
  obtain ⟨c, h1, h2⟩ := at_map (f := id) h0 h1
  exact ⟨c, h1, by simpa using h2⟩
theorem abs_ge (c : Int) : (0 : Int) ≤ if c < 0 then -c else c := by split <;> omega
/-- the satchel's numbers -/
theorem mixOk {c a m p q : Int} (hc : 0 < m) (hm : m < 2147483648) (h0 : 0 ≤ a) (h1 : a ≤ 1000000) (hp : 0 ≤ p) (hp2 : p ≤ 100000000) (hq : 0 ≤ q) (hq2 : q ≤ 1000000000) (j : Int) (hj : j = 5 ∨ j = 3) : CPow (c % m + p * a + q) j := by
  have h2 := Int.emod_nonneg c (by omega : m ≠ 0)
  have h3 := Int.emod_lt_of_pos c hc
  have h4 : 0 ≤ p * a := Int.mul_nonneg hp h0
  have h5 : p * a ≤ 100000000 * 1000000 := Int.mul_le_mul hp2 h1 h0 (by omega)
  refine ⟨by omega, by omega, ?_⟩
  omega
theorem mixOk2 {x a b p q : Int} (hx : 0 ≤ x) (hx2 : x < 2147483648) (h0 : 0 ≤ a) (h1 : a ≤ 1000000) (hb : 0 ≤ b) (hb2 : b ≤ 100000) (hp : 0 ≤ p) (hp2 : p ≤ 1000000) (hq : 0 ≤ q) (hq2 : q ≤ 1000000000) (j : Int) (hj : j = 5 ∨ j = 3) : CPow (x * (2 * a + b) + p * a * a + q) j := by
  have h4 : 0 ≤ x * (2 * a + b) := Int.mul_nonneg hx (by omega)
  have h5 : x * (2 * a + b) ≤ 2147483648 * 2100000 := Int.mul_le_mul (by omega) (by omega) (by omega) (by omega)
  have h6 : 0 ≤ p * a := Int.mul_nonneg hp h0
  have h7 : p * a ≤ 1000000 * 1000000 := Int.mul_le_mul hp2 h1 h0 (by omega)
  have h8 : 0 ≤ p * a * a := Int.mul_nonneg h6 h0
  have h9 : p * a * a ≤ 1000000000000 * 1000000 := Int.mul_le_mul h7 h1 h0 (by omega)
  refine ⟨by omega, by omega, ?_⟩
  omega
theorem mulOkL {i j : Int} (h : -(2 : Int) ^ 64 < i) (h' : i < 2 ^ 64) : mulOk i j := .inl (.inl ⟨h, h'⟩)
theorem mulOkR {i j : Int} (h : -(2 : Int) ^ 64 < j) (h' : j < 2 ^ 64) : mulOk i j := .inl (.inr ⟨h, h'⟩)
theorem mod_in (x : Int) {m : Int} (h : 0 < m) : 0 ≤ x % m ∧ x % m < m := ⟨Int.emod_nonneg x (by omega), Int.emod_lt_of_pos x h⟩
theorem mulMod {x m j : Int} (h : 0 < m) (h2 : m < 4294967296) : mulOk (x % m) j := by
  have := mod_in x h
  exact mulOkL (by omega) (by omega)
theorem divW {x m : Int} (h : 0 < m) (h' : m.natAbs.log2 < 9000) : CDivW x m := ⟨h, h'⟩
/-! ### comprehensions, loops -/
@[simp] theorem x_seqI {t : TED} {Q : List PyData → DS → Prop} : dSeqI t s Q = t s fun x s1 => isD x fun d => itemsD d fun xs => Q xs s1 := nd rfl
@[simp] theorem x_itL {xs : List PyData} {k : List PyData → Prop} : itemsD (.list xs) k = k xs := nd rfl
@[simp] theorem x_itT {xs : List PyData} {k : List PyData → Prop} : itemsD (.tuple xs) k = k xs := nd rfl
@[simp] theorem x_itS {z : Str} {k : List PyData → Prop} : itemsD (.str z) k = k (signs z) := nd rfl
@[simp] theorem x_rng1 {t : TED} {Q : List PyData → DS → Prop} : dRng1 t s Q = t s fun x s1 => intD x fun j => -(2 ^ 62) ≤ j ∧ j < 2 ^ 62 ∧ Q (rangeD 0 j.toNat) s1 := nd rfl
@[simp] theorem x_gName {ρ : List (Option DV)} {n : Nat} {c : Option (List Int)} {i : Nat} {x : DV} {Q : DS → Prop} : gdName i x ⟨ρ, n, c⟩ Q = (i < ρ.length ∧ Q ⟨ρ.set i (some x), n, c⟩) := nd rfl
@[simp] theorem x_gTup {n : Nat} {t : TGsD} {xs : List PyData} {Q : DS → Prop} : gdTup n t (.d (.tuple xs)) s Q = (xs.length = n ∧ t (xs.map DV.d) s Q) := nd rfl
@[simp] theorem x_gCons {t : TGD} {u : TGsD} {v : DV} {r : List DV} {Q : DS → Prop} : gdCons t u (v :: r) s Q = t v s fun s' => u r s' Q := nd rfl
@[simp] theorem x_gNil {Q : DS → Prop} : gdNil [] s Q = Q s := by simp [gdNil]
@[simp] theorem x_yes {Q : Bool → DS → Prop} : dYes s Q = Q true s := nd rfl
@[simp] theorem x_scrCut {ρ : List (Option DV)} {n : Nat} {c : Option (List Int)} {i : Nat} {th : DS → (Option Int → DS → Prop) → Prop} : dScrCut i th ⟨ρ, n, c⟩ Q = (match ρ[i]? with
  | some (some (.scr ns)) => th ⟨ρ, n, c⟩ fun hi s1 => Q (.d (.list ((cutD ns none hi).map .int))) s1
  | _ => False) := nd rfl
@[simp] theorem x_part {t : TED} {Q : Option Int → DS → Prop} : dPart t s Q = t s fun x s1 => intD x fun i => Q (some i) s1 := nd rfl
@[simp] theorem x_noPart {Q : Option Int → DS → Prop} : dNoPart s Q = Q none s := nd rfl
@[simp] theorem x_comp {own : List Nat} {ti : TID} {tg : TGD} {tt : TTD} {te : TED} : dComp own ti tg tt te s Q = ti s fun items s1 => dCompGo own tg tt te items [] (wipeS s1 own) fun acc s2 => Q (.d (.list acc)) s2 := nd rfl
@[simp] theorem x_for {ti : TID} {tg : TGD} {b : TSD} : dFor ti tg b D s = ti s fun items s1 => dForGo tg b items D s1 := nd rfl
@[simp] theorem x_for0 {tg : TGD} {b : TSD} : dForGo tg b [] D s = D.nx s := nd rfl
@[simp] theorem x_for1 {tg : TGD} {b : TSD} {d : PyData} {ds : List PyData} : dForGo tg b (d :: ds) D s = tg (.d d) s fun s1 => b { D with nx := dForGo tg b ds D, ct := dForGo tg b ds D, bk := D.nx } s1 := nd rfl
@[simp] theorem x_wipe {ρ : List (Option DV)} {n : Nat} {c : Option (List Int)} {own : List Nat} : wipeS ⟨ρ, n, c⟩ own = ⟨wipeR ρ own, n, c⟩ := nd rfl
@[simp] theorem x_wipe0 {ρ : List (Option DV)} : wipeR ρ [] = ρ := nd rfl
@[simp] theorem x_wipe1 {ρ : List (Option DV)} {i : Nat} {own : List Nat} : wipeR ρ (i :: own) = (wipeR ρ own).set i none := nd rfl
@[simp] theorem x_par {i j : Nat} {ta : TAD} : dPar i j ta D s = ta s fun xs s1 => (match xs with
  | [x, y] => i < s1.ρ.length ∧ j < s1.ρ.length ∧ D.nx (putS (putS s1 i x) j y)
  | _ => False) := nd rfl
@[simp] theorem x_asg {t : TED} {tg : TGD} : dAsg t tg D s = t s fun x s1 => tg x s1 D.nx := nd rfl
@[simp] theorem x_drop {t : TED} : dDrop t D s = t s fun _ s1 => D.nx s1 := nd rfl
@[simp] theorem x_comp0 {own : List Nat} {tg : TGD} {tt : TTD} {te : TED} {acc : List PyData} {Q : List PyData → DS → Prop} : dCompGo own tg tt te [] acc s Q = Q acc s := nd rfl
def stepC (own : List Nat) (tg : TGD) (tt : TTD) (te : TED) (d : PyData) (Ky : PyData → DS → Prop) (Kn : DS → Prop) (s : DS) : Prop := tg (.d d) s fun s1 => tt s1 fun b s2 => if b = true then te s2 fun y s3 => isD y fun yd => Ky yd (wipeS s3 own) else Kn (wipeS s2 own)
/-- an element each, by f; the state stays -/
theorem comp_map {own : List Nat} {tg : TGD} {tt : TTD} {te : TED} {f : PyData → PyData} {s : DS} {Q : List PyData → DS → Prop} : ∀ (items acc : List PyData), acc.length + items.length ≤ sizeLine → (∀ d ∈ items, ∀ Ky Kn, Ky (f d) s → stepC own tg tt te d Ky Kn s) → Q (acc ++ items.map f) s → dCompGo own tg tt te items acc s Q
  | [], acc, _, _, q => by simpa using q
  | d :: ds, acc, hl, h, q => by
    simp only [List.length_cons] at hl
    show stepC own tg tt te d (fun y s' => acc.length < sizeLine ∧ dCompGo own tg tt te ds (acc ++ [y]) s' Q) (fun s' => dCompGo own tg tt te ds acc s' Q) s
    exact h d (List.mem_cons_self ..) _ _ ⟨by omega, comp_map ds (acc ++ [f d]) (by simp; omega) (fun d hd => h d (List.mem_cons_of_mem _ hd)) (by simpa using q)⟩
/-- those with p, by f -/
theorem comp_filter {own : List Nat} {tg : TGD} {tt : TTD} {te : TED} {p : PyData → Bool} {f : PyData → PyData} {s : DS} {Q : List PyData → DS → Prop} : ∀ (items acc : List PyData), acc.length + items.length ≤ sizeLine → (∀ d ∈ items, ∀ (Ky : PyData → DS → Prop) (Kn : DS → Prop), (if p d = true then Ky (f d) s else Kn s) → stepC own tg tt te d Ky Kn s) → Q (acc ++ (items.filter p).map f) s → dCompGo own tg tt te items acc s Q
  | [], acc, _, _, q => by simpa using q
  | d :: ds, acc, hl, h, q => by
    simp only [List.length_cons] at hl
    show stepC own tg tt te d (fun y s' => acc.length < sizeLine ∧ dCompGo own tg tt te ds (acc ++ [y]) s' Q) (fun s' => dCompGo own tg tt te ds acc s' Q) s
    refine h d (List.mem_cons_self ..) _ _ ?_
    by_cases hp : p d = true
    · rw [if_pos hp]
      exact ⟨by omega, comp_filter ds (acc ++ [f d]) (by simp; omega) (fun d hd => h d (List.mem_cons_of_mem _ hd)) (by simpa [hp] using q)⟩
    · rw [if_neg hp]
      exact comp_filter ds acc (by omega) (fun d hd => h d (List.mem_cons_of_mem _ hd)) (by simpa [hp] using q)
/-- by an invariant: what is left, what was made, the state -/
theorem comp_inv {own : List Nat} {tg : TGD} {tt : TTD} {te : TED} {Q : List PyData → DS → Prop} (I : List PyData → List PyData → DS → Prop) (hs : ∀ d ds acc s, I (d :: ds) acc s → ∀ (Ky : PyData → DS → Prop) (Kn : DS → Prop), (∀ y s', I ds (acc ++ [y]) s' → Ky y s') → (∀ s', I ds acc s' → Kn s') → stepC own tg tt te d Ky Kn s)
    (hq : ∀ acc s, I [] acc s → Q acc s) : ∀ (items acc : List PyData) (s : DS), acc.length + items.length ≤ sizeLine → I items acc s → dCompGo own tg tt te items acc s Q
  | [], acc, s, _, h => hq acc s h
  | d :: ds, acc, s, hl, h => by
    simp only [List.length_cons] at hl
    show stepC own tg tt te d (fun y s' => acc.length < sizeLine ∧ dCompGo own tg tt te ds (acc ++ [y]) s' Q) (fun s' => dCompGo own tg tt te ds acc s' Q) s
    exact hs d ds acc s h _ _ (fun y s' h' => ⟨by omega, comp_inv I hs hq ds (acc ++ [y]) s' (by simp; omega) h'⟩) (fun s' h' => comp_inv I hs hq ds acc s' (by omega) h')
/-- a loop by an invariant -/
theorem for_inv {tg : TGD} {b : TSD} {D : DEnds} (I : List PyData → DS → Prop) (hs : ∀ d ds s, I (d :: ds) s → ∀ K : DS → Prop, (∀ s', I ds s' → K s') → tg (.d d) s fun s1 => b { D with nx := K, ct := K, bk := D.nx } s1) (hq : ∀ s, I [] s → D.nx s) : ∀ (items : List PyData) (s : DS), I items s → dForGo tg b items D s
  | [], s, h => hq s h
  | d :: ds, s, h => hs d ds s h _ fun s' h' => for_inv I hs hq ds s' h'
theorem rangeD_len {lo : Int} {n : Nat} : (rangeD lo n).length = n := by simp [rangeD]
def isIntD : PyData → Bool
  | .int _ => true
  | _ => false
def kInt : PyData → Bool
  | .int _ => true
  | .bool _ => true
  | _ => false
def kBool : PyData → Bool
  | .bool _ => true
  | _ => false
def kStr : PyData → Bool
  | .str _ => true
  | _ => false
def kList : PyData → Bool
  | .list _ => true
  | _ => false
def kTup : PyData → Bool
  | .tuple _ => true
  | _ => false
def kDict : PyData → Bool
  | .dict _ => true
  | _ => false
@[simp] theorem isT_int (v : PyData) : isT "int" v = kInt v := by cases v <;> rfl
@[simp] theorem isT_bool (v : PyData) : isT "bool" v = kBool v := by cases v <;> rfl
@[simp] theorem isT_str (v : PyData) : isT "str" v = kStr v := by cases v <;> rfl
@[simp] theorem isT_list (v : PyData) : isT "list" v = kList v := by cases v <;> rfl
@[simp] theorem isT_tuple (v : PyData) : isT "tuple" v = kTup v := by cases v <;> rfl
@[simp] theorem isT_dict (v : PyData) : isT "dict" v = kDict v := by cases v <;> rfl
theorem lgN {m : Nat} (h : m ≤ 8999) : m.log2 < 9000 := Nat.lt_of_le_of_lt (Nat.log2_le_self m) (by omega)
theorem lg100 {i : Int} (h : -(10 : Int) ^ 60 ≤ i) (h' : i ≤ 10 ^ 60) : i.natAbs.log2 < 1920 := by
  by_cases z : i.natAbs = 0
  · rw [z]; decide
  · rw [Nat.log2_lt z]
    exact Nat.lt_of_le_of_lt (show i.natAbs ≤ 10 ^ 60 by omega) (Nat.lt_of_lt_of_le (show 10 ^ 60 < 2 ^ 200 by decide) (Nat.pow_le_pow_right (by decide) (by decide)))
theorem at_any {α : Type} {cl : List α} {i : Int} (h0 : 0 ≤ i) (h1 : i < cl.length) : ∃ c ∈ cl, atI cl i = some c := by
  obtain ⟨k, rfl⟩ := Int.eq_ofNat_of_zero_le h0
  have hk : k < cl.length := by omega
  refine ⟨cl[k], List.getElem_mem _, ?_⟩
  unfold atI ixN
  simp [hk]
@[simp] theorem x_ixS {z : Str} {i : Int} {Q : PyData → Prop} : ixD (.str z) (.int i) Q = (z.length ≤ sizeLine ∧ ∃ c, atI z.cps.toList i = some c ∧ Q (.str ⟨#[c]⟩)) := nd rfl
@[simp] theorem x_strD {z : Str} {k : Str → Prop} : strD (.d (.str z)) k = k z := nd rfl
@[simp] theorem x_methS {f : Str → PyData → (PyData → Prop) → Prop} {ta tb : TED} : dMethS f ta tb s Q = ta s fun x s1 => strD x fun a => tb s1 fun y s2 => isD y fun dy => f a dy fun d => Q (.d d) s2 := nd rfl
theorem glued_go (sep : Str) (h : sep.cps = #[]) : ∀ (cs : List Nat) (a : Array Nat), (List.foldl (fun acc (p : Str) => acc ++ sep.cps ++ p.cps) a (cs.map fun c => (⟨#[c]⟩ : Str))).toList = a.toList ++ cs
  | [], a => by simp
  | c :: cs, a => by
    rw [List.map_cons, List.foldl_cons, glued_go sep h cs]
    simp [h]
theorem glued_one (sep : Str) (h : sep.cps = #[]) : ∀ cs : List Nat, (Txt.join sep (cs.map fun c => (⟨#[c]⟩ : Str))).cps.toList = cs
  | [] => rfl
  | c :: cs => by
    show (List.foldl (fun acc (p : Str) => acc ++ sep.cps ++ p.cps) #[c] (cs.map fun c => (⟨#[c]⟩ : Str))).toList = _
    rw [glued_go sep h cs]
    rfl
theorem join_one (cs : List Nat) (h : cs.length ≤ 1000) {sep : Str} (hs : sep.cps = #[]) {Q : PyData → Prop} (q : ∀ z : Str, z.cps.toList = cs → Q (.str z)) : joinD sep (.list (cs.map fun c => .str ⟨#[c]⟩)) Q := by
  refine ⟨cs.map fun c => ⟨#[c]⟩, .inl (by simp), ?_, q _ (glued_one sep hs cs)⟩
  have : sep.length = 0 := by unfold Str.length; rw [hs]; rfl
  rw [this]
  have e : ∀ cs : List Nat, ((cs.map fun c => (⟨#[c]⟩ : Str)).map (·.length)).sum = cs.length := by
    intro cs
    induction cs with
    | nil => rfl
    | cons c cs ih => simp only [List.map_cons, List.sum_cons, List.length_cons, ih]; show 1 + _ = _; omega
  rw [e]
  omega
@[simp] theorem x_chain {t2 t2' : PyData → PyData → (PyData → Prop) → Prop} {ta tb tc : TED} : dChain t2 t2' ta tb tc s Q = ta s fun x s1 => tb s1 fun y s2 => isD x fun dx => isD y fun dy => t2 dx dy fun z => bOf (.d z) fun k => if k = true then tc s2 fun w s3 => isD w fun dw => t2' dy dw fun d => Q (.d d) s3 else Q (.d (.bool false)) s2 := by
  unfold dChain bOf
  congr 1
@[simp] theorem x_inT {neg : Bool} {dx : PyData} {xs : List PyData} {Q : PyData → Prop} : inD neg dx (.tuple xs) Q = (PyData.plainAll xs = true ∧ dx.plain = true ∧ min (PyData.depthAll xs) dx.depth ≤ 60 ∧ Q (.bool (neg != xs.any fun y => PyData.eqv y dx))) := nd rfl
@[simp] theorem x_inL {neg : Bool} {dx : PyData} {xs : List PyData} {Q : PyData → Prop} : inD neg dx (.list xs) Q = (PyData.plainAll xs = true ∧ dx.plain = true ∧ min (PyData.depthAll xs) dx.depth ≤ 60 ∧ Q (.bool (neg != xs.any fun y => PyData.eqv y dx))) := nd rfl
@[simp] theorem x_inS {neg : Bool} {a b : Str} {Q : PyData → Prop} : inD neg (.str a) (.str b) Q = Q (.bool (neg != strIn a b)) := nd rfl
@[simp] theorem x_al2S {i j : Str} : al2 (.str i) (.str j) = True := by simp [al2, PySem.W.alike, PyData.depth]
@[simp] theorem x_pl2S {i j : Str} : pl2 (.str i) (.str j) = True := by simp [pl2, PyData.plain, PyData.depth]
@[simp] theorem x_eqS {i j : Str} : PyData.eqv (.str i) (.str j) = decide (i = j) := by simp only [PyData.eqv]; by_cases h : i = j <;> simp [h]
/-! ### own dicts -/
@[simp] theorem x_newTab {i : Nat} : dNewTab i D s = (i < s.ρ.length ∧ D.nx (putS s i (.tab []))) := nd rfl
@[simp] theorem x_putTab {i : Nat} {tk tv : TED} : dPutTab i tk tv D s = tv s fun v s1 => (∃ kvs, s1.ρ[i]? = some (some (.tab kvs))) ∧ tk s1 fun k s2 => isD v fun vd => keyD k fun key => ∃ kvs, s2.ρ[i]? = some (some (.tab kvs)) ∧ kvs.length < sizeLine ∧ D.nx (putS s2 i (.tab (putT kvs key vd))) := nd rfl
@[simp] theorem x_inTab {neg : Bool} {i : Nat} {tk : TED} : dInTab neg i tk s Q = tk s fun k s1 => keyD k fun key => ∃ kvs, s1.ρ[i]? = some (some (.tab kvs)) ∧ Q (.d (.bool (neg != hasT kvs key))) s1 := nd rfl
@[simp] theorem x_keyS {x : Str} {k : Key → Prop} : keyD (.d (.str x)) k = k (.inr x) := nd rfl
@[simp] theorem x_keyI {x : Int} {k : Key → Prop} : keyD (.d (.int x)) k = k (.inl x) := nd rfl
@[simp] theorem x_items {kvs : List (PyData × PyData)} {Q : PyData → Prop} : itemsD1 (.dict kvs) Q = Q (.list (itemsTD kvs)) := nd rfl
@[simp] theorem x_sortItems {ds : List (PyData × PyData)} {Q : PyData → Prop} : sortItemsD (.dict ds) Q = (srtOk (itemsTD ds) ∧ (∀ p ∈ ds, flatD p.2 = true) ∧ Q (.list (srtD (itemsTD ds)))) := nd rfl
theorem putT_new {κ α : Type} [DecidableEq κ] {kvs : List (κ × α)} {k : κ} {v : α} (h : hasT kvs k = false) : putT kvs k v = kvs ++ [(k, v)] := by
  unfold putT
  unfold hasT at h
  rw [h]
  rfl
end
end PD
set_option Elab.async false
set_option linter.all false
set_option maxRecDepth 100000
set_option maxHeartbeats 1000000
namespace PD
open PySem L2
/-! ### what repr may be asked of -/
/-- depth at most k, text at most m -/
structure RB (k m : Nat) (d : PyData) : Prop where
  sh : d.showable = true
  nd : d.hasDict = false
  dp : d.depth ≤ k
  ln : d.shown.length ≤ m
theorem RB.mono {k m k' m' : Nat} {d : PyData} (h : RB k m d) (h1 : k ≤ k') (h2 : m ≤ m') : RB k' m' d := ⟨h.sh, h.nd, Nat.le_trans h.dp h1, Nat.le_trans h.ln h2⟩
theorem RB.ok {k m : Nat} {d : PyData} (h : RB k m d) (h1 : k ≤ 60) (h2 : m ≤ 16777216) : reprOk d := ⟨h.sh, .inl h.nd, Nat.le_trans h.dp h1, Nat.le_trans h.ln (by rw [show sizeLine = 16777216 from rfl]; exact h2)⟩
theorem RB.non : RB 0 5 .none := ⟨rfl, rfl, by simp [PyData.depth], by decide⟩
theorem RB.bool {b : Bool} : RB 0 5 (.bool b) := ⟨by cases b <;> rfl, by cases b <;> rfl, by simp [PyData.depth], by cases b <;> decide⟩
theorem RB.int {i : Int} {k : Nat} (hk : 0 < k) (hk2 : k ≤ 500) (h : i.natAbs < 10 ^ k) : RB 0 (k + 1) (.int i) := by
  refine ⟨?_, rfl, by simp [PyData.depth], ?_⟩
  · show decide (i.natAbs.log2 < 1920) = true
    refine decide_eq_true ?_
    by_cases z : i.natAbs = 0
    · rw [z]; decide
    · rw [Nat.log2_lt z]
      refine Nat.lt_of_lt_of_le h ?_
      refine Nat.le_trans (Nat.pow_le_pow_right (by decide) hk2) ?_
      decide +kernel
  · have := int_text_length_le10 hk h
    show (Str.ofString (toString i)).length ≤ _
    rw [ofString_length]; exact this
theorem RB.str {z : Str} {k : Nat} (h : ∀ c ∈ z.cps.toList, c < 16 ^ 8) (hl : z.length ≤ k) : RB 0 (10 * k + 2) (.str z) := by
  refine ⟨rfl, rfl, by simp [PyData.depth], ?_⟩
  have := StrLaws.reprText_len z h
  show (reprText z).length ≤ _
  omega
theorem RB.all {k m : Nat} : ∀ {xs : List PyData}, (∀ x ∈ xs, RB k m x) → PyData.showableAll xs = true ∧ PyData.hasDictAll xs = false ∧ PyData.depthAll xs ≤ k ∧ ((PyData.shownAll xs).map (·.length)).sum ≤ xs.length * m ∧ (PyData.shownAll xs).length = xs.length
  | [], _ => ⟨rfl, rfl, by simp [PyData.depthAll], by simp [PyData.shownAll], rfl⟩
  | x :: xs, h => by
    obtain ⟨h1, h2, h3, h4, h5⟩ := RB.all (xs := xs) fun y hy => h y (List.mem_cons_of_mem _ hy)
    have hx := h x (List.mem_cons_self ..)
    refine ⟨by rw [PyData.showableAll, hx.sh, h1]; rfl, by rw [PyData.hasDictAll, hx.nd, h2]; rfl, by rw [PyData.depthAll]; have := hx.dp; omega, ?_, by simp [PyData.shownAll, h5]⟩
    have := hx.ln
    simp only [PyData.shownAll, List.map_cons, List.sum_cons, List.length_cons]
    rw [Nat.succ_mul]
    omega
theorem RB.list {k m n : Nat} {xs : List PyData} (h : ∀ x ∈ xs, RB k m x) (hn : xs.length ≤ n) : RB (k + 1) (n * (m + 2) + 3) (.list xs) := by
  obtain ⟨h1, h2, h3, h4, h5⟩ := RB.all h
  refine ⟨by simpa [PyData.showable] using h1, by simpa [PyData.hasDict] using h2, by rw [PyData.depth]; omega, ?_⟩
  have h6 := listText_len_le (PyData.shownAll xs)
  show (listText (PyData.shownAll xs)).length ≤ _
  rw [h5] at h6
  have h7 : xs.length * (m + 2) ≤ n * (m + 2) := Nat.mul_le_mul_right _ hn
  rw [Nat.mul_add] at h7
  omega
theorem RB.tuple {k m n : Nat} {xs : List PyData} (h : ∀ x ∈ xs, RB k m x) (hn : xs.length ≤ n) : RB (k + 1) (n * (m + 2) + 3) (.tuple xs) := by
  obtain ⟨h1, h2, h3, h4, h5⟩ := RB.all h
  refine ⟨by simpa [PyData.showable] using h1, by simpa [PyData.hasDict] using h2, by rw [PyData.depth]; omega, ?_⟩
  have h6 := tupleText_len_le (PyData.shownAll xs)
  show (tupleText (PyData.shownAll xs)).length ≤ _
  rw [h5] at h6
  have h7 : xs.length * (m + 2) ≤ n * (m + 2) := Nat.mul_le_mul_right _ hn
  rw [Nat.mul_add] at h7
  omega
theorem RB.kvs {m : Nat} : ∀ {kvs : List (PyData × PyData)}, (∀ p ∈ kvs, RB 0 m p.1 ∧ RB 0 m p.2) → PyData.showableKv kvs = true ∧ PyData.depthKv kvs ≤ 0 ∧ ((PyData.shownKv kvs).map (·.length)).sum ≤ kvs.length * (2 * m + 2)
  | [], _ => ⟨rfl, by simp [PyData.depthKv], by simp [PyData.shownKv]⟩
  | (x, y) :: xs, h => by
    obtain ⟨h1, h2, h3⟩ := RB.kvs (kvs := xs) fun y hy => h y (List.mem_cons_of_mem _ hy)
    obtain ⟨hx, hy⟩ := h (x, y) (List.mem_cons_self ..)
    dsimp only at hx hy
    refine ⟨by rw [PyData.showableKv, hx.sh, hy.sh, h1]; rfl, by rw [PyData.depthKv]; have := hx.dp; have := hy.dp; omega, ?_⟩
    have := hx.ln
    have := hy.ln
    simp only [PyData.shownKv, List.map_cons, List.sum_cons, List.length_cons]
    rw [Nat.succ_mul]
    have e2 : (x.shown ++ ": " ++ y.shown).length = x.shown.length + 2 + y.shown.length := by
      rw [strLen_append, strLen_append]; rfl
    omega
theorem dict_ok {m n : Nat} {kvs : List (PyData × PyData)} (h : ∀ p ∈ kvs, RB 0 m p.1 ∧ RB 0 m p.2) (hf : kvs.all (fun p => flatD p.1 && flatD p.2) = true) (hn : kvs.length ≤ n) (hm : n * (2 * m + 4) + 3 ≤ 16777216) : reprOk (.dict kvs) := by
  obtain ⟨h1, h2, h3⟩ := RB.kvs h
  refine ⟨by simpa [PyData.showable] using h1, .inr ⟨_, rfl, hf⟩, by rw [PyData.depth]; omega, ?_⟩
  have h6 := dictText_len_le (PyData.shownKv kvs)
  rw [PyData.shownKv_length] at h6
  show (dictText (PyData.shownKv kvs)).length ≤ _
  rw [show sizeLine = 16777216 from rfl]
  have h7 : kvs.length * (2 * m + 4) ≤ n * (2 * m + 4) := Nat.mul_le_mul_right _ hn
  have e : kvs.length * (2 * m + 4) = kvs.length * (2 * m + 2) + 2 * kvs.length := by
    rw [show 2 * m + 4 = (2 * m + 2) + 2 from rfl, Nat.mul_add, Nat.mul_comm 2 kvs.length]
  omega
theorem reprB {b : Bool} : reprOk (.bool b) := RB.bool.ok (by decide) (by decide)
theorem bools_ok {bs : List Bool} (h : bs.length ≤ 1000) : reprOk (.list (bs.map .bool)) := (RB.list (k := 0) (m := 5) (n := 1000) (fun x hx => by obtain ⟨b, _, rfl⟩ := List.mem_map.mp hx; exact RB.bool) (by simpa using h)).ok (by decide) (by decide)
/-! ### sorted, whatever the order before -/
theorem le_total (a b : PyData) : (leD a b || leD b a) = true := by
  unfold leD
  cases h1 : PySem.W.dataLt b a with
  | false => rfl
  | true =>
    cases h2 : PySem.W.dataLt a b with
    | false => rfl
    | true => exact absurd (PyProof.Rows.lex_trans (O := PyProof.Rows.itemOrd) _ _ _ h1 h2) (by rw [PyProof.Rows.lex_irrefl]; exact Bool.false_ne_true)
theorem le_trans (a b c : PyData) (h1 : leD a b = true) (h2 : leD b c = true) : leD a c = true := by
  unfold leD at *
  cases h : PySem.W.dataLt c a with
  | false => rfl
  | true =>
    rcases PyProof.Rows.lex_negTrans (O := PyProof.Rows.itemOrd) _ (PySem.W.keyToks b) _ h with q | q
    · rw [show PySem.W.dataLt c b = true from q] at h2; cases h2
    · rw [show PySem.W.dataLt b a = true from q] at h1; cases h1
theorem srt_sorted (xs : List PyData) : (srtD xs).Pairwise fun a b => leD a b = true := List.pairwise_mergeSort le_trans le_total xs
theorem srt_perm (xs : List PyData) : (srtD xs).Perm xs := List.mergeSort_perm xs _
theorem srt_of_perm {xs ys : List PyData} (hp : xs.Perm ys) (ha : ∀ a ∈ xs, ∀ b ∈ xs, leD a b = true → leD b a = true → a = b) : srtD xs = srtD ys :=
  List.Perm.eq_of_pairwise (fun a b h1 h2 => ha a ((srt_perm xs).mem_iff.mp h1) b (hp.mem_iff.mpr ((srt_perm ys).mem_iff.mp h2))) (srt_sorted xs) (srt_sorted ys) ((srt_perm xs).trans (hp.trans (srt_perm ys).symm))
theorem le_str {x y : Str} : leD (.str x) (.str y) = true ↔ ¬ y.cps.toList < x.cps.toList := by
  unfold leD
  rw [PySem.W.dataLt_str]
  simp
theorem str_ext {x y : Str} (h : x.cps.toList = y.cps.toList) : x = y := by
  cases x; cases y
  congr
  exact Array.toList_inj.mp h
theorem le_str_anti {x y : Str} (h1 : leD (.str x) (.str y) = true) (h2 : leD (.str y) (.str x) = true) : x = y :=
  str_ext (List.le_antisymm (List.not_lt.mp (le_str.mp h1)) (List.not_lt.mp (le_str.mp h2)))
theorem le_named {x y : Str} {a b : PyData} (hx : x ≠ y) (hab : PySem.W.alike a b = true) (hba : PySem.W.alike b a = true) : leD (.tuple [.str x, a]) (.tuple [.str y, b]) = leD (.str x) (.str y) := by
  unfold leD
  rw [PySem.W.dataLt_pair (by simp [PySem.W.alike]) hba]
  have : PyData.eqv (.str y) (.str x) = false := by
    simp [PyData.eqv]; exact fun e => hx e.symm
  rw [this]
  rfl
theorem nodup_fst {α β : Type} : ∀ {ts : List (α × β)} {p q : α × β}, (ts.map (·.1)).Nodup → p ∈ ts → q ∈ ts → p.1 = q.1 → p = q
  | t :: ts, p, q, hn, hp, hq, e => by
    rw [List.map_cons, List.nodup_cons] at hn
    rcases List.mem_cons.mp hp with rfl | hp' <;> rcases List.mem_cons.mp hq with rfl | hq'
    · rfl
    · exact absurd (show p.1 ∈ ts.map (·.1) from e ▸ List.mem_map_of_mem hq') hn.1
    · exact absurd (show q.1 ∈ ts.map (·.1) from e ▸ List.mem_map_of_mem hp') hn.1
    · exact nodup_fst hn.2 hp' hq' e
end PD
set_option Elab.async false
set_option linter.all false
set_option maxRecDepth 100000
set_option maxHeartbeats 1000000
namespace PD
open PySem L2
/-! ### reading by data without lambdas: the rest of a walk is a named thing -/
section
variable {s : DS} {Q : DV → DS → Prop} {D : DEnds} {ρ : List (Option DV)} {n : Nat} {c : Option (List Int)}
abbrev KE' := DV → DS → Prop
abbrev KA' := List DV → DS → Prop
abbrev KB' := Bool → DS → Prop
abbrev KP' := PyData → Prop
def kRet (D : DEnds) : KE' := fun x s => D.rt x s.n
def kSet (i : Nat) (D : DEnds) : KE' := fun x s => i < s.ρ.length ∧ D.nx (putS s i x)
def kIf (t u : TSD) (D : DEnds) : KB' := fun b s => if b = true then t D s else u D s
def kDrop (D : DEnds) : KE' := fun _ s => D.nx s
def kO (s : DS) (Q : KE') : KP' := fun d => Q (.d d) s
def kB2 (t2 : PyData → PyData → KP' → Prop) (x : DV) (Q : KE') : KE' := fun y s => isD x fun dx => isD y fun dy => t2 dx dy (kO s Q)
def kB1 (t2 : PyData → PyData → KP' → Prop) (tb : TED) (Q : KE') : KE' := fun x s => tb s (kB2 t2 x Q)
def kU (t1 : PyData → KP' → Prop) (Q : KE') : KE' := fun x s => isD x fun dx => t1 dx (kO s Q)
def kC2 (tn : List PyData → KP' → Prop) (s : DS) (Q : KE') : List PyData → Prop := fun ds => tn ds (kO s Q)
def kC (tn : List PyData → KP' → Prop) (Q : KE') : KA' := fun xs s => areD xs (kC2 tn s Q)
def kAre (x : PyData) (k : List PyData → Prop) : List PyData → Prop := fun xs => k (x :: xs)
def kA2 (x : DV) (Q : KA') : KA' := fun xs s => Q (x :: xs) s
def kA1 (u : TAD) (Q : KA') : KE' := fun x s => u s (kA2 x Q)
def kR (ρ : List (Option DV)) (Q : KE') : DV → Nat → Prop := fun d n => Q d ⟨ρ, n, none⟩
def kF (sp : DSp) (Q : KE') : KA' := fun xs s => sp xs s.n (kR s.ρ Q)
def kV (Q : KB') : KE' := fun x s => bOf x fun b => Q b s
def kTb (s : DS) (Q : KB') : Bool → Prop := fun b => Q b s
def kT (Q : KB') : KE' := fun x s => isD x fun d => truD d (kTb s Q)
def kAn (u : TTD) (Q : KB') : KB' := fun b s => if b = true then u s Q else Q false s
def kOr (u : TTD) (Q : KB') : KB' := fun b s => if b = true then Q true s else u s Q
def kNo (Q : KB') : KB' := fun b s => Q (!b) s
def kIfE (ta tb : TED) (Q : KE') : KB' := fun b s => if b = true then ta s Q else tb s Q
def kAnE2 (tb : TED) (s : DS) (Q : KE') : Bool → Prop := fun b => if b = true then tb s Q else Q (.d (.bool false)) s
def kAnE (tb : TED) (Q : KE') : KE' := fun x s => bOf x (kAnE2 tb s Q)
def kOrE2 (tb : TED) (s : DS) (Q : KE') : Bool → Prop := fun b => if b = true then Q (.d (.bool true)) s else tb s Q
def kOrE (tb : TED) (Q : KE') : KE' := fun x s => bOf x (kOrE2 tb s Q)
def kNoE (Q : KE') : KE' := fun x s => bOf x fun b => Q (.d (.bool !b)) s
def kIsI (f : PyData → Bool) (Q : KE') : KE' := fun x s => isD x fun d => Q (.d (.bool (f d))) s
def kCh3 (t2' : PyData → PyData → KP' → Prop) (dy : PyData) (Q : KE') : KE' := fun w s => isD w fun dw => t2' dy dw (kO s Q)
def kCh2 (t2' : PyData → PyData → KP' → Prop) (tc : TED) (dy : PyData) (s : DS) (Q : KE') : KP' := fun z => bOf (.d z) fun k => if k = true then tc s (kCh3 t2' dy Q) else Q (.d (.bool false)) s
def kCh1 (t2 t2' : PyData → PyData → KP' → Prop) (tc : TED) (x : DV) (Q : KE') : KE' := fun y s => isD x fun dx => isD y fun dy => t2 dx dy (kCh2 t2' tc dy s Q)
def kCh (t2 t2' : PyData → PyData → KP' → Prop) (tb tc : TED) (Q : KE') : KE' := fun x s => tb s (kCh1 t2 t2' tc x Q)
def kFnK (sp : DSp) (is : List Nat) (n m : Nat) (xs : List DV) (Q : KE') : KA' := fun ys s => xs.length = n ∧ ys.length = m ∧ sp (permL is (xs ++ ys)) s.n (kR s.ρ Q)
def kFnK1 (sp : DSp) (is : List Nat) (n m : Nat) (tk : TAD) (Q : KE') : KA' := fun xs s => tk s (kFnK sp is n m xs Q)
def kL (Q : KE') : List PyData → DS → Prop := fun acc s => Q (.d (.list acc)) s
def kCo (own : List Nat) (tg : TGD) (tt : TTD) (te : TED) (Q : KE') : List PyData → DS → Prop := fun items s => dCompGo own tg tt te items [] (wipeS s own) (kL Q)
def kIt (s : DS) (Q : List PyData → DS → Prop) : List PyData → Prop := fun xs => Q xs s
def kSI (Q : List PyData → DS → Prop) : KE' := fun x s => isD x fun d => itemsD d (kIt s Q)
def kRg (Q : List PyData → DS → Prop) : KE' := fun x s => intD x fun j => -(2 ^ 62) ≤ j ∧ j < 2 ^ 62 ∧ Q (rangeD 0 j.toNat) s
def kFo (tg : TGD) (b : TSD) (D : DEnds) : List PyData → DS → Prop := fun items s => dForGo tg b items D s
def kPt (Q : Option Int → DS → Prop) : KE' := fun x s => intD x fun i => Q (some i) s
def kSl3 (x : DV) (lo : Option Int) (Q : KE') : Option Int → DS → Prop := fun hi s => isD x fun d => sliceD d lo hi (kO s Q)
def kSl2 (x : DV) (th : DS → (Option Int → DS → Prop) → Prop) (Q : KE') : Option Int → DS → Prop := fun lo s => th s (kSl3 x lo Q)
def kSl1 (tl th : DS → (Option Int → DS → Prop) → Prop) (Q : KE') : KE' := fun x s => tl s (kSl2 x th Q)
def kPar (i j : Nat) (D : DEnds) : KA' := fun xs s => match xs with
  | [x, y] => i < s.ρ.length ∧ j < s.ρ.length ∧ D.nx (putS (putS s i x) j y)
  | _ => False
def kAsg (tg : TGD) (D : DEnds) : KE' := fun x s => tg x s D.nx
def kG1 (u : TGsD) (r : List DV) (Q : DS → Prop) : DS → Prop := fun s => u r s Q
def kM2 (f : Str → PyData → KP' → Prop) (a : Str) (Q : KE') : KE' := fun y s => isD y fun dy => f a dy (kO s Q)
def kM1 (f : Str → PyData → KP' → Prop) (tb : TED) (Q : KE') : KE' := fun x s => strD x fun a => tb s (kM2 f a Q)
def kP2 (i : Nat) (v : DV) (D : DEnds) : KE' := fun k s => isD v fun vd => keyD k fun key => ∃ kvs, s.ρ[i]? = some (some (.tab kvs)) ∧ kvs.length < sizeLine ∧ D.nx (putS s i (.tab (putT kvs key vd)))
def kP1 (i : Nat) (tk : TED) (D : DEnds) : KE' := fun v s => (∃ kvs, s.ρ[i]? = some (some (.tab kvs))) ∧ tk s (kP2 i v D)
def kIn (neg : Bool) (i : Nat) (Q : KE') : KE' := fun k s => keyD k fun key => ∃ kvs, s.ρ[i]? = some (some (.tab kvs)) ∧ Q (.d (.bool (neg != hasT kvs key))) s
def kAp (i : Nat) (D : DEnds) : KE' := fun y s => isD y fun yd => ∃ xs, s.ρ[i]? = some (some (.own xs)) ∧ xs.length < sizeLine ∧ D.nx (putS s i (.own (xs ++ [yd])))

def kSc2 (own : List Nat) (Ky : PyData → DS → Prop) : KE' := fun y s => isD y fun yd => Ky yd (wipeS s own)
def kSc1 (own : List Nat) (te : TED) (Ky : PyData → DS → Prop) (Kn : DS → Prop) : KB' := fun b s => if b = true then te s (kSc2 own Ky) else Kn (wipeS s own)
def kSc (own : List Nat) (tt : TTD) (te : TED) (Ky : PyData → DS → Prop) (Kn : DS → Prop) : DS → Prop := fun s => tt s (kSc1 own te Ky Kn)
def kPr1 (r : List (TED × TED)) (tv : TED) (Q : List (DV × DV) → DS → Prop) : KE' := fun x s1 => tv s1 fun y s2 => dPairs r s2 fun ps s3 => Q ((x, y) :: ps) s3
def kDi (Q : KE') : List (DV × DV) → DS → Prop := fun qs s => pairsD qs fun kvs => kvs.length ≤ 15 ∧ Q (.d (.dict ((mergeT [] kvs).map fun p => (kD p.1, p.2)))) s
/-! equations -/
theorem y_seq {t u : TSD} : dSeq t u D s = t { D with nx := u D } s := nd rfl
theorem y_next : dNext D s = D.nx s := nd rfl
theorem y_ret {t : TED} : dRet t D s = t s (kRet D) := nd rfl
theorem y_kRet {x : DV} : kRet D x ⟨ρ, n, c⟩ = D.rt x n := nd rfl
theorem y_set {i : Nat} {t : TED} : dSet i t D s = t s (kSet i D) := nd rfl
theorem y_kSet {i : Nat} {x : DV} : kSet i D x ⟨ρ, n, c⟩ = (i < ρ.length ∧ D.nx ⟨ρ.set i (some x), n, c⟩) := nd rfl
theorem y_if {t : TTD} {u w : TSD} : dIf t u w D s = t s (kIf u w D) := nd rfl
theorem y_kIf {t u : TSD} {b : Bool} : kIf t u D b s = (if b = true then t D s else u D s) := nd rfl
theorem y_drop {t : TED} : dDrop t D s = t s (kDrop D) := nd rfl
theorem y_kDrop {x : DV} : kDrop D x s = D.nx s := nd rfl
theorem y_break : dBreak D s = D.bk s := nd rfl
theorem y_cont : dCont D s = D.ct s := nd rfl
theorem y_lit {x : PyData} : dLit x s Q = Q (.d x) s := nd rfl
theorem y_var {i : Nat} : dVar i ⟨ρ, n, c⟩ Q = (match ρ[i]? with
  | some (some x) => dVarK i x ⟨ρ, n, c⟩ Q
  | _ => False) := nd rfl
theorem y_kO {d : PyData} : kO s Q d = Q (.d d) s := nd rfl
theorem y_bin {t2 : PyData → PyData → KP' → Prop} {ta tb : TED} : dBin t2 ta tb s Q = ta s (kB1 t2 tb Q) := nd rfl
theorem y_kB1 {t2 : PyData → PyData → KP' → Prop} {tb : TED} {x : DV} : kB1 t2 tb Q x s = tb s (kB2 t2 x Q) := nd rfl
theorem y_kB2 {t2 : PyData → PyData → KP' → Prop} {x y : PyData} : kB2 t2 (.d x) Q (.d y) s = t2 x y (kO s Q) := nd rfl
theorem y_un {t1 : PyData → KP' → Prop} {ta : TED} : dUn t1 ta s Q = ta s (kU t1 Q) := nd rfl
theorem y_kU {t1 : PyData → KP' → Prop} {x : PyData} : kU t1 Q (.d x) s = t1 x (kO s Q) := nd rfl
theorem y_call {tn : List PyData → KP' → Prop} {ta : TAD} : dCall tn ta s Q = ta s (kC tn Q) := nd rfl
theorem y_kC {tn : List PyData → KP' → Prop} {xs : List DV} : kC tn Q xs s = areD xs (kC2 tn s Q) := nd rfl
theorem y_kC2 {tn : List PyData → KP' → Prop} {ds : List PyData} : kC2 tn s Q ds = tn ds (kO s Q) := nd rfl
theorem y_are0 {k : List PyData → Prop} : areD [] k = k [] := nd rfl
theorem y_are1 {x : PyData} {vs : List DV} {k : List PyData → Prop} : areD (.d x :: vs) k = areD vs (kAre x k) := nd rfl
theorem y_kAre {x : PyData} {xs : List PyData} {k : List PyData → Prop} : kAre x k xs = k (x :: xs) := nd rfl
def tupN (ds : List PyData) (Q : KP') : Prop := ds.length ≤ sizeLine ∧ Q (.tuple ds)
def lstN (ds : List PyData) (Q : KP') : Prop := ds.length ≤ sizeLine ∧ Q (.list ds)
theorem y_tup {ta : TAD} : dTup ta s Q = ta s (kC tupN Q) := nd rfl
theorem y_lst {ta : TAD} : dLst ta s Q = ta s (kC lstN Q) := nd rfl
theorem y_tupN {ds : List PyData} {Q : KP'} : tupN ds Q = (ds.length ≤ sizeLine ∧ Q (.tuple ds)) := nd rfl
theorem y_lstN {ds : List PyData} {Q : KP'} : lstN ds Q = (ds.length ≤ sizeLine ∧ Q (.list ds)) := nd rfl
theorem y_nil {Q : KA'} : dNil s Q = Q [] s := nd rfl
theorem y_cons {t : TED} {u : TAD} {Q : KA'} : dCons t u s Q = t s (kA1 u Q) := nd rfl
theorem y_kA1 {u : TAD} {Q : KA'} {x : DV} : kA1 u Q x s = u s (kA2 x Q) := nd rfl
theorem y_kA2 {Q : KA'} {x : DV} {xs : List DV} : kA2 x Q xs s = Q (x :: xs) s := nd rfl
theorem y_fn {sp : DSp} {ta : TAD} : dFn sp ta s Q = ta s (kF sp Q) := nd rfl
theorem y_kF {sp : DSp} {xs : List DV} : kF sp Q xs ⟨ρ, n, c⟩ = sp xs n (kR ρ Q) := nd rfl
theorem y_kR {d : DV} : kR ρ Q d n = Q d ⟨ρ, n, none⟩ := nd rfl
theorem y_fnK {sp : DSp} {is : List Nat} {k m : Nat} {ta tk : TAD} : dFnK sp is k m ta tk s Q = ta s (kFnK1 sp is k m tk Q) := nd rfl
theorem y_kFnK1 {sp : DSp} {is : List Nat} {k m : Nat} {tk : TAD} {xs : List DV} : kFnK1 sp is k m tk Q xs s = tk s (kFnK sp is k m xs Q) := nd rfl
theorem y_kFnK {sp : DSp} {is : List Nat} {k m : Nat} {xs ys : List DV} : kFnK sp is k m xs Q ys ⟨ρ, n, c⟩ = (xs.length = k ∧ ys.length = m ∧ sp (permL is (xs ++ ys)) n (kR ρ Q)) := nd rfl
theorem y_val {t : TED} {Q : KB'} : dVal t s Q = t s (kV Q) := by unfold dVal kV bOf; congr 1
theorem y_kV {b : Bool} {Q : KB'} : kV Q (.d (.bool b)) s = Q b s := nd rfl
theorem y_tru {t : TED} {Q : KB'} : dTru t s Q = t s (kT Q) := nd rfl
theorem y_kT {d : PyData} {Q : KB'} : kT Q (.d d) s = truD d (kTb s Q) := nd rfl
theorem y_kTb {b : Bool} {Q : KB'} : kTb s Q b = Q b s := nd rfl
theorem y_and {t u : TTD} {Q : KB'} : dAnd t u s Q = t s (kAn u Q) := nd rfl
theorem y_or {t u : TTD} {Q : KB'} : dOr t u s Q = t s (kOr u Q) := nd rfl
theorem y_not {t : TTD} {Q : KB'} : dNot t s Q = t s (kNo Q) := nd rfl
theorem y_kAn {u : TTD} {Q : KB'} {b : Bool} : kAn u Q b s = (if b = true then u s Q else Q false s) := nd rfl
theorem y_kOr {u : TTD} {Q : KB'} {b : Bool} : kOr u Q b s = (if b = true then Q true s else u s Q) := nd rfl
theorem y_kNo {Q : KB'} {b : Bool} : kNo Q b s = Q (!b) s := nd rfl
theorem y_ifE {t : TTD} {ta tb : TED} : dIfE t ta tb s Q = t s (kIfE ta tb Q) := nd rfl
theorem y_kIfE {ta tb : TED} {b : Bool} : kIfE ta tb Q b s = (if b = true then ta s Q else tb s Q) := nd rfl
theorem y_andE {ta tb : TED} : dAndE ta tb s Q = ta s (kAnE tb Q) := nd rfl
theorem y_kAnE {tb : TED} {b : Bool} : kAnE tb Q (.d (.bool b)) s = (if b = true then tb s Q else Q (.d (.bool false)) s) := nd rfl
theorem y_orE {ta tb : TED} : dOrE ta tb s Q = ta s (kOrE tb Q) := nd rfl
theorem y_kOrE {tb : TED} {b : Bool} : kOrE tb Q (.d (.bool b)) s = (if b = true then Q (.d (.bool true)) s else tb s Q) := nd rfl
theorem y_notE {ta : TED} : dNotE ta s Q = ta s (kNoE Q) := nd rfl
theorem y_kNoE {b : Bool} : kNoE Q (.d (.bool b)) s = Q (.d (.bool !b)) s := nd rfl
theorem y_isI {f : PyData → Bool} {t : TED} : dIsI f t s Q = t s (kIsI f Q) := nd rfl
theorem y_kIsI {f : PyData → Bool} {d : PyData} : kIsI f Q (.d d) s = Q (.d (.bool (f d))) s := nd rfl
theorem y_chain {t2 t2' : PyData → PyData → KP' → Prop} {ta tb tc : TED} : dChain t2 t2' ta tb tc s Q = ta s (kCh t2 t2' tb tc Q) := by unfold dChain kCh kCh1 kCh2 bOf; congr 1
theorem y_kCh {t2 t2' : PyData → PyData → KP' → Prop} {tb tc : TED} {x : DV} : kCh t2 t2' tb tc Q x s = tb s (kCh1 t2 t2' tc x Q) := nd rfl
theorem y_kCh1 {t2 t2' : PyData → PyData → KP' → Prop} {tc : TED} {x y : PyData} : kCh1 t2 t2' tc (.d x) Q (.d y) s = t2 x y (kCh2 t2' tc y s Q) := nd rfl
theorem y_kCh2 {t2' : PyData → PyData → KP' → Prop} {tc : TED} {y : PyData} {b : Bool} : kCh2 t2' tc y s Q (.bool b) = (if b = true then tc s (kCh3 t2' y Q) else Q (.d (.bool false)) s) := nd rfl
theorem y_kCh3 {t2' : PyData → PyData → KP' → Prop} {y w : PyData} : kCh3 t2' y Q (.d w) s = t2' y w (kO s Q) := nd rfl
theorem y_comp {own : List Nat} {ti : TID} {tg : TGD} {tt : TTD} {te : TED} : dComp own ti tg tt te s Q = ti s (kCo own tg tt te Q) := nd rfl
theorem y_kCo {own : List Nat} {tg : TGD} {tt : TTD} {te : TED} {items : List PyData} : kCo own tg tt te Q items ⟨ρ, n, c⟩ = dCompGo own tg tt te items [] ⟨wipeR ρ own, n, c⟩ (kL Q) := nd rfl
theorem y_kL {acc : List PyData} : kL Q acc s = Q (.d (.list acc)) s := nd rfl
theorem y_comp0 {own : List Nat} {tg : TGD} {tt : TTD} {te : TED} {acc : List PyData} {Q : List PyData → DS → Prop} : dCompGo own tg tt te [] acc s Q = Q acc s := nd rfl
theorem y_seqI {t : TED} {Q : List PyData → DS → Prop} : dSeqI t s Q = t s (kSI Q) := nd rfl
theorem y_kSI {d : PyData} {Q : List PyData → DS → Prop} : kSI Q (.d d) s = itemsD d (kIt s Q) := nd rfl
theorem y_kIt {xs : List PyData} {Q : List PyData → DS → Prop} : kIt s Q xs = Q xs s := nd rfl
theorem y_rng {t : TED} {Q : List PyData → DS → Prop} : dRng1 t s Q = t s (kRg Q) := nd rfl
theorem y_kRg {j : Int} {Q : List PyData → DS → Prop} : kRg Q (.d (.int j)) s = (-(2 ^ 62) ≤ j ∧ j < 2 ^ 62 ∧ Q (rangeD 0 j.toNat) s) := nd rfl
theorem y_for {ti : TID} {tg : TGD} {b : TSD} : dFor ti tg b D s = ti s (kFo tg b D) := nd rfl
theorem y_kFo {tg : TGD} {b : TSD} {items : List PyData} : kFo tg b D items s = dForGo tg b items D s := nd rfl
theorem y_part {t : TED} {Q : Option Int → DS → Prop} : dPart t s Q = t s (kPt Q) := nd rfl
theorem y_kPt {i : Int} {Q : Option Int → DS → Prop} : kPt Q (.d (.int i)) s = Q (some i) s := nd rfl
theorem y_noPart {Q : Option Int → DS → Prop} : dNoPart s Q = Q none s := nd rfl
theorem y_slice {t : TED} {tl th : DS → (Option Int → DS → Prop) → Prop} : dSlice t tl th s Q = t s (kSl1 tl th Q) := nd rfl
theorem y_kSl1 {tl th : DS → (Option Int → DS → Prop) → Prop} {x : DV} : kSl1 tl th Q x s = tl s (kSl2 x th Q) := nd rfl
theorem y_kSl2 {th : DS → (Option Int → DS → Prop) → Prop} {x : DV} {lo : Option Int} : kSl2 x th Q lo s = th s (kSl3 x lo Q) := nd rfl
theorem y_kSl3 {d : PyData} {lo hi : Option Int} : kSl3 (.d d) lo Q hi s = sliceD d lo hi (kO s Q) := nd rfl
theorem y_slL {xs : List PyData} {lo hi : Option Int} {Q : KP'} : sliceD (.list xs) lo hi Q = Q (.list (cutD xs lo hi)) := nd rfl
theorem y_slT {xs : List PyData} {lo hi : Option Int} {Q : KP'} : sliceD (.tuple xs) lo hi Q = Q (.tuple (cutD xs lo hi)) := nd rfl
theorem y_slS {z : Str} {lo hi : Option Int} {Q : KP'} : sliceD (.str z) lo hi Q = (z.length ≤ sizeLine ∧ Q (.str ⟨(cutD z.cps.toList lo hi).toArray⟩)) := nd rfl
theorem y_revL {xs : List PyData} {Q : KP'} : revD (.list xs) Q = Q (.list xs.reverse) := nd rfl
theorem y_par {i j : Nat} {ta : TAD} : dPar i j ta D s = ta s (kPar i j D) := nd rfl
theorem y_kPar {i j : Nat} {x y : DV} : kPar i j D [x, y] ⟨ρ, n, c⟩ = (i < ρ.length ∧ j < (ρ.set i (some x)).length ∧ D.nx ⟨(ρ.set i (some x)).set j (some y), n, c⟩) := nd (by unfold kPar putS; simp)
theorem y_asg {t : TED} {tg : TGD} : dAsg t tg D s = t s (kAsg tg D) := nd rfl
theorem y_kAsg {tg : TGD} {x : DV} : kAsg tg D x s = tg x s D.nx := nd rfl
theorem y_gName {i : Nat} {x : DV} {Q : DS → Prop} : gdName i x ⟨ρ, n, c⟩ Q = (i < ρ.length ∧ Q ⟨ρ.set i (some x), n, c⟩) := nd rfl
theorem y_gTup {k : Nat} {t : TGsD} {xs : List PyData} {Q : DS → Prop} : gdTup k t (.d (.tuple xs)) s Q = (xs.length = k ∧ t (xs.map DV.d) s Q) := nd rfl
theorem y_gCons {t : TGD} {u : TGsD} {v : DV} {r : List DV} {Q : DS → Prop} : gdCons t u (v :: r) s Q = t v s (kG1 u r Q) := nd rfl
theorem y_kG1 {u : TGsD} {r : List DV} {Q : DS → Prop} : kG1 u r Q s = u r s Q := nd rfl
theorem y_yes {Q : KB'} : dYes s Q = Q true s := nd rfl
theorem y_methS {f : Str → PyData → KP' → Prop} {ta tb : TED} : dMethS f ta tb s Q = ta s (kM1 f tb Q) := nd rfl
theorem y_kM1 {f : Str → PyData → KP' → Prop} {tb : TED} {z : Str} : kM1 f tb Q (.d (.str z)) s = tb s (kM2 f z Q) := nd rfl
theorem y_kM2 {f : Str → PyData → KP' → Prop} {z : Str} {d : PyData} : kM2 f z Q (.d d) s = f z d (kO s Q) := nd rfl
theorem y_newTab {i : Nat} : dNewTab i D ⟨ρ, n, c⟩ = (i < ρ.length ∧ D.nx ⟨ρ.set i (some (.tab [])), n, c⟩) := nd rfl
theorem y_newOwn {i : Nat} : dNewOwn i D ⟨ρ, n, c⟩ = (i < ρ.length ∧ D.nx ⟨ρ.set i (some (.own [])), n, c⟩) := nd rfl
theorem y_putTab {i : Nat} {tk tv : TED} : dPutTab i tk tv D s = tv s (kP1 i tk D) := nd rfl
theorem y_kP1 {i : Nat} {tk : TED} {v : DV} : kP1 i tk D v s = ((∃ kvs, s.ρ[i]? = some (some (.tab kvs))) ∧ tk s (kP2 i v D)) := nd rfl
theorem y_kP2 {i : Nat} {v : PyData} {k : DV} : kP2 i (.d v) D k ⟨ρ, n, c⟩ = keyD k fun key => ∃ kvs, ρ[i]? = some (some (.tab kvs)) ∧ kvs.length < sizeLine ∧ D.nx ⟨ρ.set i (some (.tab (putT kvs key v))), n, c⟩ := nd rfl
theorem y_inTab {neg : Bool} {i : Nat} {tk : TED} : dInTab neg i tk s Q = tk s (kIn neg i Q) := nd rfl
theorem y_kIn {neg : Bool} {i : Nat} {k : DV} : kIn neg i Q k s = keyD k fun key => ∃ kvs, s.ρ[i]? = some (some (.tab kvs)) ∧ Q (.d (.bool (neg != hasT kvs key))) s := nd rfl
theorem y_append {i : Nat} {t : TED} : dAppend i t D s = ((∃ xs, s.ρ[i]? = some (some (.own xs))) ∧ t s (kAp i D)) := nd rfl
theorem y_kAp {i : Nat} {d : PyData} : kAp i D (.d d) ⟨ρ, n, c⟩ = ∃ xs, ρ[i]? = some (some (.own xs)) ∧ xs.length < sizeLine ∧ D.nx ⟨ρ.set i (some (.own (xs ++ [d]))), n, c⟩ := nd rfl
theorem y_dict {trs : List (TED × TED)} : dDict trs s Q = dPairs trs s (kDi Q) := nd rfl
theorem y_step {own : List Nat} {tg : TGD} {tt : TTD} {te : TED} {d : PyData} {Ky : PyData → DS → Prop} {Kn : DS → Prop} : stepC own tg tt te d Ky Kn s = tg (.d d) s (kSc own tt te Ky Kn) := nd rfl
theorem y_kSc {own : List Nat} {tt : TTD} {te : TED} {Ky : PyData → DS → Prop} {Kn : DS → Prop} : kSc own tt te Ky Kn s = tt s (kSc1 own te Ky Kn) := nd rfl
theorem y_kSc1 {own : List Nat} {te : TED} {Ky : PyData → DS → Prop} {Kn : DS → Prop} {b : Bool} : kSc1 own te Ky Kn b ⟨ρ, n, c⟩ = (if b = true then te ⟨ρ, n, c⟩ (kSc2 own Ky) else Kn ⟨wipeR ρ own, n, c⟩) := nd rfl
theorem y_kSc2 {own : List Nat} {Ky : PyData → DS → Prop} {y : PyData} : kSc2 own Ky (.d y) ⟨ρ, n, c⟩ = Ky y ⟨wipeR ρ own, n, c⟩ := nd rfl
theorem y_plNil : (PyData.plainAll [] = true) = True := by simp [PyData.plainAll]
theorem y_sl : sizeLine = 16777216 := rfl
theorem y_ixL0 {x : PyData} {xs : List PyData} {Q : KP'} : ixD (.list (x :: xs)) (.int 0) Q = Q x := by
  show (∃ d, atI (x :: xs) 0 = some d ∧ Q d) = _
  simp [atI, ixN]
theorem y_ixT0 {x : PyData} {xs : List PyData} {Q : KP'} : ixD (.tuple (x :: xs)) (.int 0) Q = Q x := by
  show (∃ d, atI (x :: xs) 0 = some d ∧ Q d) = _
  simp [atI, ixN]
theorem y_ixL1 {x y : PyData} {xs : List PyData} {Q : KP'} : ixD (.list (x :: y :: xs)) (.int 1) Q = Q y := by
  have e : atI (x :: y :: xs) 1 = some y := by
    simp [atI, ixN]
    rw [if_pos (by omega)]
    rfl
  show (∃ d, atI (x :: y :: xs) 1 = some d ∧ Q d) = _
  rw [e]
  simp
theorem y_ixT1 {x y : PyData} {xs : List PyData} {Q : KP'} : ixD (.tuple (x :: y :: xs)) (.int 1) Q = Q y := by
  have e : atI (x :: y :: xs) 1 = some y := by
    simp [atI, ixN]
    rw [if_pos (by omega)]
    rfl
  show (∃ d, atI (x :: y :: xs) 1 = some d ∧ Q d) = _
  rw [e]
  simp
theorem at_last {α : Type} {xs : List α} {x : α} : atI (xs ++ [x]) (-1) = some x := by
  unfold atI ixN
  simp
  rw [if_pos (by omega)]
  show (xs ++ [x])[(-1 + ((xs.length : Int) + 1)).toNat]? = some x
  rw [show (-1 + ((xs.length : Int) + 1)).toNat = xs.length by omega]
  simp
theorem y_ixLm {xs : List PyData} {x : PyData} {Q : KP'} : ixD (.list (xs ++ [x])) (.int (-1)) Q = Q x := by
  show (∃ d, atI (xs ++ [x]) (-1) = some d ∧ Q d) = _
  rw [at_last]
  simp
theorem cut_tail {α : Type} {xs : List α} : PD.cutD xs (some 1) none = xs.tail := by
  unfold PD.cutD HT.sIx
  cases xs <;> simp
theorem y_dictS {x : Str} {d : PyData} : dDict [(dLit (.str x), dLit d)] s Q = Q (.d (.dict [(.str x, d)])) s := by
  simp [dDict, dPairs, dLit, pairsD, isD, keyD, mergeT, putT, kD]
theorem y_dictI {x : Int} {d : PyData} : dDict [(dLit (.int x), dLit d)] s Q = Q (.d (.dict [(.int x, d)])) s := by
  simp [dDict, dPairs, dLit, pairsD, isD, keyD, mergeT, putT, kD]
end
end PD
set_option Elab.async false
set_option linter.all false
set_option maxRecDepth 100000
set_option maxHeartbeats 2000000
namespace Lk01
open PySem PySem.Spec PyProof.Rows L2 PD
def top (i : Nat) : Stmt := PySem.Challenge.pw_claimduel_k01_plain_values_and_settings.main.body.getD i (.Pass ⟨0, 0, 0, 0⟩)
abbrev s_law_hamper : Stmt := top 13
abbrev N_law_hamper : List Str := ["script", "cell"]
theorem sc_law_hamper : FnScope N_law_hamper ["script"] (defScope s_law_hamper) := ⟨rfl, rfl, rfl, by decide +kernel, rfl, by decide +kernel, by decide +kernel⟩
abbrev s_law_delve : Stmt := top 14
abbrev N_law_delve : List Str := ["hamper", "many", "rest", "at", "cell", "mixed"]
theorem sc_law_delve : FnScope N_law_delve ["hamper", "many"] (defScope s_law_delve) := ⟨rfl, rfl, rfl, by decide +kernel, rfl, by decide +kernel, by decide +kernel⟩
abbrev s_law_one : Stmt := top 15
abbrev N_law_one : List Str := ["hamper", "some"]
theorem sc_law_one : FnScope N_law_one ["hamper", "some"] (defScope s_law_one) := ⟨rfl, rfl, rfl, by decide +kernel, rfl, by decide +kernel, by decide +kernel⟩
abbrev s_law_value : Stmt := top 16
abbrev N_law_value : List Str := ["hamper", "number", "some"]
theorem sc_law_value : FnScope N_law_value ["hamper"] (defScope s_law_value) := ⟨rfl, rfl, rfl, by decide +kernel, rfl, by decide +kernel, by decide +kernel⟩
abbrev s_law_own_integer : Stmt := top 17
abbrev N_law_own_integer : List Str := ["value"]
theorem sc_law_own_integer : FnScope N_law_own_integer ["value"] (defScope s_law_own_integer) := ⟨rfl, rfl, rfl, by decide +kernel, rfl, by decide +kernel, by decide +kernel⟩
abbrev s_law_name : Stmt := top 18
abbrev N_law_name : List Str := ["hamper", "letters", "size", "at"]
theorem sc_law_name : FnScope N_law_name ["hamper"] (defScope s_law_name) := ⟨rfl, rfl, rfl, by decide +kernel, rfl, by decide +kernel, by decide +kernel⟩
abbrev s_is_name : Stmt := top 9
abbrev N_is_name : List Str := ["value", "sign"]
theorem sc_is_name : FnScope N_is_name ["value"] (defScope s_is_name) := ⟨rfl, rfl, rfl, by decide +kernel, rfl, by decide +kernel, by decide +kernel⟩
abbrev s_law_is_name : Stmt := top 19
abbrev N_law_is_name : List Str := ["value"]
theorem sc_law_is_name : FnScope N_law_is_name ["value"] (defScope s_law_is_name) := ⟨rfl, rfl, rfl, by decide +kernel, rfl, by decide +kernel, by decide +kernel⟩
abbrev s_law_names_right : Stmt := top 20
abbrev N_law_names_right : List Str := ["hamper", "name", "at", "odd", "value"]
theorem sc_law_names_right : FnScope N_law_names_right ["hamper"] (defScope s_law_names_right) := ⟨rfl, rfl, rfl, by decide +kernel, rfl, by decide +kernel, by decide +kernel⟩
abbrev s_is_list : Stmt := top 5
abbrev N_is_list : List Str := ["value"]
theorem sc_is_list : FnScope N_is_list ["value"] (defScope s_is_list) := ⟨rfl, rfl, rfl, by decide +kernel, rfl, by decide +kernel, by decide +kernel⟩
abbrev s_is_integer : Stmt := top 6
abbrev N_is_integer : List Str := ["value"]
theorem sc_is_integer : FnScope N_is_integer ["value"] (defScope s_is_integer) := ⟨rfl, rfl, rfl, by decide +kernel, rfl, by decide +kernel, by decide +kernel⟩
abbrev s_is_named_number : Stmt := top 10
abbrev N_is_named_number : List Str := ["value"]
theorem sc_is_named_number : FnScope N_is_named_number ["value"] (defScope s_is_named_number) := ⟨rfl, rfl, rfl, by decide +kernel, rfl, by decide +kernel, by decide +kernel⟩
abbrev s_setting_of : Stmt := top 11
abbrev N_setting_of : List Str := ["value", "pairs", "table", "pair"]
theorem sc_setting_of : FnScope N_setting_of ["value"] (defScope s_setting_of) := ⟨rfl, rfl, rfl, by decide +kernel, rfl, by decide +kernel, by decide +kernel⟩
abbrev s_law_setting_right : Stmt := top 21
abbrev N_law_setting_right : List Str := ["hamper", "names", "pairs", "name", "due", "way", "value", "pair", "kept"]
theorem sc_law_setting_right : FnScope N_law_setting_right ["hamper"] (defScope s_law_setting_right) := ⟨rfl, rfl, rfl, by decide +kernel, rfl, by decide +kernel, by decide +kernel⟩
abbrev s_is_within : Stmt := top 7
abbrev N_is_within : List Str := ["value", "least", "most"]
theorem sc_is_within : FnScope N_is_within ["value", "least", "most"] (defScope s_is_within) := ⟨rfl, rfl, rfl, by decide +kernel, rfl, by decide +kernel, by decide +kernel⟩
abbrev s_are_integers : Stmt := top 8
abbrev N_are_integers : List Str := ["value", "number"]
theorem sc_are_integers : FnScope N_are_integers ["value"] (defScope s_are_integers) := ⟨rfl, rfl, rfl, by decide +kernel, rfl, by decide +kernel, by decide +kernel⟩
abbrev s_law : Stmt := top 22
abbrev N_law : List Str := ["script", "hamper", "turn", "value", "low", "high", "number", "least", "most", "due", "row", "at", "wholly", "each"]
theorem sc_law : FnScope N_law ["script"] (defScope s_law) := ⟨rfl, rfl, rfl, by decide +kernel, rfl, by decide +kernel, by decide +kernel⟩
abbrev FnP (K : PySem.W.Frag) (x : Str) (st : Stmt) (fd : FuncData) : Prop := FunD K x x (defArgs st) (defBody st) (defScope st) [] [] (He.ga K x) fd
structure Fds (K : PySem.W.Frag) where
  fd_law_hamper : FuncData
  F_law_hamper : FnP K "_law_hamper" s_law_hamper fd_law_hamper
  fd_law_delve : FuncData
  F_law_delve : FnP K "_law_delve" s_law_delve fd_law_delve
  fd_law_one : FuncData
  F_law_one : FnP K "_law_one" s_law_one fd_law_one
  fd_law_value : FuncData
  F_law_value : FnP K "_law_value" s_law_value fd_law_value
  fd_law_own_integer : FuncData
  F_law_own_integer : FnP K "_law_own_integer" s_law_own_integer fd_law_own_integer
  fd_law_name : FuncData
  F_law_name : FnP K "_law_name" s_law_name fd_law_name
  fd_is_name : FuncData
  F_is_name : FnP K "is_name" s_is_name fd_is_name
  fd_law_is_name : FuncData
  F_law_is_name : FnP K "_law_is_name" s_law_is_name fd_law_is_name
  fd_law_names_right : FuncData
  F_law_names_right : FnP K "_law_names_right" s_law_names_right fd_law_names_right
  fd_is_list : FuncData
  F_is_list : FnP K "is_list" s_is_list fd_is_list
  fd_is_integer : FuncData
  F_is_integer : FnP K "is_integer" s_is_integer fd_is_integer
  fd_is_named_number : FuncData
  F_is_named_number : FnP K "is_named_number" s_is_named_number fd_is_named_number
  fd_setting_of : FuncData
  F_setting_of : FnP K "setting_of" s_setting_of fd_setting_of
  fd_law_setting_right : FuncData
  F_law_setting_right : FnP K "_law_setting_right" s_law_setting_right fd_law_setting_right
  fd_is_within : FuncData
  F_is_within : FnP K "is_within" s_is_within fd_is_within
  fd_are_integers : FuncData
  F_are_integers : FnP K "are_integers" s_are_integers fd_are_integers
  fd_law : FuncData
  F_law : FnP K "law" s_law fd_law
def v_WORDS : PyData := .tuple [.str "and", .str "or", .str "not", .str "all", .str "some", .str "many", .str "endless", .str "yes", .str "no"]
abbrev d_WORDS : List He.Dv := [.str "and", .str "or", .str "not", .str "all", .str "some", .str "many", .str "endless", .str "yes", .str "no"]
theorem t_WORDS {K : PySem.W.Frag} (h : He.tupB K "WORDS" d_WORDS = true) (H : Hp) : DR K H (.ref (He.ga K "WORDS")) v_WORDS := ld_tup h (fun H => .cons (.str _) (.cons (.str _) (.cons (.str _) (.cons (.str _) (.cons (.str _) (.cons (.str _) (.cons (.str _) (.cons (.str _) (.cons (.str _) (.nil)))))))))) H
structure Gm (K : PySem.W.Frag) (mg : Str → Option Value) : Prop where
  g_law_hamper : mg "_law_hamper" = some (.ref (He.ga K "_law_hamper"))
  g_law_delve : mg "_law_delve" = some (.ref (He.ga K "_law_delve"))
  g_law_one : mg "_law_one" = some (.ref (He.ga K "_law_one"))
  g_law_value : mg "_law_value" = some (.ref (He.ga K "_law_value"))
  g_law_own_integer : mg "_law_own_integer" = some (.ref (He.ga K "_law_own_integer"))
  g_law_name : mg "_law_name" = some (.ref (He.ga K "_law_name"))
  g_is_name : mg "is_name" = some (.ref (He.ga K "is_name"))
  g_law_is_name : mg "_law_is_name" = some (.ref (He.ga K "_law_is_name"))
  g_law_names_right : mg "_law_names_right" = some (.ref (He.ga K "_law_names_right"))
  g_is_list : mg "is_list" = some (.ref (He.ga K "is_list"))
  g_is_integer : mg "is_integer" = some (.ref (He.ga K "is_integer"))
  g_is_named_number : mg "is_named_number" = some (.ref (He.ga K "is_named_number"))
  g_setting_of : mg "setting_of" = some (.ref (He.ga K "setting_of"))
  g_law_setting_right : mg "_law_setting_right" = some (.ref (He.ga K "_law_setting_right"))
  g_is_within : mg "is_within" = some (.ref (He.ga K "is_within"))
  g_are_integers : mg "are_integers" = some (.ref (He.ga K "are_integers"))
  g_law : mg "law" = some (.ref (He.ga K "law"))
  n_abs : mg "abs" = none
  n_all : mg "all" = none
  n_bool : mg "bool" = none
  n_dict : mg "dict" = none
  n_int : mg "int" = none
  n_isinstance : mg "isinstance" = none
  n_len : mg "len" = none
  n_list : mg "list" = none
  n_range : mg "range" = none
  n_repr : mg "repr" = none
  n_sorted : mg "sorted" = none
  n_str : mg "str" = none
  n_tuple : mg "tuple" = none
  c_DIGITS : ∃ t, mg "DIGITS" = some (.str "0123456789" t)
  c_LETTERS : ∃ t, mg "LETTERS" = some (.str "abcdefghijklmnopqrstuvwxyz" t)
  c_LONGEST_NAME : ∃ t, mg "LONGEST_NAME" = some (.int 8 t)
  g_WORDS : mg "WORDS" = some (.ref (He.ga K "WORDS"))
  c_WORDS : ∀ H, DR K H (.ref (He.ga K "WORDS")) v_WORDS
theorem kb_is_name_0 {K : PySem.W.Frag} (A : Fds K) : KBn K A.fd_is_name ["value"] 0 ["value"] (fun us ws => permL [0] (us ++ ws)) fun vs zs => permL [0] (vs ++ zs) := kbN A.F_is_name fun _ _ _ _ _ _ us ws h1 h2 => match us, ws, h1, h2 with | [], [_], _, _ => rfl
theorem kb_setting_of_1 {K : PySem.W.Frag} (A : Fds K) : KBn K A.fd_setting_of ["value"] 0 ["value"] (fun us ws => permL [0] (us ++ ws)) fun vs zs => permL [0] (vs ++ zs) := kbN A.F_setting_of fun _ _ _ _ _ _ us ws h1 h2 => match us, ws, h1, h2 with | [], [_], _, _ => rfl
theorem kb_is_integer_2 {K : PySem.W.Frag} (A : Fds K) : KBn K A.fd_is_integer ["value"] 0 ["value"] (fun us ws => permL [0] (us ++ ws)) fun vs zs => permL [0] (vs ++ zs) := kbN A.F_is_integer fun _ _ _ _ _ _ us ws h1 h2 => match us, ws, h1, h2 with | [], [_], _, _ => rfl
theorem kb_is_within_3 {K : PySem.W.Frag} (A : Fds K) : KBn K A.fd_is_within ["value", "least", "most"] 0 ["most", "least", "value"] (fun us ws => permL [2, 1, 0] (us ++ ws)) fun vs zs => permL [2, 1, 0] (vs ++ zs) := kbN A.F_is_within fun _ _ _ _ _ _ us ws h1 h2 => match us, ws, h1, h2 with | [], [_, _, _], _, _ => rfl
theorem kb_are_integers_4 {K : PySem.W.Frag} (A : Fds K) : KBn K A.fd_are_integers ["value"] 0 ["value"] (fun us ws => permL [0] (us ++ ws)) fun vs zs => permL [0] (vs ++ zs) := kbN A.F_are_integers fun _ _ _ _ _ _ us ws h1 h2 => match us, ws, h1, h2 with | [], [_], _, _ => rfl
theorem bN_law_hamper {K : PySem.W.Frag} (A : Fds K) : Binds K A.fd_law_hamper ["script"] [] := A.F_law_hamper.bindsN fun _ _ _ _ _ _ us hl => match us, hl with | [_], _ => rfl
theorem bN_law_delve {K : PySem.W.Frag} (A : Fds K) : Binds K A.fd_law_delve ["hamper", "many"] [] := A.F_law_delve.bindsN fun _ _ _ _ _ _ us hl => match us, hl with | [_, _], _ => rfl
theorem bN_law_one {K : PySem.W.Frag} (A : Fds K) : Binds K A.fd_law_one ["hamper", "some"] [] := A.F_law_one.bindsN fun _ _ _ _ _ _ us hl => match us, hl with | [_, _], _ => rfl
theorem bN_law_value {K : PySem.W.Frag} (A : Fds K) : Binds K A.fd_law_value ["hamper"] [] := A.F_law_value.bindsN fun _ _ _ _ _ _ us hl => match us, hl with | [_], _ => rfl
theorem bN_law_own_integer {K : PySem.W.Frag} (A : Fds K) : Binds K A.fd_law_own_integer ["value"] [] := A.F_law_own_integer.bindsN fun _ _ _ _ _ _ us hl => match us, hl with | [_], _ => rfl
theorem bN_law_name {K : PySem.W.Frag} (A : Fds K) : Binds K A.fd_law_name ["hamper"] [] := A.F_law_name.bindsN fun _ _ _ _ _ _ us hl => match us, hl with | [_], _ => rfl
theorem bN_is_name {K : PySem.W.Frag} (A : Fds K) : Binds K A.fd_is_name ["value"] [] := A.F_is_name.bindsN fun _ _ _ _ _ _ us hl => match us, hl with | [_], _ => rfl
theorem bN_law_is_name {K : PySem.W.Frag} (A : Fds K) : Binds K A.fd_law_is_name ["value"] [] := A.F_law_is_name.bindsN fun _ _ _ _ _ _ us hl => match us, hl with | [_], _ => rfl
theorem bN_law_names_right {K : PySem.W.Frag} (A : Fds K) : Binds K A.fd_law_names_right ["hamper"] [] := A.F_law_names_right.bindsN fun _ _ _ _ _ _ us hl => match us, hl with | [_], _ => rfl
theorem bN_is_list {K : PySem.W.Frag} (A : Fds K) : Binds K A.fd_is_list ["value"] [] := A.F_is_list.bindsN fun _ _ _ _ _ _ us hl => match us, hl with | [_], _ => rfl
theorem bN_is_integer {K : PySem.W.Frag} (A : Fds K) : Binds K A.fd_is_integer ["value"] [] := A.F_is_integer.bindsN fun _ _ _ _ _ _ us hl => match us, hl with | [_], _ => rfl
theorem bN_is_named_number {K : PySem.W.Frag} (A : Fds K) : Binds K A.fd_is_named_number ["value"] [] := A.F_is_named_number.bindsN fun _ _ _ _ _ _ us hl => match us, hl with | [_], _ => rfl
theorem bN_setting_of {K : PySem.W.Frag} (A : Fds K) : Binds K A.fd_setting_of ["value"] [] := A.F_setting_of.bindsN fun _ _ _ _ _ _ us hl => match us, hl with | [_], _ => rfl
theorem bN_law_setting_right {K : PySem.W.Frag} (A : Fds K) : Binds K A.fd_law_setting_right ["hamper"] [] := A.F_law_setting_right.bindsN fun _ _ _ _ _ _ us hl => match us, hl with | [_], _ => rfl
theorem bN_is_within {K : PySem.W.Frag} (A : Fds K) : Binds K A.fd_is_within ["value", "least", "most"] [] := A.F_is_within.bindsN fun _ _ _ _ _ _ us hl => match us, hl with | [_, _, _], _ => rfl
theorem bN_are_integers {K : PySem.W.Frag} (A : Fds K) : Binds K A.fd_are_integers ["value"] [] := A.F_are_integers.bindsN fun _ _ _ _ _ _ us hl => match us, hl with | [_], _ => rfl
/-! ### the head -/
def dd_law_hamper : He.DefD := ⟨("_law_hamper", none), "_law_hamper", "_law_hamper", defArgs s_law_hamper, defBody s_law_hamper, defScope s_law_hamper, [], []⟩
def dd_law_delve : He.DefD := ⟨("_law_delve", none), "_law_delve", "_law_delve", defArgs s_law_delve, defBody s_law_delve, defScope s_law_delve, [], []⟩
def dd_law_one : He.DefD := ⟨("_law_one", none), "_law_one", "_law_one", defArgs s_law_one, defBody s_law_one, defScope s_law_one, [], []⟩
def dd_law_value : He.DefD := ⟨("_law_value", none), "_law_value", "_law_value", defArgs s_law_value, defBody s_law_value, defScope s_law_value, [], []⟩
def dd_law_own_integer : He.DefD := ⟨("_law_own_integer", none), "_law_own_integer", "_law_own_integer", defArgs s_law_own_integer, defBody s_law_own_integer, defScope s_law_own_integer, [], []⟩
def dd_law_name : He.DefD := ⟨("_law_name", none), "_law_name", "_law_name", defArgs s_law_name, defBody s_law_name, defScope s_law_name, [], []⟩
def dd_is_name : He.DefD := ⟨("is_name", none), "is_name", "is_name", defArgs s_is_name, defBody s_is_name, defScope s_is_name, [], []⟩
def dd_law_is_name : He.DefD := ⟨("_law_is_name", none), "_law_is_name", "_law_is_name", defArgs s_law_is_name, defBody s_law_is_name, defScope s_law_is_name, [], []⟩
def dd_law_names_right : He.DefD := ⟨("_law_names_right", none), "_law_names_right", "_law_names_right", defArgs s_law_names_right, defBody s_law_names_right, defScope s_law_names_right, [], []⟩
def dd_is_list : He.DefD := ⟨("is_list", none), "is_list", "is_list", defArgs s_is_list, defBody s_is_list, defScope s_is_list, [], []⟩
def dd_is_integer : He.DefD := ⟨("is_integer", none), "is_integer", "is_integer", defArgs s_is_integer, defBody s_is_integer, defScope s_is_integer, [], []⟩
def dd_is_named_number : He.DefD := ⟨("is_named_number", none), "is_named_number", "is_named_number", defArgs s_is_named_number, defBody s_is_named_number, defScope s_is_named_number, [], []⟩
def dd_setting_of : He.DefD := ⟨("setting_of", none), "setting_of", "setting_of", defArgs s_setting_of, defBody s_setting_of, defScope s_setting_of, [], []⟩
def dd_law_setting_right : He.DefD := ⟨("_law_setting_right", none), "_law_setting_right", "_law_setting_right", defArgs s_law_setting_right, defBody s_law_setting_right, defScope s_law_setting_right, [], []⟩
def dd_is_within : He.DefD := ⟨("is_within", none), "is_within", "is_within", defArgs s_is_within, defBody s_is_within, defScope s_is_within, [], []⟩
def dd_are_integers : He.DefD := ⟨("are_integers", none), "are_integers", "are_integers", defArgs s_are_integers, defBody s_are_integers, defScope s_are_integers, [], []⟩
def dd_law : He.DefD := ⟨("law", none), "law", "law", defArgs s_law, defBody s_law, defScope s_law, [], []⟩
def fnL : List He.DefD := [dd_law_hamper, dd_law_delve, dd_law_one, dd_law_value, dd_law_own_integer, dd_law_name, dd_is_name, dd_law_is_name, dd_law_names_right, dd_is_list, dd_is_integer, dd_is_named_number, dd_setting_of, dd_law_setting_right, dd_is_within, dd_are_integers, dd_law]
def faL : List He.Fa := [.glo "_law_hamper", .glo "_law_delve", .glo "_law_one", .glo "_law_value", .glo "_law_own_integer", .glo "_law_name", .glo "is_name", .glo "_law_is_name", .glo "_law_names_right", .glo "is_list", .glo "is_integer", .glo "is_named_number", .glo "setting_of", .glo "_law_setting_right", .glo "is_within", .glo "are_integers", .glo "law", .free "abs", .free "all", .free "bool", .free "dict", .free "int", .free "isinstance", .free "len", .free "list", .free "range", .free "repr", .free "sorted", .free "str", .free "tuple", .str "DIGITS" "0123456789", .str "LETTERS" "abcdefghijklmnopqrstuvwxyz", .int "LONGEST_NAME" 8, .glo "WORDS"]
def exL (K : PySem.W.Frag) : Bool := He.tupB K "WORDS" d_WORDS
abbrev RL : PySem.W.OpenRow := PySem.W.OpenLaw.row PySem.Challenge.rw_claimduel_k01_plain_values_and_settings
abbrev hkL : PySem.W.Hook := hookM 4 faL fnL exL
def obL (s : PySem.W.SharedT) : He.AlD × Bool := obsMG 4 faL fnL exL (HandSHeadRun.getT s)
theorem obL_eq (s : PySem.W.SharedT) : obL s = hkL.obs s.abs := obsMG_eq (HandSHeadRun.getT_eq s)
abbrev looseL : List Str := ["__name__", "LETTERS", "DIGITS", "WORDS", "LONGEST_NAME", "is_list", "is_integer", "is_within", "are_integers", "is_name", "is_named_number", "setting_of", "_law_hamper", "_law_delve", "_law_one", "_law_value", "_law_own_integer", "_law_name", "_law_is_name", "_law_names_right", "_law_setting_right"]
theorem runL (w : World) : HandSHeadRun.RunEq RL (PySem.W.view RL.prog [22]) hkL obL 600 looseL w := by
  intro os
  kernel_rfl
theorem tupOk {K : PySem.W.Frag} (x : exL K = true) (i : Nat) {b : Bool} (h : [He.tupB K "WORDS" d_WORDS][i]? = some b) : b = true := by
  simp only [exL, Bool.and_eq_true] at x
  match i, h with
  | 0, h => cases h; exact x
theorem gmL {K : PySem.W.Frag} {h : Heap} {mg : Str → Option Value} (X : K.In h) (G : h.Ns mainGlobals mg) (c : He.SaysD faL fnL K) (x : exL K = true) : Gm K mg := ⟨He.glo_ok X G (c.fact 0 (f := .glo "_law_hamper") rfl),
  He.glo_ok X G (c.fact 1 (f := .glo "_law_delve") rfl),
  He.glo_ok X G (c.fact 2 (f := .glo "_law_one") rfl),
  He.glo_ok X G (c.fact 3 (f := .glo "_law_value") rfl),
  He.glo_ok X G (c.fact 4 (f := .glo "_law_own_integer") rfl),
  He.glo_ok X G (c.fact 5 (f := .glo "_law_name") rfl),
  He.glo_ok X G (c.fact 6 (f := .glo "is_name") rfl),
  He.glo_ok X G (c.fact 7 (f := .glo "_law_is_name") rfl),
  He.glo_ok X G (c.fact 8 (f := .glo "_law_names_right") rfl),
  He.glo_ok X G (c.fact 9 (f := .glo "is_list") rfl),
  He.glo_ok X G (c.fact 10 (f := .glo "is_integer") rfl),
  He.glo_ok X G (c.fact 11 (f := .glo "is_named_number") rfl),
  He.glo_ok X G (c.fact 12 (f := .glo "setting_of") rfl),
  He.glo_ok X G (c.fact 13 (f := .glo "_law_setting_right") rfl),
  He.glo_ok X G (c.fact 14 (f := .glo "is_within") rfl),
  He.glo_ok X G (c.fact 15 (f := .glo "are_integers") rfl),
  He.glo_ok X G (c.fact 16 (f := .glo "law") rfl),
  He.free_ok X G (c.fact 17 (f := .free "abs") rfl),
  He.free_ok X G (c.fact 18 (f := .free "all") rfl),
  He.free_ok X G (c.fact 19 (f := .free "bool") rfl),
  He.free_ok X G (c.fact 20 (f := .free "dict") rfl),
  He.free_ok X G (c.fact 21 (f := .free "int") rfl),
  He.free_ok X G (c.fact 22 (f := .free "isinstance") rfl),
  He.free_ok X G (c.fact 23 (f := .free "len") rfl),
  He.free_ok X G (c.fact 24 (f := .free "list") rfl),
  He.free_ok X G (c.fact 25 (f := .free "range") rfl),
  He.free_ok X G (c.fact 26 (f := .free "repr") rfl),
  He.free_ok X G (c.fact 27 (f := .free "sorted") rfl),
  He.free_ok X G (c.fact 28 (f := .free "str") rfl),
  He.free_ok X G (c.fact 29 (f := .free "tuple") rfl),
  He.str_ok X G (c.fact 30 (f := .str "DIGITS" "0123456789") rfl),
  He.str_ok X G (c.fact 31 (f := .str "LETTERS" "abcdefghijklmnopqrstuvwxyz") rfl),
  He.int_ok X G (c.fact 32 (f := .int "LONGEST_NAME" 8) rfl),
  He.glo_ok X G (c.fact 33 (f := .glo "WORDS") rfl),
  t_WORDS (tupOk x 0 rfl)⟩
theorem fdsL {K : PySem.W.Frag} (c : He.SaysD faL fnL K) : Nonempty (Fds K) := by
  obtain ⟨f0, F0⟩ := c.def_ 0 (d := dd_law_hamper) rfl
  obtain ⟨f1, F1⟩ := c.def_ 1 (d := dd_law_delve) rfl
  obtain ⟨f2, F2⟩ := c.def_ 2 (d := dd_law_one) rfl
  obtain ⟨f3, F3⟩ := c.def_ 3 (d := dd_law_value) rfl
  obtain ⟨f4, F4⟩ := c.def_ 4 (d := dd_law_own_integer) rfl
  obtain ⟨f5, F5⟩ := c.def_ 5 (d := dd_law_name) rfl
  obtain ⟨f6, F6⟩ := c.def_ 6 (d := dd_is_name) rfl
  obtain ⟨f7, F7⟩ := c.def_ 7 (d := dd_law_is_name) rfl
  obtain ⟨f8, F8⟩ := c.def_ 8 (d := dd_law_names_right) rfl
  obtain ⟨f9, F9⟩ := c.def_ 9 (d := dd_is_list) rfl
  obtain ⟨f10, F10⟩ := c.def_ 10 (d := dd_is_integer) rfl
  obtain ⟨f11, F11⟩ := c.def_ 11 (d := dd_is_named_number) rfl
  obtain ⟨f12, F12⟩ := c.def_ 12 (d := dd_setting_of) rfl
  obtain ⟨f13, F13⟩ := c.def_ 13 (d := dd_law_setting_right) rfl
  obtain ⟨f14, F14⟩ := c.def_ 14 (d := dd_is_within) rfl
  obtain ⟨f15, F15⟩ := c.def_ 15 (d := dd_are_integers) rfl
  obtain ⟨f16, F16⟩ := c.def_ 16 (d := dd_law) rfl
  exact ⟨⟨f0, F0, f1, F1, f2, F2, f3, F3, f4, F4, f5, F5, f6, F6, f7, F7, f8, F8, f9, F9, f10, F10, f11, F11, f12, F12, f13, F13, f14, F14, f15, F15, f16, F16⟩⟩
variable {P : Program} {w : World} {K : PySem.W.Frag} {mg : Str → Option Value} {base : Heap}
/-! ### law_hamper -/
abbrev lv_law_hamper : Nat := 1
def T_law_hamper : TSD := (dRet (dLst (dCons (dComp [1] (dSeqI (dScrCut 0 (dPart (dLit (.int 60))))) (gdName 1) dYes (dCall intOfD (dCons (dVar 1) dNil))) (dCons (dLit (.int 0)) (dCons (dLit (.int 0)) dNil)))))
section
def sp_law_hamper : DSp := fun ds n Q => ∃ ns : List Int, ds = [.scr ns] ∧ ∀ cl : List Int, cl.length ≤ 63 → Q (.d (sat0 cl)) n
theorem len_law_hamper (ds : List DV) (n : Nat) (Q : DV → Nat → Prop) (h : sp_law_hamper ds n Q) : ds.length = 1 := by obtain ⟨ns, rfl, _⟩ := h; rfl
theorem m_law_hamper (ds : List DV) (n : Nat) (Q : DV → Nat → Prop) (h : sp_law_hamper ds n Q) : ds.length = 1 ∧ bodyD 2 T_law_hamper ds n Q := by
  obtain ⟨ns, rfl, h⟩ := h
  refine ⟨rfl, ?_⟩
  unfold bodyD T_law_hamper
  simp [x_var]
  have hl : (PD.cutD ns none (some 60)).length ≤ 60 := by
    unfold PD.cutD HT.sIx
    simp
    omega
  refine comp_map (f := id) _ _ (by simp; rw [show sizeLine = 16777216 from rfl]; omega) (fun d hd Ky Kn k => ?_) ?_
  · simp only [List.mem_map] at hd
    obtain ⟨i, hi, rfl⟩ := hd
    unfold stepC
    simpa [x_var] using k
  · simp
    exact ⟨by decide, h _ (by omega)⟩

end
theorem w_law_hamper (A : Fds K) (B : Gm K mg) : DSs ⟨P, w, K, mg, base, N_law_hamper, defScope s_law_hamper, 0, true⟩ (defBody s_law_hamper) T_law_hamper := (dss_one (ds_ret (de_lst (da_cons (de_comp [("cell", 1)] sc_law_hamper.nd (di_seq (de_scrCut (i := 0) rfl (do_some de_int))) (by show blkC N_law_hamper (defScope s_law_hamper) _ _ = true; decide +kernel) (dg_name (i := 1) sc_law_hamper.nd rfl (Or.inl rfl)) dts_nil (de_callTy (fun _ h => o_int h) lo_int B.n_int (by decide +kernel) (da_cons (de_var 1) da_nil))) (da_cons de_int (da_cons de_int da_nil))))))
theorem ok_law_hamper (A : Fds K) (B : Gm K mg) : FnG P w K mg base lv_law_hamper (He.ga K "_law_hamper") A.fd_law_hamper ["script"] (Lift K 1 sp_law_hamper) := lift_mono (fn_body A.F_law_hamper sc_law_hamper (w_law_hamper A B)) m_law_hamper
/-! ### law_delve -/
abbrev lv_law_delve : Nat := 1
def T_law_delve : TSD := (dSeq (dIf (dVal (dBin eqD (dSat0 0) (dLst dNil))) (dRet (dLit (.int 0))) dNext)
    (dSeq (dIf (dVal (dBin gtD (dSat2 0) (dLit (.int 0)))) (dSeq (dSet 2 (dCall intOfD (dCons (dSat2 0) dNil)))
    (dSeq (dPut2 0 (dBin divD (dVar 2) (dVar 1)))
    (dRet (dBin modD (dCall intOfD (dCons (dVar 2) dNil)) (dVar 1))))) dNext)
    (dSeq (dSet 3 (dSat1 0))
    (dSeq (dPut1 0 (dBin addD (dVar 3) (dLit (.int 1))))
    (dSeq (dSet 4 (dBin ixD (dSat0 0) (dBin modD (dCall intOfD (dCons (dVar 3) dNil)) (dCall lenD (dCons (dSat0 0) dNil)))))
    (dSeq (dIf (dAnd (dVal (dBin ltD (dVar 3) (dCall lenD (dCons (dSat0 0) dNil)))) (dVal (dBin geqD (dCall absD (dCons (dVar 4) dNil)) (dBin powD (dLit (.int 10)) (dLit (.int 18)))))) (dSeq (dSet 2 (dBin addD (dBin mulD (dLit (.int 2)) (dBin subD (dCall absD (dCons (dVar 4) dNil)) (dBin powD (dLit (.int 10)) (dLit (.int 18))))) (dCall intOfD (dCons (dBin ltD (dVar 4) (dLit (.int 0))) dNil))))
    (dSeq (dPut2 0 (dBin divD (dCall intOfD (dCons (dVar 2) dNil)) (dVar 1)))
    (dRet (dBin modD (dCall intOfD (dCons (dVar 2) dNil)) (dVar 1))))) dNext)
    (dSeq (dSet 5 (dBin modD (dCall intOfD (dCons (dBin powD (dBin addD (dBin addD (dBin modD (dCall intOfD (dCons (dVar 4) dNil)) (dLit (.int 2147483587))) (dBin mulD (dLit (.int 40193)) (dVar 3))) (dLit (.int 5417))) (dLit (.int 5))) dNil)) (dLit (.int 2147483629))))
    (dSeq (dSet 5 (dBin modD (dCall intOfD (dCons (dBin powD (dBin addD (dBin addD (dBin mulD (dVar 5) (dBin addD (dBin mulD (dLit (.int 2)) (dVar 3)) (dLit (.int 3251)))) (dBin mulD (dBin mulD (dLit (.int 91099)) (dVar 3)) (dVar 3))) (dLit (.int 40193))) (dLit (.int 3))) dNil)) (dLit (.int 2147483497))))
    (dRet (dBin modD (dCall intOfD (dCons (dBin divD (dVar 5) (dLit (.int 64))) dNil)) (dVar 1)))))))))))
section
def sp_law_delve : DSp := fun ds n Q => ∃ many : Int, ds = [.sat, .d (.int many)] ∧ 0 < many ∧ many.natAbs.log2 < 9000 ∧ n < 1000000 ∧ ∀ (r : Int) (n' : Nat), 0 ≤ r → r < many → n' ≤ n + 1 → Q (.d (.int r)) n'
theorem len_law_delve (ds : List DV) (n : Nat) (Q : DV → Nat → Prop) (h : sp_law_delve ds n Q) : ds.length = 2 := by obtain ⟨ns, rfl, _⟩ := h; rfl
theorem m_law_delve (ds : List DV) (n : Nat) (Q : DV → Nat → Prop) (h : sp_law_delve ds n Q) : ds.length = 2 ∧ bodyD 6 T_law_delve ds n Q := by
  obtain ⟨many, rfl, h0, h1, h2, h3⟩ := h
  refine ⟨rfl, ?_⟩
  unfold bodyD T_law_delve
  simp [x_var, -Nat.not_le, -Int.not_le, -Nat.not_lt, -Int.not_lt]
  intro cl hcl
  by_cases hn : cl = []
  · subst hn
    simp
    exact h3 0 n (by omega) h0 (by omega)
  have hl : 0 < (cl.length : Int) := by
    cases cl with
    | nil => exact absurd rfl hn
    | cons => simp
  simp only [hn, if_false]
  intro r0 hr0
  split
  · intro r hr
    exact ⟨divW h0 h1, Int.ediv_nonneg hr (by omega), h0, h3 _ n (mod_in r h0).1 (mod_in r h0).2 (by omega)⟩
  intro a ha0 ha1
  refine ⟨by omega, ha1, by omega, ?_⟩
  obtain ⟨c, hc, e⟩ := at_map (f := PyData.int) (cl := cl) (mod_in a hl).1 (mod_in a hl).2
  refine ⟨_, e, ?_⟩
  simp
  have hm : ∀ x m : Int, 0 < m → 0 ≤ x % m ∧ x % m < m := fun x m h => mod_in x h
  obtain ⟨ab, hab, hab0⟩ : ∃ ab : Int, (if c < 0 then -c else c) = ab ∧ 0 ≤ ab := ⟨_, rfl, abs_ge c⟩
  obtain ⟨sg, hsg, hsg0⟩ : ∃ sg : Int, (if c < 0 then (1 : Int) else 0) = sg ∧ 0 ≤ sg := ⟨_, rfl, by split <;> omega⟩
  simp only [hab, hsg]
  split
  · refine ⟨⟨by decide, by decide, by decide⟩, ?_⟩
    split
    · refine ⟨mulOkL (by decide) (by decide), mixOk (by decide) (by decide) ha0 (by omega) (by decide) (by decide) (by decide) (by decide) 5 (.inl rfl), mulOkL (by decide) (by decide), mulMod (by decide) (by decide), mulOkL (by decide) (by decide), mulOkR (by omega) (by omega),
        mixOk2 (hm _ _ (by decide)).1 (Int.lt_trans (hm _ _ (by decide)).2 (by decide)) ha0 (by omega) (by decide) (by decide) (by decide) (by decide) (by decide) (by decide) 3 (.inr rfl), ⟨by decide, by decide⟩, h0, h3 _ _ (hm _ _ h0).1 (hm _ _ h0).2 (by omega)⟩
    · refine ⟨⟨by decide, by decide, by decide⟩, mulOkL (by decide) (by decide), divW h0 h1, Int.ediv_nonneg (by omega) (by omega), h0, h3 _ _ (hm _ _ h0).1 (hm _ _ h0).2 (by omega)⟩
  · refine ⟨mulOkL (by decide) (by decide), mixOk (by decide) (by decide) ha0 (by omega) (by decide) (by decide) (by decide) (by decide) 5 (.inl rfl), mulOkL (by decide) (by decide), mulMod (by decide) (by decide), mulOkL (by decide) (by decide), mulOkR (by omega) (by omega),
      mixOk2 (hm _ _ (by decide)).1 (Int.lt_trans (hm _ _ (by decide)).2 (by decide)) ha0 (by omega) (by decide) (by decide) (by decide) (by decide) (by decide) (by decide) 3 (.inr rfl), ⟨by decide, by decide⟩, h0, h3 _ _ (hm _ _ h0).1 (hm _ _ h0).2 (by omega)⟩

end
theorem w_law_delve (A : Fds K) (B : Gm K mg) : DSs ⟨P, w, K, mg, base, N_law_delve, defScope s_law_delve, 0, true⟩ (defBody s_law_delve) T_law_delve := (dss_cons (ds_if (dt_cmp (fun _ h => o_eq h) lo_cmp (de_sat0 (i := 0) rfl) (de_lst da_nil)) (dss_one (ds_ret de_int)) dss_nil)
    (dss_cons (ds_if (dt_cmp (fun _ h => o_gt h) lo_cmp (de_sat2 (i := 0) rfl) de_int) (dss_cons (ds_set (i := 2) sc_law_delve.nd rfl (Or.inl rfl) (de_callTy (fun _ h => o_int h) lo_int B.n_int (by decide +kernel) (da_cons (de_sat2 (i := 0) rfl) da_nil)))
    (dss_cons (ds_put2 (i := 0) rfl (de_bin (fun _ h => o_div h) lo_div (de_var 2) (de_var 1)))
    (dss_one (ds_ret (de_bin (fun _ h => o_mod h) lo_mod (de_callTy (fun _ h => o_int h) lo_int B.n_int (by decide +kernel) (da_cons (de_var 2) da_nil)) (de_var 1)))))) dss_nil)
    (dss_cons (ds_set (i := 3) sc_law_delve.nd rfl (Or.inl rfl) (de_sat1 (i := 0) rfl))
    (dss_cons (ds_put1 (i := 0) rfl (de_bin (fun _ h => o_add h) lo_add (de_var 3) de_int))
    (dss_cons (ds_set (i := 4) sc_law_delve.nd rfl (Or.inl rfl) (de_ix (de_sat0 (i := 0) rfl) (de_bin (fun _ h => o_mod h) lo_mod (de_callTy (fun _ h => o_int h) lo_int B.n_int (by decide +kernel) (da_cons (de_var 3) da_nil)) (de_callB (fun _ h => o_len h) lo_len B.n_len (by decide +kernel) (da_cons (de_sat0 (i := 0) rfl) da_nil)))))
    (dss_cons (ds_if (dw_and (dt_cmp (fun _ h => o_lt h) lo_cmp (de_var 3) (de_callB (fun _ h => o_len h) lo_len B.n_len (by decide +kernel) (da_cons (de_sat0 (i := 0) rfl) da_nil))) (dw_and1 (dt_cmp (fun _ h => o_ge h) lo_cmp (de_callB (fun _ h => o_abs h) lo_abs B.n_abs (by decide +kernel) (da_cons (de_var 4) da_nil)) (de_bin (fun _ h => o_pow h) lo_pow de_int de_int)))).dt (dss_cons (ds_set (i := 2) sc_law_delve.nd rfl (Or.inl rfl) (de_bin (fun _ h => o_add h) lo_add (de_bin (fun _ h => o_mul h) lo_mul de_int (de_bin (fun _ h => o_sub h) lo_sub (de_callB (fun _ h => o_abs h) lo_abs B.n_abs (by decide +kernel) (da_cons (de_var 4) da_nil)) (de_bin (fun _ h => o_pow h) lo_pow de_int de_int))) (de_callTy (fun _ h => o_int h) lo_int B.n_int (by decide +kernel) (da_cons (de_cmp (fun _ h => o_lt h) lo_cmp (de_var 4) de_int) da_nil))))
    (dss_cons (ds_put2 (i := 0) rfl (de_bin (fun _ h => o_div h) lo_div (de_callTy (fun _ h => o_int h) lo_int B.n_int (by decide +kernel) (da_cons (de_var 2) da_nil)) (de_var 1)))
    (dss_one (ds_ret (de_bin (fun _ h => o_mod h) lo_mod (de_callTy (fun _ h => o_int h) lo_int B.n_int (by decide +kernel) (da_cons (de_var 2) da_nil)) (de_var 1)))))) dss_nil)
    (dss_cons (ds_set (i := 5) sc_law_delve.nd rfl (Or.inl rfl) (de_bin (fun _ h => o_mod h) lo_mod (de_callTy (fun _ h => o_int h) lo_int B.n_int (by decide +kernel) (da_cons (de_bin (fun _ h => o_pow h) lo_pow (de_bin (fun _ h => o_add h) lo_add (de_bin (fun _ h => o_add h) lo_add (de_bin (fun _ h => o_mod h) lo_mod (de_callTy (fun _ h => o_int h) lo_int B.n_int (by decide +kernel) (da_cons (de_var 4) da_nil)) de_int) (de_bin (fun _ h => o_mul h) lo_mul de_int (de_var 3))) de_int) de_int) da_nil)) de_int))
    (dss_cons (ds_set (i := 5) sc_law_delve.nd rfl (Or.inl rfl) (de_bin (fun _ h => o_mod h) lo_mod (de_callTy (fun _ h => o_int h) lo_int B.n_int (by decide +kernel) (da_cons (de_bin (fun _ h => o_pow h) lo_pow (de_bin (fun _ h => o_add h) lo_add (de_bin (fun _ h => o_add h) lo_add (de_bin (fun _ h => o_mul h) lo_mul (de_var 5) (de_bin (fun _ h => o_add h) lo_add (de_bin (fun _ h => o_mul h) lo_mul de_int (de_var 3)) de_int)) (de_bin (fun _ h => o_mul h) lo_mul (de_bin (fun _ h => o_mul h) lo_mul de_int (de_var 3)) (de_var 3))) de_int) de_int) da_nil)) de_int))
    (dss_one (ds_ret (de_bin (fun _ h => o_mod h) lo_mod (de_callTy (fun _ h => o_int h) lo_int B.n_int (by decide +kernel) (da_cons (de_bin (fun _ h => o_div h) lo_div (de_var 5) de_int) da_nil)) (de_var 1))))))))))))
theorem ok_law_delve (A : Fds K) (B : Gm K mg) : FnG P w K mg base lv_law_delve (He.ga K "_law_delve") A.fd_law_delve ["hamper", "many"] (Lift K 2 sp_law_delve) := lift_mono (fn_body A.F_law_delve sc_law_delve (w_law_delve A B)) m_law_delve
/-! ### law_one -/
abbrev lv_law_one : Nat := 2
def T_law_one : TSD := (dRet (dBin ixD (dVar 1) (dFn sp_law_delve (dCons (dVar 0) (dCons (dCall lenD (dCons (dVar 1) dNil)) dNil)))))
section
def sp_law_one : DSp := fun ds n Q => ∃ xs : List PyData, ds = [.sat, .d (.list xs)] ∧ xs ≠ [] ∧ xs.length ≤ 1000 ∧ n < 1000000 ∧ ∀ x ∈ xs, ∀ n', n' ≤ n + 1 → Q (.d x) n'
theorem len_law_one (ds : List DV) (n : Nat) (Q : DV → Nat → Prop) (h : sp_law_one ds n Q) : ds.length = 2 := by obtain ⟨ns, rfl, _⟩ := h; rfl
theorem m_law_one (ds : List DV) (n : Nat) (Q : DV → Nat → Prop) (h : sp_law_one ds n Q) : ds.length = 2 ∧ bodyD 2 T_law_one ds n Q := by
  obtain ⟨xs, rfl, h0, h1, h2, h3⟩ := h
  refine ⟨rfl, ?_⟩
  unfold bodyD T_law_one
  simp [x_var]
  have hl : 0 < xs.length := List.length_pos_iff.mpr h0
  refine ⟨xs.length, rfl, by omega, lgN (by omega), h2, fun r n' r0 r1 hn => ?_⟩
  obtain ⟨x, hx, e⟩ := at_mem r0 r1
  simp
  exact ⟨x, e, h3 x hx n' hn⟩

end
theorem w_law_one (A : Fds K) (B : Gm K mg) : DSs ⟨P, w, K, mg, base, N_law_one, defScope s_law_one, 1, true⟩ (defBody s_law_one) T_law_one := (dss_one (ds_ret (de_ix (de_var 1) (de_fn (k := lv_law_delve) ⟨ok_law_delve A B, len_law_delve⟩ (show lv_law_delve ≤ 1 by decide) B.g_law_delve A.F_law_delve.kp (bN_law_delve A) (da_cons (de_var 0) (da_cons (de_callB (fun _ h => o_len h) lo_len B.n_len (by decide +kernel) (da_cons (de_var 1) da_nil)) da_nil))))))
theorem ok_law_one (A : Fds K) (B : Gm K mg) : FnG P w K mg base lv_law_one (He.ga K "_law_one") A.fd_law_one ["hamper", "some"] (Lift K 2 sp_law_one) := lift_mono (fn_body A.F_law_one sc_law_one (w_law_one A B)) m_law_one
/-! ### law_value -/
abbrev lv_law_value : Nat := 3
def T_law_value : TSD := (dSeq (dSet 1 (dFn sp_law_one (dCons (dVar 0) (dCons (dLst (dCons (dBin subD (dFn sp_law_delve (dCons (dVar 0) (dCons (dLit (.int 9)) dNil))) (dLit (.int 4))) (dCons (dBin addD (dBin powD (dLit (.int 10)) (dLit (.int 20))) (dFn sp_law_delve (dCons (dVar 0) (dCons (dLit (.int 9)) dNil)))) (dCons (dUn negD (dFn sp_law_delve (dCons (dVar 0) (dCons (dLit (.int 1000)) dNil)))) dNil)))) dNil))))
    (dSeq (dSet 2 (dLst (dCons (dVar 1) (dCons (dCall strOfD (dCons (dVar 1) dNil)) (dCons (dLit .none) (dCons (dLit (.bool true)) (dCons (dLit (.bool false)) (dCons (dLst (dCons (dVar 1) dNil)) (dCons (dTup (dCons (dVar 1) (dCons (dLit (.int 2)) dNil))) (dCons (dDict (((dVar 1), (dLst (dCons (dVar 1) dNil))) :: [])) (dCons (dLit (.str "")) (dCons (dLst dNil) (dCons (dTup dNil) (dCons (dLst (dCons (dLst (dCons (dVar 1) dNil)) (dCons (dTup (dCons (dLit (.int 1)) (dCons (dLst (dCons (dLit (.int 2)) dNil)) dNil))) dNil))) (dCons (dLst (dCons (dLit (.bool true)) (dCons (dLit (.int 0)) dNil))) (dCons (dLit (.str "[1]")) dNil))))))))))))))))
    (dRet (dFn sp_law_one (dCons (dVar 0) (dCons (dVar 2) dNil))))))
section
def sp_law_value : DSp := fun ds n Q => ds = [.sat] ∧ n < 900000 ∧ ∀ x, ∀ n', n' ≤ n + 5 → Q (.d x) n'
theorem len_law_value (ds : List DV) (n : Nat) (Q : DV → Nat → Prop) (h : sp_law_value ds n Q) : ds.length = 1 := by obtain ⟨rfl, _⟩ := h; rfl
theorem m_law_value (ds : List DV) (n : Nat) (Q : DV → Nat → Prop) (h : sp_law_value ds n Q) : ds.length = 1 ∧ bodyD 3 T_law_value ds n Q := by
  obtain ⟨rfl, h2, h3⟩ := h
  refine ⟨rfl, ?_⟩
  unfold bodyD T_law_value
  simp [x_var]
  refine ⟨9, rfl, by decide, by decide, by omega, fun r n1 r0 r1 hn1 => ?_⟩
  simp
  refine ⟨⟨by decide, by decide, by decide⟩, 9, rfl, by decide, by decide, by omega, fun r' n2 r0' r1' hn2 => ?_⟩
  simp
  refine ⟨1000, rfl, by decide, by decide, by omega, fun r'' n3 r0'' r1'' hn3 => ?_⟩
  simp
  refine ⟨by decide, _, rfl, by simp, by simp, by omega, fun x hx n4 hn4 => ?_⟩
  obtain ⟨i, rfl, i0, i1⟩ : ∃ i : Int, x = .int i ∧ -(10 : Int) ^ 60 ≤ i ∧ i ≤ 10 ^ 60 := by
    simp at hx
    rcases hx with rfl | rfl | rfl
    · exact ⟨_, rfl, by omega, by omega⟩
    · exact ⟨_, rfl, by omega, by omega⟩
    · exact ⟨_, rfl, by omega, by omega⟩
  simp [x_var, dDict, dPairs, pairsD, keyD]
  exact ⟨lg100 i0 i1, by decide, by decide, by decide, by decide, by decide, _, rfl, by simp, by simp, by omega, fun x _ n' hn' => h3 x n' (by omega)⟩

end
theorem w_law_value (A : Fds K) (B : Gm K mg) : DSs ⟨P, w, K, mg, base, N_law_value, defScope s_law_value, 2, true⟩ (defBody s_law_value) T_law_value := (dss_cons (ds_set (i := 1) sc_law_value.nd rfl (Or.inl rfl) (de_fn (k := lv_law_one) ⟨ok_law_one A B, len_law_one⟩ (show lv_law_one ≤ 2 by decide) B.g_law_one A.F_law_one.kp (bN_law_one A) (da_cons (de_var 0) (da_cons (de_lst (da_cons (de_bin (fun _ h => o_sub h) lo_sub (de_fn (k := lv_law_delve) ⟨ok_law_delve A B, len_law_delve⟩ (show lv_law_delve ≤ 2 by decide) B.g_law_delve A.F_law_delve.kp (bN_law_delve A) (da_cons (de_var 0) (da_cons de_int da_nil))) de_int) (da_cons (de_bin (fun _ h => o_add h) lo_add (de_bin (fun _ h => o_pow h) lo_pow de_int de_int) (de_fn (k := lv_law_delve) ⟨ok_law_delve A B, len_law_delve⟩ (show lv_law_delve ≤ 2 by decide) B.g_law_delve A.F_law_delve.kp (bN_law_delve A) (da_cons (de_var 0) (da_cons de_int da_nil)))) (da_cons (de_un (fun _ h => o_neg h) lo_neg (de_fn (k := lv_law_delve) ⟨ok_law_delve A B, len_law_delve⟩ (show lv_law_delve ≤ 2 by decide) B.g_law_delve A.F_law_delve.kp (bN_law_delve A) (da_cons (de_var 0) (da_cons de_int da_nil)))) da_nil)))) da_nil))))
    (dss_cons (ds_set (i := 2) sc_law_value.nd rfl (Or.inl rfl) (de_lst (da_cons (de_var 1) (da_cons (de_callTy (fun _ h => o_str h) lo_str B.n_str (by decide +kernel) (da_cons (de_var 1) da_nil)) (da_cons de_non (da_cons de_bl (da_cons de_bl (da_cons (de_lst (da_cons (de_var 1) da_nil)) (da_cons (de_tup (da_cons (de_var 1) (da_cons de_int da_nil))) (da_cons (de_dict (dps_cons (de_var 1) (de_lst (da_cons (de_var 1) da_nil)) dps_nil)) (da_cons de_str (da_cons (de_lst da_nil) (da_cons (de_tup da_nil) (da_cons (de_lst (da_cons (de_lst (da_cons (de_var 1) da_nil)) (da_cons (de_tup (da_cons de_int (da_cons (de_lst (da_cons de_int da_nil)) da_nil))) da_nil))) (da_cons (de_lst (da_cons de_bl (da_cons de_int da_nil))) (da_cons de_str da_nil))))))))))))))))
    (dss_one (ds_ret (de_fn (k := lv_law_one) ⟨ok_law_one A B, len_law_one⟩ (show lv_law_one ≤ 2 by decide) B.g_law_one A.F_law_one.kp (bN_law_one A) (da_cons (de_var 0) (da_cons (de_var 2) da_nil)))))))
theorem ok_law_value (A : Fds K) (B : Gm K mg) : FnG P w K mg base lv_law_value (He.ga K "_law_value") A.fd_law_value ["hamper"] (Lift K 1 sp_law_value) := lift_mono (fn_body A.F_law_value sc_law_value (w_law_value A B)) m_law_value
/-! ### law_own_integer -/
abbrev lv_law_own_integer : Nat := 1
def T_law_own_integer : TSD := (dRet (dAndE (dIsI (isT "int") (dVar 0)) (dNotE (dIsI (isT "bool") (dVar 0)))))
section
def sp_law_own_integer : DSp := fun ds n Q => ∃ v, ds = [.d v] ∧ Q (.d (.bool (isIntD v))) n
theorem len_law_own_integer (ds : List DV) (n : Nat) (Q : DV → Nat → Prop) (h : sp_law_own_integer ds n Q) : ds.length = 1 := by obtain ⟨v, rfl, _⟩ := h; rfl
theorem m_law_own_integer (ds : List DV) (n : Nat) (Q : DV → Nat → Prop) (h : sp_law_own_integer ds n Q) : ds.length = 1 ∧ bodyD 1 T_law_own_integer ds n Q := by
  obtain ⟨v, rfl, h⟩ := h
  refine ⟨rfl, ?_⟩
  unfold bodyD T_law_own_integer
  cases v <;> simpa [x_var, kInt, kBool, isIntD] using h

end
theorem w_law_own_integer (A : Fds K) (B : Gm K mg) : DSs ⟨P, w, K, mg, base, N_law_own_integer, defScope s_law_own_integer, 0, true⟩ (defBody s_law_own_integer) T_law_own_integer := (dss_one (ds_ret (de_and (de_isI (de_var 0) B.n_isinstance B.n_int (by decide +kernel) (by decide +kernel)) (de_one (de_not (de_isI (de_var 0) B.n_isinstance B.n_bool (by decide +kernel) (by decide +kernel)))))))
theorem ok_law_own_integer (A : Fds K) (B : Gm K mg) : FnG P w K mg base lv_law_own_integer (He.ga K "_law_own_integer") A.fd_law_own_integer ["value"] (Lift K 1 sp_law_own_integer) := lift_mono (fn_body A.F_law_own_integer sc_law_own_integer (w_law_own_integer A B)) m_law_own_integer
/-! ### law_name -/
abbrev lv_law_name : Nat := 3
def T_law_name : TSD := (dSeq (dSet 1 (dLit (.str "abcdefghijklmnopqrstuvwxyz0123456789")))
    (dSeq (dSet 2 (dFn sp_law_one (dCons (dVar 0) (dCons (dLst (dCons (dLit (.int 1)) (dCons (dLit (.int 2)) (dCons (dLit (.int 8)) (dCons (dLit (.int 3)) (dCons (dLit (.int 9)) (dCons (dLit (.int 0)) (dCons (dLit (.int 7)) dNil)))))))) dNil))))
    (dRet (dMethS joinD (dLit (.str "")) (dComp [3] (dRng1 (dVar 2)) (gdName 3) dYes (dBin ixD (dVar 1) (dFn sp_law_delve (dCons (dVar 0) (dCons (dIfE (dAnd (dVal (dBin eqD (dVar 3) (dLit (.int 0)))) (dVal (dBin gtD (dFn sp_law_delve (dCons (dVar 0) (dCons (dLit (.int 5)) dNil))) (dLit (.int 0))))) (dLit (.int 26)) (dLit (.int 36))) dNil)))))))))
section
def signsL : List Nat := "abcdefghijklmnopqrstuvwxyz0123456789".toList.map Char.toNat
theorem signs_eq : (Str.ofString "abcdefghijklmnopqrstuvwxyz0123456789").cps.toList = signsL := by decide +kernel
def GoodN (z : Str) : Prop := z.length ≤ 9 ∧ ∀ c ∈ z.cps.toList, c ∈ signsL
def sp_law_name : DSp := fun ds n Q => ds = [.sat] ∧ n < 900000 ∧ ∀ z n', GoodN z → n' ≤ n + 30 → Q (.d (.str z)) n'
theorem len_law_name (ds : List DV) (n : Nat) (Q : DV → Nat → Prop) (h : sp_law_name ds n Q) : ds.length = 1 := by obtain ⟨rfl, _⟩ := h; rfl
theorem m_law_name (ds : List DV) (n : Nat) (Q : DV → Nat → Prop) (h : sp_law_name ds n Q) : ds.length = 1 ∧ bodyD 4 T_law_name ds n Q := by
  obtain ⟨rfl, h2, h3⟩ := h
  refine ⟨rfl, ?_⟩
  unfold bodyD T_law_name
  simp [x_var]
  refine ⟨by decide, _, rfl, by simp, by simp, by omega, fun x hx n1 hn1 => ?_⟩
  obtain ⟨k, rfl, k0, k1⟩ : ∃ k : Int, x = .int k ∧ 0 ≤ k ∧ k ≤ 9 := by
    simp at hx
    rcases hx with rfl | rfl | rfl | rfl | rfl | rfl | rfl <;> exact ⟨_, rfl, by decide, by decide⟩
  simp [x_var]
  refine ⟨by omega, by omega, ?_⟩
  let st : Nat → DS := fun m => ⟨[some .sat, some (.d (.str (Str.ofString "abcdefghijklmnopqrstuvwxyz0123456789"))), some (.d (.int k)), none], m, none⟩
  refine comp_inv (fun rest acc s => ∃ (m : Nat) (cs : List Nat), s = st m ∧ m + 2 * rest.length ≤ n1 + 2 * 9 ∧ acc = (cs.map fun c => .str ⟨#[c]⟩) ∧ acc.length + rest.length ≤ 9 ∧ (∀ c ∈ cs, c ∈ signsL) ∧ ∀ d ∈ rest, ∃ i : Int, d = .int i) ?_ ?_ _ _ _ (by rw [rangeD_len, show sizeLine = 16777216 from rfl]; simp; omega) ⟨n1, [], rfl, by rw [rangeD_len]; omega, rfl, by rw [rangeD_len]; simp; omega, by simp, ?_⟩
  · rintro d ds acc s ⟨m, cs, rfl, hm, rfl, hl, hc, hr⟩ Ky Kn hy hn
    obtain ⟨i, rfl⟩ := hr d (List.mem_cons_self ..)
    simp only [List.length_cons] at hm hl
    have fin : ∀ m' (r : Int) (mx : Int), m' ≤ m + 2 → 0 ≤ r → r < mx → mx ≤ 36 → ∃ c, atI (Str.ofString "abcdefghijklmnopqrstuvwxyz0123456789").cps.toList r = some c ∧ Ky (.str ⟨#[c]⟩) (st m') := by
      intro m' r mx h1 r0 r1 r2
      rw [signs_eq]
      obtain ⟨c, hc', e⟩ := at_any (cl := signsL) (i := r) r0 (Int.lt_of_lt_of_le r1 (by exact r2))
      refine ⟨c, e, hy _ _ ⟨m', cs ++ [c], rfl, by omega, by simp, by simp at hl ⊢; omega, fun x hx => ?_, fun d hd => hr d (List.mem_cons_of_mem _ hd)⟩⟩
      rcases List.mem_append.mp hx with h | h
      · exact hc x h
      · simp at h; subst h; exact hc'
    unfold stepC
    simp [x_var, st]
    split
    · refine ⟨5, rfl, by decide, by decide, by omega, fun r m1 r0 r1 hm1 => ?_⟩
      simp
      split
      · exact ⟨26, rfl, by decide, by decide, by omega, fun r m2 r0 r1 hm2 => by simp; exact ⟨by decide, fin m2 r 26 (by omega) r0 r1 (by decide)⟩⟩
      · exact ⟨36, rfl, by decide, by decide, by omega, fun r m2 r0 r1 hm2 => by simp; exact ⟨by decide, fin m2 r 36 (by omega) r0 r1 (by decide)⟩⟩
    · exact ⟨36, rfl, by decide, by decide, by omega, fun r m2 r0 r1 hm2 => by simp; exact ⟨by decide, fin m2 r 36 (by omega) r0 r1 (by decide)⟩⟩
  · rintro acc s ⟨m, cs, rfl, hm, rfl, hl, hc, hr⟩
    simp at hl hm
    exact join_one cs (by omega) rfl fun z hz => h3 z m ⟨by unfold Str.length; have := congrArg List.length hz; simp at this; omega, by rw [hz]; exact hc⟩ (by omega)
  · intro d hd
    unfold rangeD at hd
    simp at hd
    obtain ⟨i, _, rfl⟩ := hd
    exact ⟨_, rfl⟩

end
theorem w_law_name (A : Fds K) (B : Gm K mg) : DSs ⟨P, w, K, mg, base, N_law_name, defScope s_law_name, 2, true⟩ (defBody s_law_name) T_law_name := (dss_cons (ds_set (i := 1) sc_law_name.nd rfl (Or.inr rfl) de_str)
    (dss_cons (ds_set (i := 2) sc_law_name.nd rfl (Or.inl rfl) (de_fn (k := lv_law_one) ⟨ok_law_one A B, len_law_one⟩ (show lv_law_one ≤ 2 by decide) B.g_law_one A.F_law_one.kp (bN_law_one A) (da_cons (de_var 0) (da_cons (de_lst (da_cons de_int (da_cons de_int (da_cons de_int (da_cons de_int (da_cons de_int (da_cons de_int (da_cons de_int da_nil)))))))) da_nil))))
    (dss_one (ds_ret (de_join de_str (de_comp [("at", 3)] sc_law_name.nd (di_range1 (de_var 2) B.n_range) (by show blkC N_law_name (defScope s_law_name) _ _ = true; decide +kernel) (dg_name (i := 3) sc_law_name.nd rfl (Or.inl rfl)) dts_nil (de_ix (de_var 1) (de_fn (k := lv_law_delve) ⟨ok_law_delve A B, len_law_delve⟩ (show lv_law_delve ≤ 2 by decide) B.g_law_delve A.F_law_delve.kp (bN_law_delve A) (da_cons (de_var 0) (da_cons (de_ifExp (dw_and (dt_cmp (fun _ h => o_eq h) lo_cmp (de_var 3) de_int) (dw_and1 (dt_cmp (fun _ h => o_gt h) lo_cmp (de_fn (k := lv_law_delve) ⟨ok_law_delve A B, len_law_delve⟩ (show lv_law_delve ≤ 2 by decide) B.g_law_delve A.F_law_delve.kp (bN_law_delve A) (da_cons (de_var 0) (da_cons de_int da_nil))) de_int))).dt de_int de_int) da_nil))))))))))
theorem ok_law_name (A : Fds K) (B : Gm K mg) : FnG P w K mg base lv_law_name (He.ga K "_law_name") A.fd_law_name ["hamper"] (Lift K 1 sp_law_name) := lift_mono (fn_body A.F_law_name sc_law_name (w_law_name A B)) m_law_name
/-! ### is_name -/
abbrev lv_is_name : Nat := 1
def T_is_name : TSD := (dSeq (dIf (dOr (dNot (dTru (dIsI (isT "str") (dVar 0)))) (dNot (dVal (dChain leqD leqD (dLit (.int 1)) (dCall lenD (dCons (dVar 0) dNil)) (dLit (.int 8)))))) (dRet (dLit (.bool false))) dNext)
    (dSeq (dIf (dOr (dVal (dBin (inD true) (dBin ixD (dVar 0) (dLit (.int 0))) (dLit (.str "abcdefghijklmnopqrstuvwxyz")))) (dVal (dBin (inD false) (dVar 0) (dLit v_WORDS)))) (dRet (dLit (.bool false))) dNext)
    (dRet (dCall allD (dCons (dComp [1] (dSeqI (dVar 0)) (gdName 1) dYes (dOrE (dBin (inD false) (dVar 1) (dLit (.str "abcdefghijklmnopqrstuvwxyz"))) (dBin (inD false) (dVar 1) (dLit (.str "0123456789"))))) dNil)))))
section
abbrev LET : Str := Str.ofString "abcdefghijklmnopqrstuvwxyz"
abbrev DIG : Str := Str.ofString "0123456789"
def wordsL : List PyData := [.str "and", .str "or", .str "not", .str "all", .str "some", .str "many", .str "endless", .str "yes", .str "no"]
def inWords (z : Str) : Bool := wordsL.any fun y => PyData.eqv y (.str z)
theorem inW {neg : Bool} {z : Str} {Q : PyData → Prop} : inD neg (.str z) (.tuple [.str "and", .str "or", .str "not", .str "all", .str "some", .str "many", .str "endless", .str "yes", .str "no"]) Q = Q (.bool (neg != inWords z)) := by
  rw [x_inT]
  have h1 : PyData.plain (.str z) = true := rfl
  have h2 : min (PyData.depthAll [.str "and", .str "or", .str "not", .str "all", .str "some", .str "many", .str "endless", .str "yes", .str "no"]) (PyData.depth (.str z)) ≤ 60 := by simp [PyData.depth]
  have h3 : PyData.plainAll [.str "and", .str "or", .str "not", .str "all", .str "some", .str "many", .str "endless", .str "yes", .str "no"] = true := rfl
  simp only [h1, h2, h3, true_and]
  rfl
def headIn (z : Str) (s : Str) : Bool := match z.cps.toList with
  | [] => false
  | c :: _ => strIn ⟨#[c]⟩ s
def signOk (c : Nat) : Bool := strIn ⟨#[c]⟩ LET || strIn ⟨#[c]⟩ DIG
def nmD (z : Str) : Bool := decide (1 ≤ z.length) && decide (z.length ≤ 8) && headIn z LET && !inWords z && z.cps.toList.all signOk
def nameV : PyData → Bool
  | .str z => nmD z
  | _ => false
def sp_is_name : DSp := fun ds n Q => ∃ v, ds = [.d v] ∧ (∀ z, v = .str z → z.length ≤ 1000) ∧ Q (.d (.bool (nameV v))) n
theorem len_is_name (ds : List DV) (n : Nat) (Q : DV → Nat → Prop) (h : sp_is_name ds n Q) : ds.length = 1 := by obtain ⟨v, rfl, _⟩ := h; rfl
theorem m_is_name (ds : List DV) (n : Nat) (Q : DV → Nat → Prop) (h : sp_is_name ds n Q) : ds.length = 1 ∧ bodyD 2 T_is_name ds n Q := by
  obtain ⟨v, rfl, hv, h⟩ := h
  refine ⟨rfl, ?_⟩
  unfold bodyD T_is_name
  cases v with
  | str z =>
    have hz := hv z rfl
    have h : ∀ b, nmD z = b → Q (.d (.bool b)) n := fun b e => e ▸ h
    have sl : z.length ≤ sizeLine := by rw [show sizeLine = 16777216 from rfl]; omega
    have el : z.cps.toList.length = z.length := by simp [Str.length]
    simp [x_var, kStr]
    refine ⟨sl, ?_⟩
    split
    · exact h false (by have : ¬ 1 ≤ z.length := by omega
                        simp [nmD, this])
    split
    · exact h false (by have : ¬ z.length ≤ 8 := by omega
                        simp [nmD, this])
    have l1 : 1 ≤ z.length := by omega
    have l8 : z.length ≤ 8 := by omega
    cases e : z.cps.toList with
    | nil => rw [e] at el; simp at el; omega
    | cons c cs =>
      refine ⟨sl, c, by simp [atI, ixN], ?_⟩
      split
      · rename_i hc
        unfold v_WORDS
        rw [inW]
        simp only [x_bOf]
        by_cases hw : inWords z = true
        · simp [hw]
          exact h false (by simp [nmD, hw])
        · simp [hw]
          refine comp_map (f := fun d => .bool (match d with | .str a => strIn a LET || strIn a DIG | _ => false)) _ _ (by simp [PD.signs]; rw [show sizeLine = 16777216 from rfl]; have := el; simp at this; omega) (fun d hd Ky Kn k => ?_) ?_
          · obtain ⟨x, hx, rfl⟩ := List.mem_map.mp hd
            unfold stepC
            simp [x_var]
            split
            · rename_i h1; simpa [h1] using k
            · rename_i h1; simpa [h1] using k
          · refine ⟨z.cps.toList.map signOk, ?_, h _ ?_⟩
            · simp only [PD.signs, List.map_map, List.nil_append, List.cons.injEq, and_true, PyData.list.injEq]
              rfl
            · have hh : headIn z LET = true := by unfold headIn; rw [e]; exact hc
              simp [nmD, l1, l8, hh, hw]
      · rename_i hc
        exact h false (by have : headIn z LET = false := by unfold headIn; rw [e]; simpa using hc
                          simp [nmD, this])
  | _ => simpa [x_var, kStr, nameV] using h

end
theorem w_is_name (A : Fds K) (B : Gm K mg) : DSs ⟨P, w, K, mg, base, N_is_name, defScope s_is_name, 0, true⟩ (defBody s_is_name) T_is_name := (dss_cons (ds_if (dw_or (dt_not (dt_tru (de_isI (de_var 0) B.n_isinstance B.n_str (by decide +kernel) (by decide +kernel)))) (dw_or1 (dt_not (dt_chain (fun _ h => o_le h) lo_cmp (fun _ h => o_le h) lo_cmp de_int (de_callB (fun _ h => o_len h) lo_len B.n_len (by decide +kernel) (da_cons (de_var 0) da_nil)) (de_gInt B.c_LONGEST_NAME))))).dt (dss_one (ds_ret de_bl)) dss_nil)
    (dss_cons (ds_if (dw_or (dt_cmp (fun _ h => o_notIn h) lo_in (de_ix (de_var 0) de_int) (de_gStr B.c_LETTERS)) (dw_or1 (dt_cmp (fun _ h => o_in h) lo_in (de_var 0) (de_gTup B.g_WORDS B.c_WORDS)))).dt (dss_one (ds_ret de_bl)) dss_nil)
    (dss_one (ds_ret (de_callB (fun _ h => o_all h) lo_all B.n_all (by decide +kernel) (da_cons (de_comp [("sign", 1)] sc_is_name.nd (di_seq (de_var 0)) (by show blkC N_is_name (defScope s_is_name) _ _ = true; decide +kernel) (dg_name (i := 1) sc_is_name.nd rfl (Or.inl rfl)) dts_nil (de_or (de_cmp (fun _ h => o_in h) lo_in (de_var 1) (de_gStr B.c_LETTERS)) (de_one (de_cmp (fun _ h => o_in h) lo_in (de_var 1) (de_gStr B.c_DIGITS))))) da_nil))))))
theorem ok_is_name (A : Fds K) (B : Gm K mg) : FnG P w K mg base lv_is_name (He.ga K "is_name") A.fd_is_name ["value"] (Lift K 1 sp_is_name) := lift_mono (fn_body A.F_is_name sc_is_name (w_is_name A B)) m_is_name
/-! ### law_is_name -/
abbrev lv_law_is_name : Nat := 1
def T_law_is_name : TSD := (dSeq (dIf (dVal (dBin (inD false) (dVar 0) (dTup (dCons (dLit (.str "and")) (dCons (dLit (.str "or")) (dCons (dLit (.str "not")) (dCons (dLit (.str "all")) (dCons (dLit (.str "some")) (dCons (dLit (.str "many")) (dCons (dLit (.str "endless")) (dCons (dLit (.str "yes")) (dCons (dLit (.str "no")) dNil)))))))))))) (dRet (dLit (.bool false))) dNext)
    (dRet (dAndE (dChain leqD leqD (dLit (.int 1)) (dCall lenD (dCons (dVar 0) dNil)) (dLit (.int 8))) (dBin (inD true) (dBin ixD (dVar 0) (dLit (.int 0))) (dLit (.str "0123456789"))))))
section
def lawName (z : Str) : Bool := !inWords z && (decide (1 ≤ z.length) && decide (z.length ≤ 8) && !headIn z DIG)
def sp_law_is_name : DSp := fun ds n Q => ∃ z, ds = [.d (.str z)] ∧ z.length ≤ 1000 ∧ Q (.d (.bool (lawName z))) n
theorem len_law_is_name (ds : List DV) (n : Nat) (Q : DV → Nat → Prop) (h : sp_law_is_name ds n Q) : ds.length = 1 := by obtain ⟨v, rfl, _⟩ := h; rfl
theorem m_law_is_name (ds : List DV) (n : Nat) (Q : DV → Nat → Prop) (h : sp_law_is_name ds n Q) : ds.length = 1 ∧ bodyD 1 T_law_is_name ds n Q := by
  obtain ⟨z, rfl, hz, h⟩ := h
  refine ⟨rfl, ?_⟩
  unfold bodyD T_law_is_name
  have h : ∀ b, lawName z = b → Q (.d (.bool b)) n := fun b e => e ▸ h
  have sl : z.length ≤ sizeLine := by rw [show sizeLine = 16777216 from rfl]; omega
  have el : z.cps.toList.length = z.length := by simp [Str.length]
  simp [x_var, -x_inT, inW]
  refine ⟨by decide, ?_⟩
  by_cases hw : inWords z = true
  · simp [hw]
    exact h false (by simp [lawName, hw])
  simp [hw]
  refine ⟨sl, ?_⟩
  split
  · exact h false (by have : ¬ 1 ≤ z.length := by omega
                      simp [lawName, this])
  split
  · exact h false (by have : ¬ z.length ≤ 8 := by omega
                      simp [lawName, this])
  have l1 : 1 ≤ z.length := by omega
  have l8 : z.length ≤ 8 := by omega
  cases e : z.cps.toList with
  | nil => rw [e] at el; simp at el; omega
  | cons c cs =>
    refine ⟨sl, c, by simp [atI, ixN], h _ ?_⟩
    have hh : headIn z DIG = strIn ⟨#[c]⟩ DIG := by unfold headIn; rw [e]
    simp [lawName, l1, l8, hh, hw]

end
theorem w_law_is_name (A : Fds K) (B : Gm K mg) : DSs ⟨P, w, K, mg, base, N_law_is_name, defScope s_law_is_name, 0, true⟩ (defBody s_law_is_name) T_law_is_name := (dss_cons (ds_if (dt_cmp (fun _ h => o_in h) lo_in (de_var 0) (de_tup (da_cons de_str (da_cons de_str (da_cons de_str (da_cons de_str (da_cons de_str (da_cons de_str (da_cons de_str (da_cons de_str (da_cons de_str da_nil))))))))))) (dss_one (ds_ret de_bl)) dss_nil)
    (dss_one (ds_ret (de_and (de_chain (fun _ h => o_le h) lo_cmp (fun _ h => o_le h) lo_cmp de_int (de_callB (fun _ h => o_len h) lo_len B.n_len (by decide +kernel) (da_cons (de_var 0) da_nil)) de_int) (de_one (de_cmp (fun _ h => o_notIn h) lo_in (de_ix (de_var 0) de_int) de_str))))))
theorem ok_law_is_name (A : Fds K) (B : Gm K mg) : FnG P w K mg base lv_law_is_name (He.ga K "_law_is_name") A.fd_law_is_name ["value"] (Lift K 1 sp_law_is_name) := lift_mono (fn_body A.F_law_is_name sc_law_is_name (w_law_is_name A B)) m_law_is_name
/-! ### law_names_right -/
abbrev lv_law_names_right : Nat := 4
def T_law_names_right : TSD := (dSeq (dSet 1 (dFn sp_law_name (dCons (dVar 0) dNil)))
    (dSeq (dSet 1 (dFn sp_law_one (dCons (dVar 0) (dCons (dLst (dCons (dVar 1) (dCons (dVar 1) (dCons (dVar 1) (dCons (dFn sp_law_one (dCons (dVar 0) (dCons (dLst (dCons (dLit (.str "and")) (dCons (dLit (.str "or")) (dCons (dLit (.str "not")) (dCons (dLit (.str "all")) (dCons (dLit (.str "some")) (dCons (dLit (.str "many")) (dCons (dLit (.str "endless")) (dCons (dLit (.str "yes")) (dCons (dLit (.str "no")) (dCons (dLit (.str "ands")) (dCons (dLit (.str "nor")) (dCons (dLit (.str "yes1")) dNil))))))))))))) dNil))) dNil))))) dNil))))
    (dSeq (dPar 2 3 (dCons (dFn sp_law_delve (dCons (dVar 0) (dCons (dBin addD (dCall lenD (dCons (dVar 1) dNil)) (dLit (.int 1))) dNil))) (dCons (dFn sp_law_one (dCons (dVar 0) (dCons (dLst (dCons (dLit (.str "A")) (dCons (dLit (.str "_")) (dCons (dLit (.str " ")) (dCons (dLit (.str "-")) (dCons (dLit (.str "\n")) (dCons (dLit (.str ".")) (dCons (dLit (.str ":")) (dCons (dLit (.str "Z")) (dCons (dLit (.str "[")) dNil)))))))))) dNil))) dNil)))
    (dSeq (dFor (dSeqI (dTup (dCons (dVar 1) (dCons (dBin addD (dBin addD (dSlice (dVar 1) dNoPart (dPart (dVar 2))) (dVar 3)) (dSlice (dVar 1) (dPart (dVar 2)) dNoPart)) (dCons (dLst (dCons (dVar 1) dNil)) (dCons (dLit .none) (dCons (dLit (.int 5)) (dCons (dLit (.bool true)) dNil)))))))) (gdName 4) (dIf (dVal (dBin neD (dCall reprD (dCons (dFnK sp_is_name [0] 0 (["value"] : List Str).length dNil (dCons (dVar 4) dNil)) dNil)) (dCall reprD (dCons (dAndE (dIsI (isT "str") (dVar 4)) (dAndE (dBin eqD (dVar 4) (dVar 1)) (dFn sp_law_is_name (dCons (dVar 1) dNil)))) dNil)))) (dRet (dLit (.bool false))) dNext))
    (dRet (dLit (.bool true)))))))
section
theorem good_word {z : Str} (h : z ∈ (["and", "or", "not", "all", "some", "many", "endless", "yes", "no", "ands", "nor", "yes1"] : List Str)) : GoodN z := by
  have : (["and", "or", "not", "all", "some", "many", "endless", "yes", "no", "ands", "nor", "yes1"] : List Str).all (fun z => decide (z.length ≤ 9) && z.cps.toList.all fun c => signsL.contains c) = true := by decide +kernel
  have := List.all_eq_true.mp this z h
  simp at this
  exact ⟨this.1, fun c hc => by
    obtain ⟨i, hi, rfl⟩ := List.getElem_of_mem hc
    exact this.2 i (by simpa using hi)⟩
theorem sign_ok : ∀ c ∈ signsL, signOk c = true ∧ (strIn ⟨#[c]⟩ LET = !strIn ⟨#[c]⟩ DIG) := by
  have : signsL.all (fun c => signOk c && (strIn ⟨#[c]⟩ LET == !strIn ⟨#[c]⟩ DIG)) = true := by decide +kernel
  intro c hc
  have := List.all_eq_true.mp this c hc
  simp at this
  exact this
theorem nm_good {z : Str} (h : GoodN z) : nmD z = lawName z := by
  unfold nmD lawName
  have h3 : z.cps.toList.all signOk = true := List.all_eq_true.mpr fun c hc => (sign_ok c (h.2 c hc)).1
  rw [h3]
  cases e : z.cps.toList with
  | nil =>
    have : z.length = 0 := by unfold Str.length; rw [← Array.length_toList, e]; rfl
    simp [this]
  | cons c cs =>
    have h4 : headIn z LET = !headIn z DIG := by
      unfold headIn
      rw [e]
      exact (sign_ok c (h.2 c (by rw [e]; simp))).2
    rw [h4]
    cases inWords z <;> cases headIn z DIG <;> simp
theorem nm_odd {z : Str} {c : Nat} (h : c ∈ z.cps.toList) (hc : signOk c = false) : nmD z = false := by
  have : z.cps.toList.all signOk = false := by
    cases e : z.cps.toList.all signOk with
    | false => rfl
    | true => rw [List.all_eq_true.mp e c h] at hc; cases hc
  unfold nmD
  rw [this]
  simp
def nameOk (w : Str) (d : PyData) : Prop := (∀ y, d = .str y → y.length ≤ 1000) ∧ d.plain = true ∧ nameV d = (kStr d && (PyData.eqv d (.str w) && lawName w))
theorem odd_sign {x : PyData} (h : x ∈ ([.str "A", .str "_", .str " ", .str "-", .str "\n", .str ".", .str ":", .str "Z", .str "["] : List PyData)) : ∃ o c, x = .str o ∧ o.cps.toList = [c] ∧ signOk c = false := by
  have h : x ∈ (["A", "_", " ", "-", "\n", ".", ":", "Z", "["] : List Str).map PyData.str := h
  obtain ⟨o, ho, rfl⟩ := List.mem_map.mp h
  have : (["A", "_", " ", "-", "\n", ".", ":", "Z", "["] : List Str).all (fun o => match o.cps.toList with | [c] => !signOk c | _ => false) = true := by decide +kernel
  have := List.all_eq_true.mp this o ho
  split at this
  · rename_i c e; exact ⟨o, c, rfl, e, by simpa using this⟩
  · cases this
def sp_law_names_right : DSp := fun ds n Q => ds = [.sat] ∧ n < 800000 ∧ ∀ n', n' ≤ n + 50 → Q (.d (.bool true)) n'
theorem len_law_names_right (ds : List DV) (n : Nat) (Q : DV → Nat → Prop) (h : sp_law_names_right ds n Q) : ds.length = 1 := by obtain ⟨rfl, _⟩ := h; rfl
theorem names_loop {w : Str} {x1 x2 x3 : DV} {items : List PyData} {n : Nat} {D : DEnds} (hi : ∀ d ∈ items, nameOk w d) (hw : w.length ≤ 1000) (q : ∀ x4, D.nx ⟨[some x1, some (.d (.str w)), some x2, some x3, x4], n, none⟩) :
    ∀ x4, dForGo (gdName 4) (dIf (dVal (dBin neD (dCall reprD (dCons (dFnK sp_is_name [0] 0 (["value"] : List Str).length dNil (dCons (dVar 4) dNil)) dNil)) (dCall reprD (dCons (dAndE (dIsI (isT "str") (dVar 4)) (dAndE (dBin eqD (dVar 4) (dVar 1)) (dFn sp_law_is_name (dCons (dVar 1) dNil)))) dNil)))) (dRet (dLit (.bool false))) dNext) items D ⟨[some x1, some (.d (.str w)), some x2, some x3, x4], n, none⟩ := by
  intro x4
  refine for_inv (fun rest s => ∃ x4, s = ⟨[some x1, some (.d (.str w)), some x2, some x3, x4], n, none⟩ ∧ ∀ d ∈ rest, nameOk w d) ?_ ?_ items _ ⟨x4, rfl, hi⟩
  · rintro d ds s ⟨x4, rfl, hr⟩ K hK
    obtain ⟨h1, h2, h3⟩ := hr d (List.mem_cons_self ..)
    have hK := hK _ ⟨some (.d d), rfl, fun d hd => hr d (List.mem_cons_of_mem _ hd)⟩
    have fin : ∀ b : Bool, nameV d = b → K ⟨[some x1, some (.d (.str w)), some x2, some x3, some (.d d)], n, none⟩ := fun _ _ => hK
    simp [x_var, sp_is_name, permL]
    refine ⟨h1, reprB, ?_⟩
    by_cases hk : kStr d = true
    · rw [hk] at h3
      simp [hk]
      refine ⟨by simp [pl2, h2, PyData.plain, PyData.depth], ?_⟩
      by_cases he : PyData.eqv d (.str w) = true
      · rw [he] at h3
        simp [he, sp_law_is_name]
        refine ⟨hw, reprB, ?_⟩
        rw [h3]
        simpa using hK
      · have he := Bool.eq_false_iff.mpr he
        rw [he] at h3
        simp [he]
        refine ⟨reprB, ?_⟩
        rw [h3]
        simpa using hK
    · have hk := Bool.eq_false_iff.mpr hk
      rw [hk] at h3
      simp [hk]
      refine ⟨reprB, ?_⟩
      rw [h3]
      simpa using hK
  · rintro s ⟨x4, rfl, _⟩
    exact q x4
theorem m_law_names_right (ds : List DV) (n : Nat) (Q : DV → Nat → Prop) (h : sp_law_names_right ds n Q) : ds.length = 1 ∧ bodyD 5 T_law_names_right ds n Q := by
  obtain ⟨rfl, h2, h3⟩ := h
  refine ⟨rfl, ?_⟩
  unfold bodyD T_law_names_right
  (try simp only [y_seq, y_next, y_ret, y_kRet, y_set, y_kSet, y_if, y_kIf, y_drop, y_kDrop, y_break, y_cont, y_lit, y_var, y_kO, y_bin, y_kB1, y_kB2, y_un, y_kU, y_call, y_kC, y_kC2, y_are0, y_are1, y_kAre, y_tup, y_lst, y_tupN, y_lstN, y_nil, y_cons, y_kA1, y_kA2, y_fn, y_kF, y_kR, y_fnK, y_kFnK1, y_kFnK, y_val, y_kV, y_tru, y_kT, y_kTb, y_and, y_or, y_not, y_kAn, y_kOr, y_kNo, y_ifE, y_kIfE, y_andE, y_kAnE, y_orE, y_kOrE, y_notE, y_kNoE, y_isI, y_kIsI, y_chain, y_kCh, y_kCh1, y_kCh2, y_kCh3, y_comp, y_kCo, y_kL, y_comp0, y_seqI, y_kSI, y_kIt, y_rng, y_kRg, y_for, y_kFo, y_part, y_kPt, y_noPart, y_slice, y_kSl1, y_kSl2, y_kSl3, y_slL, y_slT, y_slS, y_revL, y_par, y_kPar, y_asg, y_kAsg, y_gName, y_gTup, y_gCons, y_kG1, y_yes, y_methS, y_kM1, y_kM2, y_newTab, y_newOwn, y_putTab, y_kP1, y_kP2, y_inTab, y_kIn, y_append, y_kAp, y_step, y_kSc, y_kSc1, y_kSc2, y_plNil, y_sl, y_ixL0, y_ixT0, y_ixL1, y_ixT1, y_ixLm, y_dictS, y_dictI, x_varD, x_varSat, x_varScr, x_varOwn, x_varTab, x_intD, x_cmp, x_addI, x_addS, x_addL, x_subI, x_mulI, x_divI, x_modI, x_powI, x_negI, x_intI, x_intB, x_absI, x_truB, x_truI, x_truL, x_truT, x_sat1, x_sat2, x_sat0n, x_sat0s, x_satIs, x_put1, x_put2, x_eqI, x_ltI, x_al2I, x_pl2I, x_lenL, x_lenT, x_lenS, x_ixS, x_tupleL, x_tupleT, x_listL, x_listT, x_strI, x_repr, x_sorted, x_itL, x_itT, x_itS, x_wipe0, x_wipe1, x_keyS, x_keyI, x_items, x_sortItems, x_scrCut, x_isD, x_bOf, x_gNil, isT_int, isT_bool, isT_str, isT_list, isT_tuple, isT_dict, x_al2S, x_pl2S, x_eqS, x_inS, List.getElem?_cons_zero, List.getElem?_cons_succ, List.set_cons_zero, List.set_cons_succ, List.length_cons, List.length_nil, Nat.reduceAdd, Nat.reduceSub, Nat.reduceLT, Nat.reduceLeDiff, Nat.lt_add_one, Nat.zero_add, List.map_cons, List.map_nil, List.append_nil, List.cons_append, List.nil_append, List.reduceReplicate, List.replicate_zero, List.replicate_succ, reduceIte, if_true, if_false, true_and, and_true, Bool.not_true, Bool.not_false, Bool.false_eq_true, Nat.zero_lt_succ, Nat.add_lt_add_iff_right, Int.reduceEq, decide_true, decide_false, Int.reduceNeg, Int.reduceSub, Int.reduceAdd, x_eqvNil, x_pl2Nil, y_plNil, Bool.not_eq_true', List.isEmpty_nil, List.isEmpty_cons])
  refine ⟨rfl, by omega, fun z n1 gz hn1 => ?_⟩
  (try simp only [y_seq, y_next, y_ret, y_kRet, y_set, y_kSet, y_if, y_kIf, y_drop, y_kDrop, y_break, y_cont, y_lit, y_var, y_kO, y_bin, y_kB1, y_kB2, y_un, y_kU, y_call, y_kC, y_kC2, y_are0, y_are1, y_kAre, y_tup, y_lst, y_tupN, y_lstN, y_nil, y_cons, y_kA1, y_kA2, y_fn, y_kF, y_kR, y_fnK, y_kFnK1, y_kFnK, y_val, y_kV, y_tru, y_kT, y_kTb, y_and, y_or, y_not, y_kAn, y_kOr, y_kNo, y_ifE, y_kIfE, y_andE, y_kAnE, y_orE, y_kOrE, y_notE, y_kNoE, y_isI, y_kIsI, y_chain, y_kCh, y_kCh1, y_kCh2, y_kCh3, y_comp, y_kCo, y_kL, y_comp0, y_seqI, y_kSI, y_kIt, y_rng, y_kRg, y_for, y_kFo, y_part, y_kPt, y_noPart, y_slice, y_kSl1, y_kSl2, y_kSl3, y_slL, y_slT, y_slS, y_revL, y_par, y_kPar, y_asg, y_kAsg, y_gName, y_gTup, y_gCons, y_kG1, y_yes, y_methS, y_kM1, y_kM2, y_newTab, y_newOwn, y_putTab, y_kP1, y_kP2, y_inTab, y_kIn, y_append, y_kAp, y_step, y_kSc, y_kSc1, y_kSc2, y_plNil, y_sl, y_ixL0, y_ixT0, y_ixL1, y_ixT1, y_ixLm, y_dictS, y_dictI, x_varD, x_varSat, x_varScr, x_varOwn, x_varTab, x_intD, x_cmp, x_addI, x_addS, x_addL, x_subI, x_mulI, x_divI, x_modI, x_powI, x_negI, x_intI, x_intB, x_absI, x_truB, x_truI, x_truL, x_truT, x_sat1, x_sat2, x_sat0n, x_sat0s, x_satIs, x_put1, x_put2, x_eqI, x_ltI, x_al2I, x_pl2I, x_lenL, x_lenT, x_lenS, x_ixS, x_tupleL, x_tupleT, x_listL, x_listT, x_strI, x_repr, x_sorted, x_itL, x_itT, x_itS, x_wipe0, x_wipe1, x_keyS, x_keyI, x_items, x_sortItems, x_scrCut, x_isD, x_bOf, x_gNil, isT_int, isT_bool, isT_str, isT_list, isT_tuple, isT_dict, x_al2S, x_pl2S, x_eqS, x_inS, List.getElem?_cons_zero, List.getElem?_cons_succ, List.set_cons_zero, List.set_cons_succ, List.length_cons, List.length_nil, Nat.reduceAdd, Nat.reduceSub, Nat.reduceLT, Nat.reduceLeDiff, Nat.lt_add_one, Nat.zero_add, List.map_cons, List.map_nil, List.append_nil, List.cons_append, List.nil_append, List.reduceReplicate, List.replicate_zero, List.replicate_succ, reduceIte, if_true, if_false, true_and, and_true, Bool.not_true, Bool.not_false, Bool.false_eq_true, Nat.zero_lt_succ, Nat.add_lt_add_iff_right, Int.reduceEq, decide_true, decide_false, Int.reduceNeg, Int.reduceSub, Int.reduceAdd, x_eqvNil, x_pl2Nil, y_plNil, Bool.not_eq_true', List.isEmpty_nil, List.isEmpty_cons])
  refine ⟨_, rfl, by simp, by simp, by omega, fun x hx n2 hn2 => ?_⟩
  obtain ⟨y, rfl, gy⟩ : ∃ y, x = .str y ∧ GoodN y := by
    have hx : x ∈ (["and", "or", "not", "all", "some", "many", "endless", "yes", "no", "ands", "nor", "yes1"] : List Str).map PyData.str := hx
    obtain ⟨y, hy, rfl⟩ := List.mem_map.mp hx
    exact ⟨y, rfl, good_word hy⟩
  (try simp only [y_seq, y_next, y_ret, y_kRet, y_set, y_kSet, y_if, y_kIf, y_drop, y_kDrop, y_break, y_cont, y_lit, y_var, y_kO, y_bin, y_kB1, y_kB2, y_un, y_kU, y_call, y_kC, y_kC2, y_are0, y_are1, y_kAre, y_tup, y_lst, y_tupN, y_lstN, y_nil, y_cons, y_kA1, y_kA2, y_fn, y_kF, y_kR, y_fnK, y_kFnK1, y_kFnK, y_val, y_kV, y_tru, y_kT, y_kTb, y_and, y_or, y_not, y_kAn, y_kOr, y_kNo, y_ifE, y_kIfE, y_andE, y_kAnE, y_orE, y_kOrE, y_notE, y_kNoE, y_isI, y_kIsI, y_chain, y_kCh, y_kCh1, y_kCh2, y_kCh3, y_comp, y_kCo, y_kL, y_comp0, y_seqI, y_kSI, y_kIt, y_rng, y_kRg, y_for, y_kFo, y_part, y_kPt, y_noPart, y_slice, y_kSl1, y_kSl2, y_kSl3, y_slL, y_slT, y_slS, y_revL, y_par, y_kPar, y_asg, y_kAsg, y_gName, y_gTup, y_gCons, y_kG1, y_yes, y_methS, y_kM1, y_kM2, y_newTab, y_newOwn, y_putTab, y_kP1, y_kP2, y_inTab, y_kIn, y_append, y_kAp, y_step, y_kSc, y_kSc1, y_kSc2, y_plNil, y_sl, y_ixL0, y_ixT0, y_ixL1, y_ixT1, y_ixLm, y_dictS, y_dictI, x_varD, x_varSat, x_varScr, x_varOwn, x_varTab, x_intD, x_cmp, x_addI, x_addS, x_addL, x_subI, x_mulI, x_divI, x_modI, x_powI, x_negI, x_intI, x_intB, x_absI, x_truB, x_truI, x_truL, x_truT, x_sat1, x_sat2, x_sat0n, x_sat0s, x_satIs, x_put1, x_put2, x_eqI, x_ltI, x_al2I, x_pl2I, x_lenL, x_lenT, x_lenS, x_ixS, x_tupleL, x_tupleT, x_listL, x_listT, x_strI, x_repr, x_sorted, x_itL, x_itT, x_itS, x_wipe0, x_wipe1, x_keyS, x_keyI, x_items, x_sortItems, x_scrCut, x_isD, x_bOf, x_gNil, isT_int, isT_bool, isT_str, isT_list, isT_tuple, isT_dict, x_al2S, x_pl2S, x_eqS, x_inS, List.getElem?_cons_zero, List.getElem?_cons_succ, List.set_cons_zero, List.set_cons_succ, List.length_cons, List.length_nil, Nat.reduceAdd, Nat.reduceSub, Nat.reduceLT, Nat.reduceLeDiff, Nat.lt_add_one, Nat.zero_add, List.map_cons, List.map_nil, List.append_nil, List.cons_append, List.nil_append, List.reduceReplicate, List.replicate_zero, List.replicate_succ, reduceIte, if_true, if_false, true_and, and_true, Bool.not_true, Bool.not_false, Bool.false_eq_true, Nat.zero_lt_succ, Nat.add_lt_add_iff_right, Int.reduceEq, decide_true, decide_false, Int.reduceNeg, Int.reduceSub, Int.reduceAdd, x_eqvNil, x_pl2Nil, y_plNil, Bool.not_eq_true', List.isEmpty_nil, List.isEmpty_cons])
  refine ⟨_, rfl, by simp, by simp, by omega, fun x hx n3 hn3 => ?_⟩
  obtain ⟨w, rfl, gw⟩ : ∃ w, x = .str w ∧ GoodN w := by
    simp only [List.mem_cons, List.not_mem_nil, or_false] at hx
    rcases hx with rfl | rfl | rfl | rfl
    · exact ⟨_, rfl, gz⟩
    · exact ⟨_, rfl, gz⟩
    · exact ⟨_, rfl, gz⟩
    · exact ⟨_, rfl, gy⟩
  have lw := gw.1
  have sl : ∀ k : Nat, k ≤ 100 → k ≤ sizeLine := fun k hk => by rw [show sizeLine = 16777216 from rfl]; omega
  (try simp only [y_seq, y_next, y_ret, y_kRet, y_set, y_kSet, y_if, y_kIf, y_drop, y_kDrop, y_break, y_cont, y_lit, y_var, y_kO, y_bin, y_kB1, y_kB2, y_un, y_kU, y_call, y_kC, y_kC2, y_are0, y_are1, y_kAre, y_tup, y_lst, y_tupN, y_lstN, y_nil, y_cons, y_kA1, y_kA2, y_fn, y_kF, y_kR, y_fnK, y_kFnK1, y_kFnK, y_val, y_kV, y_tru, y_kT, y_kTb, y_and, y_or, y_not, y_kAn, y_kOr, y_kNo, y_ifE, y_kIfE, y_andE, y_kAnE, y_orE, y_kOrE, y_notE, y_kNoE, y_isI, y_kIsI, y_chain, y_kCh, y_kCh1, y_kCh2, y_kCh3, y_comp, y_kCo, y_kL, y_comp0, y_seqI, y_kSI, y_kIt, y_rng, y_kRg, y_for, y_kFo, y_part, y_kPt, y_noPart, y_slice, y_kSl1, y_kSl2, y_kSl3, y_slL, y_slT, y_slS, y_revL, y_par, y_kPar, y_asg, y_kAsg, y_gName, y_gTup, y_gCons, y_kG1, y_yes, y_methS, y_kM1, y_kM2, y_newTab, y_newOwn, y_putTab, y_kP1, y_kP2, y_inTab, y_kIn, y_append, y_kAp, y_step, y_kSc, y_kSc1, y_kSc2, y_plNil, y_sl, y_ixL0, y_ixT0, y_ixL1, y_ixT1, y_ixLm, y_dictS, y_dictI, x_varD, x_varSat, x_varScr, x_varOwn, x_varTab, x_intD, x_cmp, x_addI, x_addS, x_addL, x_subI, x_mulI, x_divI, x_modI, x_powI, x_negI, x_intI, x_intB, x_absI, x_truB, x_truI, x_truL, x_truT, x_sat1, x_sat2, x_sat0n, x_sat0s, x_satIs, x_put1, x_put2, x_eqI, x_ltI, x_al2I, x_pl2I, x_lenL, x_lenT, x_lenS, x_ixS, x_tupleL, x_tupleT, x_listL, x_listT, x_strI, x_repr, x_sorted, x_itL, x_itT, x_itS, x_wipe0, x_wipe1, x_keyS, x_keyI, x_items, x_sortItems, x_scrCut, x_isD, x_bOf, x_gNil, isT_int, isT_bool, isT_str, isT_list, isT_tuple, isT_dict, x_al2S, x_pl2S, x_eqS, x_inS, List.getElem?_cons_zero, List.getElem?_cons_succ, List.set_cons_zero, List.set_cons_succ, List.length_cons, List.length_nil, Nat.reduceAdd, Nat.reduceSub, Nat.reduceLT, Nat.reduceLeDiff, Nat.lt_add_one, Nat.zero_add, List.map_cons, List.map_nil, List.append_nil, List.cons_append, List.nil_append, List.reduceReplicate, List.replicate_zero, List.replicate_succ, reduceIte, if_true, if_false, true_and, and_true, Bool.not_true, Bool.not_false, Bool.false_eq_true, Nat.zero_lt_succ, Nat.add_lt_add_iff_right, Int.reduceEq, decide_true, decide_false, Int.reduceNeg, Int.reduceSub, Int.reduceAdd, x_eqvNil, x_pl2Nil, y_plNil, Bool.not_eq_true', List.isEmpty_nil, List.isEmpty_cons])
  refine ⟨by omega, _, rfl, by omega, lgN (by omega), by omega, fun r n4 r0 r1 hn4 => ?_⟩
  (try simp only [y_seq, y_next, y_ret, y_kRet, y_set, y_kSet, y_if, y_kIf, y_drop, y_kDrop, y_break, y_cont, y_lit, y_var, y_kO, y_bin, y_kB1, y_kB2, y_un, y_kU, y_call, y_kC, y_kC2, y_are0, y_are1, y_kAre, y_tup, y_lst, y_tupN, y_lstN, y_nil, y_cons, y_kA1, y_kA2, y_fn, y_kF, y_kR, y_fnK, y_kFnK1, y_kFnK, y_val, y_kV, y_tru, y_kT, y_kTb, y_and, y_or, y_not, y_kAn, y_kOr, y_kNo, y_ifE, y_kIfE, y_andE, y_kAnE, y_orE, y_kOrE, y_notE, y_kNoE, y_isI, y_kIsI, y_chain, y_kCh, y_kCh1, y_kCh2, y_kCh3, y_comp, y_kCo, y_kL, y_comp0, y_seqI, y_kSI, y_kIt, y_rng, y_kRg, y_for, y_kFo, y_part, y_kPt, y_noPart, y_slice, y_kSl1, y_kSl2, y_kSl3, y_slL, y_slT, y_slS, y_revL, y_par, y_kPar, y_asg, y_kAsg, y_gName, y_gTup, y_gCons, y_kG1, y_yes, y_methS, y_kM1, y_kM2, y_newTab, y_newOwn, y_putTab, y_kP1, y_kP2, y_inTab, y_kIn, y_append, y_kAp, y_step, y_kSc, y_kSc1, y_kSc2, y_plNil, y_sl, y_ixL0, y_ixT0, y_ixL1, y_ixT1, y_ixLm, y_dictS, y_dictI, x_varD, x_varSat, x_varScr, x_varOwn, x_varTab, x_intD, x_cmp, x_addI, x_addS, x_addL, x_subI, x_mulI, x_divI, x_modI, x_powI, x_negI, x_intI, x_intB, x_absI, x_truB, x_truI, x_truL, x_truT, x_sat1, x_sat2, x_sat0n, x_sat0s, x_satIs, x_put1, x_put2, x_eqI, x_ltI, x_al2I, x_pl2I, x_lenL, x_lenT, x_lenS, x_ixS, x_tupleL, x_tupleT, x_listL, x_listT, x_strI, x_repr, x_sorted, x_itL, x_itT, x_itS, x_wipe0, x_wipe1, x_keyS, x_keyI, x_items, x_sortItems, x_scrCut, x_isD, x_bOf, x_gNil, isT_int, isT_bool, isT_str, isT_list, isT_tuple, isT_dict, x_al2S, x_pl2S, x_eqS, x_inS, List.getElem?_cons_zero, List.getElem?_cons_succ, List.set_cons_zero, List.set_cons_succ, List.length_cons, List.length_nil, Nat.reduceAdd, Nat.reduceSub, Nat.reduceLT, Nat.reduceLeDiff, Nat.lt_add_one, Nat.zero_add, List.map_cons, List.map_nil, List.append_nil, List.cons_append, List.nil_append, List.reduceReplicate, List.replicate_zero, List.replicate_succ, reduceIte, if_true, if_false, true_and, and_true, Bool.not_true, Bool.not_false, Bool.false_eq_true, Nat.zero_lt_succ, Nat.add_lt_add_iff_right, Int.reduceEq, decide_true, decide_false, Int.reduceNeg, Int.reduceSub, Int.reduceAdd, x_eqvNil, x_pl2Nil, y_plNil, Bool.not_eq_true', List.isEmpty_nil, List.isEmpty_cons])
  refine ⟨_, rfl, by simp, by simp, by omega, fun x hx n5 hn5 => ?_⟩
  obtain ⟨o, c, rfl, eo, hc⟩ := odd_sign hx
  have lo : o.length = 1 := by unfold Str.length; rw [← Array.length_toList, eo]; rfl
  (try simp only [y_seq, y_next, y_ret, y_kRet, y_set, y_kSet, y_if, y_kIf, y_drop, y_kDrop, y_break, y_cont, y_lit, y_var, y_kO, y_bin, y_kB1, y_kB2, y_un, y_kU, y_call, y_kC, y_kC2, y_are0, y_are1, y_kAre, y_tup, y_lst, y_tupN, y_lstN, y_nil, y_cons, y_kA1, y_kA2, y_fn, y_kF, y_kR, y_fnK, y_kFnK1, y_kFnK, y_val, y_kV, y_tru, y_kT, y_kTb, y_and, y_or, y_not, y_kAn, y_kOr, y_kNo, y_ifE, y_kIfE, y_andE, y_kAnE, y_orE, y_kOrE, y_notE, y_kNoE, y_isI, y_kIsI, y_chain, y_kCh, y_kCh1, y_kCh2, y_kCh3, y_comp, y_kCo, y_kL, y_comp0, y_seqI, y_kSI, y_kIt, y_rng, y_kRg, y_for, y_kFo, y_part, y_kPt, y_noPart, y_slice, y_kSl1, y_kSl2, y_kSl3, y_slL, y_slT, y_slS, y_revL, y_par, y_kPar, y_asg, y_kAsg, y_gName, y_gTup, y_gCons, y_kG1, y_yes, y_methS, y_kM1, y_kM2, y_newTab, y_newOwn, y_putTab, y_kP1, y_kP2, y_inTab, y_kIn, y_append, y_kAp, y_step, y_kSc, y_kSc1, y_kSc2, y_plNil, y_sl, y_ixL0, y_ixT0, y_ixL1, y_ixT1, y_ixLm, y_dictS, y_dictI, x_varD, x_varSat, x_varScr, x_varOwn, x_varTab, x_intD, x_cmp, x_addI, x_addS, x_addL, x_subI, x_mulI, x_divI, x_modI, x_powI, x_negI, x_intI, x_intB, x_absI, x_truB, x_truI, x_truL, x_truT, x_sat1, x_sat2, x_sat0n, x_sat0s, x_satIs, x_put1, x_put2, x_eqI, x_ltI, x_al2I, x_pl2I, x_lenL, x_lenT, x_lenS, x_ixS, x_tupleL, x_tupleT, x_listL, x_listT, x_strI, x_repr, x_sorted, x_itL, x_itT, x_itS, x_wipe0, x_wipe1, x_keyS, x_keyI, x_items, x_sortItems, x_scrCut, x_isD, x_bOf, x_gNil, isT_int, isT_bool, isT_str, isT_list, isT_tuple, isT_dict, x_al2S, x_pl2S, x_eqS, x_inS, List.getElem?_cons_zero, List.getElem?_cons_succ, List.set_cons_zero, List.set_cons_succ, List.length_cons, List.length_nil, Nat.reduceAdd, Nat.reduceSub, Nat.reduceLT, Nat.reduceLeDiff, Nat.lt_add_one, Nat.zero_add, List.map_cons, List.map_nil, List.append_nil, List.cons_append, List.nil_append, List.reduceReplicate, List.replicate_zero, List.replicate_succ, reduceIte, if_true, if_false, true_and, and_true, Bool.not_true, Bool.not_false, Bool.false_eq_true, Nat.zero_lt_succ, Nat.add_lt_add_iff_right, Int.reduceEq, decide_true, decide_false, Int.reduceNeg, Int.reduceSub, Int.reduceAdd, x_eqvNil, x_pl2Nil, y_plNil, Bool.not_eq_true', List.isEmpty_nil, List.isEmpty_cons])
  have cl : ∀ lo hi, (PD.cutD w.cps.toList lo hi).length ≤ 9 := fun lo hi => by
    unfold PD.cutD
    rw [List.length_take, List.length_drop]
    have : w.cps.toList.length = w.length := by simp [Str.length]
    omega
  have la : ∀ l : List Nat, (⟨l.toArray⟩ : Str).length = l.length := fun l => by simp [Str.length]
  generalize hA : (⟨(PD.cutD w.cps.toList none (some r)).toArray⟩ : Str) = A
  generalize hB : (⟨(PD.cutD w.cps.toList (some r) none).toArray⟩ : Str) = B
  have lA : A.length ≤ 9 := by rw [← hA, la]; exact cl _ _
  have lB : B.length ≤ 9 := by rw [← hB, la]; exact cl _ _
  refine ⟨by omega, by omega, by omega, by rw [strLen_append]; omega, ?_⟩
  have mc : c ∈ (A ++ o ++ B).cps.toList := by
    show c ∈ (A.cps ++ o.cps ++ B.cps).toList
    rw [Array.toList_append, Array.toList_append, eo]
    simp
  have ne : A ++ o ++ B ≠ w := fun e => by
    rw [e] at mc
    rw [(sign_ok c (gw.2 c mc)).1] at hc
    cases hc
  refine names_loop (w := w) (fun d hd => ?_) (by omega) (fun x4 => ?_) _
  · simp only [List.mem_cons, List.not_mem_nil, or_false] at hd
    rcases hd with rfl | rfl | rfl | rfl | rfl | rfl
    · exact ⟨fun y e => by cases e; omega, rfl, by simp [nameV, kStr, nm_good gw]⟩
    · exact ⟨fun y e => by cases e; rw [strLen_append, strLen_append]; omega, rfl, by simp [nameV, kStr, nm_odd mc hc, ne]⟩
    · exact ⟨fun y e => (by cases e), rfl, rfl⟩
    · exact ⟨fun y e => (by cases e), rfl, rfl⟩
    · exact ⟨fun y e => (by cases e), rfl, rfl⟩
    · exact ⟨fun y e => (by cases e), rfl, rfl⟩
  · (try simp only [y_seq, y_next, y_ret, y_kRet, y_set, y_kSet, y_if, y_kIf, y_drop, y_kDrop, y_break, y_cont, y_lit, y_var, y_kO, y_bin, y_kB1, y_kB2, y_un, y_kU, y_call, y_kC, y_kC2, y_are0, y_are1, y_kAre, y_tup, y_lst, y_tupN, y_lstN, y_nil, y_cons, y_kA1, y_kA2, y_fn, y_kF, y_kR, y_fnK, y_kFnK1, y_kFnK, y_val, y_kV, y_tru, y_kT, y_kTb, y_and, y_or, y_not, y_kAn, y_kOr, y_kNo, y_ifE, y_kIfE, y_andE, y_kAnE, y_orE, y_kOrE, y_notE, y_kNoE, y_isI, y_kIsI, y_chain, y_kCh, y_kCh1, y_kCh2, y_kCh3, y_comp, y_kCo, y_kL, y_comp0, y_seqI, y_kSI, y_kIt, y_rng, y_kRg, y_for, y_kFo, y_part, y_kPt, y_noPart, y_slice, y_kSl1, y_kSl2, y_kSl3, y_slL, y_slT, y_slS, y_revL, y_par, y_kPar, y_asg, y_kAsg, y_gName, y_gTup, y_gCons, y_kG1, y_yes, y_methS, y_kM1, y_kM2, y_newTab, y_newOwn, y_putTab, y_kP1, y_kP2, y_inTab, y_kIn, y_append, y_kAp, y_step, y_kSc, y_kSc1, y_kSc2, y_plNil, y_sl, y_ixL0, y_ixT0, y_ixL1, y_ixT1, y_ixLm, y_dictS, y_dictI, x_varD, x_varSat, x_varScr, x_varOwn, x_varTab, x_intD, x_cmp, x_addI, x_addS, x_addL, x_subI, x_mulI, x_divI, x_modI, x_powI, x_negI, x_intI, x_intB, x_absI, x_truB, x_truI, x_truL, x_truT, x_sat1, x_sat2, x_sat0n, x_sat0s, x_satIs, x_put1, x_put2, x_eqI, x_ltI, x_al2I, x_pl2I, x_lenL, x_lenT, x_lenS, x_ixS, x_tupleL, x_tupleT, x_listL, x_listT, x_strI, x_repr, x_sorted, x_itL, x_itT, x_itS, x_wipe0, x_wipe1, x_keyS, x_keyI, x_items, x_sortItems, x_scrCut, x_isD, x_bOf, x_gNil, isT_int, isT_bool, isT_str, isT_list, isT_tuple, isT_dict, x_al2S, x_pl2S, x_eqS, x_inS, List.getElem?_cons_zero, List.getElem?_cons_succ, List.set_cons_zero, List.set_cons_succ, List.length_cons, List.length_nil, Nat.reduceAdd, Nat.reduceSub, Nat.reduceLT, Nat.reduceLeDiff, Nat.lt_add_one, Nat.zero_add, List.map_cons, List.map_nil, List.append_nil, List.cons_append, List.nil_append, List.reduceReplicate, List.replicate_zero, List.replicate_succ, reduceIte, if_true, if_false, true_and, and_true, Bool.not_true, Bool.not_false, Bool.false_eq_true, Nat.zero_lt_succ, Nat.add_lt_add_iff_right, Int.reduceEq, decide_true, decide_false, Int.reduceNeg, Int.reduceSub, Int.reduceAdd, x_eqvNil, x_pl2Nil, y_plNil, Bool.not_eq_true', List.isEmpty_nil, List.isEmpty_cons])
    exact h3 _ (by omega)

end
theorem w_law_names_right (A : Fds K) (B : Gm K mg) : DSs ⟨P, w, K, mg, base, N_law_names_right, defScope s_law_names_right, 3, true⟩ (defBody s_law_names_right) T_law_names_right := (dss_cons (ds_set (i := 1) sc_law_names_right.nd rfl (Or.inl rfl) (de_fn (k := lv_law_name) ⟨ok_law_name A B, len_law_name⟩ (show lv_law_name ≤ 3 by decide) B.g_law_name A.F_law_name.kp (bN_law_name A) (da_cons (de_var 0) da_nil)))
    (dss_cons (ds_set (i := 1) sc_law_names_right.nd rfl (Or.inl rfl) (de_fn (k := lv_law_one) ⟨ok_law_one A B, len_law_one⟩ (show lv_law_one ≤ 3 by decide) B.g_law_one A.F_law_one.kp (bN_law_one A) (da_cons (de_var 0) (da_cons (de_lst (da_cons (de_var 1) (da_cons (de_var 1) (da_cons (de_var 1) (da_cons (de_fn (k := lv_law_one) ⟨ok_law_one A B, len_law_one⟩ (show lv_law_one ≤ 3 by decide) B.g_law_one A.F_law_one.kp (bN_law_one A) (da_cons (de_var 0) (da_cons (de_lst (da_cons de_str (da_cons de_str (da_cons de_str (da_cons de_str (da_cons de_str (da_cons de_str (da_cons de_str (da_cons de_str (da_cons de_str (da_cons de_str (da_cons de_str (da_cons de_str da_nil))))))))))))) da_nil))) da_nil))))) da_nil))))
    (dss_cons (ds_par (i := 2) (j := 3) sc_law_names_right.nd rfl rfl (by decide) rfl rfl rfl (da_cons (de_fn (k := lv_law_delve) ⟨ok_law_delve A B, len_law_delve⟩ (show lv_law_delve ≤ 3 by decide) B.g_law_delve A.F_law_delve.kp (bN_law_delve A) (da_cons (de_var 0) (da_cons (de_bin (fun _ h => o_add h) lo_add (de_callB (fun _ h => o_len h) lo_len B.n_len (by decide +kernel) (da_cons (de_var 1) da_nil)) de_int) da_nil))) (da_cons (de_fn (k := lv_law_one) ⟨ok_law_one A B, len_law_one⟩ (show lv_law_one ≤ 3 by decide) B.g_law_one A.F_law_one.kp (bN_law_one A) (da_cons (de_var 0) (da_cons (de_lst (da_cons de_str (da_cons de_str (da_cons de_str (da_cons de_str (da_cons de_str (da_cons de_str (da_cons de_str (da_cons de_str (da_cons de_str da_nil)))))))))) da_nil))) da_nil)) (by intro X h; generalize X.env = en at h ⊢; cases en; dsimp only at h; subst h; rfl))
    (dss_cons (ds_for (di_seq (de_tup (da_cons (de_var 1) (da_cons (de_bin (fun _ h => o_add h) lo_add (de_bin (fun _ h => o_add h) lo_add (de_slice (de_var 1) do_none (do_some (de_var 2))) (de_var 3)) (de_slice (de_var 1) (do_some (de_var 2)) do_none)) (da_cons (de_lst (da_cons (de_var 1) da_nil)) (da_cons de_non (da_cons de_int (da_cons de_bl da_nil)))))))) (dg_name (i := 4) sc_law_names_right.nd rfl (Or.inl rfl)) (dss_one (ds_if (dt_cmp (fun _ h => o_ne h) lo_cmp (de_callB (fun _ h => o_repr h) lo_repr B.n_repr (by decide +kernel) (da_cons (de_fnK0 [0] (k := lv_is_name) ⟨ok_is_name A B, len_is_name⟩ (show lv_is_name ≤ 3 by decide) B.g_is_name A.F_is_name.kp (kb_is_name_0 A) (dk_cons (de_var 4) dk_nil)) da_nil)) (de_callB (fun _ h => o_repr h) lo_repr B.n_repr (by decide +kernel) (da_cons (de_and (de_isI (de_var 4) B.n_isinstance B.n_str (by decide +kernel) (by decide +kernel)) (de_and (de_cmp (fun _ h => o_eq h) lo_cmp (de_var 4) (de_var 1)) (de_one (de_fn (k := lv_law_is_name) ⟨ok_law_is_name A B, len_law_is_name⟩ (show lv_law_is_name ≤ 3 by decide) B.g_law_is_name A.F_law_is_name.kp (bN_law_is_name A) (da_cons (de_var 1) da_nil))))) da_nil))) (dss_one (ds_ret de_bl)) dss_nil)))
    (dss_one (ds_ret de_bl))))))
theorem ok_law_names_right (A : Fds K) (B : Gm K mg) : FnG P w K mg base lv_law_names_right (He.ga K "_law_names_right") A.fd_law_names_right ["hamper"] (Lift K 1 sp_law_names_right) := lift_mono (fn_body A.F_law_names_right sc_law_names_right (w_law_names_right A B)) m_law_names_right
/-! ### is_list -/
abbrev lv_is_list : Nat := 1
def T_is_list : TSD := (dRet (dIsI (fun d => isT "list" d || isT "tuple" d) (dVar 0)))
section
def sp_is_list : DSp := fun ds n Q => ∃ v, ds = [.d v] ∧ Q (.d (.bool (kList v || kTup v))) n
theorem len_is_list (ds : List DV) (n : Nat) (Q : DV → Nat → Prop) (h : sp_is_list ds n Q) : ds.length = 1 := by obtain ⟨v, rfl, _⟩ := h; rfl
theorem m_is_list (ds : List DV) (n : Nat) (Q : DV → Nat → Prop) (h : sp_is_list ds n Q) : ds.length = 1 ∧ bodyD 1 T_is_list ds n Q := by
  obtain ⟨v, rfl, h⟩ := h
  refine ⟨rfl, ?_⟩
  unfold bodyD T_is_list
  simpa [x_var] using h

end
theorem w_is_list (A : Fds K) (B : Gm K mg) : DSs ⟨P, w, K, mg, base, N_is_list, defScope s_is_list, 0, true⟩ (defBody s_is_list) T_is_list := (dss_one (ds_ret (de_isI2 (de_var 0) B.n_isinstance B.n_list (by decide +kernel) (by decide +kernel) B.n_tuple (by decide +kernel) (by decide +kernel))))
theorem ok_is_list (A : Fds K) (B : Gm K mg) : FnG P w K mg base lv_is_list (He.ga K "is_list") A.fd_is_list ["value"] (Lift K 1 sp_is_list) := lift_mono (fn_body A.F_is_list sc_is_list (w_is_list A B)) m_is_list
/-! ### is_integer -/
abbrev lv_is_integer : Nat := 1
def T_is_integer : TSD := (dRet (dAndE (dIsI (isT "int") (dVar 0)) (dNotE (dIsI (isT "bool") (dVar 0)))))
section
def sp_is_integer : DSp := fun ds n Q => ∃ v, ds = [.d v] ∧ Q (.d (.bool (isIntD v))) n
theorem len_is_integer (ds : List DV) (n : Nat) (Q : DV → Nat → Prop) (h : sp_is_integer ds n Q) : ds.length = 1 := by obtain ⟨v, rfl, _⟩ := h; rfl
theorem m_is_integer (ds : List DV) (n : Nat) (Q : DV → Nat → Prop) (h : sp_is_integer ds n Q) : ds.length = 1 ∧ bodyD 1 T_is_integer ds n Q := by
  obtain ⟨v, rfl, h⟩ := h
  refine ⟨rfl, ?_⟩
  unfold bodyD T_is_integer
  cases v <;> simpa [x_var, kInt, kBool, isIntD] using h

end
theorem w_is_integer (A : Fds K) (B : Gm K mg) : DSs ⟨P, w, K, mg, base, N_is_integer, defScope s_is_integer, 0, true⟩ (defBody s_is_integer) T_is_integer := (dss_one (ds_ret (de_and (de_isI (de_var 0) B.n_isinstance B.n_int (by decide +kernel) (by decide +kernel)) (de_one (de_not (de_isI (de_var 0) B.n_isinstance B.n_bool (by decide +kernel) (by decide +kernel)))))))
theorem ok_is_integer (A : Fds K) (B : Gm K mg) : FnG P w K mg base lv_is_integer (He.ga K "is_integer") A.fd_is_integer ["value"] (Lift K 1 sp_is_integer) := lift_mono (fn_body A.F_is_integer sc_is_integer (w_is_integer A B)) m_is_integer
/-! ### is_named_number -/
abbrev lv_is_named_number : Nat := 2
def T_is_named_number : TSD := (dRet (dAndE (dFn sp_is_list (dCons (dVar 0) dNil)) (dAndE (dBin eqD (dCall lenD (dCons (dVar 0) dNil)) (dLit (.int 2))) (dAndE (dFn sp_is_name (dCons (dBin ixD (dVar 0) (dLit (.int 0))) dNil)) (dFn sp_is_integer (dCons (dBin ixD (dVar 0) (dLit (.int 1))) dNil))))))
section
/-- the pairs that name a number -/
def namedD : PyData → Option (Str × Int)
  | .list [.str x, .int i] => if nmD x = true then some (x, i) else none
  | .tuple [.str x, .int i] => if nmD x = true then some (x, i) else none
  | _ => none
def shortD : PyData → Prop
  | .list xs => ∀ z, PyData.str z ∈ xs → z.length ≤ 1000
  | .tuple xs => ∀ z, PyData.str z ∈ xs → z.length ≤ 1000
  | _ => True
def sp_is_named_number : DSp := fun ds n Q => ∃ v, ds = [.d v] ∧ shortD v ∧ Q (.d (.bool (namedD v).isSome)) n
theorem len_is_named_number (ds : List DV) (n : Nat) (Q : DV → Nat → Prop) (h : sp_is_named_number ds n Q) : ds.length = 1 := by obtain ⟨v, rfl, _⟩ := h; rfl
theorem named_len {xs : List PyData} (h : xs.length ≠ 2) : namedD (.list xs) = none ∧ namedD (.tuple xs) = none := by
  match xs, h with
  | [], _ => exact ⟨rfl, rfl⟩
  | [_], _ => exact ⟨by simp [namedD], by simp [namedD]⟩
  | [_, _], h => exact absurd rfl h
  | _ :: _ :: _ :: _, _ => exact ⟨by simp [namedD], by simp [namedD]⟩
theorem named_two {a b : PyData} : (namedD (.list [a, b])).isSome = (nameV a && isIntD b) ∧ (namedD (.tuple [a, b])).isSome = (nameV a && isIntD b) := by
  cases a <;> cases b <;> simp [namedD, nameV, isIntD]
  all_goals split <;> simp_all
theorem m_is_named_number (ds : List DV) (n : Nat) (Q : DV → Nat → Prop) (h : sp_is_named_number ds n Q) : ds.length = 1 ∧ bodyD 1 T_is_named_number ds n Q := by
  obtain ⟨v, rfl, hv, h⟩ := h
  refine ⟨rfl, ?_⟩
  unfold bodyD T_is_named_number
  simp [x_var, sp_is_list]
  cases v with
  | list xs =>
    simp [kList]
    by_cases hl : xs.length = 2
    · match xs, hl with
      | [a, b], _ =>
        simp [atI, ixN, sp_is_name, sp_is_integer]
        refine ⟨fun z e => hv z (by rw [e]; simp), ?_⟩
        rw [named_two.1] at h
        by_cases hn : nameV a = true
        · simp [hn] at h ⊢; exact h
        · simp [hn] at h ⊢; exact h
    · rw [(named_len hl).1] at h
      have : ¬ ((xs.length : Int) = 2) := by omega
      simp [this]
      simpa using h
  | tuple xs =>
    simp [kList, kTup]
    by_cases hl : xs.length = 2
    · match xs, hl with
      | [a, b], _ =>
        simp [atI, ixN, sp_is_name, sp_is_integer]
        refine ⟨fun z e => hv z (by rw [e]; simp), ?_⟩
        rw [named_two.2] at h
        by_cases hn : nameV a = true
        · simp [hn] at h ⊢; exact h
        · simp [hn] at h ⊢; exact h
    · rw [(named_len hl).2] at h
      have : ¬ ((xs.length : Int) = 2) := by omega
      simp [this]
      simpa using h
  | _ => simpa [kList, kTup, namedD] using h

end
theorem w_is_named_number (A : Fds K) (B : Gm K mg) : DSs ⟨P, w, K, mg, base, N_is_named_number, defScope s_is_named_number, 1, true⟩ (defBody s_is_named_number) T_is_named_number := (dss_one (ds_ret (de_and (de_fn (k := lv_is_list) ⟨ok_is_list A B, len_is_list⟩ (show lv_is_list ≤ 1 by decide) B.g_is_list A.F_is_list.kp (bN_is_list A) (da_cons (de_var 0) da_nil)) (de_and (de_cmp (fun _ h => o_eq h) lo_cmp (de_callB (fun _ h => o_len h) lo_len B.n_len (by decide +kernel) (da_cons (de_var 0) da_nil)) de_int) (de_and (de_fn (k := lv_is_name) ⟨ok_is_name A B, len_is_name⟩ (show lv_is_name ≤ 1 by decide) B.g_is_name A.F_is_name.kp (bN_is_name A) (da_cons (de_ix (de_var 0) de_int) da_nil)) (de_one (de_fn (k := lv_is_integer) ⟨ok_is_integer A B, len_is_integer⟩ (show lv_is_integer ≤ 1 by decide) B.g_is_integer A.F_is_integer.kp (bN_is_integer A) (da_cons (de_ix (de_var 0) de_int) da_nil))))))))
theorem ok_is_named_number (A : Fds K) (B : Gm K mg) : FnG P w K mg base lv_is_named_number (He.ga K "is_named_number") A.fd_is_named_number ["value"] (Lift K 1 sp_is_named_number) := lift_mono (fn_body A.F_is_named_number sc_is_named_number (w_is_named_number A B)) m_is_named_number
/-! ### setting_of -/
abbrev lv_setting_of : Nat := 3
def T_setting_of : TSD := (dSeq (dIf (dTru (dIsI (isT "dict") (dVar 0))) (dSet 1 (dUn itemsD1 (dVar 0))) (dIf (dTru (dFn sp_is_list (dCons (dVar 0) dNil))) (dSet 1 (dVar 0)) (dRet (dLit .none))))
    (dSeq (dNewTab 2)
    (dSeq (dFor (dSeqI (dVar 1)) (gdName 3) (dSeq (dIf (dOr (dNot (dTru (dFn sp_is_named_number (dCons (dVar 3) dNil)))) (dVal (dInTab false 2 (dBin ixD (dVar 3) (dLit (.int 0)))))) (dRet (dLit .none)) dNext)
    (dPutTab 2 (dBin ixD (dVar 3) (dLit (.int 0))) (dBin ixD (dVar 3) (dLit (.int 1))))))
    (dRet (dCall tupleD (dCons (dUn sortItemsD (dVar 2)) dNil))))))
section
def pairsOfD : PyData → Option (List PyData)
  | .dict kvs => some (itemsTD kvs)
  | .list xs => some xs
  | .tuple xs => some xs
  | _ => none
abbrev hasS (ts : List (Str × Int)) (x : Str) : Bool := ts.any fun p => decide (p.1 = x)
def foldS : List PyData → List (Str × Int) → Option (List (Str × Int))
  | [], t => some t
  | p :: ps, t => match namedD p with
    | none => none
    | some (x, i) => if hasS t x = true then none else foldS ps (t ++ [(x, i)])
def pairS (p : Str × Int) : PyData := .tuple [.str p.1, .int p.2]
def settingV (ts : List (Str × Int)) : PyData := .tuple (srtD (ts.map pairS))
def settingD (v : PyData) : PyData := match pairsOfD v with
  | none => .none
  | some ps => (match foldS ps [] with
    | none => .none
    | some ts => settingV ts)
def entS (p : Str × Int) : Key × PyData := (.inr p.1, .int p.2)
theorem hasT_ent (ts : List (Str × Int)) (x : Str) : hasT (ts.map entS) (.inr x) = hasS ts x := by
  unfold hasT hasS
  rw [List.any_map]
  congr 1
  funext p
  simp [entS]
theorem items_ent (ts : List (Str × Int)) : itemsTD ((ts.map entS).map fun p => (kD p.1, p.2)) = ts.map pairS := by
  unfold itemsTD
  rw [List.map_map, List.map_map]
  rfl
theorem srtOk_pairs {ts : List (Str × Int)} (h : ts.length ≤ 1000) : srtOk (ts.map pairS) := by
  refine ⟨?_, .inl ?_, ?_, by rw [List.length_map, show sizeLine = 16777216 from rfl]; omega⟩
  · intro d hd d' hd'
    obtain ⟨p, _, rfl⟩ := List.mem_map.mp hd
    obtain ⟨q, _, rfl⟩ := List.mem_map.mp hd'
    simp [pairS, PySem.W.alike, PySem.W.alikeAll]
  · intro d hd
    obtain ⟨p, _, rfl⟩ := List.mem_map.mp hd
    exact ⟨_, _, rfl⟩
  · intro d hd
    obtain ⟨p, _, rfl⟩ := List.mem_map.mp hd
    simp [pairS, PyData.depth, PyData.depthAll]
def sp_setting_of : DSp := fun ds n Q => ∃ v, ds = [.d v] ∧ (∀ ps, pairsOfD v = some ps → ps.length ≤ 1000 ∧ ∀ p ∈ ps, shortD p) ∧ Q (.d (settingD v)) n
theorem len_setting_of (ds : List DV) (n : Nat) (Q : DV → Nat → Prop) (h : sp_setting_of ds n Q) : ds.length = 1 := by obtain ⟨v, rfl, _⟩ := h; rfl
theorem named_some {p : PyData} {x : Str} {i : Int} (h : namedD p = some (x, i)) : p = .list [.str x, .int i] ∨ p = .tuple [.str x, .int i] := by
  match p, h with
  | .list [.str y, .int j], h =>
    simp only [namedD] at h
    split at h
    · cases h; exact .inl rfl
    · cases h
  | .tuple [.str y, .int j], h =>
    simp only [namedD] at h
    split at h
    · cases h; exact .inr rfl
    · cases h
theorem setting_end {v pl : PyData} {x : Option DV} {ts : List (Str × Int)} {n : Nat} {Q : DV → Nat → Prop} (hl : ts.length ≤ 1000) (h : Q (.d (settingV ts)) n) :
    (dCall tupleD (dCons (dUn sortItemsD (dVar 2)) dNil)) ⟨[some (.d v), some (.d pl), some (.tab (ts.map entS)), x], n, none⟩ fun x s1 => Q x s1.n := by
  simp only [x_call, x_cons, x_un, x_var, List.getElem?_cons_succ, List.getElem?_cons_zero, x_varTab, x_isD, x_sortItems, items_ent, x_nil, x_are1, x_are0, x_tupleL]
  exact ⟨srtOk_pairs hl, fun p hp => by
    obtain ⟨q, hq, rfl⟩ := List.mem_map.mp hp
    obtain ⟨r, hr, rfl⟩ := List.mem_map.mp hq
    rfl, h⟩
theorem m_setting_of (ds : List DV) (n : Nat) (Q : DV → Nat → Prop) (h : sp_setting_of ds n Q) : ds.length = 1 ∧ bodyD 4 T_setting_of ds n Q := by
  obtain ⟨v, rfl, hv, h⟩ := h
  refine ⟨rfl, ?_⟩
  unfold bodyD T_setting_of
  have go : ∀ (ps : List PyData) (pl : PyData), pairsOfD v = some ps → ∀ (b : TSD) (D : DEnds) (x : Option DV), D.rt = Q →
      (∀ s, D.nx s = ((dCall tupleD (dCons (dUn sortItemsD (dVar 2)) dNil)) s fun x s1 => Q x s1.n)) → (∀ s, D.nx s ↔ D.nx s) →
      b = dSeq (dIf (dOr (dNot (dTru (dFn sp_is_named_number (dCons (dVar 3) dNil)))) (dVal (dInTab false 2 (dBin ixD (dVar 3) (dLit (.int 0)))))) (dRet (dLit .none)) dNext) (dPutTab 2 (dBin ixD (dVar 3) (dLit (.int 0))) (dBin ixD (dVar 3) (dLit (.int 1)))) →
      dForGo (gdName 3) b ps D ⟨[some (.d v), some (.d pl), some (.tab []), x], n, none⟩ := by
    intro ps pl hp b D x hrt hnx _ hb
    subst hb
    obtain ⟨hl, hs⟩ := hv ps hp
    have hq : settingD v = (match foldS ps [] with
      | none => .none
      | some ts => settingV ts) := by unfold settingD; rw [hp]
    rw [hq] at h
    refine for_inv (fun rest s => ∃ (ts : List (Str × Int)) (x : Option DV), s = ⟨[some (.d v), some (.d pl), some (.tab (ts.map entS)), x], n, none⟩ ∧ (∀ p ∈ rest, shortD p) ∧ foldS rest ts = foldS ps [] ∧ ts.length + rest.length ≤ 1000) ?_ ?_ ps _ ⟨[], x, rfl, hs, rfl, by simpa using hl⟩
    · rintro d ds s ⟨ts, x, rfl, h1, h2, h3⟩ K hK
      simp only [List.length_cons] at h3
      simp [x_var, sp_is_named_number]
      refine ⟨h1 d (List.mem_cons_self ..), ?_⟩
      simp only [foldS] at h2
      cases e : namedD d with
      | none =>
        rw [e] at h2
        simp
        rw [hrt]
        rw [← h2] at h
        exact h
      | some xi =>
        obtain ⟨y, i⟩ := xi
        rw [e] at h2
        simp
        have hd : ∀ Q : PyData → Prop, ixD d (.int 0) Q ↔ Q (.str y) := by
          intro Q
          rcases named_some e with rfl | rfl <;> simp [atI, ixN]
        have hd1 : ∀ Q : PyData → Prop, ixD d (.int 1) Q ↔ Q (.int i) := by
          intro Q
          rcases named_some e with rfl | rfl <;> simp [atI, ixN]
        rw [hd]
        dsimp only at h2
        simp
        by_cases hh : hasS ts y = true
        · rw [if_pos hh] at h2
          rw [← h2] at h
          rw [if_pos (by exact (hasT_ent ts y).trans hh), hrt]
          exact h
        · rw [if_neg hh] at h2
          rw [if_neg (by intro z; exact hh ((hasT_ent ts y).symm.trans z)), hd1, hd]
          simp
          refine ⟨by rw [show sizeLine = 16777216 from rfl]; omega, hK _ ⟨ts ++ [(y, i)], some (.d d), ?_, fun p hp => h1 p (List.mem_cons_of_mem _ hp), h2, by simp; omega⟩⟩
          rw [putT_new (by have := hasT_ent ts y; rw [this]; exact Bool.eq_false_iff.mpr hh)]
          simp [entS]
    · rintro s ⟨ts, x, rfl, h1, h2, h3⟩
      simp only [foldS] at h2
      rw [← h2] at h
      rw [hnx]
      exact setting_end (by simpa using h3) h
  have none_ : pairsOfD v = none → Q (.d .none) n := fun e => by
    unfold settingD at h
    rw [e] at h
    exact h
  cases v with
  | dict kvs =>
    simp [x_var, kDict]
    exact go _ _ rfl _ _ _ rfl (fun s => rfl) (fun _ => Iff.rfl) rfl
  | list xs =>
    simp [x_var, kDict, sp_is_list, kList]
    exact go _ _ rfl _ _ _ rfl (fun s => rfl) (fun _ => Iff.rfl) rfl
  | tuple xs =>
    simp [x_var, kDict, sp_is_list, kList, kTup]
    exact go _ _ rfl _ _ _ rfl (fun s => rfl) (fun _ => Iff.rfl) rfl
  | _ => simpa [x_var, kDict, sp_is_list, kList, kTup] using none_ rfl

end
theorem w_setting_of (A : Fds K) (B : Gm K mg) : DSs ⟨P, w, K, mg, base, N_setting_of, defScope s_setting_of, 2, true⟩ (defBody s_setting_of) T_setting_of := (dss_cons (ds_if (dt_tru (de_isI (de_var 0) B.n_isinstance B.n_dict (by decide +kernel) (by decide +kernel))) (dss_one (ds_set (i := 1) sc_setting_of.nd rfl (Or.inl rfl) (de_listItems (de_var 0) B.n_list))) (dss_one (ds_if (dt_tru (de_fn (k := lv_is_list) ⟨ok_is_list A B, len_is_list⟩ (show lv_is_list ≤ 2 by decide) B.g_is_list A.F_is_list.kp (bN_is_list A) (da_cons (de_var 0) da_nil))) (dss_one (ds_set (i := 1) sc_setting_of.nd rfl (Or.inl rfl) (de_var 0))) (dss_one (ds_ret de_non)))))
    (dss_cons (ds_newTab (i := 2) sc_setting_of.nd rfl (Or.inl rfl))
    (dss_cons (ds_for (di_seq (de_var 1)) (dg_name (i := 3) sc_setting_of.nd rfl (Or.inl rfl)) (dss_cons (ds_if (dw_or (dt_not (dt_tru (de_fn (k := lv_is_named_number) ⟨ok_is_named_number A B, len_is_named_number⟩ (show lv_is_named_number ≤ 2 by decide) B.g_is_named_number A.F_is_named_number.kp (bN_is_named_number A) (da_cons (de_var 3) da_nil)))) (dw_or1 (dt_inTab rfl (Or.inl rfl) (de_ix (de_var 3) de_int)))).dt (dss_one (ds_ret de_non)) dss_nil)
    (dss_one (ds_putTab (i := 2) rfl (Or.inl rfl) (de_ix (de_var 3) de_int) (de_ix (de_var 3) de_int)))))
    (dss_one (ds_ret (de_callTy (fun _ h => o_tuple h) lo_tuple B.n_tuple (by decide +kernel) (da_cons (de_sortItems (de_var 2) B.n_sorted) da_nil)))))))
theorem ok_setting_of (A : Fds K) (B : Gm K mg) : FnG P w K mg base lv_setting_of (He.ga K "setting_of") A.fd_setting_of ["value"] (Lift K 1 sp_setting_of) := lift_mono (fn_body A.F_setting_of sc_setting_of (w_setting_of A B)) m_setting_of
/-! ### law_setting_right -/
abbrev lv_law_setting_right : Nat := 4
def T_law_setting_right_10 : TSD := (dRet (dAndE (dBin eqD (dCall reprD (dCons (dFnK sp_setting_of [0] 0 (["value"] : List Str).length dNil (dCons (dVar 6) dNil)) dNil)) (dCall reprD (dCons (dVar 4) dNil))) (dBin eqD (dCall reprD (dCons (dVar 6) dNil)) (dVar 8))))
def T_law_setting_right_9 : TSD := dSeq (dSet 8 (dCall reprD (dCons (dVar 6) dNil))) T_law_setting_right_10
def T_law_setting_right_8 : TSD := dSeq (dIf (dVal (dBin eqD (dVar 5) (dLit (.int 4)))) (dPar 6 4 (dCons (dFn sp_law_one (dCons (dVar 0) (dCons (dLst (dCons (dLit .none) (dCons (dLit (.int 5)) (dCons (dLit (.str "x")) (dCons (dLit (.bool true)) (dCons (dDict (((dLit (.str "x")), (dLit (.bool true))) :: [])) (dCons (dDict (((dLit (.str "all")), (dLit (.int 1))) :: [])) (dCons (dDict (((dLit (.int 1)), (dLit (.int 1))) :: [])) (dCons (dDict (((dLit (.str "x")), (dLit (.str "1"))) :: [])) dNil))))))))) dNil))) (dCons (dLit .none) dNil))) dNext) T_law_setting_right_9
def T_law_setting_right_7 : TSD := dSeq (dIf (dVal (dBin eqD (dVar 5) (dLit (.int 3)))) (dPar 6 4 (dCons (dBin addD (dVar 6) (dLst (dCons (dFn sp_law_one (dCons (dVar 0) (dCons (dLst (dCons (dTup (dCons (dLit (.str "X")) (dCons (dLit (.int 1)) dNil))) (dCons (dTup (dCons (dLit (.str "some")) (dCons (dLit (.int 1)) dNil))) (dCons (dTup (dCons (dLit (.str "x")) dNil)) (dCons (dTup (dCons (dLit (.str "q")) (dCons (dLit (.int 1)) (dCons (dLit (.int 2)) dNil)))) (dCons (dLit .none) (dCons (dLit (.str "x1")) (dCons (dTup (dCons (dLit (.str "")) (dCons (dLit (.int 0)) dNil))) (dCons (dTup (dCons (dLit (.int 5)) (dCons (dLit (.int 5)) dNil))) dNil))))))))) dNil))) dNil))) (dCons (dLit .none) dNil))) dNext) T_law_setting_right_8
def T_law_setting_right_6 : TSD := dSeq (dIf (dAnd (dVal (dBin eqD (dVar 5) (dLit (.int 2)))) (dVal (dBin neD (dVar 2) (dLst dNil)))) (dPar 6 4 (dCons (dBin addD (dSlice (dVar 6) (dPart (dLit (.int 1))) dNoPart) (dLst (dCons (dTup (dCons (dBin ixD (dBin ixD (dVar 2) (dUn negD (dLit (.int 1)))) (dLit (.int 0))) (dCons (dFn sp_law_one (dCons (dVar 0) (dCons (dLst (dCons (dLit (.bool true)) (dCons (dLit .none) (dCons (dLit (.str "1")) (dCons (dLst (dCons (dLit (.int 1)) dNil)) dNil))))) dNil))) dNil))) dNil))) (dCons (dLit .none) dNil))) dNext) T_law_setting_right_7
def T_law_setting_right_5 : TSD := dSeq (dIf (dAnd (dVal (dBin eqD (dVar 5) (dLit (.int 1)))) (dVal (dBin neD (dVar 2) (dLst dNil)))) (dPar 6 4 (dCons (dBin addD (dVar 6) (dLst (dCons (dFn sp_law_one (dCons (dVar 0) (dCons (dLst (dCons (dBin ixD (dVar 2) (dLit (.int 0))) (dCons (dTup (dCons (dBin ixD (dBin ixD (dVar 2) (dLit (.int 0))) (dLit (.int 0))) (dCons (dLit (.int 77)) dNil))) dNil))) dNil))) dNil))) (dCons (dLit .none) dNil))) dNext) T_law_setting_right_6
def T_law_setting_right_4 : TSD := dSeq (dIf (dVal (dBin eqD (dVar 5) (dLit (.int 0)))) (dSet 6 (dCall dictOfD (dCons (dVar 2) dNil))) dNext) T_law_setting_right_5
def T_law_setting_right_3 : TSD := dSeq (dSet 6 (dComp [7] (dSeqI (dUn revD (dVar 2))) (gdName 7) dYes (dFn sp_law_one (dCons (dVar 0) (dCons (dLst (dCons (dCall listD (dCons (dVar 7) dNil)) (dCons (dVar 7) dNil))) dNil))))) T_law_setting_right_4
def T_law_setting_right_2 : TSD := dSeq (dPar 4 5 (dCons (dCall tupleD (dCons (dCall sortedD (dCons (dVar 2) dNil)) dNil)) (dCons (dFn sp_law_delve (dCons (dVar 0) (dCons (dLit (.int 9)) dNil))) dNil))) T_law_setting_right_3
def T_law_setting_right_1 : TSD := dSeq (dSet 2 (dComp [3] (dSeqI (dVar 1)) (gdName 3) dYes (dTup (dCons (dVar 3) (dCons (dFn sp_law_one (dCons (dVar 0) (dCons (dLst (dCons (dBin subD (dFn sp_law_delve (dCons (dVar 0) (dCons (dLit (.int 9)) dNil))) (dLit (.int 4))) (dCons (dBin powD (dLit (.int 10)) (dLit (.int 50))) (dCons (dUn negD (dBin powD (dLit (.int 10)) (dLit (.int 30)))) dNil)))) dNil))) dNil))))) T_law_setting_right_2
def T_law_setting_right : TSD := dSeq (dSet 1 (dFn sp_law_one (dCons (dVar 0) (dCons (dLst (dCons (dLst (dCons (dLit (.str "x")) (dCons (dLit (.str "y")) (dCons (dLit (.str "a1")) dNil)))) (dCons (dLst (dCons (dLit (.str "n")) dNil)) (dCons (dLst dNil) (dCons (dLst (dCons (dLit (.str "zz")) (dCons (dLit (.str "b")) (dCons (dLit (.str "c")) (dCons (dLit (.str "d")) dNil))))) dNil))))) dNil)))) T_law_setting_right_1
section
def Bnd (p : Str × Int) : Prop := p.1.length ≤ 8 ∧ (∀ c ∈ p.1.cps.toList, c < 16 ^ 8) ∧ p.2.natAbs < 10 ^ 51 ∧ nmD p.1 = true
def NamesOk (xs : List Str) : Prop := xs.Nodup ∧ (∀ z ∈ xs, z.length ≤ 8 ∧ (∀ c ∈ z.cps.toList, c < 16 ^ 8) ∧ nmD z = true) ∧ xs.length ≤ 4
def namesB (xs : List Str) : Bool := decide xs.Nodup && xs.all (fun z => decide (z.length ≤ 8) && z.cps.toList.all (fun c => decide (c < 16 ^ 8)) && nmD z) && decide (xs.length ≤ 4)
theorem namesB_ok {xs : List Str} (h : namesB xs = true) : NamesOk xs := by
  unfold namesB at h
  simp only [Bool.and_eq_true, decide_eq_true_eq, List.all_eq_true] at h
  exact ⟨h.1.1, fun z hz => ⟨(h.1.2 z hz).1.1, (h.1.2 z hz).1.2, (h.1.2 z hz).2⟩, h.2⟩
theorem names_drawn {x : PyData} (h : x ∈ ([.list [.str "x", .str "y", .str "a1"], .list [.str "n"], .list [], .list [.str "zz", .str "b", .str "c", .str "d"]] : List PyData)) : ∃ xs : List Str, x = .list (xs.map .str) ∧ NamesOk xs := by
  simp only [List.mem_cons, List.not_mem_nil, or_false] at h
  rcases h with rfl | rfl | rfl | rfl
  · exact ⟨["x", "y", "a1"], rfl, namesB_ok (by decide +kernel)⟩
  · exact ⟨["n"], rfl, namesB_ok (by decide +kernel)⟩
  · exact ⟨[], rfl, namesB_ok (by decide +kernel)⟩
  · exact ⟨["zz", "b", "c", "d"], rfl, namesB_ok (by decide +kernel)⟩
theorem rbS {p : Str × Int} (h : Bnd p) : RB 0 90 (.str p.1) ∧ RB 0 90 (.int p.2) :=
  ⟨(RB.str h.2.1 h.1).mono (by omega) (by omega), (RB.int (k := 51) (by decide) (by decide) h.2.2.1).mono (by omega) (by omega)⟩
theorem rbP {p : Str × Int} (h : Bnd p) : RB 1 200 (pairS p) ∧ RB 1 200 (.list [.str p.1, .int p.2]) := by
  have z : ∀ x ∈ [PyData.str p.1, .int p.2], RB 0 90 x := fun x hx => by
    simp only [List.mem_cons, List.not_mem_nil, or_false] at hx
    rcases hx with rfl | rfl
    · exact (rbS h).1
    · exact (rbS h).2
  exact ⟨(RB.tuple z (n := 2) (by simp)).mono (by omega) (by omega), (RB.list z (n := 2) (by simp)).mono (by omega) (by omega)⟩
theorem rbV {v : PyData} {p : Str × Int} (h : Bnd p) (e : namedD v = some p) : RB 1 200 v ∧ shortD v := by
  have hs : ∀ z, PyData.str z ∈ [PyData.str p.1, .int p.2] → z.length ≤ 1000 := fun z hz => by
    simp at hz
    subst hz
    have := h.1
    omega
  obtain ⟨x, i⟩ := p
  rcases named_some e with rfl | rfl
  · exact ⟨(rbP h).2, hs⟩
  · exact ⟨(rbP h).1, hs⟩
theorem foldS_named : ∀ (vs : List PyData) (us ts : List (Str × Int)) (rest : List PyData), vs.map namedD = us.map some → ((ts ++ us).map (·.1)).Nodup → foldS (vs ++ rest) ts = foldS rest (ts ++ us)
  | [], us, ts, rest, h, _ => by
    cases us with
    | nil => simp
    | cons => cases h
  | v :: vs, us, ts, rest, h, hn => by
    cases us with
    | nil => cases h
    | cons u us =>
      simp only [List.map_cons, List.cons.injEq] at h
      obtain ⟨x, i⟩ := u
      rw [List.cons_append, show foldS (v :: (vs ++ rest)) ts = (match namedD v with
        | none => none
        | some (x, i) => if hasS ts x = true then none else foldS (vs ++ rest) (ts ++ [(x, i)])) from rfl, h.1]
      have hh : hasS ts x = false := by
        cases e : hasS ts x with
        | false => rfl
        | true =>
          obtain ⟨p, hp, hx⟩ := List.any_eq_true.mp e
          simp only [decide_eq_true_eq] at hx
          rw [List.map_append, List.nodup_append] at hn
          exact absurd rfl (hn.2.2 x (by rw [← hx]; exact List.mem_map_of_mem hp) x (by simp))
      dsimp only
      rw [if_neg (by rw [hh]; exact Bool.false_ne_true), foldS_named vs us (ts ++ [(x, i)]) rest h.2 (by simpa using hn), List.append_assoc]
      rfl
/-- the value is right, and due what it is -/
structure Fin (v d : PyData) : Prop where
  eq : settingD v = d
  rv : reprOk v
  rd : reprOk d
  ps : ∀ ps, pairsOfD v = some ps → ps.length ≤ 1000 ∧ ∀ p ∈ ps, shortD p
theorem pairs_anti {ts : List (Str × Int)} (hn : (ts.map (·.1)).Nodup) : ∀ a ∈ ts.map pairS, ∀ b ∈ ts.map pairS, leD a b = true → leD b a = true → a = b := by
  intro a ha b hb h1 h2
  obtain ⟨p, hp, rfl⟩ := List.mem_map.mp ha
  obtain ⟨q, hq, rfl⟩ := List.mem_map.mp hb
  have al : ∀ i j : Int, PySem.W.alike (.int i) (.int j) = true := fun i j => by simp [PySem.W.alike]
  by_cases e : p.1 = q.1
  · rw [nodup_fst hn hp hq e]
  · unfold pairS at h1 h2
    rw [le_named e (al _ _) (al _ _)] at h1
    rw [le_named (Ne.symm e) (al _ _) (al _ _)] at h2
    exact absurd (le_str_anti h1 h2) e
theorem rb_set {ts : List (Str × Int)} (hb : ∀ p ∈ ts, Bnd p) (hl : ts.length ≤ 5) : RB 2 1100 (settingV ts) := by
  refine (RB.tuple (k := 1) (m := 200) (n := 5) (fun x hx => ?_) ?_).mono (by omega) (by omega)
  · obtain ⟨p, hp, rfl⟩ := List.mem_map.mp ((srt_perm _).mem_iff.mp hx)
    exact (rbP (hb p hp)).1
  · rw [(srt_perm _).length_eq]; simpa using hl
theorem set_rev {ts : List (Str × Int)} (hn : (ts.map (·.1)).Nodup) : settingV ts.reverse = settingV ts := by
  unfold settingV
  congr 1
  refine (srt_of_perm (xs := ts.map pairS) ?_ (pairs_anti hn)).symm
  rw [List.map_reverse]
  exact (List.reverse_perm _).symm
section
variable {ts : List (Str × Int)} {vs : List PyData} (hn : (ts.map (·.1)).Nodup) (hb : ∀ p ∈ ts, Bnd p) (hl : ts.length ≤ 4) (hv : vs.map namedD = ts.reverse.map some)
include hn hb hl hv
theorem vs_ok : ∀ v ∈ vs, RB 1 200 v ∧ shortD v := by
  intro v hv'
  have : namedD v ∈ ts.reverse.map some := by rw [← hv]; exact List.mem_map_of_mem hv'
  obtain ⟨p, hp, e⟩ := List.mem_map.mp this
  exact rbV (hb p (by simpa using hp)) e.symm
theorem vs_len : vs.length = ts.length := by
  have := congrArg List.length hv
  simpa using this
theorem fin_plain : Fin (.list vs) (settingV ts) := by
  have hlen := vs_len hn hb hl hv
  have hnr : ((ts.reverse).map (·.1)).Nodup := by rw [List.map_reverse]; exact (List.reverse_perm _).nodup_iff.mpr hn
  refine ⟨?_, (RB.list (n := 5) (fun v h => (vs_ok hn hb hl hv v h).1) (by omega)).ok (by decide) (by decide), (rb_set hb (by omega)).ok (by decide) (by decide), fun ps e => ?_⟩
  · have := foldS_named vs ts.reverse [] [] hv (by simpa using hnr)
    simp only [List.append_nil, List.nil_append] at this
    show (match foldS vs [] with | none => PyData.none | some ts => settingV ts) = _
    rw [this]
    exact set_rev hn
  · cases e
    exact ⟨by omega, fun p hp => (vs_ok hn hb hl hv p hp).2⟩
/-- one more, that is none, or stands already -/
theorem fin_more {b : PyData} (hb1 : RB 2 300 b) (hb2 : shortD b) (hb3 : namedD b = none ∨ ∃ x i, namedD b = some (x, i) ∧ hasS ts.reverse x = true) : Fin (.list (vs ++ [b])) .none := by
  have hlen := vs_len hn hb hl hv
  have hnr : ((ts.reverse).map (·.1)).Nodup := by rw [List.map_reverse]; exact (List.reverse_perm _).nodup_iff.mpr hn
  refine ⟨?_, (RB.list (k := 2) (m := 300) (n := 5) (fun v h => ?_) (by simp; omega)).ok (by decide) (by decide), RB.non.ok (by decide) (by decide), fun ps e => ?_⟩
  · have := foldS_named vs ts.reverse [] [b] hv (by simpa using hnr)
    show (match foldS (vs ++ [b]) [] with | none => PyData.none | some ts => settingV ts) = _
    rw [this, List.nil_append]
    unfold foldS
    rcases hb3 with e | ⟨x, i, e, hh⟩
    · rw [e]
    · rw [e]
      dsimp only
      rw [if_pos hh]
  · rcases List.mem_append.mp h with h | h
    · exact (vs_ok hn hb hl hv v h).1.mono (by omega) (by omega)
    · simp at h; subst h; exact hb1
  · cases e
    refine ⟨by simp; omega, fun p hp => ?_⟩
    rcases List.mem_append.mp hp with h | h
    · exact (vs_ok hn hb hl hv p h).2
    · simp at h; subst h; exact hb2
end
def sp_law_setting_right : DSp := fun ds n Q => ds = [.sat] ∧ n < 800000 ∧ ∀ n', n' ≤ n + 100 → Q (.d (.bool true)) n'
theorem len_law_setting_right (ds : List DV) (n : Nat) (Q : DV → Nat → Prop) (h : sp_law_setting_right ds n Q) : ds.length = 1 := by obtain ⟨rfl, _⟩ := h; rfl
theorem pows : ((10 : Int) ^ (50 : Int).toNat).natAbs < 10 ^ 51 ∧ (-(10 : Int) ^ (30 : Int).toNat).natAbs < 10 ^ 51 := by decide +kernel
theorem setting_tail {v d : PyData} {x1 x2 x3 x5 x7 x8 : Option DV} {y0 : DV} {n : Nat} {Q : DV → Nat → Prop} {D : DEnds} (hD : D.rt = Q) (F : Fin v d) (h : Q (.d (.bool true)) n) :
    T_law_setting_right_9 D ⟨[some y0, x1, x2, x3, some (.d d), x5, some (.d v), x7, x8], n, none⟩ := by
  (try simp only [y_seq, y_next, y_ret, y_kRet, y_set, y_kSet, y_if, y_kIf, y_drop, y_kDrop, y_break, y_cont, y_lit, y_var, y_kO, y_bin, y_kB1, y_kB2, y_un, y_kU, y_call, y_kC, y_kC2, y_are0, y_are1, y_kAre, y_tup, y_lst, y_tupN, y_lstN, y_nil, y_cons, y_kA1, y_kA2, y_fn, y_kF, y_kR, y_fnK, y_kFnK1, y_kFnK, y_val, y_kV, y_tru, y_kT, y_kTb, y_and, y_or, y_not, y_kAn, y_kOr, y_kNo, y_ifE, y_kIfE, y_andE, y_kAnE, y_orE, y_kOrE, y_notE, y_kNoE, y_isI, y_kIsI, y_chain, y_kCh, y_kCh1, y_kCh2, y_kCh3, y_comp, y_kCo, y_kL, y_comp0, y_seqI, y_kSI, y_kIt, y_rng, y_kRg, y_for, y_kFo, y_part, y_kPt, y_noPart, y_slice, y_kSl1, y_kSl2, y_kSl3, y_slL, y_slT, y_slS, y_revL, y_par, y_kPar, y_asg, y_kAsg, y_gName, y_gTup, y_gCons, y_kG1, y_yes, y_methS, y_kM1, y_kM2, y_newTab, y_newOwn, y_putTab, y_kP1, y_kP2, y_inTab, y_kIn, y_append, y_kAp, y_step, y_kSc, y_kSc1, y_kSc2, y_plNil, y_sl, y_ixL0, y_ixT0, y_ixL1, y_ixT1, y_ixLm, y_dictS, y_dictI, x_varD, x_varSat, x_varScr, x_varOwn, x_varTab, x_intD, x_cmp, x_addI, x_addS, x_addL, x_subI, x_mulI, x_divI, x_modI, x_powI, x_negI, x_intI, x_intB, x_absI, x_truB, x_truI, x_truL, x_truT, x_sat1, x_sat2, x_sat0n, x_sat0s, x_satIs, x_put1, x_put2, x_eqI, x_ltI, x_al2I, x_pl2I, x_lenL, x_lenT, x_lenS, x_ixS, x_tupleL, x_tupleT, x_listL, x_listT, x_strI, x_repr, x_sorted, x_itL, x_itT, x_itS, x_wipe0, x_wipe1, x_keyS, x_keyI, x_items, x_sortItems, x_scrCut, x_isD, x_bOf, x_gNil, isT_int, isT_bool, isT_str, isT_list, isT_tuple, isT_dict, x_al2S, x_pl2S, x_eqS, x_inS, List.getElem?_cons_zero, List.getElem?_cons_succ, List.set_cons_zero, List.set_cons_succ, List.length_cons, List.length_nil, Nat.reduceAdd, Nat.reduceSub, Nat.reduceLT, Nat.reduceLeDiff, Nat.lt_add_one, Nat.zero_add, List.map_cons, List.map_nil, List.append_nil, List.cons_append, List.nil_append, List.reduceReplicate, List.replicate_zero, List.replicate_succ, reduceIte, if_true, if_false, true_and, and_true, Bool.not_true, Bool.not_false, Bool.false_eq_true, Nat.zero_lt_succ, Nat.add_lt_add_iff_right, Int.reduceEq, decide_true, decide_false, Int.reduceNeg, Int.reduceSub, Int.reduceAdd, x_eqvNil, x_pl2Nil, y_plNil, Bool.not_eq_true', List.isEmpty_nil, List.isEmpty_cons, T_law_setting_right_9, T_law_setting_right_10])
  refine ⟨F.rv, v, rfl, F.ps, ?_⟩
  (try simp only [y_seq, y_next, y_ret, y_kRet, y_set, y_kSet, y_if, y_kIf, y_drop, y_kDrop, y_break, y_cont, y_lit, y_var, y_kO, y_bin, y_kB1, y_kB2, y_un, y_kU, y_call, y_kC, y_kC2, y_are0, y_are1, y_kAre, y_tup, y_lst, y_tupN, y_lstN, y_nil, y_cons, y_kA1, y_kA2, y_fn, y_kF, y_kR, y_fnK, y_kFnK1, y_kFnK, y_val, y_kV, y_tru, y_kT, y_kTb, y_and, y_or, y_not, y_kAn, y_kOr, y_kNo, y_ifE, y_kIfE, y_andE, y_kAnE, y_orE, y_kOrE, y_notE, y_kNoE, y_isI, y_kIsI, y_chain, y_kCh, y_kCh1, y_kCh2, y_kCh3, y_comp, y_kCo, y_kL, y_comp0, y_seqI, y_kSI, y_kIt, y_rng, y_kRg, y_for, y_kFo, y_part, y_kPt, y_noPart, y_slice, y_kSl1, y_kSl2, y_kSl3, y_slL, y_slT, y_slS, y_revL, y_par, y_kPar, y_asg, y_kAsg, y_gName, y_gTup, y_gCons, y_kG1, y_yes, y_methS, y_kM1, y_kM2, y_newTab, y_newOwn, y_putTab, y_kP1, y_kP2, y_inTab, y_kIn, y_append, y_kAp, y_step, y_kSc, y_kSc1, y_kSc2, y_plNil, y_sl, y_ixL0, y_ixT0, y_ixL1, y_ixT1, y_ixLm, y_dictS, y_dictI, x_varD, x_varSat, x_varScr, x_varOwn, x_varTab, x_intD, x_cmp, x_addI, x_addS, x_addL, x_subI, x_mulI, x_divI, x_modI, x_powI, x_negI, x_intI, x_intB, x_absI, x_truB, x_truI, x_truL, x_truT, x_sat1, x_sat2, x_sat0n, x_sat0s, x_satIs, x_put1, x_put2, x_eqI, x_ltI, x_al2I, x_pl2I, x_lenL, x_lenT, x_lenS, x_ixS, x_tupleL, x_tupleT, x_listL, x_listT, x_strI, x_repr, x_sorted, x_itL, x_itT, x_itS, x_wipe0, x_wipe1, x_keyS, x_keyI, x_items, x_sortItems, x_scrCut, x_isD, x_bOf, x_gNil, isT_int, isT_bool, isT_str, isT_list, isT_tuple, isT_dict, x_al2S, x_pl2S, x_eqS, x_inS, List.getElem?_cons_zero, List.getElem?_cons_succ, List.set_cons_zero, List.set_cons_succ, List.length_cons, List.length_nil, Nat.reduceAdd, Nat.reduceSub, Nat.reduceLT, Nat.reduceLeDiff, Nat.lt_add_one, Nat.zero_add, List.map_cons, List.map_nil, List.append_nil, List.cons_append, List.nil_append, List.reduceReplicate, List.replicate_zero, List.replicate_succ, reduceIte, if_true, if_false, true_and, and_true, Bool.not_true, Bool.not_false, Bool.false_eq_true, Nat.zero_lt_succ, Nat.add_lt_add_iff_right, Int.reduceEq, decide_true, decide_false, Int.reduceNeg, Int.reduceSub, Int.reduceAdd, x_eqvNil, x_pl2Nil, y_plNil, Bool.not_eq_true', List.isEmpty_nil, List.isEmpty_cons])
  refine ⟨by rw [F.eq]; exact F.rd, F.rd, ?_⟩
  rw [F.eq]
  (try simp only [y_seq, y_next, y_ret, y_kRet, y_set, y_kSet, y_if, y_kIf, y_drop, y_kDrop, y_break, y_cont, y_lit, y_var, y_kO, y_bin, y_kB1, y_kB2, y_un, y_kU, y_call, y_kC, y_kC2, y_are0, y_are1, y_kAre, y_tup, y_lst, y_tupN, y_lstN, y_nil, y_cons, y_kA1, y_kA2, y_fn, y_kF, y_kR, y_fnK, y_kFnK1, y_kFnK, y_val, y_kV, y_tru, y_kT, y_kTb, y_and, y_or, y_not, y_kAn, y_kOr, y_kNo, y_ifE, y_kIfE, y_andE, y_kAnE, y_orE, y_kOrE, y_notE, y_kNoE, y_isI, y_kIsI, y_chain, y_kCh, y_kCh1, y_kCh2, y_kCh3, y_comp, y_kCo, y_kL, y_comp0, y_seqI, y_kSI, y_kIt, y_rng, y_kRg, y_for, y_kFo, y_part, y_kPt, y_noPart, y_slice, y_kSl1, y_kSl2, y_kSl3, y_slL, y_slT, y_slS, y_revL, y_par, y_kPar, y_asg, y_kAsg, y_gName, y_gTup, y_gCons, y_kG1, y_yes, y_methS, y_kM1, y_kM2, y_newTab, y_newOwn, y_putTab, y_kP1, y_kP2, y_inTab, y_kIn, y_append, y_kAp, y_step, y_kSc, y_kSc1, y_kSc2, y_plNil, y_sl, y_ixL0, y_ixT0, y_ixL1, y_ixT1, y_ixLm, y_dictS, y_dictI, x_varD, x_varSat, x_varScr, x_varOwn, x_varTab, x_intD, x_cmp, x_addI, x_addS, x_addL, x_subI, x_mulI, x_divI, x_modI, x_powI, x_negI, x_intI, x_intB, x_absI, x_truB, x_truI, x_truL, x_truT, x_sat1, x_sat2, x_sat0n, x_sat0s, x_satIs, x_put1, x_put2, x_eqI, x_ltI, x_al2I, x_pl2I, x_lenL, x_lenT, x_lenS, x_ixS, x_tupleL, x_tupleT, x_listL, x_listT, x_strI, x_repr, x_sorted, x_itL, x_itT, x_itS, x_wipe0, x_wipe1, x_keyS, x_keyI, x_items, x_sortItems, x_scrCut, x_isD, x_bOf, x_gNil, isT_int, isT_bool, isT_str, isT_list, isT_tuple, isT_dict, x_al2S, x_pl2S, x_eqS, x_inS, List.getElem?_cons_zero, List.getElem?_cons_succ, List.set_cons_zero, List.set_cons_succ, List.length_cons, List.length_nil, Nat.reduceAdd, Nat.reduceSub, Nat.reduceLT, Nat.reduceLeDiff, Nat.lt_add_one, Nat.zero_add, List.map_cons, List.map_nil, List.append_nil, List.cons_append, List.nil_append, List.reduceReplicate, List.replicate_zero, List.replicate_succ, reduceIte, if_true, if_false, true_and, and_true, Bool.not_true, Bool.not_false, Bool.false_eq_true, Nat.zero_lt_succ, Nat.add_lt_add_iff_right, Int.reduceEq, decide_true, decide_false, Int.reduceNeg, Int.reduceSub, Int.reduceAdd, x_eqvNil, x_pl2Nil, y_plNil, Bool.not_eq_true', List.isEmpty_nil, List.isEmpty_cons, decide_true, hD])
  exact ⟨F.rv, h⟩
theorem named_pair {p : Str × Int} (h : nmD p.1 = true) : namedD (pairS p) = some p := by simp [namedD, pairS, h]
theorem merge_ent : ∀ (us ts : List (Str × Int)), ((ts ++ us).map (·.1)).Nodup → mergeT (ts.map entS) (us.map entS) = (ts ++ us).map entS
  | [], ts, _ => by simp [mergeT]
  | u :: us, ts, h => by
    have hh : hasT (ts.map entS) (entS u).1 = false := by
      show hasT (ts.map entS) (.inr u.1) = false
      rw [hasT_ent]
      cases e : hasS ts u.1 with
      | false => rfl
      | true =>
        obtain ⟨p, hp, hx⟩ := List.any_eq_true.mp e
        simp only [decide_eq_true_eq] at hx
        rw [List.map_append, List.nodup_append] at h
        exact absurd rfl (h.2.2 u.1 (by rw [← hx]; exact List.mem_map_of_mem hp) u.1 (by simp))
    have ih := merge_ent us (ts ++ [u]) (by simpa using h)
    unfold mergeT at ih ⊢
    rw [List.map_cons, List.foldl_cons, putT_new hh]
    simpa using ih
theorem fin_dict {ts : List (Str × Int)} (hn : (ts.map (·.1)).Nodup) (hb : ∀ p ∈ ts, Bnd p) (hl : ts.length ≤ 4) : Fin (.dict ((ts.map entS).map fun p => (PD.kD p.1, p.2))) (settingV ts) := by
  refine ⟨?_, ?_, (rb_set hb (by omega)).ok (by decide) (by decide), fun ps e => ?_⟩
  · unfold settingD pairsOfD
    dsimp only
    rw [items_ent]
    have := foldS_named (ts.map pairS) ts [] [] (by rw [List.map_map]; exact List.map_congr_left fun p hp => named_pair (hb p hp).2.2.2) (by simpa using hn)
    simp only [List.append_nil, List.nil_append] at this
    rw [this]
    rfl
  · refine dict_ok (m := 90) (n := 5) (fun p hp => ?_) ?_ (by simp; omega) (by decide)
    · simp only [List.map_map, List.mem_map, Function.comp] at hp
      obtain ⟨q, hq, rfl⟩ := hp
      exact rbS (hb q hq)
    · simp [List.all_eq_true, entS, PD.kD, flatD]
  · simp only [pairsOfD, Option.some.injEq] at e
    rw [items_ent] at e
    subst e
    refine ⟨by simp; omega, fun p hp => ?_⟩
    obtain ⟨q, hq, rfl⟩ := List.mem_map.mp hp
    exact (rbV (hb q hq) (named_pair (hb q hq).2.2.2)).2
theorem plain_pairs (ts : List (Str × Int)) : PyData.plainAll (ts.map pairS) = true := by
  induction ts with
  | nil => rfl
  | cons p ts ih => simp_all [PyData.plainAll, PyData.plain, pairS]
theorem plain_cons {p : PyData} {ts : List PyData} : PyData.plainAll (p :: ts) = (p.plain && PyData.plainAll ts) := by rw [PyData.plainAll]
def shortB : PyData → Bool
  | .list xs => xs.all fun x => match x with | .str z => decide (z.length ≤ 1000) | _ => true
  | .tuple xs => xs.all fun x => match x with | .str z => decide (z.length ≤ 1000) | _ => true
  | _ => true
theorem shortB_ok {v : PyData} (h : shortB v = true) : shortD v := by
  cases v with
  | list xs => exact fun z hz => by simpa using List.all_eq_true.mp h _ hz
  | tuple xs => exact fun z hz => by simpa using List.all_eq_true.mp h _ hz
  | _ => trivial
def rbB (v : PyData) : Bool := v.showable && !v.hasDict && decide (v.depth ≤ 2) && decide (v.shown.length ≤ 300)
theorem rbB_ok {v : PyData} (h : rbB v = true) : RB 2 300 v := by
  unfold rbB at h
  simp only [Bool.and_eq_true, decide_eq_true_eq, Bool.not_eq_true'] at h
  exact ⟨h.1.1.1, h.1.1.2, h.1.2, h.2⟩
theorem none_right {y : PyData} (h : y ∈ ([.tuple [.str "X", .int 1], .tuple [.str "some", .int 1], .tuple [.str "x"], .tuple [.str "q", .int 1, .int 2], .none, .str "x1", .tuple [.str "", .int 0], .tuple [.int 5, .int 5]] : List PyData)) : RB 2 300 y ∧ shortD y ∧ namedD y = none := by
  have : ([.tuple [.str "X", .int 1], .tuple [.str "some", .int 1], .tuple [.str "x"], .tuple [.str "q", .int 1, .int 2], .none, .str "x1", .tuple [.str "", .int 0], .tuple [.int 5, .int 5]] : List PyData).all (fun y => rbB y && shortB y && (namedD y).isNone) = true := by decide +kernel
  have := List.all_eq_true.mp this y h
  simp only [Bool.and_eq_true, Option.isNone_iff_eq_none] at this
  exact ⟨rbB_ok this.1.1, shortB_ok this.1.2, this.2⟩
theorem bad_right {p : Str × Int} {y : PyData} (hp : Bnd p) (h : y ∈ ([.bool true, .none, .str "1", .list [.int 1]] : List PyData)) : RB 2 300 (.tuple [.str p.1, y]) ∧ shortD (.tuple [.str p.1, y]) ∧ namedD (.tuple [.str p.1, y]) = none := by
  have hb : ([.bool true, .none, .str "1", .list [.int 1]] : List PyData).all (fun y => y.showable && !y.hasDict && decide (y.depth ≤ 1) && decide (y.shown.length ≤ 100) && shortB (.tuple [y]) && !isIntD y) = true := by decide +kernel
  have := List.all_eq_true.mp hb y h
  simp only [Bool.and_eq_true, decide_eq_true_eq, Bool.not_eq_true'] at this
  obtain ⟨⟨⟨⟨⟨h1, h2⟩, h3⟩, h4⟩, h5⟩, h6⟩ := this
  refine ⟨(RB.tuple (k := 1) (m := 100) (n := 2) (fun x hx => ?_) (by simp)).mono (by omega) (by omega), fun z hz => ?_, ?_⟩
  · simp only [List.mem_cons, List.not_mem_nil, or_false] at hx
    rcases hx with rfl | rfl
    · exact (rbS hp).1.mono (by omega) (by omega)
    · exact ⟨h1, h2, h3, h4⟩
  · simp only [List.mem_cons, List.not_mem_nil, or_false] at hz
    rcases hz with e | e
    · cases e; have := hp.1; omega
    · exact shortB_ok h5 z (by simp [e])
  · cases y <;> simp_all [namedD, isIntD]
theorem no_setting {y : PyData} (h : y ∈ ([.none, .int 5, .str "x", .bool true, .dict [(.str "x", .bool true)], .dict [(.str "all", .int 1)], .dict [(.int 1, .int 1)], .dict [(.str "x", .str "1")]] : List PyData)) : Fin y .none := by
  have hd : ∀ k v : PyData, (rbB k && rbB v && flatD k && flatD v) = true → reprOk (.dict [(k, v)]) := fun k v h => by
    simp only [Bool.and_eq_true, decide_eq_true_eq] at h
    have f0 : ∀ d : PyData, rbB d = true → flatD d = true → RB 0 300 d := fun d h1 h2 => by
      have := rbB_ok h1
      refine ⟨this.sh, this.nd, ?_, this.ln⟩
      cases d <;> simp_all [flatD, PyData.depth]
    refine dict_ok (m := 300) (n := 1) (fun p hp => ?_) (by simp [h]) (by simp) (by decide)
    simp only [List.mem_singleton] at hp
    subst hp
    exact ⟨f0 _ h.1.1.1 h.1.2, f0 _ h.1.1.2 h.2⟩
  have hs : ∀ k v ps, pairsOfD (.dict [(k, v)]) = some ps → shortB (.tuple [k, v]) = true → ps.length ≤ 1000 ∧ ∀ p ∈ ps, shortD p := fun k v ps e hk => by
    cases e
    refine ⟨by simp [itemsTD], fun p hp => ?_⟩
    simp [itemsTD] at hp
    subst hp
    exact shortB_ok hk
  have n5 : reprOk .none := RB.non.ok (by decide) (by decide)
  simp only [List.mem_cons, List.not_mem_nil, or_false] at h
  rcases h with rfl | rfl | rfl | rfl | rfl | rfl | rfl | rfl
  · exact ⟨rfl, n5, n5, fun ps e => by cases e⟩
  · exact ⟨rfl, (rbB_ok (by decide +kernel)).ok (by decide) (by decide), n5, fun ps e => by cases e⟩
  · exact ⟨rfl, (rbB_ok (by decide +kernel)).ok (by decide) (by decide), n5, fun ps e => by cases e⟩
  · exact ⟨rfl, (rbB_ok (by decide +kernel)).ok (by decide) (by decide), n5, fun ps e => by cases e⟩
  · exact ⟨rfl, hd _ _ (by decide +kernel), n5, fun ps e => hs _ _ _ e (by decide +kernel)⟩
  · have h1 : nmD "all" = false := by decide +kernel
    exact ⟨by simp [settingD, pairsOfD, itemsTD, foldS, namedD, h1], hd _ _ (by decide +kernel), n5, fun ps e => hs _ _ _ e (by decide +kernel)⟩
  · exact ⟨rfl, hd _ _ (by decide +kernel), n5, fun ps e => hs _ _ _ e (by decide +kernel)⟩
  · exact ⟨rfl, hd _ _ (by decide +kernel), n5, fun ps e => hs _ _ _ e (by decide +kernel)⟩
theorem setting_ways {ts : List (Str × Int)} {vs : List PyData} {w : Int} {n : Nat} {x1 : Option DV} {Q : DV → Nat → Prop} {D : DEnds} (ho : (ts.map (·.1)).Nodup) (hb : ∀ p ∈ ts, Bnd p) (hl : ts.length ≤ 4) (hv : vs.map namedD = ts.reverse.map some) (hD : D.rt = Q)
    (w0 : 0 ≤ w) (w1 : w < 9) (hn : n < 900000) (h : ∀ n', n' ≤ n + 10 → Q (.d (.bool true)) n') :
    T_law_setting_right_4 D ⟨[some .sat, x1, some (.d (.list (ts.map pairS))), none, some (.d (settingV ts)), some (.d (.int w)), some (.d (.list vs)), none, none], n, none⟩ := by
  have hlen := vs_len ho hb hl hv
  have fine : ∀ {a : Nat}, a ≤ 100 → a ≤ sizeLine := fun ha => by rw [show sizeLine = 16777216 from rfl]; omega
  by_cases e0 : w = 0
  · subst e0
    (try simp only [y_seq, y_next, y_ret, y_kRet, y_set, y_kSet, y_if, y_kIf, y_drop, y_kDrop, y_break, y_cont, y_lit, y_var, y_kO, y_bin, y_kB1, y_kB2, y_un, y_kU, y_call, y_kC, y_kC2, y_are0, y_are1, y_kAre, y_tup, y_lst, y_tupN, y_lstN, y_nil, y_cons, y_kA1, y_kA2, y_fn, y_kF, y_kR, y_fnK, y_kFnK1, y_kFnK, y_val, y_kV, y_tru, y_kT, y_kTb, y_and, y_or, y_not, y_kAn, y_kOr, y_kNo, y_ifE, y_kIfE, y_andE, y_kAnE, y_orE, y_kOrE, y_notE, y_kNoE, y_isI, y_kIsI, y_chain, y_kCh, y_kCh1, y_kCh2, y_kCh3, y_comp, y_kCo, y_kL, y_comp0, y_seqI, y_kSI, y_kIt, y_rng, y_kRg, y_for, y_kFo, y_part, y_kPt, y_noPart, y_slice, y_kSl1, y_kSl2, y_kSl3, y_slL, y_slT, y_slS, y_revL, y_par, y_kPar, y_asg, y_kAsg, y_gName, y_gTup, y_gCons, y_kG1, y_yes, y_methS, y_kM1, y_kM2, y_newTab, y_newOwn, y_putTab, y_kP1, y_kP2, y_inTab, y_kIn, y_append, y_kAp, y_step, y_kSc, y_kSc1, y_kSc2, y_plNil, y_sl, y_ixL0, y_ixT0, y_ixL1, y_ixT1, y_ixLm, y_dictS, y_dictI, x_varD, x_varSat, x_varScr, x_varOwn, x_varTab, x_intD, x_cmp, x_addI, x_addS, x_addL, x_subI, x_mulI, x_divI, x_modI, x_powI, x_negI, x_intI, x_intB, x_absI, x_truB, x_truI, x_truL, x_truT, x_sat1, x_sat2, x_sat0n, x_sat0s, x_satIs, x_put1, x_put2, x_eqI, x_ltI, x_al2I, x_pl2I, x_lenL, x_lenT, x_lenS, x_ixS, x_tupleL, x_tupleT, x_listL, x_listT, x_strI, x_repr, x_sorted, x_itL, x_itT, x_itS, x_wipe0, x_wipe1, x_keyS, x_keyI, x_items, x_sortItems, x_scrCut, x_isD, x_bOf, x_gNil, isT_int, isT_bool, isT_str, isT_list, isT_tuple, isT_dict, x_al2S, x_pl2S, x_eqS, x_inS, List.getElem?_cons_zero, List.getElem?_cons_succ, List.set_cons_zero, List.set_cons_succ, List.length_cons, List.length_nil, Nat.reduceAdd, Nat.reduceSub, Nat.reduceLT, Nat.reduceLeDiff, Nat.lt_add_one, Nat.zero_add, List.map_cons, List.map_nil, List.append_nil, List.cons_append, List.nil_append, List.reduceReplicate, List.replicate_zero, List.replicate_succ, reduceIte, if_true, if_false, true_and, and_true, Bool.not_true, Bool.not_false, Bool.false_eq_true, Nat.zero_lt_succ, Nat.add_lt_add_iff_right, Int.reduceEq, decide_true, decide_false, Int.reduceNeg, Int.reduceSub, Int.reduceAdd, x_eqvNil, x_pl2Nil, y_plNil, Bool.not_eq_true', List.isEmpty_nil, List.isEmpty_cons, T_law_setting_right_4, T_law_setting_right_5, T_law_setting_right_6, T_law_setting_right_7, T_law_setting_right_8])
    refine ⟨ts.map entS, by rw [List.map_map]; rfl, ?_⟩
    (try simp only [y_seq, y_next, y_ret, y_kRet, y_set, y_kSet, y_if, y_kIf, y_drop, y_kDrop, y_break, y_cont, y_lit, y_var, y_kO, y_bin, y_kB1, y_kB2, y_un, y_kU, y_call, y_kC, y_kC2, y_are0, y_are1, y_kAre, y_tup, y_lst, y_tupN, y_lstN, y_nil, y_cons, y_kA1, y_kA2, y_fn, y_kF, y_kR, y_fnK, y_kFnK1, y_kFnK, y_val, y_kV, y_tru, y_kT, y_kTb, y_and, y_or, y_not, y_kAn, y_kOr, y_kNo, y_ifE, y_kIfE, y_andE, y_kAnE, y_orE, y_kOrE, y_notE, y_kNoE, y_isI, y_kIsI, y_chain, y_kCh, y_kCh1, y_kCh2, y_kCh3, y_comp, y_kCo, y_kL, y_comp0, y_seqI, y_kSI, y_kIt, y_rng, y_kRg, y_for, y_kFo, y_part, y_kPt, y_noPart, y_slice, y_kSl1, y_kSl2, y_kSl3, y_slL, y_slT, y_slS, y_revL, y_par, y_kPar, y_asg, y_kAsg, y_gName, y_gTup, y_gCons, y_kG1, y_yes, y_methS, y_kM1, y_kM2, y_newTab, y_newOwn, y_putTab, y_kP1, y_kP2, y_inTab, y_kIn, y_append, y_kAp, y_step, y_kSc, y_kSc1, y_kSc2, y_plNil, y_sl, y_ixL0, y_ixT0, y_ixL1, y_ixT1, y_ixLm, y_dictS, y_dictI, x_varD, x_varSat, x_varScr, x_varOwn, x_varTab, x_intD, x_cmp, x_addI, x_addS, x_addL, x_subI, x_mulI, x_divI, x_modI, x_powI, x_negI, x_intI, x_intB, x_absI, x_truB, x_truI, x_truL, x_truT, x_sat1, x_sat2, x_sat0n, x_sat0s, x_satIs, x_put1, x_put2, x_eqI, x_ltI, x_al2I, x_pl2I, x_lenL, x_lenT, x_lenS, x_ixS, x_tupleL, x_tupleT, x_listL, x_listT, x_strI, x_repr, x_sorted, x_itL, x_itT, x_itS, x_wipe0, x_wipe1, x_keyS, x_keyI, x_items, x_sortItems, x_scrCut, x_isD, x_bOf, x_gNil, isT_int, isT_bool, isT_str, isT_list, isT_tuple, isT_dict, x_al2S, x_pl2S, x_eqS, x_inS, List.getElem?_cons_zero, List.getElem?_cons_succ, List.set_cons_zero, List.set_cons_succ, List.length_cons, List.length_nil, Nat.reduceAdd, Nat.reduceSub, Nat.reduceLT, Nat.reduceLeDiff, Nat.lt_add_one, Nat.zero_add, List.map_cons, List.map_nil, List.append_nil, List.cons_append, List.nil_append, List.reduceReplicate, List.replicate_zero, List.replicate_succ, reduceIte, if_true, if_false, true_and, and_true, Bool.not_true, Bool.not_false, Bool.false_eq_true, Nat.zero_lt_succ, Nat.add_lt_add_iff_right, Int.reduceEq, decide_true, decide_false, Int.reduceNeg, Int.reduceSub, Int.reduceAdd, x_eqvNil, x_pl2Nil, y_plNil, Bool.not_eq_true', List.isEmpty_nil, List.isEmpty_cons, T_law_setting_right_4, T_law_setting_right_5, T_law_setting_right_6, T_law_setting_right_7, T_law_setting_right_8])
    rw [show mergeT [] (ts.map entS) = ts.map entS from merge_ent ts [] (by simpa using ho)]
    exact setting_tail hD (fin_dict ho hb hl) (h _ (by omega))
  by_cases e1 : w = 1
  · subst e1
    cases ts with
    | nil =>
      (try simp only [y_seq, y_next, y_ret, y_kRet, y_set, y_kSet, y_if, y_kIf, y_drop, y_kDrop, y_break, y_cont, y_lit, y_var, y_kO, y_bin, y_kB1, y_kB2, y_un, y_kU, y_call, y_kC, y_kC2, y_are0, y_are1, y_kAre, y_tup, y_lst, y_tupN, y_lstN, y_nil, y_cons, y_kA1, y_kA2, y_fn, y_kF, y_kR, y_fnK, y_kFnK1, y_kFnK, y_val, y_kV, y_tru, y_kT, y_kTb, y_and, y_or, y_not, y_kAn, y_kOr, y_kNo, y_ifE, y_kIfE, y_andE, y_kAnE, y_orE, y_kOrE, y_notE, y_kNoE, y_isI, y_kIsI, y_chain, y_kCh, y_kCh1, y_kCh2, y_kCh3, y_comp, y_kCo, y_kL, y_comp0, y_seqI, y_kSI, y_kIt, y_rng, y_kRg, y_for, y_kFo, y_part, y_kPt, y_noPart, y_slice, y_kSl1, y_kSl2, y_kSl3, y_slL, y_slT, y_slS, y_revL, y_par, y_kPar, y_asg, y_kAsg, y_gName, y_gTup, y_gCons, y_kG1, y_yes, y_methS, y_kM1, y_kM2, y_newTab, y_newOwn, y_putTab, y_kP1, y_kP2, y_inTab, y_kIn, y_append, y_kAp, y_step, y_kSc, y_kSc1, y_kSc2, y_plNil, y_sl, y_ixL0, y_ixT0, y_ixL1, y_ixT1, y_ixLm, y_dictS, y_dictI, x_varD, x_varSat, x_varScr, x_varOwn, x_varTab, x_intD, x_cmp, x_addI, x_addS, x_addL, x_subI, x_mulI, x_divI, x_modI, x_powI, x_negI, x_intI, x_intB, x_absI, x_truB, x_truI, x_truL, x_truT, x_sat1, x_sat2, x_sat0n, x_sat0s, x_satIs, x_put1, x_put2, x_eqI, x_ltI, x_al2I, x_pl2I, x_lenL, x_lenT, x_lenS, x_ixS, x_tupleL, x_tupleT, x_listL, x_listT, x_strI, x_repr, x_sorted, x_itL, x_itT, x_itS, x_wipe0, x_wipe1, x_keyS, x_keyI, x_items, x_sortItems, x_scrCut, x_isD, x_bOf, x_gNil, isT_int, isT_bool, isT_str, isT_list, isT_tuple, isT_dict, x_al2S, x_pl2S, x_eqS, x_inS, List.getElem?_cons_zero, List.getElem?_cons_succ, List.set_cons_zero, List.set_cons_succ, List.length_cons, List.length_nil, Nat.reduceAdd, Nat.reduceSub, Nat.reduceLT, Nat.reduceLeDiff, Nat.lt_add_one, Nat.zero_add, List.map_cons, List.map_nil, List.append_nil, List.cons_append, List.nil_append, List.reduceReplicate, List.replicate_zero, List.replicate_succ, reduceIte, if_true, if_false, true_and, and_true, Bool.not_true, Bool.not_false, Bool.false_eq_true, Nat.zero_lt_succ, Nat.add_lt_add_iff_right, Int.reduceEq, decide_true, decide_false, Int.reduceNeg, Int.reduceSub, Int.reduceAdd, x_eqvNil, x_pl2Nil, y_plNil, Bool.not_eq_true', List.isEmpty_nil, List.isEmpty_cons, T_law_setting_right_4, T_law_setting_right_5, T_law_setting_right_6, T_law_setting_right_7, T_law_setting_right_8])
      exact setting_tail hD (fin_plain ho hb hl hv) (h _ (by omega))
    | cons p ts =>
      (try simp only [y_seq, y_next, y_ret, y_kRet, y_set, y_kSet, y_if, y_kIf, y_drop, y_kDrop, y_break, y_cont, y_lit, y_var, y_kO, y_bin, y_kB1, y_kB2, y_un, y_kU, y_call, y_kC, y_kC2, y_are0, y_are1, y_kAre, y_tup, y_lst, y_tupN, y_lstN, y_nil, y_cons, y_kA1, y_kA2, y_fn, y_kF, y_kR, y_fnK, y_kFnK1, y_kFnK, y_val, y_kV, y_tru, y_kT, y_kTb, y_and, y_or, y_not, y_kAn, y_kOr, y_kNo, y_ifE, y_kIfE, y_andE, y_kAnE, y_orE, y_kOrE, y_notE, y_kNoE, y_isI, y_kIsI, y_chain, y_kCh, y_kCh1, y_kCh2, y_kCh3, y_comp, y_kCo, y_kL, y_comp0, y_seqI, y_kSI, y_kIt, y_rng, y_kRg, y_for, y_kFo, y_part, y_kPt, y_noPart, y_slice, y_kSl1, y_kSl2, y_kSl3, y_slL, y_slT, y_slS, y_revL, y_par, y_kPar, y_asg, y_kAsg, y_gName, y_gTup, y_gCons, y_kG1, y_yes, y_methS, y_kM1, y_kM2, y_newTab, y_newOwn, y_putTab, y_kP1, y_kP2, y_inTab, y_kIn, y_append, y_kAp, y_step, y_kSc, y_kSc1, y_kSc2, y_plNil, y_sl, y_ixL0, y_ixT0, y_ixL1, y_ixT1, y_ixLm, y_dictS, y_dictI, x_varD, x_varSat, x_varScr, x_varOwn, x_varTab, x_intD, x_cmp, x_addI, x_addS, x_addL, x_subI, x_mulI, x_divI, x_modI, x_powI, x_negI, x_intI, x_intB, x_absI, x_truB, x_truI, x_truL, x_truT, x_sat1, x_sat2, x_sat0n, x_sat0s, x_satIs, x_put1, x_put2, x_eqI, x_ltI, x_al2I, x_pl2I, x_lenL, x_lenT, x_lenS, x_ixS, x_tupleL, x_tupleT, x_listL, x_listT, x_strI, x_repr, x_sorted, x_itL, x_itT, x_itS, x_wipe0, x_wipe1, x_keyS, x_keyI, x_items, x_sortItems, x_scrCut, x_isD, x_bOf, x_gNil, isT_int, isT_bool, isT_str, isT_list, isT_tuple, isT_dict, x_al2S, x_pl2S, x_eqS, x_inS, List.getElem?_cons_zero, List.getElem?_cons_succ, List.set_cons_zero, List.set_cons_succ, List.length_cons, List.length_nil, Nat.reduceAdd, Nat.reduceSub, Nat.reduceLT, Nat.reduceLeDiff, Nat.lt_add_one, Nat.zero_add, List.map_cons, List.map_nil, List.append_nil, List.cons_append, List.nil_append, List.reduceReplicate, List.replicate_zero, List.replicate_succ, reduceIte, if_true, if_false, true_and, and_true, Bool.not_true, Bool.not_false, Bool.false_eq_true, Nat.zero_lt_succ, Nat.add_lt_add_iff_right, Int.reduceEq, decide_true, decide_false, Int.reduceNeg, Int.reduceSub, Int.reduceAdd, x_eqvNil, x_pl2Nil, y_plNil, Bool.not_eq_true', List.isEmpty_nil, List.isEmpty_cons, T_law_setting_right_4, T_law_setting_right_5, T_law_setting_right_6, T_law_setting_right_7, T_law_setting_right_8, pairS, plain_cons])
      refine ⟨by simpa [PyData.plain, PyData.plainAll] using plain_pairs ts, _, rfl, by simp, by simp, by omega, fun y hy m hm => ?_⟩
      have hp := hb p (List.mem_cons_self ..)
      obtain ⟨i, hi, ei⟩ : ∃ i : Int, i.natAbs < 10 ^ 51 ∧ namedD y = some (p.1, i) := by
        simp only [List.mem_cons, List.not_mem_nil, or_false] at hy
        rcases hy with rfl | rfl
        · exact ⟨p.2, hp.2.2.1, named_pair hp.2.2.2⟩
        · exact ⟨77, by omega, by simp [namedD, hp.2.2.2]⟩
      have hi' : Bnd (p.1, i) := ⟨hp.1, hp.2.1, hi, hp.2.2.2⟩
      (try simp only [y_seq, y_next, y_ret, y_kRet, y_set, y_kSet, y_if, y_kIf, y_drop, y_kDrop, y_break, y_cont, y_lit, y_var, y_kO, y_bin, y_kB1, y_kB2, y_un, y_kU, y_call, y_kC, y_kC2, y_are0, y_are1, y_kAre, y_tup, y_lst, y_tupN, y_lstN, y_nil, y_cons, y_kA1, y_kA2, y_fn, y_kF, y_kR, y_fnK, y_kFnK1, y_kFnK, y_val, y_kV, y_tru, y_kT, y_kTb, y_and, y_or, y_not, y_kAn, y_kOr, y_kNo, y_ifE, y_kIfE, y_andE, y_kAnE, y_orE, y_kOrE, y_notE, y_kNoE, y_isI, y_kIsI, y_chain, y_kCh, y_kCh1, y_kCh2, y_kCh3, y_comp, y_kCo, y_kL, y_comp0, y_seqI, y_kSI, y_kIt, y_rng, y_kRg, y_for, y_kFo, y_part, y_kPt, y_noPart, y_slice, y_kSl1, y_kSl2, y_kSl3, y_slL, y_slT, y_slS, y_revL, y_par, y_kPar, y_asg, y_kAsg, y_gName, y_gTup, y_gCons, y_kG1, y_yes, y_methS, y_kM1, y_kM2, y_newTab, y_newOwn, y_putTab, y_kP1, y_kP2, y_inTab, y_kIn, y_append, y_kAp, y_step, y_kSc, y_kSc1, y_kSc2, y_plNil, y_sl, y_ixL0, y_ixT0, y_ixL1, y_ixT1, y_ixLm, y_dictS, y_dictI, x_varD, x_varSat, x_varScr, x_varOwn, x_varTab, x_intD, x_cmp, x_addI, x_addS, x_addL, x_subI, x_mulI, x_divI, x_modI, x_powI, x_negI, x_intI, x_intB, x_absI, x_truB, x_truI, x_truL, x_truT, x_sat1, x_sat2, x_sat0n, x_sat0s, x_satIs, x_put1, x_put2, x_eqI, x_ltI, x_al2I, x_pl2I, x_lenL, x_lenT, x_lenS, x_ixS, x_tupleL, x_tupleT, x_listL, x_listT, x_strI, x_repr, x_sorted, x_itL, x_itT, x_itS, x_wipe0, x_wipe1, x_keyS, x_keyI, x_items, x_sortItems, x_scrCut, x_isD, x_bOf, x_gNil, isT_int, isT_bool, isT_str, isT_list, isT_tuple, isT_dict, x_al2S, x_pl2S, x_eqS, x_inS, List.getElem?_cons_zero, List.getElem?_cons_succ, List.set_cons_zero, List.set_cons_succ, List.length_cons, List.length_nil, Nat.reduceAdd, Nat.reduceSub, Nat.reduceLT, Nat.reduceLeDiff, Nat.lt_add_one, Nat.zero_add, List.map_cons, List.map_nil, List.append_nil, List.cons_append, List.nil_append, List.reduceReplicate, List.replicate_zero, List.replicate_succ, reduceIte, if_true, if_false, true_and, and_true, Bool.not_true, Bool.not_false, Bool.false_eq_true, Nat.zero_lt_succ, Nat.add_lt_add_iff_right, Int.reduceEq, decide_true, decide_false, Int.reduceNeg, Int.reduceSub, Int.reduceAdd, x_eqvNil, x_pl2Nil, y_plNil, Bool.not_eq_true', List.isEmpty_nil, List.isEmpty_cons, T_law_setting_right_4, T_law_setting_right_5, T_law_setting_right_6, T_law_setting_right_7, T_law_setting_right_8])
      refine ⟨by simp at *; omega, ?_⟩
      (try simp only [y_seq, y_next, y_ret, y_kRet, y_set, y_kSet, y_if, y_kIf, y_drop, y_kDrop, y_break, y_cont, y_lit, y_var, y_kO, y_bin, y_kB1, y_kB2, y_un, y_kU, y_call, y_kC, y_kC2, y_are0, y_are1, y_kAre, y_tup, y_lst, y_tupN, y_lstN, y_nil, y_cons, y_kA1, y_kA2, y_fn, y_kF, y_kR, y_fnK, y_kFnK1, y_kFnK, y_val, y_kV, y_tru, y_kT, y_kTb, y_and, y_or, y_not, y_kAn, y_kOr, y_kNo, y_ifE, y_kIfE, y_andE, y_kAnE, y_orE, y_kOrE, y_notE, y_kNoE, y_isI, y_kIsI, y_chain, y_kCh, y_kCh1, y_kCh2, y_kCh3, y_comp, y_kCo, y_kL, y_comp0, y_seqI, y_kSI, y_kIt, y_rng, y_kRg, y_for, y_kFo, y_part, y_kPt, y_noPart, y_slice, y_kSl1, y_kSl2, y_kSl3, y_slL, y_slT, y_slS, y_revL, y_par, y_kPar, y_asg, y_kAsg, y_gName, y_gTup, y_gCons, y_kG1, y_yes, y_methS, y_kM1, y_kM2, y_newTab, y_newOwn, y_putTab, y_kP1, y_kP2, y_inTab, y_kIn, y_append, y_kAp, y_step, y_kSc, y_kSc1, y_kSc2, y_plNil, y_sl, y_ixL0, y_ixT0, y_ixL1, y_ixT1, y_ixLm, y_dictS, y_dictI, x_varD, x_varSat, x_varScr, x_varOwn, x_varTab, x_intD, x_cmp, x_addI, x_addS, x_addL, x_subI, x_mulI, x_divI, x_modI, x_powI, x_negI, x_intI, x_intB, x_absI, x_truB, x_truI, x_truL, x_truT, x_sat1, x_sat2, x_sat0n, x_sat0s, x_satIs, x_put1, x_put2, x_eqI, x_ltI, x_al2I, x_pl2I, x_lenL, x_lenT, x_lenS, x_ixS, x_tupleL, x_tupleT, x_listL, x_listT, x_strI, x_repr, x_sorted, x_itL, x_itT, x_itS, x_wipe0, x_wipe1, x_keyS, x_keyI, x_items, x_sortItems, x_scrCut, x_isD, x_bOf, x_gNil, isT_int, isT_bool, isT_str, isT_list, isT_tuple, isT_dict, x_al2S, x_pl2S, x_eqS, x_inS, List.getElem?_cons_zero, List.getElem?_cons_succ, List.set_cons_zero, List.set_cons_succ, List.length_cons, List.length_nil, Nat.reduceAdd, Nat.reduceSub, Nat.reduceLT, Nat.reduceLeDiff, Nat.lt_add_one, Nat.zero_add, List.map_cons, List.map_nil, List.append_nil, List.cons_append, List.nil_append, List.reduceReplicate, List.replicate_zero, List.replicate_succ, reduceIte, if_true, if_false, true_and, and_true, Bool.not_true, Bool.not_false, Bool.false_eq_true, Nat.zero_lt_succ, Nat.add_lt_add_iff_right, Int.reduceEq, decide_true, decide_false, Int.reduceNeg, Int.reduceSub, Int.reduceAdd, x_eqvNil, x_pl2Nil, y_plNil, Bool.not_eq_true', List.isEmpty_nil, List.isEmpty_cons, T_law_setting_right_4, T_law_setting_right_5, T_law_setting_right_6, T_law_setting_right_7, T_law_setting_right_8])
      exact setting_tail hD (fin_more ho hb hl hv ((rbV hi' ei).1.mono (by omega) (by omega)) (rbV hi' ei).2 (.inr ⟨_, _, ei, List.any_eq_true.mpr ⟨p, by simp, by simp⟩⟩)) (h _ (by omega))
  by_cases e2 : w = 2
  · subst e2
    rcases List.eq_nil_or_concat ts with rfl | ⟨ts, p, rfl⟩
    · (try simp only [y_seq, y_next, y_ret, y_kRet, y_set, y_kSet, y_if, y_kIf, y_drop, y_kDrop, y_break, y_cont, y_lit, y_var, y_kO, y_bin, y_kB1, y_kB2, y_un, y_kU, y_call, y_kC, y_kC2, y_are0, y_are1, y_kAre, y_tup, y_lst, y_tupN, y_lstN, y_nil, y_cons, y_kA1, y_kA2, y_fn, y_kF, y_kR, y_fnK, y_kFnK1, y_kFnK, y_val, y_kV, y_tru, y_kT, y_kTb, y_and, y_or, y_not, y_kAn, y_kOr, y_kNo, y_ifE, y_kIfE, y_andE, y_kAnE, y_orE, y_kOrE, y_notE, y_kNoE, y_isI, y_kIsI, y_chain, y_kCh, y_kCh1, y_kCh2, y_kCh3, y_comp, y_kCo, y_kL, y_comp0, y_seqI, y_kSI, y_kIt, y_rng, y_kRg, y_for, y_kFo, y_part, y_kPt, y_noPart, y_slice, y_kSl1, y_kSl2, y_kSl3, y_slL, y_slT, y_slS, y_revL, y_par, y_kPar, y_asg, y_kAsg, y_gName, y_gTup, y_gCons, y_kG1, y_yes, y_methS, y_kM1, y_kM2, y_newTab, y_newOwn, y_putTab, y_kP1, y_kP2, y_inTab, y_kIn, y_append, y_kAp, y_step, y_kSc, y_kSc1, y_kSc2, y_plNil, y_sl, y_ixL0, y_ixT0, y_ixL1, y_ixT1, y_ixLm, y_dictS, y_dictI, x_varD, x_varSat, x_varScr, x_varOwn, x_varTab, x_intD, x_cmp, x_addI, x_addS, x_addL, x_subI, x_mulI, x_divI, x_modI, x_powI, x_negI, x_intI, x_intB, x_absI, x_truB, x_truI, x_truL, x_truT, x_sat1, x_sat2, x_sat0n, x_sat0s, x_satIs, x_put1, x_put2, x_eqI, x_ltI, x_al2I, x_pl2I, x_lenL, x_lenT, x_lenS, x_ixS, x_tupleL, x_tupleT, x_listL, x_listT, x_strI, x_repr, x_sorted, x_itL, x_itT, x_itS, x_wipe0, x_wipe1, x_keyS, x_keyI, x_items, x_sortItems, x_scrCut, x_isD, x_bOf, x_gNil, isT_int, isT_bool, isT_str, isT_list, isT_tuple, isT_dict, x_al2S, x_pl2S, x_eqS, x_inS, List.getElem?_cons_zero, List.getElem?_cons_succ, List.set_cons_zero, List.set_cons_succ, List.length_cons, List.length_nil, Nat.reduceAdd, Nat.reduceSub, Nat.reduceLT, Nat.reduceLeDiff, Nat.lt_add_one, Nat.zero_add, List.map_cons, List.map_nil, List.append_nil, List.cons_append, List.nil_append, List.reduceReplicate, List.replicate_zero, List.replicate_succ, reduceIte, if_true, if_false, true_and, and_true, Bool.not_true, Bool.not_false, Bool.false_eq_true, Nat.zero_lt_succ, Nat.add_lt_add_iff_right, Int.reduceEq, decide_true, decide_false, Int.reduceNeg, Int.reduceSub, Int.reduceAdd, x_eqvNil, x_pl2Nil, y_plNil, Bool.not_eq_true', List.isEmpty_nil, List.isEmpty_cons, T_law_setting_right_4, T_law_setting_right_5, T_law_setting_right_6, T_law_setting_right_7, T_law_setting_right_8])
      exact setting_tail hD (fin_plain ho hb hl hv) (h _ (by omega))
    · rw [List.concat_eq_append] at *
      have hpl : PyData.plainAll ((ts ++ [p]).map pairS) = true := plain_pairs _
      have hne : ((ts ++ [p]).map pairS).isEmpty = false := by simp
      have hlast : ∀ Q : PyData → Prop, ixD (.list ((ts ++ [p]).map pairS)) (.int (-1)) Q = Q (pairS p) := fun Q => by rw [List.map_append]; exact y_ixLm
      have hp := hb p (by simp)
      (try simp only [y_seq, y_next, y_ret, y_kRet, y_set, y_kSet, y_if, y_kIf, y_drop, y_kDrop, y_break, y_cont, y_lit, y_var, y_kO, y_bin, y_kB1, y_kB2, y_un, y_kU, y_call, y_kC, y_kC2, y_are0, y_are1, y_kAre, y_tup, y_lst, y_tupN, y_lstN, y_nil, y_cons, y_kA1, y_kA2, y_fn, y_kF, y_kR, y_fnK, y_kFnK1, y_kFnK, y_val, y_kV, y_tru, y_kT, y_kTb, y_and, y_or, y_not, y_kAn, y_kOr, y_kNo, y_ifE, y_kIfE, y_andE, y_kAnE, y_orE, y_kOrE, y_notE, y_kNoE, y_isI, y_kIsI, y_chain, y_kCh, y_kCh1, y_kCh2, y_kCh3, y_comp, y_kCo, y_kL, y_comp0, y_seqI, y_kSI, y_kIt, y_rng, y_kRg, y_for, y_kFo, y_part, y_kPt, y_noPart, y_slice, y_kSl1, y_kSl2, y_kSl3, y_slL, y_slT, y_slS, y_revL, y_par, y_kPar, y_asg, y_kAsg, y_gName, y_gTup, y_gCons, y_kG1, y_yes, y_methS, y_kM1, y_kM2, y_newTab, y_newOwn, y_putTab, y_kP1, y_kP2, y_inTab, y_kIn, y_append, y_kAp, y_step, y_kSc, y_kSc1, y_kSc2, y_plNil, y_sl, y_ixL0, y_ixT0, y_ixL1, y_ixT1, y_ixLm, y_dictS, y_dictI, x_varD, x_varSat, x_varScr, x_varOwn, x_varTab, x_intD, x_cmp, x_addI, x_addS, x_addL, x_subI, x_mulI, x_divI, x_modI, x_powI, x_negI, x_intI, x_intB, x_absI, x_truB, x_truI, x_truL, x_truT, x_sat1, x_sat2, x_sat0n, x_sat0s, x_satIs, x_put1, x_put2, x_eqI, x_ltI, x_al2I, x_pl2I, x_lenL, x_lenT, x_lenS, x_ixS, x_tupleL, x_tupleT, x_listL, x_listT, x_strI, x_repr, x_sorted, x_itL, x_itT, x_itS, x_wipe0, x_wipe1, x_keyS, x_keyI, x_items, x_sortItems, x_scrCut, x_isD, x_bOf, x_gNil, isT_int, isT_bool, isT_str, isT_list, isT_tuple, isT_dict, x_al2S, x_pl2S, x_eqS, x_inS, List.getElem?_cons_zero, List.getElem?_cons_succ, List.set_cons_zero, List.set_cons_succ, List.length_cons, List.length_nil, Nat.reduceAdd, Nat.reduceSub, Nat.reduceLT, Nat.reduceLeDiff, Nat.lt_add_one, Nat.zero_add, List.map_cons, List.map_nil, List.append_nil, List.cons_append, List.nil_append, List.reduceReplicate, List.replicate_zero, List.replicate_succ, reduceIte, if_true, if_false, true_and, and_true, Bool.not_true, Bool.not_false, Bool.false_eq_true, Nat.zero_lt_succ, Nat.add_lt_add_iff_right, Int.reduceEq, decide_true, decide_false, Int.reduceNeg, Int.reduceSub, Int.reduceAdd, x_eqvNil, x_pl2Nil, y_plNil, Bool.not_eq_true', List.isEmpty_nil, List.isEmpty_cons, T_law_setting_right_4, T_law_setting_right_5, T_law_setting_right_6, T_law_setting_right_7, T_law_setting_right_8, hpl, hne, hlast, cut_tail, pairS])
      refine ⟨_, rfl, by simp, by simp, by omega, fun y hy m hm => ?_⟩
      have hy := bad_right hp hy
      (try simp only [y_seq, y_next, y_ret, y_kRet, y_set, y_kSet, y_if, y_kIf, y_drop, y_kDrop, y_break, y_cont, y_lit, y_var, y_kO, y_bin, y_kB1, y_kB2, y_un, y_kU, y_call, y_kC, y_kC2, y_are0, y_are1, y_kAre, y_tup, y_lst, y_tupN, y_lstN, y_nil, y_cons, y_kA1, y_kA2, y_fn, y_kF, y_kR, y_fnK, y_kFnK1, y_kFnK, y_val, y_kV, y_tru, y_kT, y_kTb, y_and, y_or, y_not, y_kAn, y_kOr, y_kNo, y_ifE, y_kIfE, y_andE, y_kAnE, y_orE, y_kOrE, y_notE, y_kNoE, y_isI, y_kIsI, y_chain, y_kCh, y_kCh1, y_kCh2, y_kCh3, y_comp, y_kCo, y_kL, y_comp0, y_seqI, y_kSI, y_kIt, y_rng, y_kRg, y_for, y_kFo, y_part, y_kPt, y_noPart, y_slice, y_kSl1, y_kSl2, y_kSl3, y_slL, y_slT, y_slS, y_revL, y_par, y_kPar, y_asg, y_kAsg, y_gName, y_gTup, y_gCons, y_kG1, y_yes, y_methS, y_kM1, y_kM2, y_newTab, y_newOwn, y_putTab, y_kP1, y_kP2, y_inTab, y_kIn, y_append, y_kAp, y_step, y_kSc, y_kSc1, y_kSc2, y_plNil, y_sl, y_ixL0, y_ixT0, y_ixL1, y_ixT1, y_ixLm, y_dictS, y_dictI, x_varD, x_varSat, x_varScr, x_varOwn, x_varTab, x_intD, x_cmp, x_addI, x_addS, x_addL, x_subI, x_mulI, x_divI, x_modI, x_powI, x_negI, x_intI, x_intB, x_absI, x_truB, x_truI, x_truL, x_truT, x_sat1, x_sat2, x_sat0n, x_sat0s, x_satIs, x_put1, x_put2, x_eqI, x_ltI, x_al2I, x_pl2I, x_lenL, x_lenT, x_lenS, x_ixS, x_tupleL, x_tupleT, x_listL, x_listT, x_strI, x_repr, x_sorted, x_itL, x_itT, x_itS, x_wipe0, x_wipe1, x_keyS, x_keyI, x_items, x_sortItems, x_scrCut, x_isD, x_bOf, x_gNil, isT_int, isT_bool, isT_str, isT_list, isT_tuple, isT_dict, x_al2S, x_pl2S, x_eqS, x_inS, List.getElem?_cons_zero, List.getElem?_cons_succ, List.set_cons_zero, List.set_cons_succ, List.length_cons, List.length_nil, Nat.reduceAdd, Nat.reduceSub, Nat.reduceLT, Nat.reduceLeDiff, Nat.lt_add_one, Nat.zero_add, List.map_cons, List.map_nil, List.append_nil, List.cons_append, List.nil_append, List.reduceReplicate, List.replicate_zero, List.replicate_succ, reduceIte, if_true, if_false, true_and, and_true, Bool.not_true, Bool.not_false, Bool.false_eq_true, Nat.zero_lt_succ, Nat.add_lt_add_iff_right, Int.reduceEq, decide_true, decide_false, Int.reduceNeg, Int.reduceSub, Int.reduceAdd, x_eqvNil, x_pl2Nil, y_plNil, Bool.not_eq_true', List.isEmpty_nil, List.isEmpty_cons, T_law_setting_right_4, T_law_setting_right_5, T_law_setting_right_6, T_law_setting_right_7, T_law_setting_right_8])
      have hv2 : vs.tail.map namedD = ts.reverse.map some := by
        rw [List.map_tail, hv]; simp
      have ho2 : (ts.map (·.1)).Nodup := by
        rw [List.map_append, List.nodup_append] at ho; exact ho.1
      have hl2 : ts.length ≤ 4 := by simp at hl; omega
      have hb2 : ∀ p ∈ ts, Bnd p := fun q hq => hb q (by simp [hq])
      refine ⟨by simp at *; omega, ?_⟩
      (try simp only [y_seq, y_next, y_ret, y_kRet, y_set, y_kSet, y_if, y_kIf, y_drop, y_kDrop, y_break, y_cont, y_lit, y_var, y_kO, y_bin, y_kB1, y_kB2, y_un, y_kU, y_call, y_kC, y_kC2, y_are0, y_are1, y_kAre, y_tup, y_lst, y_tupN, y_lstN, y_nil, y_cons, y_kA1, y_kA2, y_fn, y_kF, y_kR, y_fnK, y_kFnK1, y_kFnK, y_val, y_kV, y_tru, y_kT, y_kTb, y_and, y_or, y_not, y_kAn, y_kOr, y_kNo, y_ifE, y_kIfE, y_andE, y_kAnE, y_orE, y_kOrE, y_notE, y_kNoE, y_isI, y_kIsI, y_chain, y_kCh, y_kCh1, y_kCh2, y_kCh3, y_comp, y_kCo, y_kL, y_comp0, y_seqI, y_kSI, y_kIt, y_rng, y_kRg, y_for, y_kFo, y_part, y_kPt, y_noPart, y_slice, y_kSl1, y_kSl2, y_kSl3, y_slL, y_slT, y_slS, y_revL, y_par, y_kPar, y_asg, y_kAsg, y_gName, y_gTup, y_gCons, y_kG1, y_yes, y_methS, y_kM1, y_kM2, y_newTab, y_newOwn, y_putTab, y_kP1, y_kP2, y_inTab, y_kIn, y_append, y_kAp, y_step, y_kSc, y_kSc1, y_kSc2, y_plNil, y_sl, y_ixL0, y_ixT0, y_ixL1, y_ixT1, y_ixLm, y_dictS, y_dictI, x_varD, x_varSat, x_varScr, x_varOwn, x_varTab, x_intD, x_cmp, x_addI, x_addS, x_addL, x_subI, x_mulI, x_divI, x_modI, x_powI, x_negI, x_intI, x_intB, x_absI, x_truB, x_truI, x_truL, x_truT, x_sat1, x_sat2, x_sat0n, x_sat0s, x_satIs, x_put1, x_put2, x_eqI, x_ltI, x_al2I, x_pl2I, x_lenL, x_lenT, x_lenS, x_ixS, x_tupleL, x_tupleT, x_listL, x_listT, x_strI, x_repr, x_sorted, x_itL, x_itT, x_itS, x_wipe0, x_wipe1, x_keyS, x_keyI, x_items, x_sortItems, x_scrCut, x_isD, x_bOf, x_gNil, isT_int, isT_bool, isT_str, isT_list, isT_tuple, isT_dict, x_al2S, x_pl2S, x_eqS, x_inS, List.getElem?_cons_zero, List.getElem?_cons_succ, List.set_cons_zero, List.set_cons_succ, List.length_cons, List.length_nil, Nat.reduceAdd, Nat.reduceSub, Nat.reduceLT, Nat.reduceLeDiff, Nat.lt_add_one, Nat.zero_add, List.map_cons, List.map_nil, List.append_nil, List.cons_append, List.nil_append, List.reduceReplicate, List.replicate_zero, List.replicate_succ, reduceIte, if_true, if_false, true_and, and_true, Bool.not_true, Bool.not_false, Bool.false_eq_true, Nat.zero_lt_succ, Nat.add_lt_add_iff_right, Int.reduceEq, decide_true, decide_false, Int.reduceNeg, Int.reduceSub, Int.reduceAdd, x_eqvNil, x_pl2Nil, y_plNil, Bool.not_eq_true', List.isEmpty_nil, List.isEmpty_cons, T_law_setting_right_4, T_law_setting_right_5, T_law_setting_right_6, T_law_setting_right_7, T_law_setting_right_8])
      exact setting_tail hD (fin_more ho2 hb2 hl2 hv2 hy.1 hy.2.1 (.inl hy.2.2)) (h _ (by omega))
  by_cases e3 : w = 3
  · subst e3
    (try simp only [y_seq, y_next, y_ret, y_kRet, y_set, y_kSet, y_if, y_kIf, y_drop, y_kDrop, y_break, y_cont, y_lit, y_var, y_kO, y_bin, y_kB1, y_kB2, y_un, y_kU, y_call, y_kC, y_kC2, y_are0, y_are1, y_kAre, y_tup, y_lst, y_tupN, y_lstN, y_nil, y_cons, y_kA1, y_kA2, y_fn, y_kF, y_kR, y_fnK, y_kFnK1, y_kFnK, y_val, y_kV, y_tru, y_kT, y_kTb, y_and, y_or, y_not, y_kAn, y_kOr, y_kNo, y_ifE, y_kIfE, y_andE, y_kAnE, y_orE, y_kOrE, y_notE, y_kNoE, y_isI, y_kIsI, y_chain, y_kCh, y_kCh1, y_kCh2, y_kCh3, y_comp, y_kCo, y_kL, y_comp0, y_seqI, y_kSI, y_kIt, y_rng, y_kRg, y_for, y_kFo, y_part, y_kPt, y_noPart, y_slice, y_kSl1, y_kSl2, y_kSl3, y_slL, y_slT, y_slS, y_revL, y_par, y_kPar, y_asg, y_kAsg, y_gName, y_gTup, y_gCons, y_kG1, y_yes, y_methS, y_kM1, y_kM2, y_newTab, y_newOwn, y_putTab, y_kP1, y_kP2, y_inTab, y_kIn, y_append, y_kAp, y_step, y_kSc, y_kSc1, y_kSc2, y_plNil, y_sl, y_ixL0, y_ixT0, y_ixL1, y_ixT1, y_ixLm, y_dictS, y_dictI, x_varD, x_varSat, x_varScr, x_varOwn, x_varTab, x_intD, x_cmp, x_addI, x_addS, x_addL, x_subI, x_mulI, x_divI, x_modI, x_powI, x_negI, x_intI, x_intB, x_absI, x_truB, x_truI, x_truL, x_truT, x_sat1, x_sat2, x_sat0n, x_sat0s, x_satIs, x_put1, x_put2, x_eqI, x_ltI, x_al2I, x_pl2I, x_lenL, x_lenT, x_lenS, x_ixS, x_tupleL, x_tupleT, x_listL, x_listT, x_strI, x_repr, x_sorted, x_itL, x_itT, x_itS, x_wipe0, x_wipe1, x_keyS, x_keyI, x_items, x_sortItems, x_scrCut, x_isD, x_bOf, x_gNil, isT_int, isT_bool, isT_str, isT_list, isT_tuple, isT_dict, x_al2S, x_pl2S, x_eqS, x_inS, List.getElem?_cons_zero, List.getElem?_cons_succ, List.set_cons_zero, List.set_cons_succ, List.length_cons, List.length_nil, Nat.reduceAdd, Nat.reduceSub, Nat.reduceLT, Nat.reduceLeDiff, Nat.lt_add_one, Nat.zero_add, List.map_cons, List.map_nil, List.append_nil, List.cons_append, List.nil_append, List.reduceReplicate, List.replicate_zero, List.replicate_succ, reduceIte, if_true, if_false, true_and, and_true, Bool.not_true, Bool.not_false, Bool.false_eq_true, Nat.zero_lt_succ, Nat.add_lt_add_iff_right, Int.reduceEq, decide_true, decide_false, Int.reduceNeg, Int.reduceSub, Int.reduceAdd, x_eqvNil, x_pl2Nil, y_plNil, Bool.not_eq_true', List.isEmpty_nil, List.isEmpty_cons, T_law_setting_right_4, T_law_setting_right_5, T_law_setting_right_6, T_law_setting_right_7, T_law_setting_right_8])
    refine ⟨_, rfl, by simp, by simp, by omega, fun y hy m hm => ?_⟩
    have hy := none_right hy
    (try simp only [y_seq, y_next, y_ret, y_kRet, y_set, y_kSet, y_if, y_kIf, y_drop, y_kDrop, y_break, y_cont, y_lit, y_var, y_kO, y_bin, y_kB1, y_kB2, y_un, y_kU, y_call, y_kC, y_kC2, y_are0, y_are1, y_kAre, y_tup, y_lst, y_tupN, y_lstN, y_nil, y_cons, y_kA1, y_kA2, y_fn, y_kF, y_kR, y_fnK, y_kFnK1, y_kFnK, y_val, y_kV, y_tru, y_kT, y_kTb, y_and, y_or, y_not, y_kAn, y_kOr, y_kNo, y_ifE, y_kIfE, y_andE, y_kAnE, y_orE, y_kOrE, y_notE, y_kNoE, y_isI, y_kIsI, y_chain, y_kCh, y_kCh1, y_kCh2, y_kCh3, y_comp, y_kCo, y_kL, y_comp0, y_seqI, y_kSI, y_kIt, y_rng, y_kRg, y_for, y_kFo, y_part, y_kPt, y_noPart, y_slice, y_kSl1, y_kSl2, y_kSl3, y_slL, y_slT, y_slS, y_revL, y_par, y_kPar, y_asg, y_kAsg, y_gName, y_gTup, y_gCons, y_kG1, y_yes, y_methS, y_kM1, y_kM2, y_newTab, y_newOwn, y_putTab, y_kP1, y_kP2, y_inTab, y_kIn, y_append, y_kAp, y_step, y_kSc, y_kSc1, y_kSc2, y_plNil, y_sl, y_ixL0, y_ixT0, y_ixL1, y_ixT1, y_ixLm, y_dictS, y_dictI, x_varD, x_varSat, x_varScr, x_varOwn, x_varTab, x_intD, x_cmp, x_addI, x_addS, x_addL, x_subI, x_mulI, x_divI, x_modI, x_powI, x_negI, x_intI, x_intB, x_absI, x_truB, x_truI, x_truL, x_truT, x_sat1, x_sat2, x_sat0n, x_sat0s, x_satIs, x_put1, x_put2, x_eqI, x_ltI, x_al2I, x_pl2I, x_lenL, x_lenT, x_lenS, x_ixS, x_tupleL, x_tupleT, x_listL, x_listT, x_strI, x_repr, x_sorted, x_itL, x_itT, x_itS, x_wipe0, x_wipe1, x_keyS, x_keyI, x_items, x_sortItems, x_scrCut, x_isD, x_bOf, x_gNil, isT_int, isT_bool, isT_str, isT_list, isT_tuple, isT_dict, x_al2S, x_pl2S, x_eqS, x_inS, List.getElem?_cons_zero, List.getElem?_cons_succ, List.set_cons_zero, List.set_cons_succ, List.length_cons, List.length_nil, Nat.reduceAdd, Nat.reduceSub, Nat.reduceLT, Nat.reduceLeDiff, Nat.lt_add_one, Nat.zero_add, List.map_cons, List.map_nil, List.append_nil, List.cons_append, List.nil_append, List.reduceReplicate, List.replicate_zero, List.replicate_succ, reduceIte, if_true, if_false, true_and, and_true, Bool.not_true, Bool.not_false, Bool.false_eq_true, Nat.zero_lt_succ, Nat.add_lt_add_iff_right, Int.reduceEq, decide_true, decide_false, Int.reduceNeg, Int.reduceSub, Int.reduceAdd, x_eqvNil, x_pl2Nil, y_plNil, Bool.not_eq_true', List.isEmpty_nil, List.isEmpty_cons, T_law_setting_right_4, T_law_setting_right_5, T_law_setting_right_6, T_law_setting_right_7, T_law_setting_right_8])
    refine ⟨by omega, ?_⟩
    (try simp only [y_seq, y_next, y_ret, y_kRet, y_set, y_kSet, y_if, y_kIf, y_drop, y_kDrop, y_break, y_cont, y_lit, y_var, y_kO, y_bin, y_kB1, y_kB2, y_un, y_kU, y_call, y_kC, y_kC2, y_are0, y_are1, y_kAre, y_tup, y_lst, y_tupN, y_lstN, y_nil, y_cons, y_kA1, y_kA2, y_fn, y_kF, y_kR, y_fnK, y_kFnK1, y_kFnK, y_val, y_kV, y_tru, y_kT, y_kTb, y_and, y_or, y_not, y_kAn, y_kOr, y_kNo, y_ifE, y_kIfE, y_andE, y_kAnE, y_orE, y_kOrE, y_notE, y_kNoE, y_isI, y_kIsI, y_chain, y_kCh, y_kCh1, y_kCh2, y_kCh3, y_comp, y_kCo, y_kL, y_comp0, y_seqI, y_kSI, y_kIt, y_rng, y_kRg, y_for, y_kFo, y_part, y_kPt, y_noPart, y_slice, y_kSl1, y_kSl2, y_kSl3, y_slL, y_slT, y_slS, y_revL, y_par, y_kPar, y_asg, y_kAsg, y_gName, y_gTup, y_gCons, y_kG1, y_yes, y_methS, y_kM1, y_kM2, y_newTab, y_newOwn, y_putTab, y_kP1, y_kP2, y_inTab, y_kIn, y_append, y_kAp, y_step, y_kSc, y_kSc1, y_kSc2, y_plNil, y_sl, y_ixL0, y_ixT0, y_ixL1, y_ixT1, y_ixLm, y_dictS, y_dictI, x_varD, x_varSat, x_varScr, x_varOwn, x_varTab, x_intD, x_cmp, x_addI, x_addS, x_addL, x_subI, x_mulI, x_divI, x_modI, x_powI, x_negI, x_intI, x_intB, x_absI, x_truB, x_truI, x_truL, x_truT, x_sat1, x_sat2, x_sat0n, x_sat0s, x_satIs, x_put1, x_put2, x_eqI, x_ltI, x_al2I, x_pl2I, x_lenL, x_lenT, x_lenS, x_ixS, x_tupleL, x_tupleT, x_listL, x_listT, x_strI, x_repr, x_sorted, x_itL, x_itT, x_itS, x_wipe0, x_wipe1, x_keyS, x_keyI, x_items, x_sortItems, x_scrCut, x_isD, x_bOf, x_gNil, isT_int, isT_bool, isT_str, isT_list, isT_tuple, isT_dict, x_al2S, x_pl2S, x_eqS, x_inS, List.getElem?_cons_zero, List.getElem?_cons_succ, List.set_cons_zero, List.set_cons_succ, List.length_cons, List.length_nil, Nat.reduceAdd, Nat.reduceSub, Nat.reduceLT, Nat.reduceLeDiff, Nat.lt_add_one, Nat.zero_add, List.map_cons, List.map_nil, List.append_nil, List.cons_append, List.nil_append, List.reduceReplicate, List.replicate_zero, List.replicate_succ, reduceIte, if_true, if_false, true_and, and_true, Bool.not_true, Bool.not_false, Bool.false_eq_true, Nat.zero_lt_succ, Nat.add_lt_add_iff_right, Int.reduceEq, decide_true, decide_false, Int.reduceNeg, Int.reduceSub, Int.reduceAdd, x_eqvNil, x_pl2Nil, y_plNil, Bool.not_eq_true', List.isEmpty_nil, List.isEmpty_cons, T_law_setting_right_4, T_law_setting_right_5, T_law_setting_right_6, T_law_setting_right_7, T_law_setting_right_8])
    exact setting_tail hD (fin_more ho hb hl hv hy.1 hy.2.1 (.inl hy.2.2)) (h _ (by omega))
  by_cases e4 : w = 4
  · subst e4
    (try simp only [y_seq, y_next, y_ret, y_kRet, y_set, y_kSet, y_if, y_kIf, y_drop, y_kDrop, y_break, y_cont, y_lit, y_var, y_kO, y_bin, y_kB1, y_kB2, y_un, y_kU, y_call, y_kC, y_kC2, y_are0, y_are1, y_kAre, y_tup, y_lst, y_tupN, y_lstN, y_nil, y_cons, y_kA1, y_kA2, y_fn, y_kF, y_kR, y_fnK, y_kFnK1, y_kFnK, y_val, y_kV, y_tru, y_kT, y_kTb, y_and, y_or, y_not, y_kAn, y_kOr, y_kNo, y_ifE, y_kIfE, y_andE, y_kAnE, y_orE, y_kOrE, y_notE, y_kNoE, y_isI, y_kIsI, y_chain, y_kCh, y_kCh1, y_kCh2, y_kCh3, y_comp, y_kCo, y_kL, y_comp0, y_seqI, y_kSI, y_kIt, y_rng, y_kRg, y_for, y_kFo, y_part, y_kPt, y_noPart, y_slice, y_kSl1, y_kSl2, y_kSl3, y_slL, y_slT, y_slS, y_revL, y_par, y_kPar, y_asg, y_kAsg, y_gName, y_gTup, y_gCons, y_kG1, y_yes, y_methS, y_kM1, y_kM2, y_newTab, y_newOwn, y_putTab, y_kP1, y_kP2, y_inTab, y_kIn, y_append, y_kAp, y_step, y_kSc, y_kSc1, y_kSc2, y_plNil, y_sl, y_ixL0, y_ixT0, y_ixL1, y_ixT1, y_ixLm, y_dictS, y_dictI, x_varD, x_varSat, x_varScr, x_varOwn, x_varTab, x_intD, x_cmp, x_addI, x_addS, x_addL, x_subI, x_mulI, x_divI, x_modI, x_powI, x_negI, x_intI, x_intB, x_absI, x_truB, x_truI, x_truL, x_truT, x_sat1, x_sat2, x_sat0n, x_sat0s, x_satIs, x_put1, x_put2, x_eqI, x_ltI, x_al2I, x_pl2I, x_lenL, x_lenT, x_lenS, x_ixS, x_tupleL, x_tupleT, x_listL, x_listT, x_strI, x_repr, x_sorted, x_itL, x_itT, x_itS, x_wipe0, x_wipe1, x_keyS, x_keyI, x_items, x_sortItems, x_scrCut, x_isD, x_bOf, x_gNil, isT_int, isT_bool, isT_str, isT_list, isT_tuple, isT_dict, x_al2S, x_pl2S, x_eqS, x_inS, List.getElem?_cons_zero, List.getElem?_cons_succ, List.set_cons_zero, List.set_cons_succ, List.length_cons, List.length_nil, Nat.reduceAdd, Nat.reduceSub, Nat.reduceLT, Nat.reduceLeDiff, Nat.lt_add_one, Nat.zero_add, List.map_cons, List.map_nil, List.append_nil, List.cons_append, List.nil_append, List.reduceReplicate, List.replicate_zero, List.replicate_succ, reduceIte, if_true, if_false, true_and, and_true, Bool.not_true, Bool.not_false, Bool.false_eq_true, Nat.zero_lt_succ, Nat.add_lt_add_iff_right, Int.reduceEq, decide_true, decide_false, Int.reduceNeg, Int.reduceSub, Int.reduceAdd, x_eqvNil, x_pl2Nil, y_plNil, Bool.not_eq_true', List.isEmpty_nil, List.isEmpty_cons, T_law_setting_right_4, T_law_setting_right_5, T_law_setting_right_6, T_law_setting_right_7, T_law_setting_right_8])
    refine ⟨_, rfl, by simp, by simp, by omega, fun y hy m hm => ?_⟩
    (try simp only [y_seq, y_next, y_ret, y_kRet, y_set, y_kSet, y_if, y_kIf, y_drop, y_kDrop, y_break, y_cont, y_lit, y_var, y_kO, y_bin, y_kB1, y_kB2, y_un, y_kU, y_call, y_kC, y_kC2, y_are0, y_are1, y_kAre, y_tup, y_lst, y_tupN, y_lstN, y_nil, y_cons, y_kA1, y_kA2, y_fn, y_kF, y_kR, y_fnK, y_kFnK1, y_kFnK, y_val, y_kV, y_tru, y_kT, y_kTb, y_and, y_or, y_not, y_kAn, y_kOr, y_kNo, y_ifE, y_kIfE, y_andE, y_kAnE, y_orE, y_kOrE, y_notE, y_kNoE, y_isI, y_kIsI, y_chain, y_kCh, y_kCh1, y_kCh2, y_kCh3, y_comp, y_kCo, y_kL, y_comp0, y_seqI, y_kSI, y_kIt, y_rng, y_kRg, y_for, y_kFo, y_part, y_kPt, y_noPart, y_slice, y_kSl1, y_kSl2, y_kSl3, y_slL, y_slT, y_slS, y_revL, y_par, y_kPar, y_asg, y_kAsg, y_gName, y_gTup, y_gCons, y_kG1, y_yes, y_methS, y_kM1, y_kM2, y_newTab, y_newOwn, y_putTab, y_kP1, y_kP2, y_inTab, y_kIn, y_append, y_kAp, y_step, y_kSc, y_kSc1, y_kSc2, y_plNil, y_sl, y_ixL0, y_ixT0, y_ixL1, y_ixT1, y_ixLm, y_dictS, y_dictI, x_varD, x_varSat, x_varScr, x_varOwn, x_varTab, x_intD, x_cmp, x_addI, x_addS, x_addL, x_subI, x_mulI, x_divI, x_modI, x_powI, x_negI, x_intI, x_intB, x_absI, x_truB, x_truI, x_truL, x_truT, x_sat1, x_sat2, x_sat0n, x_sat0s, x_satIs, x_put1, x_put2, x_eqI, x_ltI, x_al2I, x_pl2I, x_lenL, x_lenT, x_lenS, x_ixS, x_tupleL, x_tupleT, x_listL, x_listT, x_strI, x_repr, x_sorted, x_itL, x_itT, x_itS, x_wipe0, x_wipe1, x_keyS, x_keyI, x_items, x_sortItems, x_scrCut, x_isD, x_bOf, x_gNil, isT_int, isT_bool, isT_str, isT_list, isT_tuple, isT_dict, x_al2S, x_pl2S, x_eqS, x_inS, List.getElem?_cons_zero, List.getElem?_cons_succ, List.set_cons_zero, List.set_cons_succ, List.length_cons, List.length_nil, Nat.reduceAdd, Nat.reduceSub, Nat.reduceLT, Nat.reduceLeDiff, Nat.lt_add_one, Nat.zero_add, List.map_cons, List.map_nil, List.append_nil, List.cons_append, List.nil_append, List.reduceReplicate, List.replicate_zero, List.replicate_succ, reduceIte, if_true, if_false, true_and, and_true, Bool.not_true, Bool.not_false, Bool.false_eq_true, Nat.zero_lt_succ, Nat.add_lt_add_iff_right, Int.reduceEq, decide_true, decide_false, Int.reduceNeg, Int.reduceSub, Int.reduceAdd, x_eqvNil, x_pl2Nil, y_plNil, Bool.not_eq_true', List.isEmpty_nil, List.isEmpty_cons, T_law_setting_right_4, T_law_setting_right_5, T_law_setting_right_6, T_law_setting_right_7, T_law_setting_right_8])
    exact setting_tail hD (no_setting hy) (h _ (by omega))
  (try simp only [y_seq, y_next, y_ret, y_kRet, y_set, y_kSet, y_if, y_kIf, y_drop, y_kDrop, y_break, y_cont, y_lit, y_var, y_kO, y_bin, y_kB1, y_kB2, y_un, y_kU, y_call, y_kC, y_kC2, y_are0, y_are1, y_kAre, y_tup, y_lst, y_tupN, y_lstN, y_nil, y_cons, y_kA1, y_kA2, y_fn, y_kF, y_kR, y_fnK, y_kFnK1, y_kFnK, y_val, y_kV, y_tru, y_kT, y_kTb, y_and, y_or, y_not, y_kAn, y_kOr, y_kNo, y_ifE, y_kIfE, y_andE, y_kAnE, y_orE, y_kOrE, y_notE, y_kNoE, y_isI, y_kIsI, y_chain, y_kCh, y_kCh1, y_kCh2, y_kCh3, y_comp, y_kCo, y_kL, y_comp0, y_seqI, y_kSI, y_kIt, y_rng, y_kRg, y_for, y_kFo, y_part, y_kPt, y_noPart, y_slice, y_kSl1, y_kSl2, y_kSl3, y_slL, y_slT, y_slS, y_revL, y_par, y_kPar, y_asg, y_kAsg, y_gName, y_gTup, y_gCons, y_kG1, y_yes, y_methS, y_kM1, y_kM2, y_newTab, y_newOwn, y_putTab, y_kP1, y_kP2, y_inTab, y_kIn, y_append, y_kAp, y_step, y_kSc, y_kSc1, y_kSc2, y_plNil, y_sl, y_ixL0, y_ixT0, y_ixL1, y_ixT1, y_ixLm, y_dictS, y_dictI, x_varD, x_varSat, x_varScr, x_varOwn, x_varTab, x_intD, x_cmp, x_addI, x_addS, x_addL, x_subI, x_mulI, x_divI, x_modI, x_powI, x_negI, x_intI, x_intB, x_absI, x_truB, x_truI, x_truL, x_truT, x_sat1, x_sat2, x_sat0n, x_sat0s, x_satIs, x_put1, x_put2, x_eqI, x_ltI, x_al2I, x_pl2I, x_lenL, x_lenT, x_lenS, x_ixS, x_tupleL, x_tupleT, x_listL, x_listT, x_strI, x_repr, x_sorted, x_itL, x_itT, x_itS, x_wipe0, x_wipe1, x_keyS, x_keyI, x_items, x_sortItems, x_scrCut, x_isD, x_bOf, x_gNil, isT_int, isT_bool, isT_str, isT_list, isT_tuple, isT_dict, x_al2S, x_pl2S, x_eqS, x_inS, List.getElem?_cons_zero, List.getElem?_cons_succ, List.set_cons_zero, List.set_cons_succ, List.length_cons, List.length_nil, Nat.reduceAdd, Nat.reduceSub, Nat.reduceLT, Nat.reduceLeDiff, Nat.lt_add_one, Nat.zero_add, List.map_cons, List.map_nil, List.append_nil, List.cons_append, List.nil_append, List.reduceReplicate, List.replicate_zero, List.replicate_succ, reduceIte, if_true, if_false, true_and, and_true, Bool.not_true, Bool.not_false, Bool.false_eq_true, Nat.zero_lt_succ, Nat.add_lt_add_iff_right, Int.reduceEq, decide_true, decide_false, Int.reduceNeg, Int.reduceSub, Int.reduceAdd, x_eqvNil, x_pl2Nil, y_plNil, Bool.not_eq_true', List.isEmpty_nil, List.isEmpty_cons, T_law_setting_right_4, T_law_setting_right_5, T_law_setting_right_6, T_law_setting_right_7, T_law_setting_right_8, e0, e1, e2, e3, e4])
  exact setting_tail hD (fin_plain ho hb hl hv) (h _ (by omega))
theorem m_law_setting_right (ds : List DV) (n : Nat) (Q : DV → Nat → Prop) (h : sp_law_setting_right ds n Q) : ds.length = 1 ∧ bodyD 9 T_law_setting_right ds n Q := by
  obtain ⟨rfl, h2, h3⟩ := h
  refine ⟨rfl, ?_⟩
  unfold bodyD T_law_setting_right
  (try simp only [y_seq, y_next, y_ret, y_kRet, y_set, y_kSet, y_if, y_kIf, y_drop, y_kDrop, y_break, y_cont, y_lit, y_var, y_kO, y_bin, y_kB1, y_kB2, y_un, y_kU, y_call, y_kC, y_kC2, y_are0, y_are1, y_kAre, y_tup, y_lst, y_tupN, y_lstN, y_nil, y_cons, y_kA1, y_kA2, y_fn, y_kF, y_kR, y_fnK, y_kFnK1, y_kFnK, y_val, y_kV, y_tru, y_kT, y_kTb, y_and, y_or, y_not, y_kAn, y_kOr, y_kNo, y_ifE, y_kIfE, y_andE, y_kAnE, y_orE, y_kOrE, y_notE, y_kNoE, y_isI, y_kIsI, y_chain, y_kCh, y_kCh1, y_kCh2, y_kCh3, y_comp, y_kCo, y_kL, y_comp0, y_seqI, y_kSI, y_kIt, y_rng, y_kRg, y_for, y_kFo, y_part, y_kPt, y_noPart, y_slice, y_kSl1, y_kSl2, y_kSl3, y_slL, y_slT, y_slS, y_revL, y_par, y_kPar, y_asg, y_kAsg, y_gName, y_gTup, y_gCons, y_kG1, y_yes, y_methS, y_kM1, y_kM2, y_newTab, y_newOwn, y_putTab, y_kP1, y_kP2, y_inTab, y_kIn, y_append, y_kAp, y_step, y_kSc, y_kSc1, y_kSc2, y_plNil, y_sl, y_ixL0, y_ixT0, y_ixL1, y_ixT1, y_ixLm, y_dictS, y_dictI, x_varD, x_varSat, x_varScr, x_varOwn, x_varTab, x_intD, x_cmp, x_addI, x_addS, x_addL, x_subI, x_mulI, x_divI, x_modI, x_powI, x_negI, x_intI, x_intB, x_absI, x_truB, x_truI, x_truL, x_truT, x_sat1, x_sat2, x_sat0n, x_sat0s, x_satIs, x_put1, x_put2, x_eqI, x_ltI, x_al2I, x_pl2I, x_lenL, x_lenT, x_lenS, x_ixS, x_tupleL, x_tupleT, x_listL, x_listT, x_strI, x_repr, x_sorted, x_itL, x_itT, x_itS, x_wipe0, x_wipe1, x_keyS, x_keyI, x_items, x_sortItems, x_scrCut, x_isD, x_bOf, x_gNil, isT_int, isT_bool, isT_str, isT_list, isT_tuple, isT_dict, x_al2S, x_pl2S, x_eqS, x_inS, List.getElem?_cons_zero, List.getElem?_cons_succ, List.set_cons_zero, List.set_cons_succ, List.length_cons, List.length_nil, Nat.reduceAdd, Nat.reduceSub, Nat.reduceLT, Nat.reduceLeDiff, Nat.lt_add_one, Nat.zero_add, List.map_cons, List.map_nil, List.append_nil, List.cons_append, List.nil_append, List.reduceReplicate, List.replicate_zero, List.replicate_succ, reduceIte, if_true, if_false, true_and, and_true, Bool.not_true, Bool.not_false, Bool.false_eq_true, Nat.zero_lt_succ, Nat.add_lt_add_iff_right, Int.reduceEq, decide_true, decide_false, Int.reduceNeg, Int.reduceSub, Int.reduceAdd, x_eqvNil, x_pl2Nil, y_plNil, Bool.not_eq_true', List.isEmpty_nil, List.isEmpty_cons])
  refine ⟨_, rfl, by simp, by simp, by omega, fun x hx n1 hn1 => ?_⟩
  obtain ⟨xs, rfl, ho⟩ := names_drawn hx
  (try simp only [y_seq, y_next, y_ret, y_kRet, y_set, y_kSet, y_if, y_kIf, y_drop, y_kDrop, y_break, y_cont, y_lit, y_var, y_kO, y_bin, y_kB1, y_kB2, y_un, y_kU, y_call, y_kC, y_kC2, y_are0, y_are1, y_kAre, y_tup, y_lst, y_tupN, y_lstN, y_nil, y_cons, y_kA1, y_kA2, y_fn, y_kF, y_kR, y_fnK, y_kFnK1, y_kFnK, y_val, y_kV, y_tru, y_kT, y_kTb, y_and, y_or, y_not, y_kAn, y_kOr, y_kNo, y_ifE, y_kIfE, y_andE, y_kAnE, y_orE, y_kOrE, y_notE, y_kNoE, y_isI, y_kIsI, y_chain, y_kCh, y_kCh1, y_kCh2, y_kCh3, y_comp, y_kCo, y_kL, y_comp0, y_seqI, y_kSI, y_kIt, y_rng, y_kRg, y_for, y_kFo, y_part, y_kPt, y_noPart, y_slice, y_kSl1, y_kSl2, y_kSl3, y_slL, y_slT, y_slS, y_revL, y_par, y_kPar, y_asg, y_kAsg, y_gName, y_gTup, y_gCons, y_kG1, y_yes, y_methS, y_kM1, y_kM2, y_newTab, y_newOwn, y_putTab, y_kP1, y_kP2, y_inTab, y_kIn, y_append, y_kAp, y_step, y_kSc, y_kSc1, y_kSc2, y_plNil, y_sl, y_ixL0, y_ixT0, y_ixL1, y_ixT1, y_ixLm, y_dictS, y_dictI, x_varD, x_varSat, x_varScr, x_varOwn, x_varTab, x_intD, x_cmp, x_addI, x_addS, x_addL, x_subI, x_mulI, x_divI, x_modI, x_powI, x_negI, x_intI, x_intB, x_absI, x_truB, x_truI, x_truL, x_truT, x_sat1, x_sat2, x_sat0n, x_sat0s, x_satIs, x_put1, x_put2, x_eqI, x_ltI, x_al2I, x_pl2I, x_lenL, x_lenT, x_lenS, x_ixS, x_tupleL, x_tupleT, x_listL, x_listT, x_strI, x_repr, x_sorted, x_itL, x_itT, x_itS, x_wipe0, x_wipe1, x_keyS, x_keyI, x_items, x_sortItems, x_scrCut, x_isD, x_bOf, x_gNil, isT_int, isT_bool, isT_str, isT_list, isT_tuple, isT_dict, x_al2S, x_pl2S, x_eqS, x_inS, List.getElem?_cons_zero, List.getElem?_cons_succ, List.set_cons_zero, List.set_cons_succ, List.length_cons, List.length_nil, Nat.reduceAdd, Nat.reduceSub, Nat.reduceLT, Nat.reduceLeDiff, Nat.lt_add_one, Nat.zero_add, List.map_cons, List.map_nil, List.append_nil, List.cons_append, List.nil_append, List.reduceReplicate, List.replicate_zero, List.replicate_succ, reduceIte, if_true, if_false, true_and, and_true, Bool.not_true, Bool.not_false, Bool.false_eq_true, Nat.zero_lt_succ, Nat.add_lt_add_iff_right, Int.reduceEq, decide_true, decide_false, Int.reduceNeg, Int.reduceSub, Int.reduceAdd, x_eqvNil, x_pl2Nil, y_plNil, Bool.not_eq_true', List.isEmpty_nil, List.isEmpty_cons, T_law_setting_right_1])
  let st : Nat → DS := fun m => ⟨[some .sat, some (.d (.list (xs.map .str))), none, none, none, none, none, none, none], m, none⟩
  refine comp_inv (fun rest acc s => ∃ (m : Nat) (ts : List (Str × Int)) (rs : List Str), s = st m ∧ m + 8 * rest.length ≤ n1 + 8 * 4 ∧ acc = ts.map pairS ∧ rest = rs.map .str ∧ ts.map (·.1) ++ rs = xs ∧ ∀ p ∈ ts, Bnd p) ?_ ?_ _ _ _ (by rw [show sizeLine = 16777216 from rfl]; simp; have := ho.2.2; omega) ⟨n1, [], xs, rfl, by simp; have := ho.2.2; omega, rfl, rfl, rfl, by simp⟩
  · rintro d ds acc s ⟨m, ts, rs, rfl, hm, rfl, hr, hx, hb⟩ Ky Kn hy hn
    cases rs with
    | nil => cases hr
    | cons z rs =>
      cases hr
      simp only [List.length_cons] at hm
      have hz : z ∈ xs := by rw [← hx]; simp
      (try simp only [y_seq, y_next, y_ret, y_kRet, y_set, y_kSet, y_if, y_kIf, y_drop, y_kDrop, y_break, y_cont, y_lit, y_var, y_kO, y_bin, y_kB1, y_kB2, y_un, y_kU, y_call, y_kC, y_kC2, y_are0, y_are1, y_kAre, y_tup, y_lst, y_tupN, y_lstN, y_nil, y_cons, y_kA1, y_kA2, y_fn, y_kF, y_kR, y_fnK, y_kFnK1, y_kFnK, y_val, y_kV, y_tru, y_kT, y_kTb, y_and, y_or, y_not, y_kAn, y_kOr, y_kNo, y_ifE, y_kIfE, y_andE, y_kAnE, y_orE, y_kOrE, y_notE, y_kNoE, y_isI, y_kIsI, y_chain, y_kCh, y_kCh1, y_kCh2, y_kCh3, y_comp, y_kCo, y_kL, y_comp0, y_seqI, y_kSI, y_kIt, y_rng, y_kRg, y_for, y_kFo, y_part, y_kPt, y_noPart, y_slice, y_kSl1, y_kSl2, y_kSl3, y_slL, y_slT, y_slS, y_revL, y_par, y_kPar, y_asg, y_kAsg, y_gName, y_gTup, y_gCons, y_kG1, y_yes, y_methS, y_kM1, y_kM2, y_newTab, y_newOwn, y_putTab, y_kP1, y_kP2, y_inTab, y_kIn, y_append, y_kAp, y_step, y_kSc, y_kSc1, y_kSc2, y_plNil, y_sl, y_ixL0, y_ixT0, y_ixL1, y_ixT1, y_ixLm, y_dictS, y_dictI, x_varD, x_varSat, x_varScr, x_varOwn, x_varTab, x_intD, x_cmp, x_addI, x_addS, x_addL, x_subI, x_mulI, x_divI, x_modI, x_powI, x_negI, x_intI, x_intB, x_absI, x_truB, x_truI, x_truL, x_truT, x_sat1, x_sat2, x_sat0n, x_sat0s, x_satIs, x_put1, x_put2, x_eqI, x_ltI, x_al2I, x_pl2I, x_lenL, x_lenT, x_lenS, x_ixS, x_tupleL, x_tupleT, x_listL, x_listT, x_strI, x_repr, x_sorted, x_itL, x_itT, x_itS, x_wipe0, x_wipe1, x_keyS, x_keyI, x_items, x_sortItems, x_scrCut, x_isD, x_bOf, x_gNil, isT_int, isT_bool, isT_str, isT_list, isT_tuple, isT_dict, x_al2S, x_pl2S, x_eqS, x_inS, List.getElem?_cons_zero, List.getElem?_cons_succ, List.set_cons_zero, List.set_cons_succ, List.length_cons, List.length_nil, Nat.reduceAdd, Nat.reduceSub, Nat.reduceLT, Nat.reduceLeDiff, Nat.lt_add_one, Nat.zero_add, List.map_cons, List.map_nil, List.append_nil, List.cons_append, List.nil_append, List.reduceReplicate, List.replicate_zero, List.replicate_succ, reduceIte, if_true, if_false, true_and, and_true, Bool.not_true, Bool.not_false, Bool.false_eq_true, Nat.zero_lt_succ, Nat.add_lt_add_iff_right, Int.reduceEq, decide_true, decide_false, Int.reduceNeg, Int.reduceSub, Int.reduceAdd, x_eqvNil, x_pl2Nil, y_plNil, Bool.not_eq_true', List.isEmpty_nil, List.isEmpty_cons, y_step, st])
      refine ⟨_, rfl, by decide, by decide, by omega, fun r m1 r0 r1 hm1 => ?_⟩
      (try simp only [y_seq, y_next, y_ret, y_kRet, y_set, y_kSet, y_if, y_kIf, y_drop, y_kDrop, y_break, y_cont, y_lit, y_var, y_kO, y_bin, y_kB1, y_kB2, y_un, y_kU, y_call, y_kC, y_kC2, y_are0, y_are1, y_kAre, y_tup, y_lst, y_tupN, y_lstN, y_nil, y_cons, y_kA1, y_kA2, y_fn, y_kF, y_kR, y_fnK, y_kFnK1, y_kFnK, y_val, y_kV, y_tru, y_kT, y_kTb, y_and, y_or, y_not, y_kAn, y_kOr, y_kNo, y_ifE, y_kIfE, y_andE, y_kAnE, y_orE, y_kOrE, y_notE, y_kNoE, y_isI, y_kIsI, y_chain, y_kCh, y_kCh1, y_kCh2, y_kCh3, y_comp, y_kCo, y_kL, y_comp0, y_seqI, y_kSI, y_kIt, y_rng, y_kRg, y_for, y_kFo, y_part, y_kPt, y_noPart, y_slice, y_kSl1, y_kSl2, y_kSl3, y_slL, y_slT, y_slS, y_revL, y_par, y_kPar, y_asg, y_kAsg, y_gName, y_gTup, y_gCons, y_kG1, y_yes, y_methS, y_kM1, y_kM2, y_newTab, y_newOwn, y_putTab, y_kP1, y_kP2, y_inTab, y_kIn, y_append, y_kAp, y_step, y_kSc, y_kSc1, y_kSc2, y_plNil, y_sl, y_ixL0, y_ixT0, y_ixL1, y_ixT1, y_ixLm, y_dictS, y_dictI, x_varD, x_varSat, x_varScr, x_varOwn, x_varTab, x_intD, x_cmp, x_addI, x_addS, x_addL, x_subI, x_mulI, x_divI, x_modI, x_powI, x_negI, x_intI, x_intB, x_absI, x_truB, x_truI, x_truL, x_truT, x_sat1, x_sat2, x_sat0n, x_sat0s, x_satIs, x_put1, x_put2, x_eqI, x_ltI, x_al2I, x_pl2I, x_lenL, x_lenT, x_lenS, x_ixS, x_tupleL, x_tupleT, x_listL, x_listT, x_strI, x_repr, x_sorted, x_itL, x_itT, x_itS, x_wipe0, x_wipe1, x_keyS, x_keyI, x_items, x_sortItems, x_scrCut, x_isD, x_bOf, x_gNil, isT_int, isT_bool, isT_str, isT_list, isT_tuple, isT_dict, x_al2S, x_pl2S, x_eqS, x_inS, List.getElem?_cons_zero, List.getElem?_cons_succ, List.set_cons_zero, List.set_cons_succ, List.length_cons, List.length_nil, Nat.reduceAdd, Nat.reduceSub, Nat.reduceLT, Nat.reduceLeDiff, Nat.lt_add_one, Nat.zero_add, List.map_cons, List.map_nil, List.append_nil, List.cons_append, List.nil_append, List.reduceReplicate, List.replicate_zero, List.replicate_succ, reduceIte, if_true, if_false, true_and, and_true, Bool.not_true, Bool.not_false, Bool.false_eq_true, Nat.zero_lt_succ, Nat.add_lt_add_iff_right, Int.reduceEq, decide_true, decide_false, Int.reduceNeg, Int.reduceSub, Int.reduceAdd, x_eqvNil, x_pl2Nil, y_plNil, Bool.not_eq_true', List.isEmpty_nil, List.isEmpty_cons])
      refine ⟨⟨by decide, by decide, by decide⟩, ⟨by decide, by decide, by decide⟩, _, rfl, by simp, by simp, by omega, fun x hx' m2 hm2 => ?_⟩
      obtain ⟨i, rfl, hi⟩ : ∃ i : Int, x = .int i ∧ i.natAbs < 10 ^ 51 := by
        simp only [List.mem_cons, List.not_mem_nil, or_false] at hx'
        rcases hx' with rfl | rfl | rfl
        · exact ⟨_, rfl, by omega⟩
        · exact ⟨_, rfl, pows.1⟩
        · exact ⟨_, rfl, pows.2⟩
      (try simp only [y_seq, y_next, y_ret, y_kRet, y_set, y_kSet, y_if, y_kIf, y_drop, y_kDrop, y_break, y_cont, y_lit, y_var, y_kO, y_bin, y_kB1, y_kB2, y_un, y_kU, y_call, y_kC, y_kC2, y_are0, y_are1, y_kAre, y_tup, y_lst, y_tupN, y_lstN, y_nil, y_cons, y_kA1, y_kA2, y_fn, y_kF, y_kR, y_fnK, y_kFnK1, y_kFnK, y_val, y_kV, y_tru, y_kT, y_kTb, y_and, y_or, y_not, y_kAn, y_kOr, y_kNo, y_ifE, y_kIfE, y_andE, y_kAnE, y_orE, y_kOrE, y_notE, y_kNoE, y_isI, y_kIsI, y_chain, y_kCh, y_kCh1, y_kCh2, y_kCh3, y_comp, y_kCo, y_kL, y_comp0, y_seqI, y_kSI, y_kIt, y_rng, y_kRg, y_for, y_kFo, y_part, y_kPt, y_noPart, y_slice, y_kSl1, y_kSl2, y_kSl3, y_slL, y_slT, y_slS, y_revL, y_par, y_kPar, y_asg, y_kAsg, y_gName, y_gTup, y_gCons, y_kG1, y_yes, y_methS, y_kM1, y_kM2, y_newTab, y_newOwn, y_putTab, y_kP1, y_kP2, y_inTab, y_kIn, y_append, y_kAp, y_step, y_kSc, y_kSc1, y_kSc2, y_plNil, y_sl, y_ixL0, y_ixT0, y_ixL1, y_ixT1, y_ixLm, y_dictS, y_dictI, x_varD, x_varSat, x_varScr, x_varOwn, x_varTab, x_intD, x_cmp, x_addI, x_addS, x_addL, x_subI, x_mulI, x_divI, x_modI, x_powI, x_negI, x_intI, x_intB, x_absI, x_truB, x_truI, x_truL, x_truT, x_sat1, x_sat2, x_sat0n, x_sat0s, x_satIs, x_put1, x_put2, x_eqI, x_ltI, x_al2I, x_pl2I, x_lenL, x_lenT, x_lenS, x_ixS, x_tupleL, x_tupleT, x_listL, x_listT, x_strI, x_repr, x_sorted, x_itL, x_itT, x_itS, x_wipe0, x_wipe1, x_keyS, x_keyI, x_items, x_sortItems, x_scrCut, x_isD, x_bOf, x_gNil, isT_int, isT_bool, isT_str, isT_list, isT_tuple, isT_dict, x_al2S, x_pl2S, x_eqS, x_inS, List.getElem?_cons_zero, List.getElem?_cons_succ, List.set_cons_zero, List.set_cons_succ, List.length_cons, List.length_nil, Nat.reduceAdd, Nat.reduceSub, Nat.reduceLT, Nat.reduceLeDiff, Nat.lt_add_one, Nat.zero_add, List.map_cons, List.map_nil, List.append_nil, List.cons_append, List.nil_append, List.reduceReplicate, List.replicate_zero, List.replicate_succ, reduceIte, if_true, if_false, true_and, and_true, Bool.not_true, Bool.not_false, Bool.false_eq_true, Nat.zero_lt_succ, Nat.add_lt_add_iff_right, Int.reduceEq, decide_true, decide_false, Int.reduceNeg, Int.reduceSub, Int.reduceAdd, x_eqvNil, x_pl2Nil, y_plNil, Bool.not_eq_true', List.isEmpty_nil, List.isEmpty_cons])
      refine hy _ _ ⟨m2, ts ++ [(z, i)], rs, rfl, by omega, by simp [pairS], rfl, by simp [hx], fun p hp => ?_⟩
      rcases List.mem_append.mp hp with h | h
      · exact hb p h
      · simp only [List.mem_singleton] at h
        subst h
        have := ho.2.1 z hz
        exact ⟨this.1, this.2.1, hi, this.2.2⟩
  · rintro acc s ⟨m, ts, rs, rfl, hm, rfl, hr, hx, hb⟩
    have hrs : rs = [] := by cases rs with | nil => rfl | cons => cases hr
    subst hrs
    rw [List.append_nil] at hx
    have ho1 : (ts.map (·.1)).Nodup := by rw [hx]; exact ho.1
    have ho3 : ts.length ≤ 4 := by have := congrArg List.length hx; have := ho.2.2; simp at *; omega
    simp only [List.length_nil] at hm
    (try simp only [y_seq, y_next, y_ret, y_kRet, y_set, y_kSet, y_if, y_kIf, y_drop, y_kDrop, y_break, y_cont, y_lit, y_var, y_kO, y_bin, y_kB1, y_kB2, y_un, y_kU, y_call, y_kC, y_kC2, y_are0, y_are1, y_kAre, y_tup, y_lst, y_tupN, y_lstN, y_nil, y_cons, y_kA1, y_kA2, y_fn, y_kF, y_kR, y_fnK, y_kFnK1, y_kFnK, y_val, y_kV, y_tru, y_kT, y_kTb, y_and, y_or, y_not, y_kAn, y_kOr, y_kNo, y_ifE, y_kIfE, y_andE, y_kAnE, y_orE, y_kOrE, y_notE, y_kNoE, y_isI, y_kIsI, y_chain, y_kCh, y_kCh1, y_kCh2, y_kCh3, y_comp, y_kCo, y_kL, y_comp0, y_seqI, y_kSI, y_kIt, y_rng, y_kRg, y_for, y_kFo, y_part, y_kPt, y_noPart, y_slice, y_kSl1, y_kSl2, y_kSl3, y_slL, y_slT, y_slS, y_revL, y_par, y_kPar, y_asg, y_kAsg, y_gName, y_gTup, y_gCons, y_kG1, y_yes, y_methS, y_kM1, y_kM2, y_newTab, y_newOwn, y_putTab, y_kP1, y_kP2, y_inTab, y_kIn, y_append, y_kAp, y_step, y_kSc, y_kSc1, y_kSc2, y_plNil, y_sl, y_ixL0, y_ixT0, y_ixL1, y_ixT1, y_ixLm, y_dictS, y_dictI, x_varD, x_varSat, x_varScr, x_varOwn, x_varTab, x_intD, x_cmp, x_addI, x_addS, x_addL, x_subI, x_mulI, x_divI, x_modI, x_powI, x_negI, x_intI, x_intB, x_absI, x_truB, x_truI, x_truL, x_truT, x_sat1, x_sat2, x_sat0n, x_sat0s, x_satIs, x_put1, x_put2, x_eqI, x_ltI, x_al2I, x_pl2I, x_lenL, x_lenT, x_lenS, x_ixS, x_tupleL, x_tupleT, x_listL, x_listT, x_strI, x_repr, x_sorted, x_itL, x_itT, x_itS, x_wipe0, x_wipe1, x_keyS, x_keyI, x_items, x_sortItems, x_scrCut, x_isD, x_bOf, x_gNil, isT_int, isT_bool, isT_str, isT_list, isT_tuple, isT_dict, x_al2S, x_pl2S, x_eqS, x_inS, List.getElem?_cons_zero, List.getElem?_cons_succ, List.set_cons_zero, List.set_cons_succ, List.length_cons, List.length_nil, Nat.reduceAdd, Nat.reduceSub, Nat.reduceLT, Nat.reduceLeDiff, Nat.lt_add_one, Nat.zero_add, List.map_cons, List.map_nil, List.append_nil, List.cons_append, List.nil_append, List.reduceReplicate, List.replicate_zero, List.replicate_succ, reduceIte, if_true, if_false, true_and, and_true, Bool.not_true, Bool.not_false, Bool.false_eq_true, Nat.zero_lt_succ, Nat.add_lt_add_iff_right, Int.reduceEq, decide_true, decide_false, Int.reduceNeg, Int.reduceSub, Int.reduceAdd, x_eqvNil, x_pl2Nil, y_plNil, Bool.not_eq_true', List.isEmpty_nil, List.isEmpty_cons, st, T_law_setting_right_2])
    refine ⟨srtOk_pairs (by omega), _, rfl, by decide, by decide, by omega, fun w m1 w0 w1 hm1 => ?_⟩
    (try simp only [y_seq, y_next, y_ret, y_kRet, y_set, y_kSet, y_if, y_kIf, y_drop, y_kDrop, y_break, y_cont, y_lit, y_var, y_kO, y_bin, y_kB1, y_kB2, y_un, y_kU, y_call, y_kC, y_kC2, y_are0, y_are1, y_kAre, y_tup, y_lst, y_tupN, y_lstN, y_nil, y_cons, y_kA1, y_kA2, y_fn, y_kF, y_kR, y_fnK, y_kFnK1, y_kFnK, y_val, y_kV, y_tru, y_kT, y_kTb, y_and, y_or, y_not, y_kAn, y_kOr, y_kNo, y_ifE, y_kIfE, y_andE, y_kAnE, y_orE, y_kOrE, y_notE, y_kNoE, y_isI, y_kIsI, y_chain, y_kCh, y_kCh1, y_kCh2, y_kCh3, y_comp, y_kCo, y_kL, y_comp0, y_seqI, y_kSI, y_kIt, y_rng, y_kRg, y_for, y_kFo, y_part, y_kPt, y_noPart, y_slice, y_kSl1, y_kSl2, y_kSl3, y_slL, y_slT, y_slS, y_revL, y_par, y_kPar, y_asg, y_kAsg, y_gName, y_gTup, y_gCons, y_kG1, y_yes, y_methS, y_kM1, y_kM2, y_newTab, y_newOwn, y_putTab, y_kP1, y_kP2, y_inTab, y_kIn, y_append, y_kAp, y_step, y_kSc, y_kSc1, y_kSc2, y_plNil, y_sl, y_ixL0, y_ixT0, y_ixL1, y_ixT1, y_ixLm, y_dictS, y_dictI, x_varD, x_varSat, x_varScr, x_varOwn, x_varTab, x_intD, x_cmp, x_addI, x_addS, x_addL, x_subI, x_mulI, x_divI, x_modI, x_powI, x_negI, x_intI, x_intB, x_absI, x_truB, x_truI, x_truL, x_truT, x_sat1, x_sat2, x_sat0n, x_sat0s, x_satIs, x_put1, x_put2, x_eqI, x_ltI, x_al2I, x_pl2I, x_lenL, x_lenT, x_lenS, x_ixS, x_tupleL, x_tupleT, x_listL, x_listT, x_strI, x_repr, x_sorted, x_itL, x_itT, x_itS, x_wipe0, x_wipe1, x_keyS, x_keyI, x_items, x_sortItems, x_scrCut, x_isD, x_bOf, x_gNil, isT_int, isT_bool, isT_str, isT_list, isT_tuple, isT_dict, x_al2S, x_pl2S, x_eqS, x_inS, List.getElem?_cons_zero, List.getElem?_cons_succ, List.set_cons_zero, List.set_cons_succ, List.length_cons, List.length_nil, Nat.reduceAdd, Nat.reduceSub, Nat.reduceLT, Nat.reduceLeDiff, Nat.lt_add_one, Nat.zero_add, List.map_cons, List.map_nil, List.append_nil, List.cons_append, List.nil_append, List.reduceReplicate, List.replicate_zero, List.replicate_succ, reduceIte, if_true, if_false, true_and, and_true, Bool.not_true, Bool.not_false, Bool.false_eq_true, Nat.zero_lt_succ, Nat.add_lt_add_iff_right, Int.reduceEq, decide_true, decide_false, Int.reduceNeg, Int.reduceSub, Int.reduceAdd, x_eqvNil, x_pl2Nil, y_plNil, Bool.not_eq_true', List.isEmpty_nil, List.isEmpty_cons, T_law_setting_right_3])
    let st2 : Nat → DS := fun m => ⟨[some .sat, some (.d (.list (xs.map .str))), some (.d (.list (ts.map pairS))), none, some (.d (settingV ts)), some (.d (.int w)), none, none, none], m, none⟩
    refine comp_inv (fun rest acc s => ∃ (m : Nat) (us : List (Str × Int)), s = st2 m ∧ m + 2 * rest.length ≤ m1 + 8 ∧ rest = us.map pairS ∧ acc.map namedD ++ us.map some = ts.reverse.map some ∧ ∀ p ∈ us, p ∈ ts) ?_ ?_ _ _ _ (by rw [show sizeLine = 16777216 from rfl]; simp; omega) ⟨m1, ts.reverse, rfl, by simp; omega, by simp, by simp, by simp⟩
    · rintro d ds acc s ⟨m, us, rfl, hm, hr, ha, hu⟩ Ky Kn hy hn
      cases us with
      | nil => cases hr
      | cons p us =>
        cases hr
        simp only [List.length_cons] at hm
        have hp : nmD p.1 = true := (hb p (hu p (by simp))).2.2.2
        (try simp only [y_seq, y_next, y_ret, y_kRet, y_set, y_kSet, y_if, y_kIf, y_drop, y_kDrop, y_break, y_cont, y_lit, y_var, y_kO, y_bin, y_kB1, y_kB2, y_un, y_kU, y_call, y_kC, y_kC2, y_are0, y_are1, y_kAre, y_tup, y_lst, y_tupN, y_lstN, y_nil, y_cons, y_kA1, y_kA2, y_fn, y_kF, y_kR, y_fnK, y_kFnK1, y_kFnK, y_val, y_kV, y_tru, y_kT, y_kTb, y_and, y_or, y_not, y_kAn, y_kOr, y_kNo, y_ifE, y_kIfE, y_andE, y_kAnE, y_orE, y_kOrE, y_notE, y_kNoE, y_isI, y_kIsI, y_chain, y_kCh, y_kCh1, y_kCh2, y_kCh3, y_comp, y_kCo, y_kL, y_comp0, y_seqI, y_kSI, y_kIt, y_rng, y_kRg, y_for, y_kFo, y_part, y_kPt, y_noPart, y_slice, y_kSl1, y_kSl2, y_kSl3, y_slL, y_slT, y_slS, y_revL, y_par, y_kPar, y_asg, y_kAsg, y_gName, y_gTup, y_gCons, y_kG1, y_yes, y_methS, y_kM1, y_kM2, y_newTab, y_newOwn, y_putTab, y_kP1, y_kP2, y_inTab, y_kIn, y_append, y_kAp, y_step, y_kSc, y_kSc1, y_kSc2, y_plNil, y_sl, y_ixL0, y_ixT0, y_ixL1, y_ixT1, y_ixLm, y_dictS, y_dictI, x_varD, x_varSat, x_varScr, x_varOwn, x_varTab, x_intD, x_cmp, x_addI, x_addS, x_addL, x_subI, x_mulI, x_divI, x_modI, x_powI, x_negI, x_intI, x_intB, x_absI, x_truB, x_truI, x_truL, x_truT, x_sat1, x_sat2, x_sat0n, x_sat0s, x_satIs, x_put1, x_put2, x_eqI, x_ltI, x_al2I, x_pl2I, x_lenL, x_lenT, x_lenS, x_ixS, x_tupleL, x_tupleT, x_listL, x_listT, x_strI, x_repr, x_sorted, x_itL, x_itT, x_itS, x_wipe0, x_wipe1, x_keyS, x_keyI, x_items, x_sortItems, x_scrCut, x_isD, x_bOf, x_gNil, isT_int, isT_bool, isT_str, isT_list, isT_tuple, isT_dict, x_al2S, x_pl2S, x_eqS, x_inS, List.getElem?_cons_zero, List.getElem?_cons_succ, List.set_cons_zero, List.set_cons_succ, List.length_cons, List.length_nil, Nat.reduceAdd, Nat.reduceSub, Nat.reduceLT, Nat.reduceLeDiff, Nat.lt_add_one, Nat.zero_add, List.map_cons, List.map_nil, List.append_nil, List.cons_append, List.nil_append, List.reduceReplicate, List.replicate_zero, List.replicate_succ, reduceIte, if_true, if_false, true_and, and_true, Bool.not_true, Bool.not_false, Bool.false_eq_true, Nat.zero_lt_succ, Nat.add_lt_add_iff_right, Int.reduceEq, decide_true, decide_false, Int.reduceNeg, Int.reduceSub, Int.reduceAdd, x_eqvNil, x_pl2Nil, y_plNil, Bool.not_eq_true', List.isEmpty_nil, List.isEmpty_cons, y_step, st2, pairS])
        refine ⟨_, rfl, by simp, by simp, by omega, fun x hx' m2 hm2 => ?_⟩
        have hx2 : namedD x = some p := by
          simp only [List.mem_cons, List.not_mem_nil, or_false] at hx'
          rcases hx' with rfl | rfl
          · simp [namedD, hp]
          · simp [namedD, hp]
        (try simp only [y_seq, y_next, y_ret, y_kRet, y_set, y_kSet, y_if, y_kIf, y_drop, y_kDrop, y_break, y_cont, y_lit, y_var, y_kO, y_bin, y_kB1, y_kB2, y_un, y_kU, y_call, y_kC, y_kC2, y_are0, y_are1, y_kAre, y_tup, y_lst, y_tupN, y_lstN, y_nil, y_cons, y_kA1, y_kA2, y_fn, y_kF, y_kR, y_fnK, y_kFnK1, y_kFnK, y_val, y_kV, y_tru, y_kT, y_kTb, y_and, y_or, y_not, y_kAn, y_kOr, y_kNo, y_ifE, y_kIfE, y_andE, y_kAnE, y_orE, y_kOrE, y_notE, y_kNoE, y_isI, y_kIsI, y_chain, y_kCh, y_kCh1, y_kCh2, y_kCh3, y_comp, y_kCo, y_kL, y_comp0, y_seqI, y_kSI, y_kIt, y_rng, y_kRg, y_for, y_kFo, y_part, y_kPt, y_noPart, y_slice, y_kSl1, y_kSl2, y_kSl3, y_slL, y_slT, y_slS, y_revL, y_par, y_kPar, y_asg, y_kAsg, y_gName, y_gTup, y_gCons, y_kG1, y_yes, y_methS, y_kM1, y_kM2, y_newTab, y_newOwn, y_putTab, y_kP1, y_kP2, y_inTab, y_kIn, y_append, y_kAp, y_step, y_kSc, y_kSc1, y_kSc2, y_plNil, y_sl, y_ixL0, y_ixT0, y_ixL1, y_ixT1, y_ixLm, y_dictS, y_dictI, x_varD, x_varSat, x_varScr, x_varOwn, x_varTab, x_intD, x_cmp, x_addI, x_addS, x_addL, x_subI, x_mulI, x_divI, x_modI, x_powI, x_negI, x_intI, x_intB, x_absI, x_truB, x_truI, x_truL, x_truT, x_sat1, x_sat2, x_sat0n, x_sat0s, x_satIs, x_put1, x_put2, x_eqI, x_ltI, x_al2I, x_pl2I, x_lenL, x_lenT, x_lenS, x_ixS, x_tupleL, x_tupleT, x_listL, x_listT, x_strI, x_repr, x_sorted, x_itL, x_itT, x_itS, x_wipe0, x_wipe1, x_keyS, x_keyI, x_items, x_sortItems, x_scrCut, x_isD, x_bOf, x_gNil, isT_int, isT_bool, isT_str, isT_list, isT_tuple, isT_dict, x_al2S, x_pl2S, x_eqS, x_inS, List.getElem?_cons_zero, List.getElem?_cons_succ, List.set_cons_zero, List.set_cons_succ, List.length_cons, List.length_nil, Nat.reduceAdd, Nat.reduceSub, Nat.reduceLT, Nat.reduceLeDiff, Nat.lt_add_one, Nat.zero_add, List.map_cons, List.map_nil, List.append_nil, List.cons_append, List.nil_append, List.reduceReplicate, List.replicate_zero, List.replicate_succ, reduceIte, if_true, if_false, true_and, and_true, Bool.not_true, Bool.not_false, Bool.false_eq_true, Nat.zero_lt_succ, Nat.add_lt_add_iff_right, Int.reduceEq, decide_true, decide_false, Int.reduceNeg, Int.reduceSub, Int.reduceAdd, x_eqvNil, x_pl2Nil, y_plNil, Bool.not_eq_true', List.isEmpty_nil, List.isEmpty_cons])
        exact hy _ _ ⟨m2, us, rfl, by omega, rfl, by simpa [hx2] using ha, fun p hp => hu p (by simp [hp])⟩
    · rintro vs s ⟨m2, us, rfl, hm2, hr, hv, hu⟩
      have hus : us = [] := by cases us with | nil => rfl | cons => cases hr
      subst hus
      rw [List.map_nil, List.append_nil] at hv
      simp only [List.length_nil] at hm2
      (try simp only [y_seq, y_next, y_ret, y_kRet, y_set, y_kSet, y_if, y_kIf, y_drop, y_kDrop, y_break, y_cont, y_lit, y_var, y_kO, y_bin, y_kB1, y_kB2, y_un, y_kU, y_call, y_kC, y_kC2, y_are0, y_are1, y_kAre, y_tup, y_lst, y_tupN, y_lstN, y_nil, y_cons, y_kA1, y_kA2, y_fn, y_kF, y_kR, y_fnK, y_kFnK1, y_kFnK, y_val, y_kV, y_tru, y_kT, y_kTb, y_and, y_or, y_not, y_kAn, y_kOr, y_kNo, y_ifE, y_kIfE, y_andE, y_kAnE, y_orE, y_kOrE, y_notE, y_kNoE, y_isI, y_kIsI, y_chain, y_kCh, y_kCh1, y_kCh2, y_kCh3, y_comp, y_kCo, y_kL, y_comp0, y_seqI, y_kSI, y_kIt, y_rng, y_kRg, y_for, y_kFo, y_part, y_kPt, y_noPart, y_slice, y_kSl1, y_kSl2, y_kSl3, y_slL, y_slT, y_slS, y_revL, y_par, y_kPar, y_asg, y_kAsg, y_gName, y_gTup, y_gCons, y_kG1, y_yes, y_methS, y_kM1, y_kM2, y_newTab, y_newOwn, y_putTab, y_kP1, y_kP2, y_inTab, y_kIn, y_append, y_kAp, y_step, y_kSc, y_kSc1, y_kSc2, y_plNil, y_sl, y_ixL0, y_ixT0, y_ixL1, y_ixT1, y_ixLm, y_dictS, y_dictI, x_varD, x_varSat, x_varScr, x_varOwn, x_varTab, x_intD, x_cmp, x_addI, x_addS, x_addL, x_subI, x_mulI, x_divI, x_modI, x_powI, x_negI, x_intI, x_intB, x_absI, x_truB, x_truI, x_truL, x_truT, x_sat1, x_sat2, x_sat0n, x_sat0s, x_satIs, x_put1, x_put2, x_eqI, x_ltI, x_al2I, x_pl2I, x_lenL, x_lenT, x_lenS, x_ixS, x_tupleL, x_tupleT, x_listL, x_listT, x_strI, x_repr, x_sorted, x_itL, x_itT, x_itS, x_wipe0, x_wipe1, x_keyS, x_keyI, x_items, x_sortItems, x_scrCut, x_isD, x_bOf, x_gNil, isT_int, isT_bool, isT_str, isT_list, isT_tuple, isT_dict, x_al2S, x_pl2S, x_eqS, x_inS, List.getElem?_cons_zero, List.getElem?_cons_succ, List.set_cons_zero, List.set_cons_succ, List.length_cons, List.length_nil, Nat.reduceAdd, Nat.reduceSub, Nat.reduceLT, Nat.reduceLeDiff, Nat.lt_add_one, Nat.zero_add, List.map_cons, List.map_nil, List.append_nil, List.cons_append, List.nil_append, List.reduceReplicate, List.replicate_zero, List.replicate_succ, reduceIte, if_true, if_false, true_and, and_true, Bool.not_true, Bool.not_false, Bool.false_eq_true, Nat.zero_lt_succ, Nat.add_lt_add_iff_right, Int.reduceEq, decide_true, decide_false, Int.reduceNeg, Int.reduceSub, Int.reduceAdd, x_eqvNil, x_pl2Nil, y_plNil, Bool.not_eq_true', List.isEmpty_nil, List.isEmpty_cons, st2])
      exact setting_ways ho1 hb ho3 hv rfl w0 w1 (by omega) fun n' hn' => h3 n' (by omega)

end
theorem w_law_setting_right (A : Fds K) (B : Gm K mg) : DSs ⟨P, w, K, mg, base, N_law_setting_right, defScope s_law_setting_right, 3, true⟩ (defBody s_law_setting_right) T_law_setting_right := (dss_cons (ds_set (i := 1) sc_law_setting_right.nd rfl (Or.inl rfl) (de_fn (k := lv_law_one) ⟨ok_law_one A B, len_law_one⟩ (show lv_law_one ≤ 3 by decide) B.g_law_one A.F_law_one.kp (bN_law_one A) (da_cons (de_var 0) (da_cons (de_lst (da_cons (de_lst (da_cons de_str (da_cons de_str (da_cons de_str da_nil)))) (da_cons (de_lst (da_cons de_str da_nil)) (da_cons (de_lst da_nil) (da_cons (de_lst (da_cons de_str (da_cons de_str (da_cons de_str (da_cons de_str da_nil))))) da_nil))))) da_nil))))
    (dss_cons (ds_setComp (i := 2) [("name", 3)] sc_law_setting_right.nd rfl rfl rfl rfl (by decide +kernel) (di_seq (de_var 1)) (by show blkC N_law_setting_right (defScope s_law_setting_right) _ _ = true; decide +kernel) (dg_name (i := 3) sc_law_setting_right.nd rfl (Or.inl rfl)) dts_nil (de_tup (da_cons (de_var 3) (da_cons (de_fn (k := lv_law_one) ⟨ok_law_one A B, len_law_one⟩ (show lv_law_one ≤ 3 by decide) B.g_law_one A.F_law_one.kp (bN_law_one A) (da_cons (de_var 0) (da_cons (de_lst (da_cons (de_bin (fun _ h => o_sub h) lo_sub (de_fn (k := lv_law_delve) ⟨ok_law_delve A B, len_law_delve⟩ (show lv_law_delve ≤ 3 by decide) B.g_law_delve A.F_law_delve.kp (bN_law_delve A) (da_cons (de_var 0) (da_cons de_int da_nil))) de_int) (da_cons (de_bin (fun _ h => o_pow h) lo_pow de_int de_int) (da_cons (de_un (fun _ h => o_neg h) lo_neg (de_bin (fun _ h => o_pow h) lo_pow de_int de_int)) da_nil)))) da_nil))) da_nil))))
    (dss_cons (ds_par (i := 4) (j := 5) sc_law_setting_right.nd rfl rfl (by decide) rfl rfl rfl (da_cons (de_callTy (fun _ h => o_tuple h) lo_tuple B.n_tuple (by decide +kernel) (da_cons (de_callB (fun _ h => o_sorted h) lo_sorted B.n_sorted (by decide +kernel) (da_cons (de_var 2) da_nil)) da_nil)) (da_cons (de_fn (k := lv_law_delve) ⟨ok_law_delve A B, len_law_delve⟩ (show lv_law_delve ≤ 3 by decide) B.g_law_delve A.F_law_delve.kp (bN_law_delve A) (da_cons (de_var 0) (da_cons de_int da_nil))) da_nil)) (by intro X h; generalize X.env = en at h ⊢; cases en; dsimp only at h; subst h; rfl))
    (dss_cons (ds_setComp (i := 6) [("pair", 7)] sc_law_setting_right.nd rfl rfl rfl rfl (by decide +kernel) (di_seq (de_rev (de_var 2))) (by show blkC N_law_setting_right (defScope s_law_setting_right) _ _ = true; decide +kernel) (dg_name (i := 7) sc_law_setting_right.nd rfl (Or.inl rfl)) dts_nil (de_fn (k := lv_law_one) ⟨ok_law_one A B, len_law_one⟩ (show lv_law_one ≤ 3 by decide) B.g_law_one A.F_law_one.kp (bN_law_one A) (da_cons (de_var 0) (da_cons (de_lst (da_cons (de_callTy (fun _ h => o_list h) lo_list B.n_list (by decide +kernel) (da_cons (de_var 7) da_nil)) (da_cons (de_var 7) da_nil))) da_nil))))
    (dss_cons (ds_if (dt_cmp (fun _ h => o_eq h) lo_cmp (de_var 5) de_int) (dss_one (ds_set (i := 6) sc_law_setting_right.nd rfl (Or.inl rfl) (de_callTy (fun _ h => o_dict h) lo_dict B.n_dict (by decide +kernel) (da_cons (de_var 2) da_nil)))) dss_nil)
    (dss_cons (ds_if (dw_and (dt_cmp (fun _ h => o_eq h) lo_cmp (de_var 5) de_int) (dw_and1 (dt_cmp (fun _ h => o_ne h) lo_cmp (de_var 2) (de_lst da_nil)))).dt (dss_one (ds_par (i := 6) (j := 4) sc_law_setting_right.nd rfl rfl (by decide) rfl rfl rfl (da_cons (de_bin (fun _ h => o_add h) lo_add (de_var 6) (de_lst (da_cons (de_fn (k := lv_law_one) ⟨ok_law_one A B, len_law_one⟩ (show lv_law_one ≤ 3 by decide) B.g_law_one A.F_law_one.kp (bN_law_one A) (da_cons (de_var 0) (da_cons (de_lst (da_cons (de_ix (de_var 2) de_int) (da_cons (de_tup (da_cons (de_ix (de_ix (de_var 2) de_int) de_int) (da_cons de_int da_nil))) da_nil))) da_nil))) da_nil))) (da_cons de_non da_nil)) (by intro X h; generalize X.env = en at h ⊢; cases en; dsimp only at h; subst h; rfl))) dss_nil)
    (dss_cons (ds_if (dw_and (dt_cmp (fun _ h => o_eq h) lo_cmp (de_var 5) de_int) (dw_and1 (dt_cmp (fun _ h => o_ne h) lo_cmp (de_var 2) (de_lst da_nil)))).dt (dss_one (ds_par (i := 6) (j := 4) sc_law_setting_right.nd rfl rfl (by decide) rfl rfl rfl (da_cons (de_bin (fun _ h => o_add h) lo_add (de_slice (de_var 6) (do_some de_int) do_none) (de_lst (da_cons (de_tup (da_cons (de_ix (de_ix (de_var 2) (de_un (fun _ h => o_neg h) lo_neg de_int)) de_int) (da_cons (de_fn (k := lv_law_one) ⟨ok_law_one A B, len_law_one⟩ (show lv_law_one ≤ 3 by decide) B.g_law_one A.F_law_one.kp (bN_law_one A) (da_cons (de_var 0) (da_cons (de_lst (da_cons de_bl (da_cons de_non (da_cons de_str (da_cons (de_lst (da_cons de_int da_nil)) da_nil))))) da_nil))) da_nil))) da_nil))) (da_cons de_non da_nil)) (by intro X h; generalize X.env = en at h ⊢; cases en; dsimp only at h; subst h; rfl))) dss_nil)
    (dss_cons (ds_if (dt_cmp (fun _ h => o_eq h) lo_cmp (de_var 5) de_int) (dss_one (ds_par (i := 6) (j := 4) sc_law_setting_right.nd rfl rfl (by decide) rfl rfl rfl (da_cons (de_bin (fun _ h => o_add h) lo_add (de_var 6) (de_lst (da_cons (de_fn (k := lv_law_one) ⟨ok_law_one A B, len_law_one⟩ (show lv_law_one ≤ 3 by decide) B.g_law_one A.F_law_one.kp (bN_law_one A) (da_cons (de_var 0) (da_cons (de_lst (da_cons (de_tup (da_cons de_str (da_cons de_int da_nil))) (da_cons (de_tup (da_cons de_str (da_cons de_int da_nil))) (da_cons (de_tup (da_cons de_str da_nil)) (da_cons (de_tup (da_cons de_str (da_cons de_int (da_cons de_int da_nil)))) (da_cons de_non (da_cons de_str (da_cons (de_tup (da_cons de_str (da_cons de_int da_nil))) (da_cons (de_tup (da_cons de_int (da_cons de_int da_nil))) da_nil))))))))) da_nil))) da_nil))) (da_cons de_non da_nil)) (by intro X h; generalize X.env = en at h ⊢; cases en; dsimp only at h; subst h; rfl))) dss_nil)
    (dss_cons (ds_if (dt_cmp (fun _ h => o_eq h) lo_cmp (de_var 5) de_int) (dss_one (ds_par (i := 6) (j := 4) sc_law_setting_right.nd rfl rfl (by decide) rfl rfl rfl (da_cons (de_fn (k := lv_law_one) ⟨ok_law_one A B, len_law_one⟩ (show lv_law_one ≤ 3 by decide) B.g_law_one A.F_law_one.kp (bN_law_one A) (da_cons (de_var 0) (da_cons (de_lst (da_cons de_non (da_cons de_int (da_cons de_str (da_cons de_bl (da_cons (de_dict (dps_cons de_str de_bl dps_nil)) (da_cons (de_dict (dps_cons de_str de_int dps_nil)) (da_cons (de_dict (dps_cons de_int de_int dps_nil)) (da_cons (de_dict (dps_cons de_str de_str dps_nil)) da_nil))))))))) da_nil))) (da_cons de_non da_nil)) (by intro X h; generalize X.env = en at h ⊢; cases en; dsimp only at h; subst h; rfl))) dss_nil)
    (dss_cons (ds_set (i := 8) sc_law_setting_right.nd rfl (Or.inl rfl) (de_callB (fun _ h => o_repr h) lo_repr B.n_repr (by decide +kernel) (da_cons (de_var 6) da_nil)))
    (dss_one (ds_ret (de_and (de_cmp (fun _ h => o_eq h) lo_cmp (de_callB (fun _ h => o_repr h) lo_repr B.n_repr (by decide +kernel) (da_cons (de_fnK0 [0] (k := lv_setting_of) ⟨ok_setting_of A B, len_setting_of⟩ (show lv_setting_of ≤ 3 by decide) B.g_setting_of A.F_setting_of.kp (kb_setting_of_1 A) (dk_cons (de_var 6) dk_nil)) da_nil)) (de_callB (fun _ h => o_repr h) lo_repr B.n_repr (by decide +kernel) (da_cons (de_var 4) da_nil))) (de_one (de_cmp (fun _ h => o_eq h) lo_cmp (de_callB (fun _ h => o_repr h) lo_repr B.n_repr (by decide +kernel) (da_cons (de_var 6) da_nil)) (de_var 8))))))))))))))))
theorem ok_law_setting_right (A : Fds K) (B : Gm K mg) : FnG P w K mg base lv_law_setting_right (He.ga K "_law_setting_right") A.fd_law_setting_right ["hamper"] (Lift K 1 sp_law_setting_right) := lift_mono (fn_body A.F_law_setting_right sc_law_setting_right (w_law_setting_right A B)) m_law_setting_right
/-! ### is_within -/
abbrev lv_is_within : Nat := 2
def T_is_within : TSD := (dSeq (dIf (dNot (dTru (dFn sp_is_integer (dCons (dVar 0) dNil)))) (dRet (dLit (.bool false))) dNext)
    (dRet (dAndE (dOrE (dBin isD0 (dVar 1) (dLit .none)) (dBin leqD (dVar 1) (dVar 0))) (dOrE (dBin isD0 (dVar 2) (dLit .none)) (dBin leqD (dVar 0) (dVar 2))))))
section
def oI : Option Int → PyData
  | none => .none
  | some i => .int i
def withinD (v : PyData) (lo hi : Option Int) : Bool := match v with
  | .int i => (match lo with | none => true | some l => decide (l ≤ i)) && (match hi with | none => true | some h => decide (i ≤ h))
  | _ => false
def sp_is_within : DSp := fun ds n Q => ∃ v lo hi, ds = [.d v, .d (oI lo), .d (oI hi)] ∧ Q (.d (.bool (withinD v lo hi))) n
theorem len_is_within (ds : List DV) (n : Nat) (Q : DV → Nat → Prop) (h : sp_is_within ds n Q) : ds.length = 3 := by obtain ⟨v, lo, hi, rfl, _⟩ := h; rfl
theorem m_is_within (ds : List DV) (n : Nat) (Q : DV → Nat → Prop) (h : sp_is_within ds n Q) : ds.length = 3 ∧ bodyD 3 T_is_within ds n Q := by
  obtain ⟨v, lo, hi, rfl, h⟩ := h
  refine ⟨rfl, ?_⟩
  unfold bodyD T_is_within
  simp [x_var, sp_is_integer]
  cases v with
  | int i =>
    simp [isIntD]
    have e : ∀ a b : Int, (!decide (a < b)) = decide (b ≤ a) := fun a b => by
      by_cases h : a < b
      · have : ¬ b ≤ a := by omega
        simp [h, this]
      · have : b ≤ a := by omega
        simp [h, this]
    cases lo with
    | none => cases hi with
      | none => simp [oI]; simpa [withinD] using h
      | some b => simp [oI, e]; simpa [withinD] using h
    | some a =>
      cases hi with
      | none =>
        simp [oI]
        split
        · have : ¬ a ≤ i := by omega
          simpa [withinD, this] using h
        · have : a ≤ i := by omega
          simpa [withinD, this] using h
      | some b =>
        simp [oI, e]
        split
        · have : ¬ a ≤ i := by omega
          simpa [withinD, this] using h
        · have : a ≤ i := by omega
          simpa [withinD, this] using h
  | _ => simpa [isIntD, withinD] using h

end
theorem w_is_within (A : Fds K) (B : Gm K mg) : DSs ⟨P, w, K, mg, base, N_is_within, defScope s_is_within, 1, true⟩ (defBody s_is_within) T_is_within := (dss_cons (ds_if (dt_not (dt_tru (de_fn (k := lv_is_integer) ⟨ok_is_integer A B, len_is_integer⟩ (show lv_is_integer ≤ 1 by decide) B.g_is_integer A.F_is_integer.kp (bN_is_integer A) (da_cons (de_var 0) da_nil)))) (dss_one (ds_ret de_bl)) dss_nil)
    (dss_one (ds_ret (de_and (de_or (de_cmp (fun _ h => o_is h) lo_cmp (de_var 1) de_non) (de_one (de_cmp (fun _ h => o_le h) lo_cmp (de_var 1) (de_var 0)))) (de_one (de_or (de_cmp (fun _ h => o_is h) lo_cmp (de_var 2) de_non) (de_one (de_cmp (fun _ h => o_le h) lo_cmp (de_var 0) (de_var 2)))))))))
theorem ok_is_within (A : Fds K) (B : Gm K mg) : FnG P w K mg base lv_is_within (He.ga K "is_within") A.fd_is_within ["value", "least", "most"] (Lift K 3 sp_is_within) := lift_mono (fn_body A.F_is_within sc_is_within (w_is_within A B)) m_is_within
/-! ### are_integers -/
abbrev lv_are_integers : Nat := 2
def T_are_integers : TSD := (dRet (dAndE (dFn sp_is_list (dCons (dVar 0) dNil)) (dCall allD (dCons (dComp [1] (dSeqI (dVar 0)) (gdName 1) dYes (dFn sp_is_integer (dCons (dVar 1) dNil))) dNil))))
section
def areIntsD : PyData → Bool
  | .list xs => xs.all isIntD
  | .tuple xs => xs.all isIntD
  | _ => false
def sp_are_integers : DSp := fun ds n Q => ∃ v, ds = [.d v] ∧ (∀ xs, v = .list xs ∨ v = .tuple xs → xs.length ≤ 1000) ∧ Q (.d (.bool (areIntsD v))) n
theorem len_are_integers (ds : List DV) (n : Nat) (Q : DV → Nat → Prop) (h : sp_are_integers ds n Q) : ds.length = 1 := by obtain ⟨v, rfl, _⟩ := h; rfl
theorem comp_ints {xs : List PyData} {ρ : List (Option DV)} {n : Nat} {Q : List PyData → DS → Prop} (h : xs.length ≤ 1000) (q : Q (xs.map fun d => .bool (isIntD d)) ⟨[ρ.headD none, none], n, none⟩) : dCompGo [1] (gdName 1) dYes (dFn sp_is_integer (dCons (dVar 1) dNil)) xs [] ⟨[ρ.headD none, none], n, none⟩ Q :=
  comp_map (f := fun d => .bool (isIntD d)) _ _ (by rw [show sizeLine = 16777216 from rfl]; simp; omega) (fun d hd Ky Kn k => by unfold stepC; simpa [x_var, sp_is_integer] using k) (by simpa using q)
theorem m_are_integers (ds : List DV) (n : Nat) (Q : DV → Nat → Prop) (h : sp_are_integers ds n Q) : ds.length = 1 ∧ bodyD 2 T_are_integers ds n Q := by
  obtain ⟨v, rfl, hv, h⟩ := h
  refine ⟨rfl, ?_⟩
  unfold bodyD T_are_integers
  simp [x_var, sp_is_list]
  cases v with
  | list xs =>
    simp [kList]
    refine comp_ints (ρ := [some (.d (.list xs))]) (hv xs (.inl rfl)) ⟨xs.map isIntD, by simp, ?_⟩
    simpa [areIntsD] using h
  | tuple xs =>
    simp [kList, kTup]
    refine comp_ints (ρ := [some (.d (.tuple xs))]) (hv xs (.inr rfl)) ⟨xs.map isIntD, by simp, ?_⟩
    simpa [areIntsD] using h
  | _ => simpa [kList, kTup, areIntsD] using h

end
theorem w_are_integers (A : Fds K) (B : Gm K mg) : DSs ⟨P, w, K, mg, base, N_are_integers, defScope s_are_integers, 1, true⟩ (defBody s_are_integers) T_are_integers := (dss_one (ds_ret (de_and (de_fn (k := lv_is_list) ⟨ok_is_list A B, len_is_list⟩ (show lv_is_list ≤ 1 by decide) B.g_is_list A.F_is_list.kp (bN_is_list A) (da_cons (de_var 0) da_nil)) (de_one (de_callB (fun _ h => o_all h) lo_all B.n_all (by decide +kernel) (da_cons (de_comp [("number", 1)] sc_are_integers.nd (di_seq (de_var 0)) (by show blkC N_are_integers (defScope s_are_integers) _ _ = true; decide +kernel) (dg_name (i := 1) sc_are_integers.nd rfl (Or.inl rfl)) dts_nil (de_fn (k := lv_is_integer) ⟨ok_is_integer A B, len_is_integer⟩ (show lv_is_integer ≤ 1 by decide) B.g_is_integer A.F_is_integer.kp (bN_is_integer A) (da_cons (de_var 1) da_nil))) da_nil))))))
theorem ok_are_integers (A : Fds K) (B : Gm K mg) : FnG P w K mg base lv_are_integers (He.ga K "are_integers") A.fd_are_integers ["value"] (Lift K 1 sp_are_integers) := lift_mono (fn_body A.F_are_integers sc_are_integers (w_are_integers A B)) m_are_integers
/-! ### law -/
def T1_law : TSD := (dSet 1 (dFn sp_law_hamper (dCons (dVar 0) dNil)))
def T2_law_b0_9 : TSD := (dIf (dOr (dNot (dTru (dFn sp_law_names_right (dCons (dVar 1) dNil)))) (dNot (dTru (dFn sp_law_setting_right (dCons (dVar 1) dNil))))) (dRet (dLit (.bool false))) dNext)
def T2_law_b0_8 : TSD := dSeq (dIf (dVal (dBin neD (dCall reprD (dCons (dLst (dCons (dFnK sp_are_integers [0] 0 (["value"] : List Str).length dNil (dCons (dVar 10) dNil)) (dCons (dFn sp_are_integers (dCons (dCall tupleD (dCons (dVar 10) dNil)) dNil)) (dCons (dFn sp_are_integers (dCons (dDict (((dLit (.int 0)), (dLit (.int 1))) :: [])) dNil)) (dCons (dFn sp_are_integers (dCons (dLit (.str "1")) dNil)) dNil))))) dNil)) (dCall reprD (dCons (dLst (dCons (dVar 12) (dCons (dVar 12) (dCons (dLit (.bool false)) (dCons (dLit (.bool false)) dNil))))) dNil)))) (dRet (dLit (.bool false))) dNext) T2_law_b0_9
def T2_law_b0_7 : TSD := dSeq (dSet 12 (dBin eqD (dComp [13] (dSeqI (dVar 10)) (gdName 13) (dNot (dTru (dFn sp_law_own_integer (dCons (dVar 13) dNil)))) (dVar 13)) (dLst dNil))) T2_law_b0_8
def T2_law_b0_6 : TSD := dSeq (dSet 10 (dComp [11] (dRng1 (dFn sp_law_delve (dCons (dVar 1) (dCons (dLit (.int 4)) dNil)))) (gdName 11) dYes (dFn sp_law_one (dCons (dVar 1) (dCons (dLst (dCons (dFn sp_law_delve (dCons (dVar 1) (dCons (dLit (.int 9)) dNil))) (dCons (dBin powD (dLit (.int 10)) (dLit (.int 40))) (dCons (dFn sp_law_one (dCons (dVar 1) (dCons (dLst (dCons (dLit (.bool true)) (dCons (dLit .none) (dCons (dLit (.str "1")) (dCons (dLst (dCons (dLit (.int 1)) dNil)) (dCons (dUn negD (dLit (.int 7))) dNil)))))) dNil))) dNil)))) dNil))))) T2_law_b0_7
def T2_law_b0_5 : TSD := dSeq (dIf (dOr (dVal (dBin neD (dCall reprD (dCons (dFnK sp_is_integer [0] 0 (["value"] : List Str).length dNil (dCons (dVar 6) dNil)) dNil)) (dCall reprD (dCons (dFn sp_law_own_integer (dCons (dVar 6) dNil)) dNil)))) (dVal (dBin neD (dCall reprD (dCons (dFnK sp_is_within [2, 1, 0] 0 (["most", "least", "value"] : List Str).length dNil (dCons (dVar 8) (dCons (dVar 7) (dCons (dVar 6) dNil)))) dNil)) (dCall reprD (dCons (dVar 9) dNil))))) (dRet (dLit (.bool false))) dNext) T2_law_b0_6
def T2_law_b0_4 : TSD := dSeq (dSet 9 (dAndE (dFn sp_law_own_integer (dCons (dVar 6) dNil)) (dAndE (dOrE (dBin isD0 (dVar 7) (dLit .none)) (dBin geqD (dVar 6) (dVar 7))) (dOrE (dBin isD0 (dVar 8) (dLit .none)) (dBin leqD (dVar 6) (dVar 8)))))) T2_law_b0_5
def T2_law_b0_3 : TSD := dSeq (dPar 7 8 (dCons (dFn sp_law_one (dCons (dVar 1) (dCons (dLst (dCons (dVar 4) (dCons (dLit .none) dNil))) dNil))) (dCons (dFn sp_law_one (dCons (dVar 1) (dCons (dLst (dCons (dVar 5) (dCons (dLit .none) dNil))) dNil))) dNil))) T2_law_b0_4
def T2_law_b0_2 : TSD := dSeq (dSet 6 (dFn sp_law_one (dCons (dVar 1) (dCons (dLst (dCons (dVar 3) (dCons (dVar 4) (dCons (dVar 5) (dCons (dBin subD (dVar 4) (dLit (.int 1))) (dCons (dBin addD (dVar 5) (dLit (.int 1))) (dCons (dLit (.int 0)) dNil))))))) dNil)))) T2_law_b0_3
def T2_law_b0_1 : TSD := dSeq (dPar 4 5 (dCons (dBin subD (dFn sp_law_delve (dCons (dVar 1) (dCons (dLit (.int 9)) dNil))) (dLit (.int 4))) (dCons (dBin subD (dFn sp_law_delve (dCons (dVar 1) (dCons (dLit (.int 9)) dNil))) (dLit (.int 4))) dNil))) T2_law_b0_2
def T2_law_b0 : TSD := dSeq (dSet 3 (dFn sp_law_value (dCons (dVar 1) dNil))) T2_law_b0_1
def T2_law_1 : TSD := (dRet (dLit (.bool true)))
def T2_law : TSD := dSeq (dFor (dRng1 (dLit (.int 4))) (gdName 2) T2_law_b0) T2_law_1
theorem m1_law (ns : List Int) (h : ns.length ≤ 63) : T1_law { nx := fun s => (∃ cl n c, cl.length ≤ 63 ∧ s = ⟨some (.scr ns) :: some (.d (sat0 cl)) :: List.replicate 12 none, n, c⟩), rt := fun _ _ => False } ⟨some (.scr ns) :: List.replicate 13 none, 0, none⟩ := by
  unfold T1_law
  (try simp only [y_seq, y_next, y_ret, y_kRet, y_set, y_kSet, y_if, y_kIf, y_drop, y_kDrop, y_break, y_cont, y_lit, y_var, y_kO, y_bin, y_kB1, y_kB2, y_un, y_kU, y_call, y_kC, y_kC2, y_are0, y_are1, y_kAre, y_tup, y_lst, y_tupN, y_lstN, y_nil, y_cons, y_kA1, y_kA2, y_fn, y_kF, y_kR, y_fnK, y_kFnK1, y_kFnK, y_val, y_kV, y_tru, y_kT, y_kTb, y_and, y_or, y_not, y_kAn, y_kOr, y_kNo, y_ifE, y_kIfE, y_andE, y_kAnE, y_orE, y_kOrE, y_notE, y_kNoE, y_isI, y_kIsI, y_chain, y_kCh, y_kCh1, y_kCh2, y_kCh3, y_comp, y_kCo, y_kL, y_comp0, y_seqI, y_kSI, y_kIt, y_rng, y_kRg, y_for, y_kFo, y_part, y_kPt, y_noPart, y_slice, y_kSl1, y_kSl2, y_kSl3, y_slL, y_slT, y_slS, y_revL, y_par, y_kPar, y_asg, y_kAsg, y_gName, y_gTup, y_gCons, y_kG1, y_yes, y_methS, y_kM1, y_kM2, y_newTab, y_newOwn, y_putTab, y_kP1, y_kP2, y_inTab, y_kIn, y_append, y_kAp, y_step, y_kSc, y_kSc1, y_kSc2, y_plNil, y_sl, y_ixL0, y_ixT0, y_ixL1, y_ixT1, y_ixLm, y_dictS, y_dictI, x_varD, x_varSat, x_varScr, x_varOwn, x_varTab, x_intD, x_cmp, x_addI, x_addS, x_addL, x_subI, x_mulI, x_divI, x_modI, x_powI, x_negI, x_intI, x_intB, x_absI, x_truB, x_truI, x_truL, x_truT, x_sat1, x_sat2, x_sat0n, x_sat0s, x_satIs, x_put1, x_put2, x_eqI, x_ltI, x_al2I, x_pl2I, x_lenL, x_lenT, x_lenS, x_ixS, x_tupleL, x_tupleT, x_listL, x_listT, x_strI, x_repr, x_sorted, x_itL, x_itT, x_itS, x_wipe0, x_wipe1, x_keyS, x_keyI, x_items, x_sortItems, x_scrCut, x_isD, x_bOf, x_gNil, isT_int, isT_bool, isT_str, isT_list, isT_tuple, isT_dict, x_al2S, x_pl2S, x_eqS, x_inS, List.getElem?_cons_zero, List.getElem?_cons_succ, List.set_cons_zero, List.set_cons_succ, List.length_cons, List.length_nil, Nat.reduceAdd, Nat.reduceSub, Nat.reduceLT, Nat.reduceLeDiff, Nat.lt_add_one, Nat.zero_add, List.map_cons, List.map_nil, List.append_nil, List.cons_append, List.nil_append, List.reduceReplicate, List.replicate_zero, List.replicate_succ, reduceIte, if_true, if_false, true_and, and_true, Bool.not_true, Bool.not_false, Bool.false_eq_true, Nat.zero_lt_succ, Nat.add_lt_add_iff_right, Int.reduceEq, decide_true, decide_false, Int.reduceNeg, Int.reduceSub, Int.reduceAdd, x_eqvNil, x_pl2Nil, y_plNil, Bool.not_eq_true', List.isEmpty_nil, List.isEmpty_cons])
  refine ⟨ns, rfl, fun cl hc => ?_⟩
  (try simp only [y_seq, y_next, y_ret, y_kRet, y_set, y_kSet, y_if, y_kIf, y_drop, y_kDrop, y_break, y_cont, y_lit, y_var, y_kO, y_bin, y_kB1, y_kB2, y_un, y_kU, y_call, y_kC, y_kC2, y_are0, y_are1, y_kAre, y_tup, y_lst, y_tupN, y_lstN, y_nil, y_cons, y_kA1, y_kA2, y_fn, y_kF, y_kR, y_fnK, y_kFnK1, y_kFnK, y_val, y_kV, y_tru, y_kT, y_kTb, y_and, y_or, y_not, y_kAn, y_kOr, y_kNo, y_ifE, y_kIfE, y_andE, y_kAnE, y_orE, y_kOrE, y_notE, y_kNoE, y_isI, y_kIsI, y_chain, y_kCh, y_kCh1, y_kCh2, y_kCh3, y_comp, y_kCo, y_kL, y_comp0, y_seqI, y_kSI, y_kIt, y_rng, y_kRg, y_for, y_kFo, y_part, y_kPt, y_noPart, y_slice, y_kSl1, y_kSl2, y_kSl3, y_slL, y_slT, y_slS, y_revL, y_par, y_kPar, y_asg, y_kAsg, y_gName, y_gTup, y_gCons, y_kG1, y_yes, y_methS, y_kM1, y_kM2, y_newTab, y_newOwn, y_putTab, y_kP1, y_kP2, y_inTab, y_kIn, y_append, y_kAp, y_step, y_kSc, y_kSc1, y_kSc2, y_plNil, y_sl, y_ixL0, y_ixT0, y_ixL1, y_ixT1, y_ixLm, y_dictS, y_dictI, x_varD, x_varSat, x_varScr, x_varOwn, x_varTab, x_intD, x_cmp, x_addI, x_addS, x_addL, x_subI, x_mulI, x_divI, x_modI, x_powI, x_negI, x_intI, x_intB, x_absI, x_truB, x_truI, x_truL, x_truT, x_sat1, x_sat2, x_sat0n, x_sat0s, x_satIs, x_put1, x_put2, x_eqI, x_ltI, x_al2I, x_pl2I, x_lenL, x_lenT, x_lenS, x_ixS, x_tupleL, x_tupleT, x_listL, x_listT, x_strI, x_repr, x_sorted, x_itL, x_itT, x_itS, x_wipe0, x_wipe1, x_keyS, x_keyI, x_items, x_sortItems, x_scrCut, x_isD, x_bOf, x_gNil, isT_int, isT_bool, isT_str, isT_list, isT_tuple, isT_dict, x_al2S, x_pl2S, x_eqS, x_inS, List.getElem?_cons_zero, List.getElem?_cons_succ, List.set_cons_zero, List.set_cons_succ, List.length_cons, List.length_nil, Nat.reduceAdd, Nat.reduceSub, Nat.reduceLT, Nat.reduceLeDiff, Nat.lt_add_one, Nat.zero_add, List.map_cons, List.map_nil, List.append_nil, List.cons_append, List.nil_append, List.reduceReplicate, List.replicate_zero, List.replicate_succ, reduceIte, if_true, if_false, true_and, and_true, Bool.not_true, Bool.not_false, Bool.false_eq_true, Nat.zero_lt_succ, Nat.add_lt_add_iff_right, Int.reduceEq, decide_true, decide_false, Int.reduceNeg, Int.reduceSub, Int.reduceAdd, x_eqvNil, x_pl2Nil, y_plNil, Bool.not_eq_true', List.isEmpty_nil, List.isEmpty_cons])
  exact ⟨cl, 0, none, hc, rfl⟩
theorem due_val {x : PyData} {lo hi : Option Int} {ρ : List (Option DV)} {n : Nat} {Q : DV → DS → Prop} (h6 : ρ[6]? = some (some (.d x))) (h7 : ρ[7]? = some (some (.d (oI lo)))) (h8 : ρ[8]? = some (some (.d (oI hi)))) (q : Q (.d (.bool (withinD x lo hi))) ⟨ρ, n, none⟩) :
    kR ρ (kAnE (dAndE (dOrE (dBin isD0 (dVar 7) (dLit .none)) (dBin geqD (dVar 6) (dVar 7))) (dOrE (dBin isD0 (dVar 8) (dLit .none)) (dBin leqD (dVar 6) (dVar 8)))) Q) (.d (.bool (isIntD x))) n := by
  have q : ∀ b, withinD x lo hi = b → Q (.d (.bool b)) ⟨ρ, n, none⟩ := fun b e => e ▸ q
  cases x with
  | int i =>
    (try simp only [y_seq, y_next, y_ret, y_kRet, y_set, y_kSet, y_if, y_kIf, y_drop, y_kDrop, y_break, y_cont, y_lit, y_var, y_kO, y_bin, y_kB1, y_kB2, y_un, y_kU, y_call, y_kC, y_kC2, y_are0, y_are1, y_kAre, y_tup, y_lst, y_tupN, y_lstN, y_nil, y_cons, y_kA1, y_kA2, y_fn, y_kF, y_kR, y_fnK, y_kFnK1, y_kFnK, y_val, y_kV, y_tru, y_kT, y_kTb, y_and, y_or, y_not, y_kAn, y_kOr, y_kNo, y_ifE, y_kIfE, y_andE, y_kAnE, y_orE, y_kOrE, y_notE, y_kNoE, y_isI, y_kIsI, y_chain, y_kCh, y_kCh1, y_kCh2, y_kCh3, y_comp, y_kCo, y_kL, y_comp0, y_seqI, y_kSI, y_kIt, y_rng, y_kRg, y_for, y_kFo, y_part, y_kPt, y_noPart, y_slice, y_kSl1, y_kSl2, y_kSl3, y_slL, y_slT, y_slS, y_revL, y_par, y_kPar, y_asg, y_kAsg, y_gName, y_gTup, y_gCons, y_kG1, y_yes, y_methS, y_kM1, y_kM2, y_newTab, y_newOwn, y_putTab, y_kP1, y_kP2, y_inTab, y_kIn, y_append, y_kAp, y_step, y_kSc, y_kSc1, y_kSc2, y_plNil, y_sl, y_ixL0, y_ixT0, y_ixL1, y_ixT1, y_ixLm, y_dictS, y_dictI, x_varD, x_varSat, x_varScr, x_varOwn, x_varTab, x_intD, x_cmp, x_addI, x_addS, x_addL, x_subI, x_mulI, x_divI, x_modI, x_powI, x_negI, x_intI, x_intB, x_absI, x_truB, x_truI, x_truL, x_truT, x_sat1, x_sat2, x_sat0n, x_sat0s, x_satIs, x_put1, x_put2, x_eqI, x_ltI, x_al2I, x_pl2I, x_lenL, x_lenT, x_lenS, x_ixS, x_tupleL, x_tupleT, x_listL, x_listT, x_strI, x_repr, x_sorted, x_itL, x_itT, x_itS, x_wipe0, x_wipe1, x_keyS, x_keyI, x_items, x_sortItems, x_scrCut, x_isD, x_bOf, x_gNil, isT_int, isT_bool, isT_str, isT_list, isT_tuple, isT_dict, x_al2S, x_pl2S, x_eqS, x_inS, List.getElem?_cons_zero, List.getElem?_cons_succ, List.set_cons_zero, List.set_cons_succ, List.length_cons, List.length_nil, Nat.reduceAdd, Nat.reduceSub, Nat.reduceLT, Nat.reduceLeDiff, Nat.lt_add_one, Nat.zero_add, List.map_cons, List.map_nil, List.append_nil, List.cons_append, List.nil_append, List.reduceReplicate, List.replicate_zero, List.replicate_succ, reduceIte, if_true, if_false, true_and, and_true, Bool.not_true, Bool.not_false, Bool.false_eq_true, Nat.zero_lt_succ, Nat.add_lt_add_iff_right, Int.reduceEq, decide_true, decide_false, Int.reduceNeg, Int.reduceSub, Int.reduceAdd, x_eqvNil, x_pl2Nil, y_plNil, Bool.not_eq_true', List.isEmpty_nil, List.isEmpty_cons, isIntD, h7])
    cases lo with
    | none =>
      (try simp only [y_seq, y_next, y_ret, y_kRet, y_set, y_kSet, y_if, y_kIf, y_drop, y_kDrop, y_break, y_cont, y_lit, y_var, y_kO, y_bin, y_kB1, y_kB2, y_un, y_kU, y_call, y_kC, y_kC2, y_are0, y_are1, y_kAre, y_tup, y_lst, y_tupN, y_lstN, y_nil, y_cons, y_kA1, y_kA2, y_fn, y_kF, y_kR, y_fnK, y_kFnK1, y_kFnK, y_val, y_kV, y_tru, y_kT, y_kTb, y_and, y_or, y_not, y_kAn, y_kOr, y_kNo, y_ifE, y_kIfE, y_andE, y_kAnE, y_orE, y_kOrE, y_notE, y_kNoE, y_isI, y_kIsI, y_chain, y_kCh, y_kCh1, y_kCh2, y_kCh3, y_comp, y_kCo, y_kL, y_comp0, y_seqI, y_kSI, y_kIt, y_rng, y_kRg, y_for, y_kFo, y_part, y_kPt, y_noPart, y_slice, y_kSl1, y_kSl2, y_kSl3, y_slL, y_slT, y_slS, y_revL, y_par, y_kPar, y_asg, y_kAsg, y_gName, y_gTup, y_gCons, y_kG1, y_yes, y_methS, y_kM1, y_kM2, y_newTab, y_newOwn, y_putTab, y_kP1, y_kP2, y_inTab, y_kIn, y_append, y_kAp, y_step, y_kSc, y_kSc1, y_kSc2, y_plNil, y_sl, y_ixL0, y_ixT0, y_ixL1, y_ixT1, y_ixLm, y_dictS, y_dictI, x_varD, x_varSat, x_varScr, x_varOwn, x_varTab, x_intD, x_cmp, x_addI, x_addS, x_addL, x_subI, x_mulI, x_divI, x_modI, x_powI, x_negI, x_intI, x_intB, x_absI, x_truB, x_truI, x_truL, x_truT, x_sat1, x_sat2, x_sat0n, x_sat0s, x_satIs, x_put1, x_put2, x_eqI, x_ltI, x_al2I, x_pl2I, x_lenL, x_lenT, x_lenS, x_ixS, x_tupleL, x_tupleT, x_listL, x_listT, x_strI, x_repr, x_sorted, x_itL, x_itT, x_itS, x_wipe0, x_wipe1, x_keyS, x_keyI, x_items, x_sortItems, x_scrCut, x_isD, x_bOf, x_gNil, isT_int, isT_bool, isT_str, isT_list, isT_tuple, isT_dict, x_al2S, x_pl2S, x_eqS, x_inS, List.getElem?_cons_zero, List.getElem?_cons_succ, List.set_cons_zero, List.set_cons_succ, List.length_cons, List.length_nil, Nat.reduceAdd, Nat.reduceSub, Nat.reduceLT, Nat.reduceLeDiff, Nat.lt_add_one, Nat.zero_add, List.map_cons, List.map_nil, List.append_nil, List.cons_append, List.nil_append, List.reduceReplicate, List.replicate_zero, List.replicate_succ, reduceIte, if_true, if_false, true_and, and_true, Bool.not_true, Bool.not_false, Bool.false_eq_true, Nat.zero_lt_succ, Nat.add_lt_add_iff_right, Int.reduceEq, decide_true, decide_false, Int.reduceNeg, Int.reduceSub, Int.reduceAdd, x_eqvNil, x_pl2Nil, y_plNil, Bool.not_eq_true', List.isEmpty_nil, List.isEmpty_cons, oI, h8])
      cases hi with
      | none => (try simp only [y_seq, y_next, y_ret, y_kRet, y_set, y_kSet, y_if, y_kIf, y_drop, y_kDrop, y_break, y_cont, y_lit, y_var, y_kO, y_bin, y_kB1, y_kB2, y_un, y_kU, y_call, y_kC, y_kC2, y_are0, y_are1, y_kAre, y_tup, y_lst, y_tupN, y_lstN, y_nil, y_cons, y_kA1, y_kA2, y_fn, y_kF, y_kR, y_fnK, y_kFnK1, y_kFnK, y_val, y_kV, y_tru, y_kT, y_kTb, y_and, y_or, y_not, y_kAn, y_kOr, y_kNo, y_ifE, y_kIfE, y_andE, y_kAnE, y_orE, y_kOrE, y_notE, y_kNoE, y_isI, y_kIsI, y_chain, y_kCh, y_kCh1, y_kCh2, y_kCh3, y_comp, y_kCo, y_kL, y_comp0, y_seqI, y_kSI, y_kIt, y_rng, y_kRg, y_for, y_kFo, y_part, y_kPt, y_noPart, y_slice, y_kSl1, y_kSl2, y_kSl3, y_slL, y_slT, y_slS, y_revL, y_par, y_kPar, y_asg, y_kAsg, y_gName, y_gTup, y_gCons, y_kG1, y_yes, y_methS, y_kM1, y_kM2, y_newTab, y_newOwn, y_putTab, y_kP1, y_kP2, y_inTab, y_kIn, y_append, y_kAp, y_step, y_kSc, y_kSc1, y_kSc2, y_plNil, y_sl, y_ixL0, y_ixT0, y_ixL1, y_ixT1, y_ixLm, y_dictS, y_dictI, x_varD, x_varSat, x_varScr, x_varOwn, x_varTab, x_intD, x_cmp, x_addI, x_addS, x_addL, x_subI, x_mulI, x_divI, x_modI, x_powI, x_negI, x_intI, x_intB, x_absI, x_truB, x_truI, x_truL, x_truT, x_sat1, x_sat2, x_sat0n, x_sat0s, x_satIs, x_put1, x_put2, x_eqI, x_ltI, x_al2I, x_pl2I, x_lenL, x_lenT, x_lenS, x_ixS, x_tupleL, x_tupleT, x_listL, x_listT, x_strI, x_repr, x_sorted, x_itL, x_itT, x_itS, x_wipe0, x_wipe1, x_keyS, x_keyI, x_items, x_sortItems, x_scrCut, x_isD, x_bOf, x_gNil, isT_int, isT_bool, isT_str, isT_list, isT_tuple, isT_dict, x_al2S, x_pl2S, x_eqS, x_inS, List.getElem?_cons_zero, List.getElem?_cons_succ, List.set_cons_zero, List.set_cons_succ, List.length_cons, List.length_nil, Nat.reduceAdd, Nat.reduceSub, Nat.reduceLT, Nat.reduceLeDiff, Nat.lt_add_one, Nat.zero_add, List.map_cons, List.map_nil, List.append_nil, List.cons_append, List.nil_append, List.reduceReplicate, List.replicate_zero, List.replicate_succ, reduceIte, if_true, if_false, true_and, and_true, Bool.not_true, Bool.not_false, Bool.false_eq_true, Nat.zero_lt_succ, Nat.add_lt_add_iff_right, Int.reduceEq, decide_true, decide_false, Int.reduceNeg, Int.reduceSub, Int.reduceAdd, x_eqvNil, x_pl2Nil, y_plNil, Bool.not_eq_true', List.isEmpty_nil, List.isEmpty_cons, oI]); exact q _ rfl
      | some b =>
        (try simp only [y_seq, y_next, y_ret, y_kRet, y_set, y_kSet, y_if, y_kIf, y_drop, y_kDrop, y_break, y_cont, y_lit, y_var, y_kO, y_bin, y_kB1, y_kB2, y_un, y_kU, y_call, y_kC, y_kC2, y_are0, y_are1, y_kAre, y_tup, y_lst, y_tupN, y_lstN, y_nil, y_cons, y_kA1, y_kA2, y_fn, y_kF, y_kR, y_fnK, y_kFnK1, y_kFnK, y_val, y_kV, y_tru, y_kT, y_kTb, y_and, y_or, y_not, y_kAn, y_kOr, y_kNo, y_ifE, y_kIfE, y_andE, y_kAnE, y_orE, y_kOrE, y_notE, y_kNoE, y_isI, y_kIsI, y_chain, y_kCh, y_kCh1, y_kCh2, y_kCh3, y_comp, y_kCo, y_kL, y_comp0, y_seqI, y_kSI, y_kIt, y_rng, y_kRg, y_for, y_kFo, y_part, y_kPt, y_noPart, y_slice, y_kSl1, y_kSl2, y_kSl3, y_slL, y_slT, y_slS, y_revL, y_par, y_kPar, y_asg, y_kAsg, y_gName, y_gTup, y_gCons, y_kG1, y_yes, y_methS, y_kM1, y_kM2, y_newTab, y_newOwn, y_putTab, y_kP1, y_kP2, y_inTab, y_kIn, y_append, y_kAp, y_step, y_kSc, y_kSc1, y_kSc2, y_plNil, y_sl, y_ixL0, y_ixT0, y_ixL1, y_ixT1, y_ixLm, y_dictS, y_dictI, x_varD, x_varSat, x_varScr, x_varOwn, x_varTab, x_intD, x_cmp, x_addI, x_addS, x_addL, x_subI, x_mulI, x_divI, x_modI, x_powI, x_negI, x_intI, x_intB, x_absI, x_truB, x_truI, x_truL, x_truT, x_sat1, x_sat2, x_sat0n, x_sat0s, x_satIs, x_put1, x_put2, x_eqI, x_ltI, x_al2I, x_pl2I, x_lenL, x_lenT, x_lenS, x_ixS, x_tupleL, x_tupleT, x_listL, x_listT, x_strI, x_repr, x_sorted, x_itL, x_itT, x_itS, x_wipe0, x_wipe1, x_keyS, x_keyI, x_items, x_sortItems, x_scrCut, x_isD, x_bOf, x_gNil, isT_int, isT_bool, isT_str, isT_list, isT_tuple, isT_dict, x_al2S, x_pl2S, x_eqS, x_inS, List.getElem?_cons_zero, List.getElem?_cons_succ, List.set_cons_zero, List.set_cons_succ, List.length_cons, List.length_nil, Nat.reduceAdd, Nat.reduceSub, Nat.reduceLT, Nat.reduceLeDiff, Nat.lt_add_one, Nat.zero_add, List.map_cons, List.map_nil, List.append_nil, List.cons_append, List.nil_append, List.reduceReplicate, List.replicate_zero, List.replicate_succ, reduceIte, if_true, if_false, true_and, and_true, Bool.not_true, Bool.not_false, Bool.false_eq_true, Nat.zero_lt_succ, Nat.add_lt_add_iff_right, Int.reduceEq, decide_true, decide_false, Int.reduceNeg, Int.reduceSub, Int.reduceAdd, x_eqvNil, x_pl2Nil, y_plNil, Bool.not_eq_true', List.isEmpty_nil, List.isEmpty_cons, oI, h6, h8])
        by_cases hb : b < i
        · have : ¬ i ≤ b := by omega
          (try simp only [y_seq, y_next, y_ret, y_kRet, y_set, y_kSet, y_if, y_kIf, y_drop, y_kDrop, y_break, y_cont, y_lit, y_var, y_kO, y_bin, y_kB1, y_kB2, y_un, y_kU, y_call, y_kC, y_kC2, y_are0, y_are1, y_kAre, y_tup, y_lst, y_tupN, y_lstN, y_nil, y_cons, y_kA1, y_kA2, y_fn, y_kF, y_kR, y_fnK, y_kFnK1, y_kFnK, y_val, y_kV, y_tru, y_kT, y_kTb, y_and, y_or, y_not, y_kAn, y_kOr, y_kNo, y_ifE, y_kIfE, y_andE, y_kAnE, y_orE, y_kOrE, y_notE, y_kNoE, y_isI, y_kIsI, y_chain, y_kCh, y_kCh1, y_kCh2, y_kCh3, y_comp, y_kCo, y_kL, y_comp0, y_seqI, y_kSI, y_kIt, y_rng, y_kRg, y_for, y_kFo, y_part, y_kPt, y_noPart, y_slice, y_kSl1, y_kSl2, y_kSl3, y_slL, y_slT, y_slS, y_revL, y_par, y_kPar, y_asg, y_kAsg, y_gName, y_gTup, y_gCons, y_kG1, y_yes, y_methS, y_kM1, y_kM2, y_newTab, y_newOwn, y_putTab, y_kP1, y_kP2, y_inTab, y_kIn, y_append, y_kAp, y_step, y_kSc, y_kSc1, y_kSc2, y_plNil, y_sl, y_ixL0, y_ixT0, y_ixL1, y_ixT1, y_ixLm, y_dictS, y_dictI, x_varD, x_varSat, x_varScr, x_varOwn, x_varTab, x_intD, x_cmp, x_addI, x_addS, x_addL, x_subI, x_mulI, x_divI, x_modI, x_powI, x_negI, x_intI, x_intB, x_absI, x_truB, x_truI, x_truL, x_truT, x_sat1, x_sat2, x_sat0n, x_sat0s, x_satIs, x_put1, x_put2, x_eqI, x_ltI, x_al2I, x_pl2I, x_lenL, x_lenT, x_lenS, x_ixS, x_tupleL, x_tupleT, x_listL, x_listT, x_strI, x_repr, x_sorted, x_itL, x_itT, x_itS, x_wipe0, x_wipe1, x_keyS, x_keyI, x_items, x_sortItems, x_scrCut, x_isD, x_bOf, x_gNil, isT_int, isT_bool, isT_str, isT_list, isT_tuple, isT_dict, x_al2S, x_pl2S, x_eqS, x_inS, List.getElem?_cons_zero, List.getElem?_cons_succ, List.set_cons_zero, List.set_cons_succ, List.length_cons, List.length_nil, Nat.reduceAdd, Nat.reduceSub, Nat.reduceLT, Nat.reduceLeDiff, Nat.lt_add_one, Nat.zero_add, List.map_cons, List.map_nil, List.append_nil, List.cons_append, List.nil_append, List.reduceReplicate, List.replicate_zero, List.replicate_succ, reduceIte, if_true, if_false, true_and, and_true, Bool.not_true, Bool.not_false, Bool.false_eq_true, Nat.zero_lt_succ, Nat.add_lt_add_iff_right, Int.reduceEq, decide_true, decide_false, Int.reduceNeg, Int.reduceSub, Int.reduceAdd, x_eqvNil, x_pl2Nil, y_plNil, Bool.not_eq_true', List.isEmpty_nil, List.isEmpty_cons, hb]); exact q _ (by simp [withinD, this])
        · have : i ≤ b := by omega
          (try simp only [y_seq, y_next, y_ret, y_kRet, y_set, y_kSet, y_if, y_kIf, y_drop, y_kDrop, y_break, y_cont, y_lit, y_var, y_kO, y_bin, y_kB1, y_kB2, y_un, y_kU, y_call, y_kC, y_kC2, y_are0, y_are1, y_kAre, y_tup, y_lst, y_tupN, y_lstN, y_nil, y_cons, y_kA1, y_kA2, y_fn, y_kF, y_kR, y_fnK, y_kFnK1, y_kFnK, y_val, y_kV, y_tru, y_kT, y_kTb, y_and, y_or, y_not, y_kAn, y_kOr, y_kNo, y_ifE, y_kIfE, y_andE, y_kAnE, y_orE, y_kOrE, y_notE, y_kNoE, y_isI, y_kIsI, y_chain, y_kCh, y_kCh1, y_kCh2, y_kCh3, y_comp, y_kCo, y_kL, y_comp0, y_seqI, y_kSI, y_kIt, y_rng, y_kRg, y_for, y_kFo, y_part, y_kPt, y_noPart, y_slice, y_kSl1, y_kSl2, y_kSl3, y_slL, y_slT, y_slS, y_revL, y_par, y_kPar, y_asg, y_kAsg, y_gName, y_gTup, y_gCons, y_kG1, y_yes, y_methS, y_kM1, y_kM2, y_newTab, y_newOwn, y_putTab, y_kP1, y_kP2, y_inTab, y_kIn, y_append, y_kAp, y_step, y_kSc, y_kSc1, y_kSc2, y_plNil, y_sl, y_ixL0, y_ixT0, y_ixL1, y_ixT1, y_ixLm, y_dictS, y_dictI, x_varD, x_varSat, x_varScr, x_varOwn, x_varTab, x_intD, x_cmp, x_addI, x_addS, x_addL, x_subI, x_mulI, x_divI, x_modI, x_powI, x_negI, x_intI, x_intB, x_absI, x_truB, x_truI, x_truL, x_truT, x_sat1, x_sat2, x_sat0n, x_sat0s, x_satIs, x_put1, x_put2, x_eqI, x_ltI, x_al2I, x_pl2I, x_lenL, x_lenT, x_lenS, x_ixS, x_tupleL, x_tupleT, x_listL, x_listT, x_strI, x_repr, x_sorted, x_itL, x_itT, x_itS, x_wipe0, x_wipe1, x_keyS, x_keyI, x_items, x_sortItems, x_scrCut, x_isD, x_bOf, x_gNil, isT_int, isT_bool, isT_str, isT_list, isT_tuple, isT_dict, x_al2S, x_pl2S, x_eqS, x_inS, List.getElem?_cons_zero, List.getElem?_cons_succ, List.set_cons_zero, List.set_cons_succ, List.length_cons, List.length_nil, Nat.reduceAdd, Nat.reduceSub, Nat.reduceLT, Nat.reduceLeDiff, Nat.lt_add_one, Nat.zero_add, List.map_cons, List.map_nil, List.append_nil, List.cons_append, List.nil_append, List.reduceReplicate, List.replicate_zero, List.replicate_succ, reduceIte, if_true, if_false, true_and, and_true, Bool.not_true, Bool.not_false, Bool.false_eq_true, Nat.zero_lt_succ, Nat.add_lt_add_iff_right, Int.reduceEq, decide_true, decide_false, Int.reduceNeg, Int.reduceSub, Int.reduceAdd, x_eqvNil, x_pl2Nil, y_plNil, Bool.not_eq_true', List.isEmpty_nil, List.isEmpty_cons, hb]); exact q _ (by simp [withinD, this])
    | some a =>
      (try simp only [y_seq, y_next, y_ret, y_kRet, y_set, y_kSet, y_if, y_kIf, y_drop, y_kDrop, y_break, y_cont, y_lit, y_var, y_kO, y_bin, y_kB1, y_kB2, y_un, y_kU, y_call, y_kC, y_kC2, y_are0, y_are1, y_kAre, y_tup, y_lst, y_tupN, y_lstN, y_nil, y_cons, y_kA1, y_kA2, y_fn, y_kF, y_kR, y_fnK, y_kFnK1, y_kFnK, y_val, y_kV, y_tru, y_kT, y_kTb, y_and, y_or, y_not, y_kAn, y_kOr, y_kNo, y_ifE, y_kIfE, y_andE, y_kAnE, y_orE, y_kOrE, y_notE, y_kNoE, y_isI, y_kIsI, y_chain, y_kCh, y_kCh1, y_kCh2, y_kCh3, y_comp, y_kCo, y_kL, y_comp0, y_seqI, y_kSI, y_kIt, y_rng, y_kRg, y_for, y_kFo, y_part, y_kPt, y_noPart, y_slice, y_kSl1, y_kSl2, y_kSl3, y_slL, y_slT, y_slS, y_revL, y_par, y_kPar, y_asg, y_kAsg, y_gName, y_gTup, y_gCons, y_kG1, y_yes, y_methS, y_kM1, y_kM2, y_newTab, y_newOwn, y_putTab, y_kP1, y_kP2, y_inTab, y_kIn, y_append, y_kAp, y_step, y_kSc, y_kSc1, y_kSc2, y_plNil, y_sl, y_ixL0, y_ixT0, y_ixL1, y_ixT1, y_ixLm, y_dictS, y_dictI, x_varD, x_varSat, x_varScr, x_varOwn, x_varTab, x_intD, x_cmp, x_addI, x_addS, x_addL, x_subI, x_mulI, x_divI, x_modI, x_powI, x_negI, x_intI, x_intB, x_absI, x_truB, x_truI, x_truL, x_truT, x_sat1, x_sat2, x_sat0n, x_sat0s, x_satIs, x_put1, x_put2, x_eqI, x_ltI, x_al2I, x_pl2I, x_lenL, x_lenT, x_lenS, x_ixS, x_tupleL, x_tupleT, x_listL, x_listT, x_strI, x_repr, x_sorted, x_itL, x_itT, x_itS, x_wipe0, x_wipe1, x_keyS, x_keyI, x_items, x_sortItems, x_scrCut, x_isD, x_bOf, x_gNil, isT_int, isT_bool, isT_str, isT_list, isT_tuple, isT_dict, x_al2S, x_pl2S, x_eqS, x_inS, List.getElem?_cons_zero, List.getElem?_cons_succ, List.set_cons_zero, List.set_cons_succ, List.length_cons, List.length_nil, Nat.reduceAdd, Nat.reduceSub, Nat.reduceLT, Nat.reduceLeDiff, Nat.lt_add_one, Nat.zero_add, List.map_cons, List.map_nil, List.append_nil, List.cons_append, List.nil_append, List.reduceReplicate, List.replicate_zero, List.replicate_succ, reduceIte, if_true, if_false, true_and, and_true, Bool.not_true, Bool.not_false, Bool.false_eq_true, Nat.zero_lt_succ, Nat.add_lt_add_iff_right, Int.reduceEq, decide_true, decide_false, Int.reduceNeg, Int.reduceSub, Int.reduceAdd, x_eqvNil, x_pl2Nil, y_plNil, Bool.not_eq_true', List.isEmpty_nil, List.isEmpty_cons, oI, h6, h7])
      by_cases ha : i < a
      · have : ¬ a ≤ i := by omega
        (try simp only [y_seq, y_next, y_ret, y_kRet, y_set, y_kSet, y_if, y_kIf, y_drop, y_kDrop, y_break, y_cont, y_lit, y_var, y_kO, y_bin, y_kB1, y_kB2, y_un, y_kU, y_call, y_kC, y_kC2, y_are0, y_are1, y_kAre, y_tup, y_lst, y_tupN, y_lstN, y_nil, y_cons, y_kA1, y_kA2, y_fn, y_kF, y_kR, y_fnK, y_kFnK1, y_kFnK, y_val, y_kV, y_tru, y_kT, y_kTb, y_and, y_or, y_not, y_kAn, y_kOr, y_kNo, y_ifE, y_kIfE, y_andE, y_kAnE, y_orE, y_kOrE, y_notE, y_kNoE, y_isI, y_kIsI, y_chain, y_kCh, y_kCh1, y_kCh2, y_kCh3, y_comp, y_kCo, y_kL, y_comp0, y_seqI, y_kSI, y_kIt, y_rng, y_kRg, y_for, y_kFo, y_part, y_kPt, y_noPart, y_slice, y_kSl1, y_kSl2, y_kSl3, y_slL, y_slT, y_slS, y_revL, y_par, y_kPar, y_asg, y_kAsg, y_gName, y_gTup, y_gCons, y_kG1, y_yes, y_methS, y_kM1, y_kM2, y_newTab, y_newOwn, y_putTab, y_kP1, y_kP2, y_inTab, y_kIn, y_append, y_kAp, y_step, y_kSc, y_kSc1, y_kSc2, y_plNil, y_sl, y_ixL0, y_ixT0, y_ixL1, y_ixT1, y_ixLm, y_dictS, y_dictI, x_varD, x_varSat, x_varScr, x_varOwn, x_varTab, x_intD, x_cmp, x_addI, x_addS, x_addL, x_subI, x_mulI, x_divI, x_modI, x_powI, x_negI, x_intI, x_intB, x_absI, x_truB, x_truI, x_truL, x_truT, x_sat1, x_sat2, x_sat0n, x_sat0s, x_satIs, x_put1, x_put2, x_eqI, x_ltI, x_al2I, x_pl2I, x_lenL, x_lenT, x_lenS, x_ixS, x_tupleL, x_tupleT, x_listL, x_listT, x_strI, x_repr, x_sorted, x_itL, x_itT, x_itS, x_wipe0, x_wipe1, x_keyS, x_keyI, x_items, x_sortItems, x_scrCut, x_isD, x_bOf, x_gNil, isT_int, isT_bool, isT_str, isT_list, isT_tuple, isT_dict, x_al2S, x_pl2S, x_eqS, x_inS, List.getElem?_cons_zero, List.getElem?_cons_succ, List.set_cons_zero, List.set_cons_succ, List.length_cons, List.length_nil, Nat.reduceAdd, Nat.reduceSub, Nat.reduceLT, Nat.reduceLeDiff, Nat.lt_add_one, Nat.zero_add, List.map_cons, List.map_nil, List.append_nil, List.cons_append, List.nil_append, List.reduceReplicate, List.replicate_zero, List.replicate_succ, reduceIte, if_true, if_false, true_and, and_true, Bool.not_true, Bool.not_false, Bool.false_eq_true, Nat.zero_lt_succ, Nat.add_lt_add_iff_right, Int.reduceEq, decide_true, decide_false, Int.reduceNeg, Int.reduceSub, Int.reduceAdd, x_eqvNil, x_pl2Nil, y_plNil, Bool.not_eq_true', List.isEmpty_nil, List.isEmpty_cons, ha]); exact q _ (by simp [withinD, this])
      · have ha' : a ≤ i := by omega
        (try simp only [y_seq, y_next, y_ret, y_kRet, y_set, y_kSet, y_if, y_kIf, y_drop, y_kDrop, y_break, y_cont, y_lit, y_var, y_kO, y_bin, y_kB1, y_kB2, y_un, y_kU, y_call, y_kC, y_kC2, y_are0, y_are1, y_kAre, y_tup, y_lst, y_tupN, y_lstN, y_nil, y_cons, y_kA1, y_kA2, y_fn, y_kF, y_kR, y_fnK, y_kFnK1, y_kFnK, y_val, y_kV, y_tru, y_kT, y_kTb, y_and, y_or, y_not, y_kAn, y_kOr, y_kNo, y_ifE, y_kIfE, y_andE, y_kAnE, y_orE, y_kOrE, y_notE, y_kNoE, y_isI, y_kIsI, y_chain, y_kCh, y_kCh1, y_kCh2, y_kCh3, y_comp, y_kCo, y_kL, y_comp0, y_seqI, y_kSI, y_kIt, y_rng, y_kRg, y_for, y_kFo, y_part, y_kPt, y_noPart, y_slice, y_kSl1, y_kSl2, y_kSl3, y_slL, y_slT, y_slS, y_revL, y_par, y_kPar, y_asg, y_kAsg, y_gName, y_gTup, y_gCons, y_kG1, y_yes, y_methS, y_kM1, y_kM2, y_newTab, y_newOwn, y_putTab, y_kP1, y_kP2, y_inTab, y_kIn, y_append, y_kAp, y_step, y_kSc, y_kSc1, y_kSc2, y_plNil, y_sl, y_ixL0, y_ixT0, y_ixL1, y_ixT1, y_ixLm, y_dictS, y_dictI, x_varD, x_varSat, x_varScr, x_varOwn, x_varTab, x_intD, x_cmp, x_addI, x_addS, x_addL, x_subI, x_mulI, x_divI, x_modI, x_powI, x_negI, x_intI, x_intB, x_absI, x_truB, x_truI, x_truL, x_truT, x_sat1, x_sat2, x_sat0n, x_sat0s, x_satIs, x_put1, x_put2, x_eqI, x_ltI, x_al2I, x_pl2I, x_lenL, x_lenT, x_lenS, x_ixS, x_tupleL, x_tupleT, x_listL, x_listT, x_strI, x_repr, x_sorted, x_itL, x_itT, x_itS, x_wipe0, x_wipe1, x_keyS, x_keyI, x_items, x_sortItems, x_scrCut, x_isD, x_bOf, x_gNil, isT_int, isT_bool, isT_str, isT_list, isT_tuple, isT_dict, x_al2S, x_pl2S, x_eqS, x_inS, List.getElem?_cons_zero, List.getElem?_cons_succ, List.set_cons_zero, List.set_cons_succ, List.length_cons, List.length_nil, Nat.reduceAdd, Nat.reduceSub, Nat.reduceLT, Nat.reduceLeDiff, Nat.lt_add_one, Nat.zero_add, List.map_cons, List.map_nil, List.append_nil, List.cons_append, List.nil_append, List.reduceReplicate, List.replicate_zero, List.replicate_succ, reduceIte, if_true, if_false, true_and, and_true, Bool.not_true, Bool.not_false, Bool.false_eq_true, Nat.zero_lt_succ, Nat.add_lt_add_iff_right, Int.reduceEq, decide_true, decide_false, Int.reduceNeg, Int.reduceSub, Int.reduceAdd, x_eqvNil, x_pl2Nil, y_plNil, Bool.not_eq_true', List.isEmpty_nil, List.isEmpty_cons, ha, h8])
        cases hi with
        | none => (try simp only [y_seq, y_next, y_ret, y_kRet, y_set, y_kSet, y_if, y_kIf, y_drop, y_kDrop, y_break, y_cont, y_lit, y_var, y_kO, y_bin, y_kB1, y_kB2, y_un, y_kU, y_call, y_kC, y_kC2, y_are0, y_are1, y_kAre, y_tup, y_lst, y_tupN, y_lstN, y_nil, y_cons, y_kA1, y_kA2, y_fn, y_kF, y_kR, y_fnK, y_kFnK1, y_kFnK, y_val, y_kV, y_tru, y_kT, y_kTb, y_and, y_or, y_not, y_kAn, y_kOr, y_kNo, y_ifE, y_kIfE, y_andE, y_kAnE, y_orE, y_kOrE, y_notE, y_kNoE, y_isI, y_kIsI, y_chain, y_kCh, y_kCh1, y_kCh2, y_kCh3, y_comp, y_kCo, y_kL, y_comp0, y_seqI, y_kSI, y_kIt, y_rng, y_kRg, y_for, y_kFo, y_part, y_kPt, y_noPart, y_slice, y_kSl1, y_kSl2, y_kSl3, y_slL, y_slT, y_slS, y_revL, y_par, y_kPar, y_asg, y_kAsg, y_gName, y_gTup, y_gCons, y_kG1, y_yes, y_methS, y_kM1, y_kM2, y_newTab, y_newOwn, y_putTab, y_kP1, y_kP2, y_inTab, y_kIn, y_append, y_kAp, y_step, y_kSc, y_kSc1, y_kSc2, y_plNil, y_sl, y_ixL0, y_ixT0, y_ixL1, y_ixT1, y_ixLm, y_dictS, y_dictI, x_varD, x_varSat, x_varScr, x_varOwn, x_varTab, x_intD, x_cmp, x_addI, x_addS, x_addL, x_subI, x_mulI, x_divI, x_modI, x_powI, x_negI, x_intI, x_intB, x_absI, x_truB, x_truI, x_truL, x_truT, x_sat1, x_sat2, x_sat0n, x_sat0s, x_satIs, x_put1, x_put2, x_eqI, x_ltI, x_al2I, x_pl2I, x_lenL, x_lenT, x_lenS, x_ixS, x_tupleL, x_tupleT, x_listL, x_listT, x_strI, x_repr, x_sorted, x_itL, x_itT, x_itS, x_wipe0, x_wipe1, x_keyS, x_keyI, x_items, x_sortItems, x_scrCut, x_isD, x_bOf, x_gNil, isT_int, isT_bool, isT_str, isT_list, isT_tuple, isT_dict, x_al2S, x_pl2S, x_eqS, x_inS, List.getElem?_cons_zero, List.getElem?_cons_succ, List.set_cons_zero, List.set_cons_succ, List.length_cons, List.length_nil, Nat.reduceAdd, Nat.reduceSub, Nat.reduceLT, Nat.reduceLeDiff, Nat.lt_add_one, Nat.zero_add, List.map_cons, List.map_nil, List.append_nil, List.cons_append, List.nil_append, List.reduceReplicate, List.replicate_zero, List.replicate_succ, reduceIte, if_true, if_false, true_and, and_true, Bool.not_true, Bool.not_false, Bool.false_eq_true, Nat.zero_lt_succ, Nat.add_lt_add_iff_right, Int.reduceEq, decide_true, decide_false, Int.reduceNeg, Int.reduceSub, Int.reduceAdd, x_eqvNil, x_pl2Nil, y_plNil, Bool.not_eq_true', List.isEmpty_nil, List.isEmpty_cons, oI]); exact q _ (by simp [withinD, ha'])
        | some b =>
          (try simp only [y_seq, y_next, y_ret, y_kRet, y_set, y_kSet, y_if, y_kIf, y_drop, y_kDrop, y_break, y_cont, y_lit, y_var, y_kO, y_bin, y_kB1, y_kB2, y_un, y_kU, y_call, y_kC, y_kC2, y_are0, y_are1, y_kAre, y_tup, y_lst, y_tupN, y_lstN, y_nil, y_cons, y_kA1, y_kA2, y_fn, y_kF, y_kR, y_fnK, y_kFnK1, y_kFnK, y_val, y_kV, y_tru, y_kT, y_kTb, y_and, y_or, y_not, y_kAn, y_kOr, y_kNo, y_ifE, y_kIfE, y_andE, y_kAnE, y_orE, y_kOrE, y_notE, y_kNoE, y_isI, y_kIsI, y_chain, y_kCh, y_kCh1, y_kCh2, y_kCh3, y_comp, y_kCo, y_kL, y_comp0, y_seqI, y_kSI, y_kIt, y_rng, y_kRg, y_for, y_kFo, y_part, y_kPt, y_noPart, y_slice, y_kSl1, y_kSl2, y_kSl3, y_slL, y_slT, y_slS, y_revL, y_par, y_kPar, y_asg, y_kAsg, y_gName, y_gTup, y_gCons, y_kG1, y_yes, y_methS, y_kM1, y_kM2, y_newTab, y_newOwn, y_putTab, y_kP1, y_kP2, y_inTab, y_kIn, y_append, y_kAp, y_step, y_kSc, y_kSc1, y_kSc2, y_plNil, y_sl, y_ixL0, y_ixT0, y_ixL1, y_ixT1, y_ixLm, y_dictS, y_dictI, x_varD, x_varSat, x_varScr, x_varOwn, x_varTab, x_intD, x_cmp, x_addI, x_addS, x_addL, x_subI, x_mulI, x_divI, x_modI, x_powI, x_negI, x_intI, x_intB, x_absI, x_truB, x_truI, x_truL, x_truT, x_sat1, x_sat2, x_sat0n, x_sat0s, x_satIs, x_put1, x_put2, x_eqI, x_ltI, x_al2I, x_pl2I, x_lenL, x_lenT, x_lenS, x_ixS, x_tupleL, x_tupleT, x_listL, x_listT, x_strI, x_repr, x_sorted, x_itL, x_itT, x_itS, x_wipe0, x_wipe1, x_keyS, x_keyI, x_items, x_sortItems, x_scrCut, x_isD, x_bOf, x_gNil, isT_int, isT_bool, isT_str, isT_list, isT_tuple, isT_dict, x_al2S, x_pl2S, x_eqS, x_inS, List.getElem?_cons_zero, List.getElem?_cons_succ, List.set_cons_zero, List.set_cons_succ, List.length_cons, List.length_nil, Nat.reduceAdd, Nat.reduceSub, Nat.reduceLT, Nat.reduceLeDiff, Nat.lt_add_one, Nat.zero_add, List.map_cons, List.map_nil, List.append_nil, List.cons_append, List.nil_append, List.reduceReplicate, List.replicate_zero, List.replicate_succ, reduceIte, if_true, if_false, true_and, and_true, Bool.not_true, Bool.not_false, Bool.false_eq_true, Nat.zero_lt_succ, Nat.add_lt_add_iff_right, Int.reduceEq, decide_true, decide_false, Int.reduceNeg, Int.reduceSub, Int.reduceAdd, x_eqvNil, x_pl2Nil, y_plNil, Bool.not_eq_true', List.isEmpty_nil, List.isEmpty_cons, oI, h6, h8])
          by_cases hb : b < i
          · have : ¬ i ≤ b := by omega
            (try simp only [y_seq, y_next, y_ret, y_kRet, y_set, y_kSet, y_if, y_kIf, y_drop, y_kDrop, y_break, y_cont, y_lit, y_var, y_kO, y_bin, y_kB1, y_kB2, y_un, y_kU, y_call, y_kC, y_kC2, y_are0, y_are1, y_kAre, y_tup, y_lst, y_tupN, y_lstN, y_nil, y_cons, y_kA1, y_kA2, y_fn, y_kF, y_kR, y_fnK, y_kFnK1, y_kFnK, y_val, y_kV, y_tru, y_kT, y_kTb, y_and, y_or, y_not, y_kAn, y_kOr, y_kNo, y_ifE, y_kIfE, y_andE, y_kAnE, y_orE, y_kOrE, y_notE, y_kNoE, y_isI, y_kIsI, y_chain, y_kCh, y_kCh1, y_kCh2, y_kCh3, y_comp, y_kCo, y_kL, y_comp0, y_seqI, y_kSI, y_kIt, y_rng, y_kRg, y_for, y_kFo, y_part, y_kPt, y_noPart, y_slice, y_kSl1, y_kSl2, y_kSl3, y_slL, y_slT, y_slS, y_revL, y_par, y_kPar, y_asg, y_kAsg, y_gName, y_gTup, y_gCons, y_kG1, y_yes, y_methS, y_kM1, y_kM2, y_newTab, y_newOwn, y_putTab, y_kP1, y_kP2, y_inTab, y_kIn, y_append, y_kAp, y_step, y_kSc, y_kSc1, y_kSc2, y_plNil, y_sl, y_ixL0, y_ixT0, y_ixL1, y_ixT1, y_ixLm, y_dictS, y_dictI, x_varD, x_varSat, x_varScr, x_varOwn, x_varTab, x_intD, x_cmp, x_addI, x_addS, x_addL, x_subI, x_mulI, x_divI, x_modI, x_powI, x_negI, x_intI, x_intB, x_absI, x_truB, x_truI, x_truL, x_truT, x_sat1, x_sat2, x_sat0n, x_sat0s, x_satIs, x_put1, x_put2, x_eqI, x_ltI, x_al2I, x_pl2I, x_lenL, x_lenT, x_lenS, x_ixS, x_tupleL, x_tupleT, x_listL, x_listT, x_strI, x_repr, x_sorted, x_itL, x_itT, x_itS, x_wipe0, x_wipe1, x_keyS, x_keyI, x_items, x_sortItems, x_scrCut, x_isD, x_bOf, x_gNil, isT_int, isT_bool, isT_str, isT_list, isT_tuple, isT_dict, x_al2S, x_pl2S, x_eqS, x_inS, List.getElem?_cons_zero, List.getElem?_cons_succ, List.set_cons_zero, List.set_cons_succ, List.length_cons, List.length_nil, Nat.reduceAdd, Nat.reduceSub, Nat.reduceLT, Nat.reduceLeDiff, Nat.lt_add_one, Nat.zero_add, List.map_cons, List.map_nil, List.append_nil, List.cons_append, List.nil_append, List.reduceReplicate, List.replicate_zero, List.replicate_succ, reduceIte, if_true, if_false, true_and, and_true, Bool.not_true, Bool.not_false, Bool.false_eq_true, Nat.zero_lt_succ, Nat.add_lt_add_iff_right, Int.reduceEq, decide_true, decide_false, Int.reduceNeg, Int.reduceSub, Int.reduceAdd, x_eqvNil, x_pl2Nil, y_plNil, Bool.not_eq_true', List.isEmpty_nil, List.isEmpty_cons, hb]); exact q _ (by simp [withinD, ha', this])
          · have : i ≤ b := by omega
            (try simp only [y_seq, y_next, y_ret, y_kRet, y_set, y_kSet, y_if, y_kIf, y_drop, y_kDrop, y_break, y_cont, y_lit, y_var, y_kO, y_bin, y_kB1, y_kB2, y_un, y_kU, y_call, y_kC, y_kC2, y_are0, y_are1, y_kAre, y_tup, y_lst, y_tupN, y_lstN, y_nil, y_cons, y_kA1, y_kA2, y_fn, y_kF, y_kR, y_fnK, y_kFnK1, y_kFnK, y_val, y_kV, y_tru, y_kT, y_kTb, y_and, y_or, y_not, y_kAn, y_kOr, y_kNo, y_ifE, y_kIfE, y_andE, y_kAnE, y_orE, y_kOrE, y_notE, y_kNoE, y_isI, y_kIsI, y_chain, y_kCh, y_kCh1, y_kCh2, y_kCh3, y_comp, y_kCo, y_kL, y_comp0, y_seqI, y_kSI, y_kIt, y_rng, y_kRg, y_for, y_kFo, y_part, y_kPt, y_noPart, y_slice, y_kSl1, y_kSl2, y_kSl3, y_slL, y_slT, y_slS, y_revL, y_par, y_kPar, y_asg, y_kAsg, y_gName, y_gTup, y_gCons, y_kG1, y_yes, y_methS, y_kM1, y_kM2, y_newTab, y_newOwn, y_putTab, y_kP1, y_kP2, y_inTab, y_kIn, y_append, y_kAp, y_step, y_kSc, y_kSc1, y_kSc2, y_plNil, y_sl, y_ixL0, y_ixT0, y_ixL1, y_ixT1, y_ixLm, y_dictS, y_dictI, x_varD, x_varSat, x_varScr, x_varOwn, x_varTab, x_intD, x_cmp, x_addI, x_addS, x_addL, x_subI, x_mulI, x_divI, x_modI, x_powI, x_negI, x_intI, x_intB, x_absI, x_truB, x_truI, x_truL, x_truT, x_sat1, x_sat2, x_sat0n, x_sat0s, x_satIs, x_put1, x_put2, x_eqI, x_ltI, x_al2I, x_pl2I, x_lenL, x_lenT, x_lenS, x_ixS, x_tupleL, x_tupleT, x_listL, x_listT, x_strI, x_repr, x_sorted, x_itL, x_itT, x_itS, x_wipe0, x_wipe1, x_keyS, x_keyI, x_items, x_sortItems, x_scrCut, x_isD, x_bOf, x_gNil, isT_int, isT_bool, isT_str, isT_list, isT_tuple, isT_dict, x_al2S, x_pl2S, x_eqS, x_inS, List.getElem?_cons_zero, List.getElem?_cons_succ, List.set_cons_zero, List.set_cons_succ, List.length_cons, List.length_nil, Nat.reduceAdd, Nat.reduceSub, Nat.reduceLT, Nat.reduceLeDiff, Nat.lt_add_one, Nat.zero_add, List.map_cons, List.map_nil, List.append_nil, List.cons_append, List.nil_append, List.reduceReplicate, List.replicate_zero, List.replicate_succ, reduceIte, if_true, if_false, true_and, and_true, Bool.not_true, Bool.not_false, Bool.false_eq_true, Nat.zero_lt_succ, Nat.add_lt_add_iff_right, Int.reduceEq, decide_true, decide_false, Int.reduceNeg, Int.reduceSub, Int.reduceAdd, x_eqvNil, x_pl2Nil, y_plNil, Bool.not_eq_true', List.isEmpty_nil, List.isEmpty_cons, hb]); exact q _ (by simp [withinD, ha', this])
  | _ => (try simp only [y_seq, y_next, y_ret, y_kRet, y_set, y_kSet, y_if, y_kIf, y_drop, y_kDrop, y_break, y_cont, y_lit, y_var, y_kO, y_bin, y_kB1, y_kB2, y_un, y_kU, y_call, y_kC, y_kC2, y_are0, y_are1, y_kAre, y_tup, y_lst, y_tupN, y_lstN, y_nil, y_cons, y_kA1, y_kA2, y_fn, y_kF, y_kR, y_fnK, y_kFnK1, y_kFnK, y_val, y_kV, y_tru, y_kT, y_kTb, y_and, y_or, y_not, y_kAn, y_kOr, y_kNo, y_ifE, y_kIfE, y_andE, y_kAnE, y_orE, y_kOrE, y_notE, y_kNoE, y_isI, y_kIsI, y_chain, y_kCh, y_kCh1, y_kCh2, y_kCh3, y_comp, y_kCo, y_kL, y_comp0, y_seqI, y_kSI, y_kIt, y_rng, y_kRg, y_for, y_kFo, y_part, y_kPt, y_noPart, y_slice, y_kSl1, y_kSl2, y_kSl3, y_slL, y_slT, y_slS, y_revL, y_par, y_kPar, y_asg, y_kAsg, y_gName, y_gTup, y_gCons, y_kG1, y_yes, y_methS, y_kM1, y_kM2, y_newTab, y_newOwn, y_putTab, y_kP1, y_kP2, y_inTab, y_kIn, y_append, y_kAp, y_step, y_kSc, y_kSc1, y_kSc2, y_plNil, y_sl, y_ixL0, y_ixT0, y_ixL1, y_ixT1, y_ixLm, y_dictS, y_dictI, x_varD, x_varSat, x_varScr, x_varOwn, x_varTab, x_intD, x_cmp, x_addI, x_addS, x_addL, x_subI, x_mulI, x_divI, x_modI, x_powI, x_negI, x_intI, x_intB, x_absI, x_truB, x_truI, x_truL, x_truT, x_sat1, x_sat2, x_sat0n, x_sat0s, x_satIs, x_put1, x_put2, x_eqI, x_ltI, x_al2I, x_pl2I, x_lenL, x_lenT, x_lenS, x_ixS, x_tupleL, x_tupleT, x_listL, x_listT, x_strI, x_repr, x_sorted, x_itL, x_itT, x_itS, x_wipe0, x_wipe1, x_keyS, x_keyI, x_items, x_sortItems, x_scrCut, x_isD, x_bOf, x_gNil, isT_int, isT_bool, isT_str, isT_list, isT_tuple, isT_dict, x_al2S, x_pl2S, x_eqS, x_inS, List.getElem?_cons_zero, List.getElem?_cons_succ, List.set_cons_zero, List.set_cons_succ, List.length_cons, List.length_nil, Nat.reduceAdd, Nat.reduceSub, Nat.reduceLT, Nat.reduceLeDiff, Nat.lt_add_one, Nat.zero_add, List.map_cons, List.map_nil, List.append_nil, List.cons_append, List.nil_append, List.reduceReplicate, List.replicate_zero, List.replicate_succ, reduceIte, if_true, if_false, true_and, and_true, Bool.not_true, Bool.not_false, Bool.false_eq_true, Nat.zero_lt_succ, Nat.add_lt_add_iff_right, Int.reduceEq, decide_true, decide_false, Int.reduceNeg, Int.reduceSub, Int.reduceAdd, x_eqvNil, x_pl2Nil, y_plNil, Bool.not_eq_true', List.isEmpty_nil, List.isEmpty_cons, isIntD]); exact q _ rfl
abbrev row14 (ns : List Int) (a2 a3 a4 a5 a6 a7 a8 a9 a10 a11 a12 a13 : Option DV) : List (Option DV) := [some (.scr ns), some .sat, a2, a3, a4, a5, a6, a7, a8, a9, a10, a11, a12, a13]
theorem opt_drawn {x : PyData} {i : Int} (h : x ∈ ([.int i, .none] : List PyData)) : ∃ o, x = oI o := by
  simp only [List.mem_cons, List.not_mem_nil, or_false] at h
  rcases h with rfl | rfl
  · exact ⟨some i, rfl⟩
  · exact ⟨none, rfl⟩
theorem m2_law (ns : List Int) (h : ns.length ≤ 63) : T2_law { nx := fun _ => False, rt := fun d _ => d = .d (.bool true) } ⟨some (.scr ns) :: some .sat :: List.replicate 12 none, 0, none⟩ := by
  unfold T2_law
  (try simp only [y_seq, y_next, y_ret, y_kRet, y_set, y_kSet, y_if, y_kIf, y_drop, y_kDrop, y_break, y_cont, y_lit, y_var, y_kO, y_bin, y_kB1, y_kB2, y_un, y_kU, y_call, y_kC, y_kC2, y_are0, y_are1, y_kAre, y_tup, y_lst, y_tupN, y_lstN, y_nil, y_cons, y_kA1, y_kA2, y_fn, y_kF, y_kR, y_fnK, y_kFnK1, y_kFnK, y_val, y_kV, y_tru, y_kT, y_kTb, y_and, y_or, y_not, y_kAn, y_kOr, y_kNo, y_ifE, y_kIfE, y_andE, y_kAnE, y_orE, y_kOrE, y_notE, y_kNoE, y_isI, y_kIsI, y_chain, y_kCh, y_kCh1, y_kCh2, y_kCh3, y_comp, y_kCo, y_kL, y_comp0, y_seqI, y_kSI, y_kIt, y_rng, y_kRg, y_for, y_kFo, y_part, y_kPt, y_noPart, y_slice, y_kSl1, y_kSl2, y_kSl3, y_slL, y_slT, y_slS, y_revL, y_par, y_kPar, y_asg, y_kAsg, y_gName, y_gTup, y_gCons, y_kG1, y_yes, y_methS, y_kM1, y_kM2, y_newTab, y_newOwn, y_putTab, y_kP1, y_kP2, y_inTab, y_kIn, y_append, y_kAp, y_step, y_kSc, y_kSc1, y_kSc2, y_plNil, y_sl, y_ixL0, y_ixT0, y_ixL1, y_ixT1, y_ixLm, y_dictS, y_dictI, x_varD, x_varSat, x_varScr, x_varOwn, x_varTab, x_intD, x_cmp, x_addI, x_addS, x_addL, x_subI, x_mulI, x_divI, x_modI, x_powI, x_negI, x_intI, x_intB, x_absI, x_truB, x_truI, x_truL, x_truT, x_sat1, x_sat2, x_sat0n, x_sat0s, x_satIs, x_put1, x_put2, x_eqI, x_ltI, x_al2I, x_pl2I, x_lenL, x_lenT, x_lenS, x_ixS, x_tupleL, x_tupleT, x_listL, x_listT, x_strI, x_repr, x_sorted, x_itL, x_itT, x_itS, x_wipe0, x_wipe1, x_keyS, x_keyI, x_items, x_sortItems, x_scrCut, x_isD, x_bOf, x_gNil, isT_int, isT_bool, isT_str, isT_list, isT_tuple, isT_dict, x_al2S, x_pl2S, x_eqS, x_inS, List.getElem?_cons_zero, List.getElem?_cons_succ, List.set_cons_zero, List.set_cons_succ, List.length_cons, List.length_nil, Nat.reduceAdd, Nat.reduceSub, Nat.reduceLT, Nat.reduceLeDiff, Nat.lt_add_one, Nat.zero_add, List.map_cons, List.map_nil, List.append_nil, List.cons_append, List.nil_append, List.reduceReplicate, List.replicate_zero, List.replicate_succ, reduceIte, if_true, if_false, true_and, and_true, Bool.not_true, Bool.not_false, Bool.false_eq_true, Nat.zero_lt_succ, Nat.add_lt_add_iff_right, Int.reduceEq, decide_true, decide_false, Int.reduceNeg, Int.reduceSub, Int.reduceAdd, x_eqvNil, x_pl2Nil, y_plNil, Bool.not_eq_true', List.isEmpty_nil, List.isEmpty_cons])
  refine ⟨by decide, by decide, ?_⟩
  refine for_inv (fun rest s => ∃ (m : Nat) (a2 a3 a4 a5 a6 a7 a8 a9 a10 a11 a12 a13 : Option DV), s = ⟨row14 ns a2 a3 a4 a5 a6 a7 a8 a9 a10 a11 a12 a13, m, none⟩ ∧ m + 300 * rest.length ≤ 1200) ?_ ?_ _ _ ⟨0, _, _, _, _, _, _, _, _, _, _, _, _, rfl, by simp [rangeD_len]⟩
  · rintro d ds s ⟨m, a2, a3, a4, a5, a6, a7, a8, a9, a10, a11, a12, a13, rfl, hm⟩ K hK
    simp only [List.length_cons] at hm
    (try simp only [y_seq, y_next, y_ret, y_kRet, y_set, y_kSet, y_if, y_kIf, y_drop, y_kDrop, y_break, y_cont, y_lit, y_var, y_kO, y_bin, y_kB1, y_kB2, y_un, y_kU, y_call, y_kC, y_kC2, y_are0, y_are1, y_kAre, y_tup, y_lst, y_tupN, y_lstN, y_nil, y_cons, y_kA1, y_kA2, y_fn, y_kF, y_kR, y_fnK, y_kFnK1, y_kFnK, y_val, y_kV, y_tru, y_kT, y_kTb, y_and, y_or, y_not, y_kAn, y_kOr, y_kNo, y_ifE, y_kIfE, y_andE, y_kAnE, y_orE, y_kOrE, y_notE, y_kNoE, y_isI, y_kIsI, y_chain, y_kCh, y_kCh1, y_kCh2, y_kCh3, y_comp, y_kCo, y_kL, y_comp0, y_seqI, y_kSI, y_kIt, y_rng, y_kRg, y_for, y_kFo, y_part, y_kPt, y_noPart, y_slice, y_kSl1, y_kSl2, y_kSl3, y_slL, y_slT, y_slS, y_revL, y_par, y_kPar, y_asg, y_kAsg, y_gName, y_gTup, y_gCons, y_kG1, y_yes, y_methS, y_kM1, y_kM2, y_newTab, y_newOwn, y_putTab, y_kP1, y_kP2, y_inTab, y_kIn, y_append, y_kAp, y_step, y_kSc, y_kSc1, y_kSc2, y_plNil, y_sl, y_ixL0, y_ixT0, y_ixL1, y_ixT1, y_ixLm, y_dictS, y_dictI, x_varD, x_varSat, x_varScr, x_varOwn, x_varTab, x_intD, x_cmp, x_addI, x_addS, x_addL, x_subI, x_mulI, x_divI, x_modI, x_powI, x_negI, x_intI, x_intB, x_absI, x_truB, x_truI, x_truL, x_truT, x_sat1, x_sat2, x_sat0n, x_sat0s, x_satIs, x_put1, x_put2, x_eqI, x_ltI, x_al2I, x_pl2I, x_lenL, x_lenT, x_lenS, x_ixS, x_tupleL, x_tupleT, x_listL, x_listT, x_strI, x_repr, x_sorted, x_itL, x_itT, x_itS, x_wipe0, x_wipe1, x_keyS, x_keyI, x_items, x_sortItems, x_scrCut, x_isD, x_bOf, x_gNil, isT_int, isT_bool, isT_str, isT_list, isT_tuple, isT_dict, x_al2S, x_pl2S, x_eqS, x_inS, List.getElem?_cons_zero, List.getElem?_cons_succ, List.set_cons_zero, List.set_cons_succ, List.length_cons, List.length_nil, Nat.reduceAdd, Nat.reduceSub, Nat.reduceLT, Nat.reduceLeDiff, Nat.lt_add_one, Nat.zero_add, List.map_cons, List.map_nil, List.append_nil, List.cons_append, List.nil_append, List.reduceReplicate, List.replicate_zero, List.replicate_succ, reduceIte, if_true, if_false, true_and, and_true, Bool.not_true, Bool.not_false, Bool.false_eq_true, Nat.zero_lt_succ, Nat.add_lt_add_iff_right, Int.reduceEq, decide_true, decide_false, Int.reduceNeg, Int.reduceSub, Int.reduceAdd, x_eqvNil, x_pl2Nil, y_plNil, Bool.not_eq_true', List.isEmpty_nil, List.isEmpty_cons, T2_law_b0])
    refine ⟨rfl, by omega, fun v n1 hn1 => ?_⟩
    (try simp only [y_seq, y_next, y_ret, y_kRet, y_set, y_kSet, y_if, y_kIf, y_drop, y_kDrop, y_break, y_cont, y_lit, y_var, y_kO, y_bin, y_kB1, y_kB2, y_un, y_kU, y_call, y_kC, y_kC2, y_are0, y_are1, y_kAre, y_tup, y_lst, y_tupN, y_lstN, y_nil, y_cons, y_kA1, y_kA2, y_fn, y_kF, y_kR, y_fnK, y_kFnK1, y_kFnK, y_val, y_kV, y_tru, y_kT, y_kTb, y_and, y_or, y_not, y_kAn, y_kOr, y_kNo, y_ifE, y_kIfE, y_andE, y_kAnE, y_orE, y_kOrE, y_notE, y_kNoE, y_isI, y_kIsI, y_chain, y_kCh, y_kCh1, y_kCh2, y_kCh3, y_comp, y_kCo, y_kL, y_comp0, y_seqI, y_kSI, y_kIt, y_rng, y_kRg, y_for, y_kFo, y_part, y_kPt, y_noPart, y_slice, y_kSl1, y_kSl2, y_kSl3, y_slL, y_slT, y_slS, y_revL, y_par, y_kPar, y_asg, y_kAsg, y_gName, y_gTup, y_gCons, y_kG1, y_yes, y_methS, y_kM1, y_kM2, y_newTab, y_newOwn, y_putTab, y_kP1, y_kP2, y_inTab, y_kIn, y_append, y_kAp, y_step, y_kSc, y_kSc1, y_kSc2, y_plNil, y_sl, y_ixL0, y_ixT0, y_ixL1, y_ixT1, y_ixLm, y_dictS, y_dictI, x_varD, x_varSat, x_varScr, x_varOwn, x_varTab, x_intD, x_cmp, x_addI, x_addS, x_addL, x_subI, x_mulI, x_divI, x_modI, x_powI, x_negI, x_intI, x_intB, x_absI, x_truB, x_truI, x_truL, x_truT, x_sat1, x_sat2, x_sat0n, x_sat0s, x_satIs, x_put1, x_put2, x_eqI, x_ltI, x_al2I, x_pl2I, x_lenL, x_lenT, x_lenS, x_ixS, x_tupleL, x_tupleT, x_listL, x_listT, x_strI, x_repr, x_sorted, x_itL, x_itT, x_itS, x_wipe0, x_wipe1, x_keyS, x_keyI, x_items, x_sortItems, x_scrCut, x_isD, x_bOf, x_gNil, isT_int, isT_bool, isT_str, isT_list, isT_tuple, isT_dict, x_al2S, x_pl2S, x_eqS, x_inS, List.getElem?_cons_zero, List.getElem?_cons_succ, List.set_cons_zero, List.set_cons_succ, List.length_cons, List.length_nil, Nat.reduceAdd, Nat.reduceSub, Nat.reduceLT, Nat.reduceLeDiff, Nat.lt_add_one, Nat.zero_add, List.map_cons, List.map_nil, List.append_nil, List.cons_append, List.nil_append, List.reduceReplicate, List.replicate_zero, List.replicate_succ, reduceIte, if_true, if_false, true_and, and_true, Bool.not_true, Bool.not_false, Bool.false_eq_true, Nat.zero_lt_succ, Nat.add_lt_add_iff_right, Int.reduceEq, decide_true, decide_false, Int.reduceNeg, Int.reduceSub, Int.reduceAdd, x_eqvNil, x_pl2Nil, y_plNil, Bool.not_eq_true', List.isEmpty_nil, List.isEmpty_cons, T2_law_b0_1])
    refine ⟨_, rfl, by decide, by decide, by omega, fun r n2 r0 r1 hn2 => ?_⟩
    (try simp only [y_seq, y_next, y_ret, y_kRet, y_set, y_kSet, y_if, y_kIf, y_drop, y_kDrop, y_break, y_cont, y_lit, y_var, y_kO, y_bin, y_kB1, y_kB2, y_un, y_kU, y_call, y_kC, y_kC2, y_are0, y_are1, y_kAre, y_tup, y_lst, y_tupN, y_lstN, y_nil, y_cons, y_kA1, y_kA2, y_fn, y_kF, y_kR, y_fnK, y_kFnK1, y_kFnK, y_val, y_kV, y_tru, y_kT, y_kTb, y_and, y_or, y_not, y_kAn, y_kOr, y_kNo, y_ifE, y_kIfE, y_andE, y_kAnE, y_orE, y_kOrE, y_notE, y_kNoE, y_isI, y_kIsI, y_chain, y_kCh, y_kCh1, y_kCh2, y_kCh3, y_comp, y_kCo, y_kL, y_comp0, y_seqI, y_kSI, y_kIt, y_rng, y_kRg, y_for, y_kFo, y_part, y_kPt, y_noPart, y_slice, y_kSl1, y_kSl2, y_kSl3, y_slL, y_slT, y_slS, y_revL, y_par, y_kPar, y_asg, y_kAsg, y_gName, y_gTup, y_gCons, y_kG1, y_yes, y_methS, y_kM1, y_kM2, y_newTab, y_newOwn, y_putTab, y_kP1, y_kP2, y_inTab, y_kIn, y_append, y_kAp, y_step, y_kSc, y_kSc1, y_kSc2, y_plNil, y_sl, y_ixL0, y_ixT0, y_ixL1, y_ixT1, y_ixLm, y_dictS, y_dictI, x_varD, x_varSat, x_varScr, x_varOwn, x_varTab, x_intD, x_cmp, x_addI, x_addS, x_addL, x_subI, x_mulI, x_divI, x_modI, x_powI, x_negI, x_intI, x_intB, x_absI, x_truB, x_truI, x_truL, x_truT, x_sat1, x_sat2, x_sat0n, x_sat0s, x_satIs, x_put1, x_put2, x_eqI, x_ltI, x_al2I, x_pl2I, x_lenL, x_lenT, x_lenS, x_ixS, x_tupleL, x_tupleT, x_listL, x_listT, x_strI, x_repr, x_sorted, x_itL, x_itT, x_itS, x_wipe0, x_wipe1, x_keyS, x_keyI, x_items, x_sortItems, x_scrCut, x_isD, x_bOf, x_gNil, isT_int, isT_bool, isT_str, isT_list, isT_tuple, isT_dict, x_al2S, x_pl2S, x_eqS, x_inS, List.getElem?_cons_zero, List.getElem?_cons_succ, List.set_cons_zero, List.set_cons_succ, List.length_cons, List.length_nil, Nat.reduceAdd, Nat.reduceSub, Nat.reduceLT, Nat.reduceLeDiff, Nat.lt_add_one, Nat.zero_add, List.map_cons, List.map_nil, List.append_nil, List.cons_append, List.nil_append, List.reduceReplicate, List.replicate_zero, List.replicate_succ, reduceIte, if_true, if_false, true_and, and_true, Bool.not_true, Bool.not_false, Bool.false_eq_true, Nat.zero_lt_succ, Nat.add_lt_add_iff_right, Int.reduceEq, decide_true, decide_false, Int.reduceNeg, Int.reduceSub, Int.reduceAdd, x_eqvNil, x_pl2Nil, y_plNil, Bool.not_eq_true', List.isEmpty_nil, List.isEmpty_cons])
    refine ⟨_, rfl, by decide, by decide, by omega, fun r' n3 r0' r1' hn3 => ?_⟩
    (try simp only [y_seq, y_next, y_ret, y_kRet, y_set, y_kSet, y_if, y_kIf, y_drop, y_kDrop, y_break, y_cont, y_lit, y_var, y_kO, y_bin, y_kB1, y_kB2, y_un, y_kU, y_call, y_kC, y_kC2, y_are0, y_are1, y_kAre, y_tup, y_lst, y_tupN, y_lstN, y_nil, y_cons, y_kA1, y_kA2, y_fn, y_kF, y_kR, y_fnK, y_kFnK1, y_kFnK, y_val, y_kV, y_tru, y_kT, y_kTb, y_and, y_or, y_not, y_kAn, y_kOr, y_kNo, y_ifE, y_kIfE, y_andE, y_kAnE, y_orE, y_kOrE, y_notE, y_kNoE, y_isI, y_kIsI, y_chain, y_kCh, y_kCh1, y_kCh2, y_kCh3, y_comp, y_kCo, y_kL, y_comp0, y_seqI, y_kSI, y_kIt, y_rng, y_kRg, y_for, y_kFo, y_part, y_kPt, y_noPart, y_slice, y_kSl1, y_kSl2, y_kSl3, y_slL, y_slT, y_slS, y_revL, y_par, y_kPar, y_asg, y_kAsg, y_gName, y_gTup, y_gCons, y_kG1, y_yes, y_methS, y_kM1, y_kM2, y_newTab, y_newOwn, y_putTab, y_kP1, y_kP2, y_inTab, y_kIn, y_append, y_kAp, y_step, y_kSc, y_kSc1, y_kSc2, y_plNil, y_sl, y_ixL0, y_ixT0, y_ixL1, y_ixT1, y_ixLm, y_dictS, y_dictI, x_varD, x_varSat, x_varScr, x_varOwn, x_varTab, x_intD, x_cmp, x_addI, x_addS, x_addL, x_subI, x_mulI, x_divI, x_modI, x_powI, x_negI, x_intI, x_intB, x_absI, x_truB, x_truI, x_truL, x_truT, x_sat1, x_sat2, x_sat0n, x_sat0s, x_satIs, x_put1, x_put2, x_eqI, x_ltI, x_al2I, x_pl2I, x_lenL, x_lenT, x_lenS, x_ixS, x_tupleL, x_tupleT, x_listL, x_listT, x_strI, x_repr, x_sorted, x_itL, x_itT, x_itS, x_wipe0, x_wipe1, x_keyS, x_keyI, x_items, x_sortItems, x_scrCut, x_isD, x_bOf, x_gNil, isT_int, isT_bool, isT_str, isT_list, isT_tuple, isT_dict, x_al2S, x_pl2S, x_eqS, x_inS, List.getElem?_cons_zero, List.getElem?_cons_succ, List.set_cons_zero, List.set_cons_succ, List.length_cons, List.length_nil, Nat.reduceAdd, Nat.reduceSub, Nat.reduceLT, Nat.reduceLeDiff, Nat.lt_add_one, Nat.zero_add, List.map_cons, List.map_nil, List.append_nil, List.cons_append, List.nil_append, List.reduceReplicate, List.replicate_zero, List.replicate_succ, reduceIte, if_true, if_false, true_and, and_true, Bool.not_true, Bool.not_false, Bool.false_eq_true, Nat.zero_lt_succ, Nat.add_lt_add_iff_right, Int.reduceEq, decide_true, decide_false, Int.reduceNeg, Int.reduceSub, Int.reduceAdd, x_eqvNil, x_pl2Nil, y_plNil, Bool.not_eq_true', List.isEmpty_nil, List.isEmpty_cons, T2_law_b0_2])
    refine ⟨_, rfl, by simp, by simp, by omega, fun x _ n4 hn4 => ?_⟩
    (try simp only [y_seq, y_next, y_ret, y_kRet, y_set, y_kSet, y_if, y_kIf, y_drop, y_kDrop, y_break, y_cont, y_lit, y_var, y_kO, y_bin, y_kB1, y_kB2, y_un, y_kU, y_call, y_kC, y_kC2, y_are0, y_are1, y_kAre, y_tup, y_lst, y_tupN, y_lstN, y_nil, y_cons, y_kA1, y_kA2, y_fn, y_kF, y_kR, y_fnK, y_kFnK1, y_kFnK, y_val, y_kV, y_tru, y_kT, y_kTb, y_and, y_or, y_not, y_kAn, y_kOr, y_kNo, y_ifE, y_kIfE, y_andE, y_kAnE, y_orE, y_kOrE, y_notE, y_kNoE, y_isI, y_kIsI, y_chain, y_kCh, y_kCh1, y_kCh2, y_kCh3, y_comp, y_kCo, y_kL, y_comp0, y_seqI, y_kSI, y_kIt, y_rng, y_kRg, y_for, y_kFo, y_part, y_kPt, y_noPart, y_slice, y_kSl1, y_kSl2, y_kSl3, y_slL, y_slT, y_slS, y_revL, y_par, y_kPar, y_asg, y_kAsg, y_gName, y_gTup, y_gCons, y_kG1, y_yes, y_methS, y_kM1, y_kM2, y_newTab, y_newOwn, y_putTab, y_kP1, y_kP2, y_inTab, y_kIn, y_append, y_kAp, y_step, y_kSc, y_kSc1, y_kSc2, y_plNil, y_sl, y_ixL0, y_ixT0, y_ixL1, y_ixT1, y_ixLm, y_dictS, y_dictI, x_varD, x_varSat, x_varScr, x_varOwn, x_varTab, x_intD, x_cmp, x_addI, x_addS, x_addL, x_subI, x_mulI, x_divI, x_modI, x_powI, x_negI, x_intI, x_intB, x_absI, x_truB, x_truI, x_truL, x_truT, x_sat1, x_sat2, x_sat0n, x_sat0s, x_satIs, x_put1, x_put2, x_eqI, x_ltI, x_al2I, x_pl2I, x_lenL, x_lenT, x_lenS, x_ixS, x_tupleL, x_tupleT, x_listL, x_listT, x_strI, x_repr, x_sorted, x_itL, x_itT, x_itS, x_wipe0, x_wipe1, x_keyS, x_keyI, x_items, x_sortItems, x_scrCut, x_isD, x_bOf, x_gNil, isT_int, isT_bool, isT_str, isT_list, isT_tuple, isT_dict, x_al2S, x_pl2S, x_eqS, x_inS, List.getElem?_cons_zero, List.getElem?_cons_succ, List.set_cons_zero, List.set_cons_succ, List.length_cons, List.length_nil, Nat.reduceAdd, Nat.reduceSub, Nat.reduceLT, Nat.reduceLeDiff, Nat.lt_add_one, Nat.zero_add, List.map_cons, List.map_nil, List.append_nil, List.cons_append, List.nil_append, List.reduceReplicate, List.replicate_zero, List.replicate_succ, reduceIte, if_true, if_false, true_and, and_true, Bool.not_true, Bool.not_false, Bool.false_eq_true, Nat.zero_lt_succ, Nat.add_lt_add_iff_right, Int.reduceEq, decide_true, decide_false, Int.reduceNeg, Int.reduceSub, Int.reduceAdd, x_eqvNil, x_pl2Nil, y_plNil, Bool.not_eq_true', List.isEmpty_nil, List.isEmpty_cons, T2_law_b0_3])
    refine ⟨_, rfl, by simp, by simp, by omega, fun y hy n5 hn5 => ?_⟩
    obtain ⟨lo, rfl⟩ := opt_drawn hy
    (try simp only [y_seq, y_next, y_ret, y_kRet, y_set, y_kSet, y_if, y_kIf, y_drop, y_kDrop, y_break, y_cont, y_lit, y_var, y_kO, y_bin, y_kB1, y_kB2, y_un, y_kU, y_call, y_kC, y_kC2, y_are0, y_are1, y_kAre, y_tup, y_lst, y_tupN, y_lstN, y_nil, y_cons, y_kA1, y_kA2, y_fn, y_kF, y_kR, y_fnK, y_kFnK1, y_kFnK, y_val, y_kV, y_tru, y_kT, y_kTb, y_and, y_or, y_not, y_kAn, y_kOr, y_kNo, y_ifE, y_kIfE, y_andE, y_kAnE, y_orE, y_kOrE, y_notE, y_kNoE, y_isI, y_kIsI, y_chain, y_kCh, y_kCh1, y_kCh2, y_kCh3, y_comp, y_kCo, y_kL, y_comp0, y_seqI, y_kSI, y_kIt, y_rng, y_kRg, y_for, y_kFo, y_part, y_kPt, y_noPart, y_slice, y_kSl1, y_kSl2, y_kSl3, y_slL, y_slT, y_slS, y_revL, y_par, y_kPar, y_asg, y_kAsg, y_gName, y_gTup, y_gCons, y_kG1, y_yes, y_methS, y_kM1, y_kM2, y_newTab, y_newOwn, y_putTab, y_kP1, y_kP2, y_inTab, y_kIn, y_append, y_kAp, y_step, y_kSc, y_kSc1, y_kSc2, y_plNil, y_sl, y_ixL0, y_ixT0, y_ixL1, y_ixT1, y_ixLm, y_dictS, y_dictI, x_varD, x_varSat, x_varScr, x_varOwn, x_varTab, x_intD, x_cmp, x_addI, x_addS, x_addL, x_subI, x_mulI, x_divI, x_modI, x_powI, x_negI, x_intI, x_intB, x_absI, x_truB, x_truI, x_truL, x_truT, x_sat1, x_sat2, x_sat0n, x_sat0s, x_satIs, x_put1, x_put2, x_eqI, x_ltI, x_al2I, x_pl2I, x_lenL, x_lenT, x_lenS, x_ixS, x_tupleL, x_tupleT, x_listL, x_listT, x_strI, x_repr, x_sorted, x_itL, x_itT, x_itS, x_wipe0, x_wipe1, x_keyS, x_keyI, x_items, x_sortItems, x_scrCut, x_isD, x_bOf, x_gNil, isT_int, isT_bool, isT_str, isT_list, isT_tuple, isT_dict, x_al2S, x_pl2S, x_eqS, x_inS, List.getElem?_cons_zero, List.getElem?_cons_succ, List.set_cons_zero, List.set_cons_succ, List.length_cons, List.length_nil, Nat.reduceAdd, Nat.reduceSub, Nat.reduceLT, Nat.reduceLeDiff, Nat.lt_add_one, Nat.zero_add, List.map_cons, List.map_nil, List.append_nil, List.cons_append, List.nil_append, List.reduceReplicate, List.replicate_zero, List.replicate_succ, reduceIte, if_true, if_false, true_and, and_true, Bool.not_true, Bool.not_false, Bool.false_eq_true, Nat.zero_lt_succ, Nat.add_lt_add_iff_right, Int.reduceEq, decide_true, decide_false, Int.reduceNeg, Int.reduceSub, Int.reduceAdd, x_eqvNil, x_pl2Nil, y_plNil, Bool.not_eq_true', List.isEmpty_nil, List.isEmpty_cons])
    refine ⟨_, rfl, by simp, by simp, by omega, fun y hy n6 hn6 => ?_⟩
    obtain ⟨hi, rfl⟩ := opt_drawn hy
    (try simp only [y_seq, y_next, y_ret, y_kRet, y_set, y_kSet, y_if, y_kIf, y_drop, y_kDrop, y_break, y_cont, y_lit, y_var, y_kO, y_bin, y_kB1, y_kB2, y_un, y_kU, y_call, y_kC, y_kC2, y_are0, y_are1, y_kAre, y_tup, y_lst, y_tupN, y_lstN, y_nil, y_cons, y_kA1, y_kA2, y_fn, y_kF, y_kR, y_fnK, y_kFnK1, y_kFnK, y_val, y_kV, y_tru, y_kT, y_kTb, y_and, y_or, y_not, y_kAn, y_kOr, y_kNo, y_ifE, y_kIfE, y_andE, y_kAnE, y_orE, y_kOrE, y_notE, y_kNoE, y_isI, y_kIsI, y_chain, y_kCh, y_kCh1, y_kCh2, y_kCh3, y_comp, y_kCo, y_kL, y_comp0, y_seqI, y_kSI, y_kIt, y_rng, y_kRg, y_for, y_kFo, y_part, y_kPt, y_noPart, y_slice, y_kSl1, y_kSl2, y_kSl3, y_slL, y_slT, y_slS, y_revL, y_par, y_kPar, y_asg, y_kAsg, y_gName, y_gTup, y_gCons, y_kG1, y_yes, y_methS, y_kM1, y_kM2, y_newTab, y_newOwn, y_putTab, y_kP1, y_kP2, y_inTab, y_kIn, y_append, y_kAp, y_step, y_kSc, y_kSc1, y_kSc2, y_plNil, y_sl, y_ixL0, y_ixT0, y_ixL1, y_ixT1, y_ixLm, y_dictS, y_dictI, x_varD, x_varSat, x_varScr, x_varOwn, x_varTab, x_intD, x_cmp, x_addI, x_addS, x_addL, x_subI, x_mulI, x_divI, x_modI, x_powI, x_negI, x_intI, x_intB, x_absI, x_truB, x_truI, x_truL, x_truT, x_sat1, x_sat2, x_sat0n, x_sat0s, x_satIs, x_put1, x_put2, x_eqI, x_ltI, x_al2I, x_pl2I, x_lenL, x_lenT, x_lenS, x_ixS, x_tupleL, x_tupleT, x_listL, x_listT, x_strI, x_repr, x_sorted, x_itL, x_itT, x_itS, x_wipe0, x_wipe1, x_keyS, x_keyI, x_items, x_sortItems, x_scrCut, x_isD, x_bOf, x_gNil, isT_int, isT_bool, isT_str, isT_list, isT_tuple, isT_dict, x_al2S, x_pl2S, x_eqS, x_inS, List.getElem?_cons_zero, List.getElem?_cons_succ, List.set_cons_zero, List.set_cons_succ, List.length_cons, List.length_nil, Nat.reduceAdd, Nat.reduceSub, Nat.reduceLT, Nat.reduceLeDiff, Nat.lt_add_one, Nat.zero_add, List.map_cons, List.map_nil, List.append_nil, List.cons_append, List.nil_append, List.reduceReplicate, List.replicate_zero, List.replicate_succ, reduceIte, if_true, if_false, true_and, and_true, Bool.not_true, Bool.not_false, Bool.false_eq_true, Nat.zero_lt_succ, Nat.add_lt_add_iff_right, Int.reduceEq, decide_true, decide_false, Int.reduceNeg, Int.reduceSub, Int.reduceAdd, x_eqvNil, x_pl2Nil, y_plNil, Bool.not_eq_true', List.isEmpty_nil, List.isEmpty_cons, T2_law_b0_4])
    refine ⟨_, rfl, due_val rfl rfl rfl ?_⟩
    (try simp only [y_seq, y_next, y_ret, y_kRet, y_set, y_kSet, y_if, y_kIf, y_drop, y_kDrop, y_break, y_cont, y_lit, y_var, y_kO, y_bin, y_kB1, y_kB2, y_un, y_kU, y_call, y_kC, y_kC2, y_are0, y_are1, y_kAre, y_tup, y_lst, y_tupN, y_lstN, y_nil, y_cons, y_kA1, y_kA2, y_fn, y_kF, y_kR, y_fnK, y_kFnK1, y_kFnK, y_val, y_kV, y_tru, y_kT, y_kTb, y_and, y_or, y_not, y_kAn, y_kOr, y_kNo, y_ifE, y_kIfE, y_andE, y_kAnE, y_orE, y_kOrE, y_notE, y_kNoE, y_isI, y_kIsI, y_chain, y_kCh, y_kCh1, y_kCh2, y_kCh3, y_comp, y_kCo, y_kL, y_comp0, y_seqI, y_kSI, y_kIt, y_rng, y_kRg, y_for, y_kFo, y_part, y_kPt, y_noPart, y_slice, y_kSl1, y_kSl2, y_kSl3, y_slL, y_slT, y_slS, y_revL, y_par, y_kPar, y_asg, y_kAsg, y_gName, y_gTup, y_gCons, y_kG1, y_yes, y_methS, y_kM1, y_kM2, y_newTab, y_newOwn, y_putTab, y_kP1, y_kP2, y_inTab, y_kIn, y_append, y_kAp, y_step, y_kSc, y_kSc1, y_kSc2, y_plNil, y_sl, y_ixL0, y_ixT0, y_ixL1, y_ixT1, y_ixLm, y_dictS, y_dictI, x_varD, x_varSat, x_varScr, x_varOwn, x_varTab, x_intD, x_cmp, x_addI, x_addS, x_addL, x_subI, x_mulI, x_divI, x_modI, x_powI, x_negI, x_intI, x_intB, x_absI, x_truB, x_truI, x_truL, x_truT, x_sat1, x_sat2, x_sat0n, x_sat0s, x_satIs, x_put1, x_put2, x_eqI, x_ltI, x_al2I, x_pl2I, x_lenL, x_lenT, x_lenS, x_ixS, x_tupleL, x_tupleT, x_listL, x_listT, x_strI, x_repr, x_sorted, x_itL, x_itT, x_itS, x_wipe0, x_wipe1, x_keyS, x_keyI, x_items, x_sortItems, x_scrCut, x_isD, x_bOf, x_gNil, isT_int, isT_bool, isT_str, isT_list, isT_tuple, isT_dict, x_al2S, x_pl2S, x_eqS, x_inS, List.getElem?_cons_zero, List.getElem?_cons_succ, List.set_cons_zero, List.set_cons_succ, List.length_cons, List.length_nil, Nat.reduceAdd, Nat.reduceSub, Nat.reduceLT, Nat.reduceLeDiff, Nat.lt_add_one, Nat.zero_add, List.map_cons, List.map_nil, List.append_nil, List.cons_append, List.nil_append, List.reduceReplicate, List.replicate_zero, List.replicate_succ, reduceIte, if_true, if_false, true_and, and_true, Bool.not_true, Bool.not_false, Bool.false_eq_true, Nat.zero_lt_succ, Nat.add_lt_add_iff_right, Int.reduceEq, decide_true, decide_false, Int.reduceNeg, Int.reduceSub, Int.reduceAdd, x_eqvNil, x_pl2Nil, y_plNil, Bool.not_eq_true', List.isEmpty_nil, List.isEmpty_cons, T2_law_b0_5])
    refine ⟨x, rfl, ?_⟩
    (try simp only [y_seq, y_next, y_ret, y_kRet, y_set, y_kSet, y_if, y_kIf, y_drop, y_kDrop, y_break, y_cont, y_lit, y_var, y_kO, y_bin, y_kB1, y_kB2, y_un, y_kU, y_call, y_kC, y_kC2, y_are0, y_are1, y_kAre, y_tup, y_lst, y_tupN, y_lstN, y_nil, y_cons, y_kA1, y_kA2, y_fn, y_kF, y_kR, y_fnK, y_kFnK1, y_kFnK, y_val, y_kV, y_tru, y_kT, y_kTb, y_and, y_or, y_not, y_kAn, y_kOr, y_kNo, y_ifE, y_kIfE, y_andE, y_kAnE, y_orE, y_kOrE, y_notE, y_kNoE, y_isI, y_kIsI, y_chain, y_kCh, y_kCh1, y_kCh2, y_kCh3, y_comp, y_kCo, y_kL, y_comp0, y_seqI, y_kSI, y_kIt, y_rng, y_kRg, y_for, y_kFo, y_part, y_kPt, y_noPart, y_slice, y_kSl1, y_kSl2, y_kSl3, y_slL, y_slT, y_slS, y_revL, y_par, y_kPar, y_asg, y_kAsg, y_gName, y_gTup, y_gCons, y_kG1, y_yes, y_methS, y_kM1, y_kM2, y_newTab, y_newOwn, y_putTab, y_kP1, y_kP2, y_inTab, y_kIn, y_append, y_kAp, y_step, y_kSc, y_kSc1, y_kSc2, y_plNil, y_sl, y_ixL0, y_ixT0, y_ixL1, y_ixT1, y_ixLm, y_dictS, y_dictI, x_varD, x_varSat, x_varScr, x_varOwn, x_varTab, x_intD, x_cmp, x_addI, x_addS, x_addL, x_subI, x_mulI, x_divI, x_modI, x_powI, x_negI, x_intI, x_intB, x_absI, x_truB, x_truI, x_truL, x_truT, x_sat1, x_sat2, x_sat0n, x_sat0s, x_satIs, x_put1, x_put2, x_eqI, x_ltI, x_al2I, x_pl2I, x_lenL, x_lenT, x_lenS, x_ixS, x_tupleL, x_tupleT, x_listL, x_listT, x_strI, x_repr, x_sorted, x_itL, x_itT, x_itS, x_wipe0, x_wipe1, x_keyS, x_keyI, x_items, x_sortItems, x_scrCut, x_isD, x_bOf, x_gNil, isT_int, isT_bool, isT_str, isT_list, isT_tuple, isT_dict, x_al2S, x_pl2S, x_eqS, x_inS, List.getElem?_cons_zero, List.getElem?_cons_succ, List.set_cons_zero, List.set_cons_succ, List.length_cons, List.length_nil, Nat.reduceAdd, Nat.reduceSub, Nat.reduceLT, Nat.reduceLeDiff, Nat.lt_add_one, Nat.zero_add, List.map_cons, List.map_nil, List.append_nil, List.cons_append, List.nil_append, List.reduceReplicate, List.replicate_zero, List.replicate_succ, reduceIte, if_true, if_false, true_and, and_true, Bool.not_true, Bool.not_false, Bool.false_eq_true, Nat.zero_lt_succ, Nat.add_lt_add_iff_right, Int.reduceEq, decide_true, decide_false, Int.reduceNeg, Int.reduceSub, Int.reduceAdd, x_eqvNil, x_pl2Nil, y_plNil, Bool.not_eq_true', List.isEmpty_nil, List.isEmpty_cons])
    refine ⟨reprB, x, rfl, ?_⟩
    (try simp only [y_seq, y_next, y_ret, y_kRet, y_set, y_kSet, y_if, y_kIf, y_drop, y_kDrop, y_break, y_cont, y_lit, y_var, y_kO, y_bin, y_kB1, y_kB2, y_un, y_kU, y_call, y_kC, y_kC2, y_are0, y_are1, y_kAre, y_tup, y_lst, y_tupN, y_lstN, y_nil, y_cons, y_kA1, y_kA2, y_fn, y_kF, y_kR, y_fnK, y_kFnK1, y_kFnK, y_val, y_kV, y_tru, y_kT, y_kTb, y_and, y_or, y_not, y_kAn, y_kOr, y_kNo, y_ifE, y_kIfE, y_andE, y_kAnE, y_orE, y_kOrE, y_notE, y_kNoE, y_isI, y_kIsI, y_chain, y_kCh, y_kCh1, y_kCh2, y_kCh3, y_comp, y_kCo, y_kL, y_comp0, y_seqI, y_kSI, y_kIt, y_rng, y_kRg, y_for, y_kFo, y_part, y_kPt, y_noPart, y_slice, y_kSl1, y_kSl2, y_kSl3, y_slL, y_slT, y_slS, y_revL, y_par, y_kPar, y_asg, y_kAsg, y_gName, y_gTup, y_gCons, y_kG1, y_yes, y_methS, y_kM1, y_kM2, y_newTab, y_newOwn, y_putTab, y_kP1, y_kP2, y_inTab, y_kIn, y_append, y_kAp, y_step, y_kSc, y_kSc1, y_kSc2, y_plNil, y_sl, y_ixL0, y_ixT0, y_ixL1, y_ixT1, y_ixLm, y_dictS, y_dictI, x_varD, x_varSat, x_varScr, x_varOwn, x_varTab, x_intD, x_cmp, x_addI, x_addS, x_addL, x_subI, x_mulI, x_divI, x_modI, x_powI, x_negI, x_intI, x_intB, x_absI, x_truB, x_truI, x_truL, x_truT, x_sat1, x_sat2, x_sat0n, x_sat0s, x_satIs, x_put1, x_put2, x_eqI, x_ltI, x_al2I, x_pl2I, x_lenL, x_lenT, x_lenS, x_ixS, x_tupleL, x_tupleT, x_listL, x_listT, x_strI, x_repr, x_sorted, x_itL, x_itT, x_itS, x_wipe0, x_wipe1, x_keyS, x_keyI, x_items, x_sortItems, x_scrCut, x_isD, x_bOf, x_gNil, isT_int, isT_bool, isT_str, isT_list, isT_tuple, isT_dict, x_al2S, x_pl2S, x_eqS, x_inS, List.getElem?_cons_zero, List.getElem?_cons_succ, List.set_cons_zero, List.set_cons_succ, List.length_cons, List.length_nil, Nat.reduceAdd, Nat.reduceSub, Nat.reduceLT, Nat.reduceLeDiff, Nat.lt_add_one, Nat.zero_add, List.map_cons, List.map_nil, List.append_nil, List.cons_append, List.nil_append, List.reduceReplicate, List.replicate_zero, List.replicate_succ, reduceIte, if_true, if_false, true_and, and_true, Bool.not_true, Bool.not_false, Bool.false_eq_true, Nat.zero_lt_succ, Nat.add_lt_add_iff_right, Int.reduceEq, decide_true, decide_false, Int.reduceNeg, Int.reduceSub, Int.reduceAdd, x_eqvNil, x_pl2Nil, y_plNil, Bool.not_eq_true', List.isEmpty_nil, List.isEmpty_cons])
    refine ⟨reprB, x, lo, hi, rfl, ?_⟩
    (try simp only [y_seq, y_next, y_ret, y_kRet, y_set, y_kSet, y_if, y_kIf, y_drop, y_kDrop, y_break, y_cont, y_lit, y_var, y_kO, y_bin, y_kB1, y_kB2, y_un, y_kU, y_call, y_kC, y_kC2, y_are0, y_are1, y_kAre, y_tup, y_lst, y_tupN, y_lstN, y_nil, y_cons, y_kA1, y_kA2, y_fn, y_kF, y_kR, y_fnK, y_kFnK1, y_kFnK, y_val, y_kV, y_tru, y_kT, y_kTb, y_and, y_or, y_not, y_kAn, y_kOr, y_kNo, y_ifE, y_kIfE, y_andE, y_kAnE, y_orE, y_kOrE, y_notE, y_kNoE, y_isI, y_kIsI, y_chain, y_kCh, y_kCh1, y_kCh2, y_kCh3, y_comp, y_kCo, y_kL, y_comp0, y_seqI, y_kSI, y_kIt, y_rng, y_kRg, y_for, y_kFo, y_part, y_kPt, y_noPart, y_slice, y_kSl1, y_kSl2, y_kSl3, y_slL, y_slT, y_slS, y_revL, y_par, y_kPar, y_asg, y_kAsg, y_gName, y_gTup, y_gCons, y_kG1, y_yes, y_methS, y_kM1, y_kM2, y_newTab, y_newOwn, y_putTab, y_kP1, y_kP2, y_inTab, y_kIn, y_append, y_kAp, y_step, y_kSc, y_kSc1, y_kSc2, y_plNil, y_sl, y_ixL0, y_ixT0, y_ixL1, y_ixT1, y_ixLm, y_dictS, y_dictI, x_varD, x_varSat, x_varScr, x_varOwn, x_varTab, x_intD, x_cmp, x_addI, x_addS, x_addL, x_subI, x_mulI, x_divI, x_modI, x_powI, x_negI, x_intI, x_intB, x_absI, x_truB, x_truI, x_truL, x_truT, x_sat1, x_sat2, x_sat0n, x_sat0s, x_satIs, x_put1, x_put2, x_eqI, x_ltI, x_al2I, x_pl2I, x_lenL, x_lenT, x_lenS, x_ixS, x_tupleL, x_tupleT, x_listL, x_listT, x_strI, x_repr, x_sorted, x_itL, x_itT, x_itS, x_wipe0, x_wipe1, x_keyS, x_keyI, x_items, x_sortItems, x_scrCut, x_isD, x_bOf, x_gNil, isT_int, isT_bool, isT_str, isT_list, isT_tuple, isT_dict, x_al2S, x_pl2S, x_eqS, x_inS, List.getElem?_cons_zero, List.getElem?_cons_succ, List.set_cons_zero, List.set_cons_succ, List.length_cons, List.length_nil, Nat.reduceAdd, Nat.reduceSub, Nat.reduceLT, Nat.reduceLeDiff, Nat.lt_add_one, Nat.zero_add, List.map_cons, List.map_nil, List.append_nil, List.cons_append, List.nil_append, List.reduceReplicate, List.replicate_zero, List.replicate_succ, reduceIte, if_true, if_false, true_and, and_true, Bool.not_true, Bool.not_false, Bool.false_eq_true, Nat.zero_lt_succ, Nat.add_lt_add_iff_right, Int.reduceEq, decide_true, decide_false, Int.reduceNeg, Int.reduceSub, Int.reduceAdd, x_eqvNil, x_pl2Nil, y_plNil, Bool.not_eq_true', List.isEmpty_nil, List.isEmpty_cons])
    refine ⟨reprB, reprB, ?_⟩
    (try simp only [y_seq, y_next, y_ret, y_kRet, y_set, y_kSet, y_if, y_kIf, y_drop, y_kDrop, y_break, y_cont, y_lit, y_var, y_kO, y_bin, y_kB1, y_kB2, y_un, y_kU, y_call, y_kC, y_kC2, y_are0, y_are1, y_kAre, y_tup, y_lst, y_tupN, y_lstN, y_nil, y_cons, y_kA1, y_kA2, y_fn, y_kF, y_kR, y_fnK, y_kFnK1, y_kFnK, y_val, y_kV, y_tru, y_kT, y_kTb, y_and, y_or, y_not, y_kAn, y_kOr, y_kNo, y_ifE, y_kIfE, y_andE, y_kAnE, y_orE, y_kOrE, y_notE, y_kNoE, y_isI, y_kIsI, y_chain, y_kCh, y_kCh1, y_kCh2, y_kCh3, y_comp, y_kCo, y_kL, y_comp0, y_seqI, y_kSI, y_kIt, y_rng, y_kRg, y_for, y_kFo, y_part, y_kPt, y_noPart, y_slice, y_kSl1, y_kSl2, y_kSl3, y_slL, y_slT, y_slS, y_revL, y_par, y_kPar, y_asg, y_kAsg, y_gName, y_gTup, y_gCons, y_kG1, y_yes, y_methS, y_kM1, y_kM2, y_newTab, y_newOwn, y_putTab, y_kP1, y_kP2, y_inTab, y_kIn, y_append, y_kAp, y_step, y_kSc, y_kSc1, y_kSc2, y_plNil, y_sl, y_ixL0, y_ixT0, y_ixL1, y_ixT1, y_ixLm, y_dictS, y_dictI, x_varD, x_varSat, x_varScr, x_varOwn, x_varTab, x_intD, x_cmp, x_addI, x_addS, x_addL, x_subI, x_mulI, x_divI, x_modI, x_powI, x_negI, x_intI, x_intB, x_absI, x_truB, x_truI, x_truL, x_truT, x_sat1, x_sat2, x_sat0n, x_sat0s, x_satIs, x_put1, x_put2, x_eqI, x_ltI, x_al2I, x_pl2I, x_lenL, x_lenT, x_lenS, x_ixS, x_tupleL, x_tupleT, x_listL, x_listT, x_strI, x_repr, x_sorted, x_itL, x_itT, x_itS, x_wipe0, x_wipe1, x_keyS, x_keyI, x_items, x_sortItems, x_scrCut, x_isD, x_bOf, x_gNil, isT_int, isT_bool, isT_str, isT_list, isT_tuple, isT_dict, x_al2S, x_pl2S, x_eqS, x_inS, List.getElem?_cons_zero, List.getElem?_cons_succ, List.set_cons_zero, List.set_cons_succ, List.length_cons, List.length_nil, Nat.reduceAdd, Nat.reduceSub, Nat.reduceLT, Nat.reduceLeDiff, Nat.lt_add_one, Nat.zero_add, List.map_cons, List.map_nil, List.append_nil, List.cons_append, List.nil_append, List.reduceReplicate, List.replicate_zero, List.replicate_succ, reduceIte, if_true, if_false, true_and, and_true, Bool.not_true, Bool.not_false, Bool.false_eq_true, Nat.zero_lt_succ, Nat.add_lt_add_iff_right, Int.reduceEq, decide_true, decide_false, Int.reduceNeg, Int.reduceSub, Int.reduceAdd, x_eqvNil, x_pl2Nil, y_plNil, Bool.not_eq_true', List.isEmpty_nil, List.isEmpty_cons, T2_law_b0_6])
    refine ⟨_, rfl, by decide, by decide, by omega, fun k n7 k0 k1 hn7 => ?_⟩
    (try simp only [y_seq, y_next, y_ret, y_kRet, y_set, y_kSet, y_if, y_kIf, y_drop, y_kDrop, y_break, y_cont, y_lit, y_var, y_kO, y_bin, y_kB1, y_kB2, y_un, y_kU, y_call, y_kC, y_kC2, y_are0, y_are1, y_kAre, y_tup, y_lst, y_tupN, y_lstN, y_nil, y_cons, y_kA1, y_kA2, y_fn, y_kF, y_kR, y_fnK, y_kFnK1, y_kFnK, y_val, y_kV, y_tru, y_kT, y_kTb, y_and, y_or, y_not, y_kAn, y_kOr, y_kNo, y_ifE, y_kIfE, y_andE, y_kAnE, y_orE, y_kOrE, y_notE, y_kNoE, y_isI, y_kIsI, y_chain, y_kCh, y_kCh1, y_kCh2, y_kCh3, y_comp, y_kCo, y_kL, y_comp0, y_seqI, y_kSI, y_kIt, y_rng, y_kRg, y_for, y_kFo, y_part, y_kPt, y_noPart, y_slice, y_kSl1, y_kSl2, y_kSl3, y_slL, y_slT, y_slS, y_revL, y_par, y_kPar, y_asg, y_kAsg, y_gName, y_gTup, y_gCons, y_kG1, y_yes, y_methS, y_kM1, y_kM2, y_newTab, y_newOwn, y_putTab, y_kP1, y_kP2, y_inTab, y_kIn, y_append, y_kAp, y_step, y_kSc, y_kSc1, y_kSc2, y_plNil, y_sl, y_ixL0, y_ixT0, y_ixL1, y_ixT1, y_ixLm, y_dictS, y_dictI, x_varD, x_varSat, x_varScr, x_varOwn, x_varTab, x_intD, x_cmp, x_addI, x_addS, x_addL, x_subI, x_mulI, x_divI, x_modI, x_powI, x_negI, x_intI, x_intB, x_absI, x_truB, x_truI, x_truL, x_truT, x_sat1, x_sat2, x_sat0n, x_sat0s, x_satIs, x_put1, x_put2, x_eqI, x_ltI, x_al2I, x_pl2I, x_lenL, x_lenT, x_lenS, x_ixS, x_tupleL, x_tupleT, x_listL, x_listT, x_strI, x_repr, x_sorted, x_itL, x_itT, x_itS, x_wipe0, x_wipe1, x_keyS, x_keyI, x_items, x_sortItems, x_scrCut, x_isD, x_bOf, x_gNil, isT_int, isT_bool, isT_str, isT_list, isT_tuple, isT_dict, x_al2S, x_pl2S, x_eqS, x_inS, List.getElem?_cons_zero, List.getElem?_cons_succ, List.set_cons_zero, List.set_cons_succ, List.length_cons, List.length_nil, Nat.reduceAdd, Nat.reduceSub, Nat.reduceLT, Nat.reduceLeDiff, Nat.lt_add_one, Nat.zero_add, List.map_cons, List.map_nil, List.append_nil, List.cons_append, List.nil_append, List.reduceReplicate, List.replicate_zero, List.replicate_succ, reduceIte, if_true, if_false, true_and, and_true, Bool.not_true, Bool.not_false, Bool.false_eq_true, Nat.zero_lt_succ, Nat.add_lt_add_iff_right, Int.reduceEq, decide_true, decide_false, Int.reduceNeg, Int.reduceSub, Int.reduceAdd, x_eqvNil, x_pl2Nil, y_plNil, Bool.not_eq_true', List.isEmpty_nil, List.isEmpty_cons])
    refine ⟨by omega, by omega, ?_⟩
    have kl : (rangeD 0 k.toNat).length ≤ 3 := by rw [rangeD_len]; omega
    let st : Nat → DS := fun m => ⟨row14 ns (some (.d d)) (some (.d v)) (some (.d (.int (r - 4)))) (some (.d (.int (r' - 4)))) (some (.d x)) (some (.d (oI lo))) (some (.d (oI hi))) (some (.d (.bool (withinD x lo hi)))) a10 none a12 a13, m, none⟩
    refine comp_inv (fun rest acc s => ∃ m : Nat, s = st m ∧ m + 3 * rest.length ≤ n7 + 9 ∧ acc.length + rest.length ≤ 3 ∧ ∀ y ∈ acc, y.plain = true) ?_ ?_ _ _ _ (by rw [y_sl]; simp; omega) ⟨n7, rfl, by omega, by simp; omega, by simp⟩
    · rintro d' ds' acc s ⟨m', rfl, hm', ha, hp⟩ Ky Kn hy' hn'
      simp only [List.length_cons] at hm' ha
      (try simp only [y_seq, y_next, y_ret, y_kRet, y_set, y_kSet, y_if, y_kIf, y_drop, y_kDrop, y_break, y_cont, y_lit, y_var, y_kO, y_bin, y_kB1, y_kB2, y_un, y_kU, y_call, y_kC, y_kC2, y_are0, y_are1, y_kAre, y_tup, y_lst, y_tupN, y_lstN, y_nil, y_cons, y_kA1, y_kA2, y_fn, y_kF, y_kR, y_fnK, y_kFnK1, y_kFnK, y_val, y_kV, y_tru, y_kT, y_kTb, y_and, y_or, y_not, y_kAn, y_kOr, y_kNo, y_ifE, y_kIfE, y_andE, y_kAnE, y_orE, y_kOrE, y_notE, y_kNoE, y_isI, y_kIsI, y_chain, y_kCh, y_kCh1, y_kCh2, y_kCh3, y_comp, y_kCo, y_kL, y_comp0, y_seqI, y_kSI, y_kIt, y_rng, y_kRg, y_for, y_kFo, y_part, y_kPt, y_noPart, y_slice, y_kSl1, y_kSl2, y_kSl3, y_slL, y_slT, y_slS, y_revL, y_par, y_kPar, y_asg, y_kAsg, y_gName, y_gTup, y_gCons, y_kG1, y_yes, y_methS, y_kM1, y_kM2, y_newTab, y_newOwn, y_putTab, y_kP1, y_kP2, y_inTab, y_kIn, y_append, y_kAp, y_step, y_kSc, y_kSc1, y_kSc2, y_plNil, y_sl, y_ixL0, y_ixT0, y_ixL1, y_ixT1, y_ixLm, y_dictS, y_dictI, x_varD, x_varSat, x_varScr, x_varOwn, x_varTab, x_intD, x_cmp, x_addI, x_addS, x_addL, x_subI, x_mulI, x_divI, x_modI, x_powI, x_negI, x_intI, x_intB, x_absI, x_truB, x_truI, x_truL, x_truT, x_sat1, x_sat2, x_sat0n, x_sat0s, x_satIs, x_put1, x_put2, x_eqI, x_ltI, x_al2I, x_pl2I, x_lenL, x_lenT, x_lenS, x_ixS, x_tupleL, x_tupleT, x_listL, x_listT, x_strI, x_repr, x_sorted, x_itL, x_itT, x_itS, x_wipe0, x_wipe1, x_keyS, x_keyI, x_items, x_sortItems, x_scrCut, x_isD, x_bOf, x_gNil, isT_int, isT_bool, isT_str, isT_list, isT_tuple, isT_dict, x_al2S, x_pl2S, x_eqS, x_inS, List.getElem?_cons_zero, List.getElem?_cons_succ, List.set_cons_zero, List.set_cons_succ, List.length_cons, List.length_nil, Nat.reduceAdd, Nat.reduceSub, Nat.reduceLT, Nat.reduceLeDiff, Nat.lt_add_one, Nat.zero_add, List.map_cons, List.map_nil, List.append_nil, List.cons_append, List.nil_append, List.reduceReplicate, List.replicate_zero, List.replicate_succ, reduceIte, if_true, if_false, true_and, and_true, Bool.not_true, Bool.not_false, Bool.false_eq_true, Nat.zero_lt_succ, Nat.add_lt_add_iff_right, Int.reduceEq, decide_true, decide_false, Int.reduceNeg, Int.reduceSub, Int.reduceAdd, x_eqvNil, x_pl2Nil, y_plNil, Bool.not_eq_true', List.isEmpty_nil, List.isEmpty_cons, y_step, st])
      refine ⟨_, rfl, by decide, by decide, by omega, fun u n8 u0 u1 hn8 => ?_⟩
      (try simp only [y_seq, y_next, y_ret, y_kRet, y_set, y_kSet, y_if, y_kIf, y_drop, y_kDrop, y_break, y_cont, y_lit, y_var, y_kO, y_bin, y_kB1, y_kB2, y_un, y_kU, y_call, y_kC, y_kC2, y_are0, y_are1, y_kAre, y_tup, y_lst, y_tupN, y_lstN, y_nil, y_cons, y_kA1, y_kA2, y_fn, y_kF, y_kR, y_fnK, y_kFnK1, y_kFnK, y_val, y_kV, y_tru, y_kT, y_kTb, y_and, y_or, y_not, y_kAn, y_kOr, y_kNo, y_ifE, y_kIfE, y_andE, y_kAnE, y_orE, y_kOrE, y_notE, y_kNoE, y_isI, y_kIsI, y_chain, y_kCh, y_kCh1, y_kCh2, y_kCh3, y_comp, y_kCo, y_kL, y_comp0, y_seqI, y_kSI, y_kIt, y_rng, y_kRg, y_for, y_kFo, y_part, y_kPt, y_noPart, y_slice, y_kSl1, y_kSl2, y_kSl3, y_slL, y_slT, y_slS, y_revL, y_par, y_kPar, y_asg, y_kAsg, y_gName, y_gTup, y_gCons, y_kG1, y_yes, y_methS, y_kM1, y_kM2, y_newTab, y_newOwn, y_putTab, y_kP1, y_kP2, y_inTab, y_kIn, y_append, y_kAp, y_step, y_kSc, y_kSc1, y_kSc2, y_plNil, y_sl, y_ixL0, y_ixT0, y_ixL1, y_ixT1, y_ixLm, y_dictS, y_dictI, x_varD, x_varSat, x_varScr, x_varOwn, x_varTab, x_intD, x_cmp, x_addI, x_addS, x_addL, x_subI, x_mulI, x_divI, x_modI, x_powI, x_negI, x_intI, x_intB, x_absI, x_truB, x_truI, x_truL, x_truT, x_sat1, x_sat2, x_sat0n, x_sat0s, x_satIs, x_put1, x_put2, x_eqI, x_ltI, x_al2I, x_pl2I, x_lenL, x_lenT, x_lenS, x_ixS, x_tupleL, x_tupleT, x_listL, x_listT, x_strI, x_repr, x_sorted, x_itL, x_itT, x_itS, x_wipe0, x_wipe1, x_keyS, x_keyI, x_items, x_sortItems, x_scrCut, x_isD, x_bOf, x_gNil, isT_int, isT_bool, isT_str, isT_list, isT_tuple, isT_dict, x_al2S, x_pl2S, x_eqS, x_inS, List.getElem?_cons_zero, List.getElem?_cons_succ, List.set_cons_zero, List.set_cons_succ, List.length_cons, List.length_nil, Nat.reduceAdd, Nat.reduceSub, Nat.reduceLT, Nat.reduceLeDiff, Nat.lt_add_one, Nat.zero_add, List.map_cons, List.map_nil, List.append_nil, List.cons_append, List.nil_append, List.reduceReplicate, List.replicate_zero, List.replicate_succ, reduceIte, if_true, if_false, true_and, and_true, Bool.not_true, Bool.not_false, Bool.false_eq_true, Nat.zero_lt_succ, Nat.add_lt_add_iff_right, Int.reduceEq, decide_true, decide_false, Int.reduceNeg, Int.reduceSub, Int.reduceAdd, x_eqvNil, x_pl2Nil, y_plNil, Bool.not_eq_true', List.isEmpty_nil, List.isEmpty_cons])
      refine ⟨⟨by decide, by decide, by decide⟩, _, rfl, by simp, by simp, by omega, fun y hy2 n9 hn9 => ?_⟩
      (try simp only [y_seq, y_next, y_ret, y_kRet, y_set, y_kSet, y_if, y_kIf, y_drop, y_kDrop, y_break, y_cont, y_lit, y_var, y_kO, y_bin, y_kB1, y_kB2, y_un, y_kU, y_call, y_kC, y_kC2, y_are0, y_are1, y_kAre, y_tup, y_lst, y_tupN, y_lstN, y_nil, y_cons, y_kA1, y_kA2, y_fn, y_kF, y_kR, y_fnK, y_kFnK1, y_kFnK, y_val, y_kV, y_tru, y_kT, y_kTb, y_and, y_or, y_not, y_kAn, y_kOr, y_kNo, y_ifE, y_kIfE, y_andE, y_kAnE, y_orE, y_kOrE, y_notE, y_kNoE, y_isI, y_kIsI, y_chain, y_kCh, y_kCh1, y_kCh2, y_kCh3, y_comp, y_kCo, y_kL, y_comp0, y_seqI, y_kSI, y_kIt, y_rng, y_kRg, y_for, y_kFo, y_part, y_kPt, y_noPart, y_slice, y_kSl1, y_kSl2, y_kSl3, y_slL, y_slT, y_slS, y_revL, y_par, y_kPar, y_asg, y_kAsg, y_gName, y_gTup, y_gCons, y_kG1, y_yes, y_methS, y_kM1, y_kM2, y_newTab, y_newOwn, y_putTab, y_kP1, y_kP2, y_inTab, y_kIn, y_append, y_kAp, y_step, y_kSc, y_kSc1, y_kSc2, y_plNil, y_sl, y_ixL0, y_ixT0, y_ixL1, y_ixT1, y_ixLm, y_dictS, y_dictI, x_varD, x_varSat, x_varScr, x_varOwn, x_varTab, x_intD, x_cmp, x_addI, x_addS, x_addL, x_subI, x_mulI, x_divI, x_modI, x_powI, x_negI, x_intI, x_intB, x_absI, x_truB, x_truI, x_truL, x_truT, x_sat1, x_sat2, x_sat0n, x_sat0s, x_satIs, x_put1, x_put2, x_eqI, x_ltI, x_al2I, x_pl2I, x_lenL, x_lenT, x_lenS, x_ixS, x_tupleL, x_tupleT, x_listL, x_listT, x_strI, x_repr, x_sorted, x_itL, x_itT, x_itS, x_wipe0, x_wipe1, x_keyS, x_keyI, x_items, x_sortItems, x_scrCut, x_isD, x_bOf, x_gNil, isT_int, isT_bool, isT_str, isT_list, isT_tuple, isT_dict, x_al2S, x_pl2S, x_eqS, x_inS, List.getElem?_cons_zero, List.getElem?_cons_succ, List.set_cons_zero, List.set_cons_succ, List.length_cons, List.length_nil, Nat.reduceAdd, Nat.reduceSub, Nat.reduceLT, Nat.reduceLeDiff, Nat.lt_add_one, Nat.zero_add, List.map_cons, List.map_nil, List.append_nil, List.cons_append, List.nil_append, List.reduceReplicate, List.replicate_zero, List.replicate_succ, reduceIte, if_true, if_false, true_and, and_true, Bool.not_true, Bool.not_false, Bool.false_eq_true, Nat.zero_lt_succ, Nat.add_lt_add_iff_right, Int.reduceEq, decide_true, decide_false, Int.reduceNeg, Int.reduceSub, Int.reduceAdd, x_eqvNil, x_pl2Nil, y_plNil, Bool.not_eq_true', List.isEmpty_nil, List.isEmpty_cons])
      refine ⟨_, rfl, by simp, by simp, by omega, fun z hz n10 hn10 => ?_⟩
      have py : z.plain = true := by
        have p2 : y.plain = true := by
          simp only [List.mem_cons, List.not_mem_nil, or_false] at hy2
          rcases hy2 with rfl | rfl | rfl | rfl | rfl <;> rfl
        simp only [List.mem_cons, List.not_mem_nil, or_false] at hz
        rcases hz with rfl | rfl | rfl
        · rfl
        · rfl
        · exact p2
      (try simp only [y_seq, y_next, y_ret, y_kRet, y_set, y_kSet, y_if, y_kIf, y_drop, y_kDrop, y_break, y_cont, y_lit, y_var, y_kO, y_bin, y_kB1, y_kB2, y_un, y_kU, y_call, y_kC, y_kC2, y_are0, y_are1, y_kAre, y_tup, y_lst, y_tupN, y_lstN, y_nil, y_cons, y_kA1, y_kA2, y_fn, y_kF, y_kR, y_fnK, y_kFnK1, y_kFnK, y_val, y_kV, y_tru, y_kT, y_kTb, y_and, y_or, y_not, y_kAn, y_kOr, y_kNo, y_ifE, y_kIfE, y_andE, y_kAnE, y_orE, y_kOrE, y_notE, y_kNoE, y_isI, y_kIsI, y_chain, y_kCh, y_kCh1, y_kCh2, y_kCh3, y_comp, y_kCo, y_kL, y_comp0, y_seqI, y_kSI, y_kIt, y_rng, y_kRg, y_for, y_kFo, y_part, y_kPt, y_noPart, y_slice, y_kSl1, y_kSl2, y_kSl3, y_slL, y_slT, y_slS, y_revL, y_par, y_kPar, y_asg, y_kAsg, y_gName, y_gTup, y_gCons, y_kG1, y_yes, y_methS, y_kM1, y_kM2, y_newTab, y_newOwn, y_putTab, y_kP1, y_kP2, y_inTab, y_kIn, y_append, y_kAp, y_step, y_kSc, y_kSc1, y_kSc2, y_plNil, y_sl, y_ixL0, y_ixT0, y_ixL1, y_ixT1, y_ixLm, y_dictS, y_dictI, x_varD, x_varSat, x_varScr, x_varOwn, x_varTab, x_intD, x_cmp, x_addI, x_addS, x_addL, x_subI, x_mulI, x_divI, x_modI, x_powI, x_negI, x_intI, x_intB, x_absI, x_truB, x_truI, x_truL, x_truT, x_sat1, x_sat2, x_sat0n, x_sat0s, x_satIs, x_put1, x_put2, x_eqI, x_ltI, x_al2I, x_pl2I, x_lenL, x_lenT, x_lenS, x_ixS, x_tupleL, x_tupleT, x_listL, x_listT, x_strI, x_repr, x_sorted, x_itL, x_itT, x_itS, x_wipe0, x_wipe1, x_keyS, x_keyI, x_items, x_sortItems, x_scrCut, x_isD, x_bOf, x_gNil, isT_int, isT_bool, isT_str, isT_list, isT_tuple, isT_dict, x_al2S, x_pl2S, x_eqS, x_inS, List.getElem?_cons_zero, List.getElem?_cons_succ, List.set_cons_zero, List.set_cons_succ, List.length_cons, List.length_nil, Nat.reduceAdd, Nat.reduceSub, Nat.reduceLT, Nat.reduceLeDiff, Nat.lt_add_one, Nat.zero_add, List.map_cons, List.map_nil, List.append_nil, List.cons_append, List.nil_append, List.reduceReplicate, List.replicate_zero, List.replicate_succ, reduceIte, if_true, if_false, true_and, and_true, Bool.not_true, Bool.not_false, Bool.false_eq_true, Nat.zero_lt_succ, Nat.add_lt_add_iff_right, Int.reduceEq, decide_true, decide_false, Int.reduceNeg, Int.reduceSub, Int.reduceAdd, x_eqvNil, x_pl2Nil, y_plNil, Bool.not_eq_true', List.isEmpty_nil, List.isEmpty_cons])
      refine hy' _ _ ⟨n10, rfl, by omega, by simp; omega, fun w hw => ?_⟩
      rcases List.mem_append.mp hw with hw | hw
      · exact hp w hw
      · simp only [List.mem_singleton] at hw; subst hw; exact py
    rintro row s ⟨m', rfl, hm', ha, hp⟩
    simp only [List.length_nil] at hm' ha
    (try simp only [y_seq, y_next, y_ret, y_kRet, y_set, y_kSet, y_if, y_kIf, y_drop, y_kDrop, y_break, y_cont, y_lit, y_var, y_kO, y_bin, y_kB1, y_kB2, y_un, y_kU, y_call, y_kC, y_kC2, y_are0, y_are1, y_kAre, y_tup, y_lst, y_tupN, y_lstN, y_nil, y_cons, y_kA1, y_kA2, y_fn, y_kF, y_kR, y_fnK, y_kFnK1, y_kFnK, y_val, y_kV, y_tru, y_kT, y_kTb, y_and, y_or, y_not, y_kAn, y_kOr, y_kNo, y_ifE, y_kIfE, y_andE, y_kAnE, y_orE, y_kOrE, y_notE, y_kNoE, y_isI, y_kIsI, y_chain, y_kCh, y_kCh1, y_kCh2, y_kCh3, y_comp, y_kCo, y_kL, y_comp0, y_seqI, y_kSI, y_kIt, y_rng, y_kRg, y_for, y_kFo, y_part, y_kPt, y_noPart, y_slice, y_kSl1, y_kSl2, y_kSl3, y_slL, y_slT, y_slS, y_revL, y_par, y_kPar, y_asg, y_kAsg, y_gName, y_gTup, y_gCons, y_kG1, y_yes, y_methS, y_kM1, y_kM2, y_newTab, y_newOwn, y_putTab, y_kP1, y_kP2, y_inTab, y_kIn, y_append, y_kAp, y_step, y_kSc, y_kSc1, y_kSc2, y_plNil, y_sl, y_ixL0, y_ixT0, y_ixL1, y_ixT1, y_ixLm, y_dictS, y_dictI, x_varD, x_varSat, x_varScr, x_varOwn, x_varTab, x_intD, x_cmp, x_addI, x_addS, x_addL, x_subI, x_mulI, x_divI, x_modI, x_powI, x_negI, x_intI, x_intB, x_absI, x_truB, x_truI, x_truL, x_truT, x_sat1, x_sat2, x_sat0n, x_sat0s, x_satIs, x_put1, x_put2, x_eqI, x_ltI, x_al2I, x_pl2I, x_lenL, x_lenT, x_lenS, x_ixS, x_tupleL, x_tupleT, x_listL, x_listT, x_strI, x_repr, x_sorted, x_itL, x_itT, x_itS, x_wipe0, x_wipe1, x_keyS, x_keyI, x_items, x_sortItems, x_scrCut, x_isD, x_bOf, x_gNil, isT_int, isT_bool, isT_str, isT_list, isT_tuple, isT_dict, x_al2S, x_pl2S, x_eqS, x_inS, List.getElem?_cons_zero, List.getElem?_cons_succ, List.set_cons_zero, List.set_cons_succ, List.length_cons, List.length_nil, Nat.reduceAdd, Nat.reduceSub, Nat.reduceLT, Nat.reduceLeDiff, Nat.lt_add_one, Nat.zero_add, List.map_cons, List.map_nil, List.append_nil, List.cons_append, List.nil_append, List.reduceReplicate, List.replicate_zero, List.replicate_succ, reduceIte, if_true, if_false, true_and, and_true, Bool.not_true, Bool.not_false, Bool.false_eq_true, Nat.zero_lt_succ, Nat.add_lt_add_iff_right, Int.reduceEq, decide_true, decide_false, Int.reduceNeg, Int.reduceSub, Int.reduceAdd, x_eqvNil, x_pl2Nil, y_plNil, Bool.not_eq_true', List.isEmpty_nil, List.isEmpty_cons, st, T2_law_b0_7])
    refine comp_filter (p := fun d => !isIntD d) (f := id) _ _ (by rw [y_sl]; simp; omega) (fun d' hd Ky Kn k' => ?_) ?_
    · (try simp only [y_seq, y_next, y_ret, y_kRet, y_set, y_kSet, y_if, y_kIf, y_drop, y_kDrop, y_break, y_cont, y_lit, y_var, y_kO, y_bin, y_kB1, y_kB2, y_un, y_kU, y_call, y_kC, y_kC2, y_are0, y_are1, y_kAre, y_tup, y_lst, y_tupN, y_lstN, y_nil, y_cons, y_kA1, y_kA2, y_fn, y_kF, y_kR, y_fnK, y_kFnK1, y_kFnK, y_val, y_kV, y_tru, y_kT, y_kTb, y_and, y_or, y_not, y_kAn, y_kOr, y_kNo, y_ifE, y_kIfE, y_andE, y_kAnE, y_orE, y_kOrE, y_notE, y_kNoE, y_isI, y_kIsI, y_chain, y_kCh, y_kCh1, y_kCh2, y_kCh3, y_comp, y_kCo, y_kL, y_comp0, y_seqI, y_kSI, y_kIt, y_rng, y_kRg, y_for, y_kFo, y_part, y_kPt, y_noPart, y_slice, y_kSl1, y_kSl2, y_kSl3, y_slL, y_slT, y_slS, y_revL, y_par, y_kPar, y_asg, y_kAsg, y_gName, y_gTup, y_gCons, y_kG1, y_yes, y_methS, y_kM1, y_kM2, y_newTab, y_newOwn, y_putTab, y_kP1, y_kP2, y_inTab, y_kIn, y_append, y_kAp, y_step, y_kSc, y_kSc1, y_kSc2, y_plNil, y_sl, y_ixL0, y_ixT0, y_ixL1, y_ixT1, y_ixLm, y_dictS, y_dictI, x_varD, x_varSat, x_varScr, x_varOwn, x_varTab, x_intD, x_cmp, x_addI, x_addS, x_addL, x_subI, x_mulI, x_divI, x_modI, x_powI, x_negI, x_intI, x_intB, x_absI, x_truB, x_truI, x_truL, x_truT, x_sat1, x_sat2, x_sat0n, x_sat0s, x_satIs, x_put1, x_put2, x_eqI, x_ltI, x_al2I, x_pl2I, x_lenL, x_lenT, x_lenS, x_ixS, x_tupleL, x_tupleT, x_listL, x_listT, x_strI, x_repr, x_sorted, x_itL, x_itT, x_itS, x_wipe0, x_wipe1, x_keyS, x_keyI, x_items, x_sortItems, x_scrCut, x_isD, x_bOf, x_gNil, isT_int, isT_bool, isT_str, isT_list, isT_tuple, isT_dict, x_al2S, x_pl2S, x_eqS, x_inS, List.getElem?_cons_zero, List.getElem?_cons_succ, List.set_cons_zero, List.set_cons_succ, List.length_cons, List.length_nil, Nat.reduceAdd, Nat.reduceSub, Nat.reduceLT, Nat.reduceLeDiff, Nat.lt_add_one, Nat.zero_add, List.map_cons, List.map_nil, List.append_nil, List.cons_append, List.nil_append, List.reduceReplicate, List.replicate_zero, List.replicate_succ, reduceIte, if_true, if_false, true_and, and_true, Bool.not_true, Bool.not_false, Bool.false_eq_true, Nat.zero_lt_succ, Nat.add_lt_add_iff_right, Int.reduceEq, decide_true, decide_false, Int.reduceNeg, Int.reduceSub, Int.reduceAdd, x_eqvNil, x_pl2Nil, y_plNil, Bool.not_eq_true', List.isEmpty_nil, List.isEmpty_cons, y_step])
      refine ⟨_, rfl, ?_⟩
      (try simp only [y_seq, y_next, y_ret, y_kRet, y_set, y_kSet, y_if, y_kIf, y_drop, y_kDrop, y_break, y_cont, y_lit, y_var, y_kO, y_bin, y_kB1, y_kB2, y_un, y_kU, y_call, y_kC, y_kC2, y_are0, y_are1, y_kAre, y_tup, y_lst, y_tupN, y_lstN, y_nil, y_cons, y_kA1, y_kA2, y_fn, y_kF, y_kR, y_fnK, y_kFnK1, y_kFnK, y_val, y_kV, y_tru, y_kT, y_kTb, y_and, y_or, y_not, y_kAn, y_kOr, y_kNo, y_ifE, y_kIfE, y_andE, y_kAnE, y_orE, y_kOrE, y_notE, y_kNoE, y_isI, y_kIsI, y_chain, y_kCh, y_kCh1, y_kCh2, y_kCh3, y_comp, y_kCo, y_kL, y_comp0, y_seqI, y_kSI, y_kIt, y_rng, y_kRg, y_for, y_kFo, y_part, y_kPt, y_noPart, y_slice, y_kSl1, y_kSl2, y_kSl3, y_slL, y_slT, y_slS, y_revL, y_par, y_kPar, y_asg, y_kAsg, y_gName, y_gTup, y_gCons, y_kG1, y_yes, y_methS, y_kM1, y_kM2, y_newTab, y_newOwn, y_putTab, y_kP1, y_kP2, y_inTab, y_kIn, y_append, y_kAp, y_step, y_kSc, y_kSc1, y_kSc2, y_plNil, y_sl, y_ixL0, y_ixT0, y_ixL1, y_ixT1, y_ixLm, y_dictS, y_dictI, x_varD, x_varSat, x_varScr, x_varOwn, x_varTab, x_intD, x_cmp, x_addI, x_addS, x_addL, x_subI, x_mulI, x_divI, x_modI, x_powI, x_negI, x_intI, x_intB, x_absI, x_truB, x_truI, x_truL, x_truT, x_sat1, x_sat2, x_sat0n, x_sat0s, x_satIs, x_put1, x_put2, x_eqI, x_ltI, x_al2I, x_pl2I, x_lenL, x_lenT, x_lenS, x_ixS, x_tupleL, x_tupleT, x_listL, x_listT, x_strI, x_repr, x_sorted, x_itL, x_itT, x_itS, x_wipe0, x_wipe1, x_keyS, x_keyI, x_items, x_sortItems, x_scrCut, x_isD, x_bOf, x_gNil, isT_int, isT_bool, isT_str, isT_list, isT_tuple, isT_dict, x_al2S, x_pl2S, x_eqS, x_inS, List.getElem?_cons_zero, List.getElem?_cons_succ, List.set_cons_zero, List.set_cons_succ, List.length_cons, List.length_nil, Nat.reduceAdd, Nat.reduceSub, Nat.reduceLT, Nat.reduceLeDiff, Nat.lt_add_one, Nat.zero_add, List.map_cons, List.map_nil, List.append_nil, List.cons_append, List.nil_append, List.reduceReplicate, List.replicate_zero, List.replicate_succ, reduceIte, if_true, if_false, true_and, and_true, Bool.not_true, Bool.not_false, Bool.false_eq_true, Nat.zero_lt_succ, Nat.add_lt_add_iff_right, Int.reduceEq, decide_true, decide_false, Int.reduceNeg, Int.reduceSub, Int.reduceAdd, x_eqvNil, x_pl2Nil, y_plNil, Bool.not_eq_true', List.isEmpty_nil, List.isEmpty_cons])
      cases e : isIntD d' with
      | true => (try simp only [y_seq, y_next, y_ret, y_kRet, y_set, y_kSet, y_if, y_kIf, y_drop, y_kDrop, y_break, y_cont, y_lit, y_var, y_kO, y_bin, y_kB1, y_kB2, y_un, y_kU, y_call, y_kC, y_kC2, y_are0, y_are1, y_kAre, y_tup, y_lst, y_tupN, y_lstN, y_nil, y_cons, y_kA1, y_kA2, y_fn, y_kF, y_kR, y_fnK, y_kFnK1, y_kFnK, y_val, y_kV, y_tru, y_kT, y_kTb, y_and, y_or, y_not, y_kAn, y_kOr, y_kNo, y_ifE, y_kIfE, y_andE, y_kAnE, y_orE, y_kOrE, y_notE, y_kNoE, y_isI, y_kIsI, y_chain, y_kCh, y_kCh1, y_kCh2, y_kCh3, y_comp, y_kCo, y_kL, y_comp0, y_seqI, y_kSI, y_kIt, y_rng, y_kRg, y_for, y_kFo, y_part, y_kPt, y_noPart, y_slice, y_kSl1, y_kSl2, y_kSl3, y_slL, y_slT, y_slS, y_revL, y_par, y_kPar, y_asg, y_kAsg, y_gName, y_gTup, y_gCons, y_kG1, y_yes, y_methS, y_kM1, y_kM2, y_newTab, y_newOwn, y_putTab, y_kP1, y_kP2, y_inTab, y_kIn, y_append, y_kAp, y_step, y_kSc, y_kSc1, y_kSc2, y_plNil, y_sl, y_ixL0, y_ixT0, y_ixL1, y_ixT1, y_ixLm, y_dictS, y_dictI, x_varD, x_varSat, x_varScr, x_varOwn, x_varTab, x_intD, x_cmp, x_addI, x_addS, x_addL, x_subI, x_mulI, x_divI, x_modI, x_powI, x_negI, x_intI, x_intB, x_absI, x_truB, x_truI, x_truL, x_truT, x_sat1, x_sat2, x_sat0n, x_sat0s, x_satIs, x_put1, x_put2, x_eqI, x_ltI, x_al2I, x_pl2I, x_lenL, x_lenT, x_lenS, x_ixS, x_tupleL, x_tupleT, x_listL, x_listT, x_strI, x_repr, x_sorted, x_itL, x_itT, x_itS, x_wipe0, x_wipe1, x_keyS, x_keyI, x_items, x_sortItems, x_scrCut, x_isD, x_bOf, x_gNil, isT_int, isT_bool, isT_str, isT_list, isT_tuple, isT_dict, x_al2S, x_pl2S, x_eqS, x_inS, List.getElem?_cons_zero, List.getElem?_cons_succ, List.set_cons_zero, List.set_cons_succ, List.length_cons, List.length_nil, Nat.reduceAdd, Nat.reduceSub, Nat.reduceLT, Nat.reduceLeDiff, Nat.lt_add_one, Nat.zero_add, List.map_cons, List.map_nil, List.append_nil, List.cons_append, List.nil_append, List.reduceReplicate, List.replicate_zero, List.replicate_succ, reduceIte, if_true, if_false, true_and, and_true, Bool.not_true, Bool.not_false, Bool.false_eq_true, Nat.zero_lt_succ, Nat.add_lt_add_iff_right, Int.reduceEq, decide_true, decide_false, Int.reduceNeg, Int.reduceSub, Int.reduceAdd, x_eqvNil, x_pl2Nil, y_plNil, Bool.not_eq_true', List.isEmpty_nil, List.isEmpty_cons]); simpa [e] using k'
      | false => (try simp only [y_seq, y_next, y_ret, y_kRet, y_set, y_kSet, y_if, y_kIf, y_drop, y_kDrop, y_break, y_cont, y_lit, y_var, y_kO, y_bin, y_kB1, y_kB2, y_un, y_kU, y_call, y_kC, y_kC2, y_are0, y_are1, y_kAre, y_tup, y_lst, y_tupN, y_lstN, y_nil, y_cons, y_kA1, y_kA2, y_fn, y_kF, y_kR, y_fnK, y_kFnK1, y_kFnK, y_val, y_kV, y_tru, y_kT, y_kTb, y_and, y_or, y_not, y_kAn, y_kOr, y_kNo, y_ifE, y_kIfE, y_andE, y_kAnE, y_orE, y_kOrE, y_notE, y_kNoE, y_isI, y_kIsI, y_chain, y_kCh, y_kCh1, y_kCh2, y_kCh3, y_comp, y_kCo, y_kL, y_comp0, y_seqI, y_kSI, y_kIt, y_rng, y_kRg, y_for, y_kFo, y_part, y_kPt, y_noPart, y_slice, y_kSl1, y_kSl2, y_kSl3, y_slL, y_slT, y_slS, y_revL, y_par, y_kPar, y_asg, y_kAsg, y_gName, y_gTup, y_gCons, y_kG1, y_yes, y_methS, y_kM1, y_kM2, y_newTab, y_newOwn, y_putTab, y_kP1, y_kP2, y_inTab, y_kIn, y_append, y_kAp, y_step, y_kSc, y_kSc1, y_kSc2, y_plNil, y_sl, y_ixL0, y_ixT0, y_ixL1, y_ixT1, y_ixLm, y_dictS, y_dictI, x_varD, x_varSat, x_varScr, x_varOwn, x_varTab, x_intD, x_cmp, x_addI, x_addS, x_addL, x_subI, x_mulI, x_divI, x_modI, x_powI, x_negI, x_intI, x_intB, x_absI, x_truB, x_truI, x_truL, x_truT, x_sat1, x_sat2, x_sat0n, x_sat0s, x_satIs, x_put1, x_put2, x_eqI, x_ltI, x_al2I, x_pl2I, x_lenL, x_lenT, x_lenS, x_ixS, x_tupleL, x_tupleT, x_listL, x_listT, x_strI, x_repr, x_sorted, x_itL, x_itT, x_itS, x_wipe0, x_wipe1, x_keyS, x_keyI, x_items, x_sortItems, x_scrCut, x_isD, x_bOf, x_gNil, isT_int, isT_bool, isT_str, isT_list, isT_tuple, isT_dict, x_al2S, x_pl2S, x_eqS, x_inS, List.getElem?_cons_zero, List.getElem?_cons_succ, List.set_cons_zero, List.set_cons_succ, List.length_cons, List.length_nil, Nat.reduceAdd, Nat.reduceSub, Nat.reduceLT, Nat.reduceLeDiff, Nat.lt_add_one, Nat.zero_add, List.map_cons, List.map_nil, List.append_nil, List.cons_append, List.nil_append, List.reduceReplicate, List.replicate_zero, List.replicate_succ, reduceIte, if_true, if_false, true_and, and_true, Bool.not_true, Bool.not_false, Bool.false_eq_true, Nat.zero_lt_succ, Nat.add_lt_add_iff_right, Int.reduceEq, decide_true, decide_false, Int.reduceNeg, Int.reduceSub, Int.reduceAdd, x_eqvNil, x_pl2Nil, y_plNil, Bool.not_eq_true', List.isEmpty_nil, List.isEmpty_cons]); simpa [e] using k'
    · have hpl : PyData.plainAll (row.filter fun d => !isIntD d) = true := by
        have : ∀ xs : List PyData, (∀ y ∈ xs, y.plain = true) → PyData.plainAll xs = true := by
          intro xs
          induction xs with
          | nil => intro _; rfl
          | cons x xs ih => intro h; rw [PyData.plainAll, h x (by simp), ih fun y hy => h y (by simp [hy])]; rfl
        exact this _ fun y hy => hp y (List.mem_filter.mp hy).1
      have hw : (row.filter fun d => !isIntD d).isEmpty = row.all isIntD := by
        clear hp ha hpl
        induction row with
        | nil => rfl
        | cons y ys ih => cases e : isIntD y <;> simp_all
      have sh : ∀ xs : List PyData, (.list row = PyData.list xs ∨ .list row = PyData.tuple xs) → xs.length ≤ 1000 := fun xs e => by
        rcases e with e | e
        · cases e; omega
        · cases e
      have sh2 : ∀ xs : List PyData, (.tuple row = PyData.list xs ∨ .tuple row = PyData.tuple xs) → xs.length ≤ 1000 := fun xs e => by
        rcases e with e | e
        · cases e
        · cases e; omega
      (try simp only [y_seq, y_next, y_ret, y_kRet, y_set, y_kSet, y_if, y_kIf, y_drop, y_kDrop, y_break, y_cont, y_lit, y_var, y_kO, y_bin, y_kB1, y_kB2, y_un, y_kU, y_call, y_kC, y_kC2, y_are0, y_are1, y_kAre, y_tup, y_lst, y_tupN, y_lstN, y_nil, y_cons, y_kA1, y_kA2, y_fn, y_kF, y_kR, y_fnK, y_kFnK1, y_kFnK, y_val, y_kV, y_tru, y_kT, y_kTb, y_and, y_or, y_not, y_kAn, y_kOr, y_kNo, y_ifE, y_kIfE, y_andE, y_kAnE, y_orE, y_kOrE, y_notE, y_kNoE, y_isI, y_kIsI, y_chain, y_kCh, y_kCh1, y_kCh2, y_kCh3, y_comp, y_kCo, y_kL, y_comp0, y_seqI, y_kSI, y_kIt, y_rng, y_kRg, y_for, y_kFo, y_part, y_kPt, y_noPart, y_slice, y_kSl1, y_kSl2, y_kSl3, y_slL, y_slT, y_slS, y_revL, y_par, y_kPar, y_asg, y_kAsg, y_gName, y_gTup, y_gCons, y_kG1, y_yes, y_methS, y_kM1, y_kM2, y_newTab, y_newOwn, y_putTab, y_kP1, y_kP2, y_inTab, y_kIn, y_append, y_kAp, y_step, y_kSc, y_kSc1, y_kSc2, y_plNil, y_sl, y_ixL0, y_ixT0, y_ixL1, y_ixT1, y_ixLm, y_dictS, y_dictI, x_varD, x_varSat, x_varScr, x_varOwn, x_varTab, x_intD, x_cmp, x_addI, x_addS, x_addL, x_subI, x_mulI, x_divI, x_modI, x_powI, x_negI, x_intI, x_intB, x_absI, x_truB, x_truI, x_truL, x_truT, x_sat1, x_sat2, x_sat0n, x_sat0s, x_satIs, x_put1, x_put2, x_eqI, x_ltI, x_al2I, x_pl2I, x_lenL, x_lenT, x_lenS, x_ixS, x_tupleL, x_tupleT, x_listL, x_listT, x_strI, x_repr, x_sorted, x_itL, x_itT, x_itS, x_wipe0, x_wipe1, x_keyS, x_keyI, x_items, x_sortItems, x_scrCut, x_isD, x_bOf, x_gNil, isT_int, isT_bool, isT_str, isT_list, isT_tuple, isT_dict, x_al2S, x_pl2S, x_eqS, x_inS, List.getElem?_cons_zero, List.getElem?_cons_succ, List.set_cons_zero, List.set_cons_succ, List.length_cons, List.length_nil, Nat.reduceAdd, Nat.reduceSub, Nat.reduceLT, Nat.reduceLeDiff, Nat.lt_add_one, Nat.zero_add, List.map_cons, List.map_nil, List.append_nil, List.cons_append, List.nil_append, List.reduceReplicate, List.replicate_zero, List.replicate_succ, reduceIte, if_true, if_false, true_and, and_true, Bool.not_true, Bool.not_false, Bool.false_eq_true, Nat.zero_lt_succ, Nat.add_lt_add_iff_right, Int.reduceEq, decide_true, decide_false, Int.reduceNeg, Int.reduceSub, Int.reduceAdd, x_eqvNil, x_pl2Nil, y_plNil, Bool.not_eq_true', List.isEmpty_nil, List.isEmpty_cons, List.map_id, hpl, hw, T2_law_b0_8])
      refine ⟨_, rfl, sh, ?_⟩
      (try simp only [y_seq, y_next, y_ret, y_kRet, y_set, y_kSet, y_if, y_kIf, y_drop, y_kDrop, y_break, y_cont, y_lit, y_var, y_kO, y_bin, y_kB1, y_kB2, y_un, y_kU, y_call, y_kC, y_kC2, y_are0, y_are1, y_kAre, y_tup, y_lst, y_tupN, y_lstN, y_nil, y_cons, y_kA1, y_kA2, y_fn, y_kF, y_kR, y_fnK, y_kFnK1, y_kFnK, y_val, y_kV, y_tru, y_kT, y_kTb, y_and, y_or, y_not, y_kAn, y_kOr, y_kNo, y_ifE, y_kIfE, y_andE, y_kAnE, y_orE, y_kOrE, y_notE, y_kNoE, y_isI, y_kIsI, y_chain, y_kCh, y_kCh1, y_kCh2, y_kCh3, y_comp, y_kCo, y_kL, y_comp0, y_seqI, y_kSI, y_kIt, y_rng, y_kRg, y_for, y_kFo, y_part, y_kPt, y_noPart, y_slice, y_kSl1, y_kSl2, y_kSl3, y_slL, y_slT, y_slS, y_revL, y_par, y_kPar, y_asg, y_kAsg, y_gName, y_gTup, y_gCons, y_kG1, y_yes, y_methS, y_kM1, y_kM2, y_newTab, y_newOwn, y_putTab, y_kP1, y_kP2, y_inTab, y_kIn, y_append, y_kAp, y_step, y_kSc, y_kSc1, y_kSc2, y_plNil, y_sl, y_ixL0, y_ixT0, y_ixL1, y_ixT1, y_ixLm, y_dictS, y_dictI, x_varD, x_varSat, x_varScr, x_varOwn, x_varTab, x_intD, x_cmp, x_addI, x_addS, x_addL, x_subI, x_mulI, x_divI, x_modI, x_powI, x_negI, x_intI, x_intB, x_absI, x_truB, x_truI, x_truL, x_truT, x_sat1, x_sat2, x_sat0n, x_sat0s, x_satIs, x_put1, x_put2, x_eqI, x_ltI, x_al2I, x_pl2I, x_lenL, x_lenT, x_lenS, x_ixS, x_tupleL, x_tupleT, x_listL, x_listT, x_strI, x_repr, x_sorted, x_itL, x_itT, x_itS, x_wipe0, x_wipe1, x_keyS, x_keyI, x_items, x_sortItems, x_scrCut, x_isD, x_bOf, x_gNil, isT_int, isT_bool, isT_str, isT_list, isT_tuple, isT_dict, x_al2S, x_pl2S, x_eqS, x_inS, List.getElem?_cons_zero, List.getElem?_cons_succ, List.set_cons_zero, List.set_cons_succ, List.length_cons, List.length_nil, Nat.reduceAdd, Nat.reduceSub, Nat.reduceLT, Nat.reduceLeDiff, Nat.lt_add_one, Nat.zero_add, List.map_cons, List.map_nil, List.append_nil, List.cons_append, List.nil_append, List.reduceReplicate, List.replicate_zero, List.replicate_succ, reduceIte, if_true, if_false, true_and, and_true, Bool.not_true, Bool.not_false, Bool.false_eq_true, Nat.zero_lt_succ, Nat.add_lt_add_iff_right, Int.reduceEq, decide_true, decide_false, Int.reduceNeg, Int.reduceSub, Int.reduceAdd, x_eqvNil, x_pl2Nil, y_plNil, Bool.not_eq_true', List.isEmpty_nil, List.isEmpty_cons])
      refine ⟨_, rfl, sh2, ?_⟩
      (try simp only [y_seq, y_next, y_ret, y_kRet, y_set, y_kSet, y_if, y_kIf, y_drop, y_kDrop, y_break, y_cont, y_lit, y_var, y_kO, y_bin, y_kB1, y_kB2, y_un, y_kU, y_call, y_kC, y_kC2, y_are0, y_are1, y_kAre, y_tup, y_lst, y_tupN, y_lstN, y_nil, y_cons, y_kA1, y_kA2, y_fn, y_kF, y_kR, y_fnK, y_kFnK1, y_kFnK, y_val, y_kV, y_tru, y_kT, y_kTb, y_and, y_or, y_not, y_kAn, y_kOr, y_kNo, y_ifE, y_kIfE, y_andE, y_kAnE, y_orE, y_kOrE, y_notE, y_kNoE, y_isI, y_kIsI, y_chain, y_kCh, y_kCh1, y_kCh2, y_kCh3, y_comp, y_kCo, y_kL, y_comp0, y_seqI, y_kSI, y_kIt, y_rng, y_kRg, y_for, y_kFo, y_part, y_kPt, y_noPart, y_slice, y_kSl1, y_kSl2, y_kSl3, y_slL, y_slT, y_slS, y_revL, y_par, y_kPar, y_asg, y_kAsg, y_gName, y_gTup, y_gCons, y_kG1, y_yes, y_methS, y_kM1, y_kM2, y_newTab, y_newOwn, y_putTab, y_kP1, y_kP2, y_inTab, y_kIn, y_append, y_kAp, y_step, y_kSc, y_kSc1, y_kSc2, y_plNil, y_sl, y_ixL0, y_ixT0, y_ixL1, y_ixT1, y_ixLm, y_dictS, y_dictI, x_varD, x_varSat, x_varScr, x_varOwn, x_varTab, x_intD, x_cmp, x_addI, x_addS, x_addL, x_subI, x_mulI, x_divI, x_modI, x_powI, x_negI, x_intI, x_intB, x_absI, x_truB, x_truI, x_truL, x_truT, x_sat1, x_sat2, x_sat0n, x_sat0s, x_satIs, x_put1, x_put2, x_eqI, x_ltI, x_al2I, x_pl2I, x_lenL, x_lenT, x_lenS, x_ixS, x_tupleL, x_tupleT, x_listL, x_listT, x_strI, x_repr, x_sorted, x_itL, x_itT, x_itS, x_wipe0, x_wipe1, x_keyS, x_keyI, x_items, x_sortItems, x_scrCut, x_isD, x_bOf, x_gNil, isT_int, isT_bool, isT_str, isT_list, isT_tuple, isT_dict, x_al2S, x_pl2S, x_eqS, x_inS, List.getElem?_cons_zero, List.getElem?_cons_succ, List.set_cons_zero, List.set_cons_succ, List.length_cons, List.length_nil, Nat.reduceAdd, Nat.reduceSub, Nat.reduceLT, Nat.reduceLeDiff, Nat.lt_add_one, Nat.zero_add, List.map_cons, List.map_nil, List.append_nil, List.cons_append, List.nil_append, List.reduceReplicate, List.replicate_zero, List.replicate_succ, reduceIte, if_true, if_false, true_and, and_true, Bool.not_true, Bool.not_false, Bool.false_eq_true, Nat.zero_lt_succ, Nat.add_lt_add_iff_right, Int.reduceEq, decide_true, decide_false, Int.reduceNeg, Int.reduceSub, Int.reduceAdd, x_eqvNil, x_pl2Nil, y_plNil, Bool.not_eq_true', List.isEmpty_nil, List.isEmpty_cons])
      refine ⟨_, rfl, fun xs e => (by rcases e with e | e <;> cases e), ?_⟩
      (try simp only [y_seq, y_next, y_ret, y_kRet, y_set, y_kSet, y_if, y_kIf, y_drop, y_kDrop, y_break, y_cont, y_lit, y_var, y_kO, y_bin, y_kB1, y_kB2, y_un, y_kU, y_call, y_kC, y_kC2, y_are0, y_are1, y_kAre, y_tup, y_lst, y_tupN, y_lstN, y_nil, y_cons, y_kA1, y_kA2, y_fn, y_kF, y_kR, y_fnK, y_kFnK1, y_kFnK, y_val, y_kV, y_tru, y_kT, y_kTb, y_and, y_or, y_not, y_kAn, y_kOr, y_kNo, y_ifE, y_kIfE, y_andE, y_kAnE, y_orE, y_kOrE, y_notE, y_kNoE, y_isI, y_kIsI, y_chain, y_kCh, y_kCh1, y_kCh2, y_kCh3, y_comp, y_kCo, y_kL, y_comp0, y_seqI, y_kSI, y_kIt, y_rng, y_kRg, y_for, y_kFo, y_part, y_kPt, y_noPart, y_slice, y_kSl1, y_kSl2, y_kSl3, y_slL, y_slT, y_slS, y_revL, y_par, y_kPar, y_asg, y_kAsg, y_gName, y_gTup, y_gCons, y_kG1, y_yes, y_methS, y_kM1, y_kM2, y_newTab, y_newOwn, y_putTab, y_kP1, y_kP2, y_inTab, y_kIn, y_append, y_kAp, y_step, y_kSc, y_kSc1, y_kSc2, y_plNil, y_sl, y_ixL0, y_ixT0, y_ixL1, y_ixT1, y_ixLm, y_dictS, y_dictI, x_varD, x_varSat, x_varScr, x_varOwn, x_varTab, x_intD, x_cmp, x_addI, x_addS, x_addL, x_subI, x_mulI, x_divI, x_modI, x_powI, x_negI, x_intI, x_intB, x_absI, x_truB, x_truI, x_truL, x_truT, x_sat1, x_sat2, x_sat0n, x_sat0s, x_satIs, x_put1, x_put2, x_eqI, x_ltI, x_al2I, x_pl2I, x_lenL, x_lenT, x_lenS, x_ixS, x_tupleL, x_tupleT, x_listL, x_listT, x_strI, x_repr, x_sorted, x_itL, x_itT, x_itS, x_wipe0, x_wipe1, x_keyS, x_keyI, x_items, x_sortItems, x_scrCut, x_isD, x_bOf, x_gNil, isT_int, isT_bool, isT_str, isT_list, isT_tuple, isT_dict, x_al2S, x_pl2S, x_eqS, x_inS, List.getElem?_cons_zero, List.getElem?_cons_succ, List.set_cons_zero, List.set_cons_succ, List.length_cons, List.length_nil, Nat.reduceAdd, Nat.reduceSub, Nat.reduceLT, Nat.reduceLeDiff, Nat.lt_add_one, Nat.zero_add, List.map_cons, List.map_nil, List.append_nil, List.cons_append, List.nil_append, List.reduceReplicate, List.replicate_zero, List.replicate_succ, reduceIte, if_true, if_false, true_and, and_true, Bool.not_true, Bool.not_false, Bool.false_eq_true, Nat.zero_lt_succ, Nat.add_lt_add_iff_right, Int.reduceEq, decide_true, decide_false, Int.reduceNeg, Int.reduceSub, Int.reduceAdd, x_eqvNil, x_pl2Nil, y_plNil, Bool.not_eq_true', List.isEmpty_nil, List.isEmpty_cons])
      refine ⟨_, rfl, fun xs e => (by rcases e with e | e <;> cases e), ?_⟩
      (try simp only [y_seq, y_next, y_ret, y_kRet, y_set, y_kSet, y_if, y_kIf, y_drop, y_kDrop, y_break, y_cont, y_lit, y_var, y_kO, y_bin, y_kB1, y_kB2, y_un, y_kU, y_call, y_kC, y_kC2, y_are0, y_are1, y_kAre, y_tup, y_lst, y_tupN, y_lstN, y_nil, y_cons, y_kA1, y_kA2, y_fn, y_kF, y_kR, y_fnK, y_kFnK1, y_kFnK, y_val, y_kV, y_tru, y_kT, y_kTb, y_and, y_or, y_not, y_kAn, y_kOr, y_kNo, y_ifE, y_kIfE, y_andE, y_kAnE, y_orE, y_kOrE, y_notE, y_kNoE, y_isI, y_kIsI, y_chain, y_kCh, y_kCh1, y_kCh2, y_kCh3, y_comp, y_kCo, y_kL, y_comp0, y_seqI, y_kSI, y_kIt, y_rng, y_kRg, y_for, y_kFo, y_part, y_kPt, y_noPart, y_slice, y_kSl1, y_kSl2, y_kSl3, y_slL, y_slT, y_slS, y_revL, y_par, y_kPar, y_asg, y_kAsg, y_gName, y_gTup, y_gCons, y_kG1, y_yes, y_methS, y_kM1, y_kM2, y_newTab, y_newOwn, y_putTab, y_kP1, y_kP2, y_inTab, y_kIn, y_append, y_kAp, y_step, y_kSc, y_kSc1, y_kSc2, y_plNil, y_sl, y_ixL0, y_ixT0, y_ixL1, y_ixT1, y_ixLm, y_dictS, y_dictI, x_varD, x_varSat, x_varScr, x_varOwn, x_varTab, x_intD, x_cmp, x_addI, x_addS, x_addL, x_subI, x_mulI, x_divI, x_modI, x_powI, x_negI, x_intI, x_intB, x_absI, x_truB, x_truI, x_truL, x_truT, x_sat1, x_sat2, x_sat0n, x_sat0s, x_satIs, x_put1, x_put2, x_eqI, x_ltI, x_al2I, x_pl2I, x_lenL, x_lenT, x_lenS, x_ixS, x_tupleL, x_tupleT, x_listL, x_listT, x_strI, x_repr, x_sorted, x_itL, x_itT, x_itS, x_wipe0, x_wipe1, x_keyS, x_keyI, x_items, x_sortItems, x_scrCut, x_isD, x_bOf, x_gNil, isT_int, isT_bool, isT_str, isT_list, isT_tuple, isT_dict, x_al2S, x_pl2S, x_eqS, x_inS, List.getElem?_cons_zero, List.getElem?_cons_succ, List.set_cons_zero, List.set_cons_succ, List.length_cons, List.length_nil, Nat.reduceAdd, Nat.reduceSub, Nat.reduceLT, Nat.reduceLeDiff, Nat.lt_add_one, Nat.zero_add, List.map_cons, List.map_nil, List.append_nil, List.cons_append, List.nil_append, List.reduceReplicate, List.replicate_zero, List.replicate_succ, reduceIte, if_true, if_false, true_and, and_true, Bool.not_true, Bool.not_false, Bool.false_eq_true, Nat.zero_lt_succ, Nat.add_lt_add_iff_right, Int.reduceEq, decide_true, decide_false, Int.reduceNeg, Int.reduceSub, Int.reduceAdd, x_eqvNil, x_pl2Nil, y_plNil, Bool.not_eq_true', List.isEmpty_nil, List.isEmpty_cons, areIntsD])
      have rb : reprOk (.list [.bool (row.all isIntD), .bool (row.all isIntD), .bool false, .bool false]) := bools_ok (bs := [row.all isIntD, row.all isIntD, false, false]) (by simp)
      refine ⟨rb, rb, ?_⟩
      (try simp only [y_seq, y_next, y_ret, y_kRet, y_set, y_kSet, y_if, y_kIf, y_drop, y_kDrop, y_break, y_cont, y_lit, y_var, y_kO, y_bin, y_kB1, y_kB2, y_un, y_kU, y_call, y_kC, y_kC2, y_are0, y_are1, y_kAre, y_tup, y_lst, y_tupN, y_lstN, y_nil, y_cons, y_kA1, y_kA2, y_fn, y_kF, y_kR, y_fnK, y_kFnK1, y_kFnK, y_val, y_kV, y_tru, y_kT, y_kTb, y_and, y_or, y_not, y_kAn, y_kOr, y_kNo, y_ifE, y_kIfE, y_andE, y_kAnE, y_orE, y_kOrE, y_notE, y_kNoE, y_isI, y_kIsI, y_chain, y_kCh, y_kCh1, y_kCh2, y_kCh3, y_comp, y_kCo, y_kL, y_comp0, y_seqI, y_kSI, y_kIt, y_rng, y_kRg, y_for, y_kFo, y_part, y_kPt, y_noPart, y_slice, y_kSl1, y_kSl2, y_kSl3, y_slL, y_slT, y_slS, y_revL, y_par, y_kPar, y_asg, y_kAsg, y_gName, y_gTup, y_gCons, y_kG1, y_yes, y_methS, y_kM1, y_kM2, y_newTab, y_newOwn, y_putTab, y_kP1, y_kP2, y_inTab, y_kIn, y_append, y_kAp, y_step, y_kSc, y_kSc1, y_kSc2, y_plNil, y_sl, y_ixL0, y_ixT0, y_ixL1, y_ixT1, y_ixLm, y_dictS, y_dictI, x_varD, x_varSat, x_varScr, x_varOwn, x_varTab, x_intD, x_cmp, x_addI, x_addS, x_addL, x_subI, x_mulI, x_divI, x_modI, x_powI, x_negI, x_intI, x_intB, x_absI, x_truB, x_truI, x_truL, x_truT, x_sat1, x_sat2, x_sat0n, x_sat0s, x_satIs, x_put1, x_put2, x_eqI, x_ltI, x_al2I, x_pl2I, x_lenL, x_lenT, x_lenS, x_ixS, x_tupleL, x_tupleT, x_listL, x_listT, x_strI, x_repr, x_sorted, x_itL, x_itT, x_itS, x_wipe0, x_wipe1, x_keyS, x_keyI, x_items, x_sortItems, x_scrCut, x_isD, x_bOf, x_gNil, isT_int, isT_bool, isT_str, isT_list, isT_tuple, isT_dict, x_al2S, x_pl2S, x_eqS, x_inS, List.getElem?_cons_zero, List.getElem?_cons_succ, List.set_cons_zero, List.set_cons_succ, List.length_cons, List.length_nil, Nat.reduceAdd, Nat.reduceSub, Nat.reduceLT, Nat.reduceLeDiff, Nat.lt_add_one, Nat.zero_add, List.map_cons, List.map_nil, List.append_nil, List.cons_append, List.nil_append, List.reduceReplicate, List.replicate_zero, List.replicate_succ, reduceIte, if_true, if_false, true_and, and_true, Bool.not_true, Bool.not_false, Bool.false_eq_true, Nat.zero_lt_succ, Nat.add_lt_add_iff_right, Int.reduceEq, decide_true, decide_false, Int.reduceNeg, Int.reduceSub, Int.reduceAdd, x_eqvNil, x_pl2Nil, y_plNil, Bool.not_eq_true', List.isEmpty_nil, List.isEmpty_cons, T2_law_b0_9])
      refine ⟨rfl, by omega, fun n11 hn11 => ?_⟩
      (try simp only [y_seq, y_next, y_ret, y_kRet, y_set, y_kSet, y_if, y_kIf, y_drop, y_kDrop, y_break, y_cont, y_lit, y_var, y_kO, y_bin, y_kB1, y_kB2, y_un, y_kU, y_call, y_kC, y_kC2, y_are0, y_are1, y_kAre, y_tup, y_lst, y_tupN, y_lstN, y_nil, y_cons, y_kA1, y_kA2, y_fn, y_kF, y_kR, y_fnK, y_kFnK1, y_kFnK, y_val, y_kV, y_tru, y_kT, y_kTb, y_and, y_or, y_not, y_kAn, y_kOr, y_kNo, y_ifE, y_kIfE, y_andE, y_kAnE, y_orE, y_kOrE, y_notE, y_kNoE, y_isI, y_kIsI, y_chain, y_kCh, y_kCh1, y_kCh2, y_kCh3, y_comp, y_kCo, y_kL, y_comp0, y_seqI, y_kSI, y_kIt, y_rng, y_kRg, y_for, y_kFo, y_part, y_kPt, y_noPart, y_slice, y_kSl1, y_kSl2, y_kSl3, y_slL, y_slT, y_slS, y_revL, y_par, y_kPar, y_asg, y_kAsg, y_gName, y_gTup, y_gCons, y_kG1, y_yes, y_methS, y_kM1, y_kM2, y_newTab, y_newOwn, y_putTab, y_kP1, y_kP2, y_inTab, y_kIn, y_append, y_kAp, y_step, y_kSc, y_kSc1, y_kSc2, y_plNil, y_sl, y_ixL0, y_ixT0, y_ixL1, y_ixT1, y_ixLm, y_dictS, y_dictI, x_varD, x_varSat, x_varScr, x_varOwn, x_varTab, x_intD, x_cmp, x_addI, x_addS, x_addL, x_subI, x_mulI, x_divI, x_modI, x_powI, x_negI, x_intI, x_intB, x_absI, x_truB, x_truI, x_truL, x_truT, x_sat1, x_sat2, x_sat0n, x_sat0s, x_satIs, x_put1, x_put2, x_eqI, x_ltI, x_al2I, x_pl2I, x_lenL, x_lenT, x_lenS, x_ixS, x_tupleL, x_tupleT, x_listL, x_listT, x_strI, x_repr, x_sorted, x_itL, x_itT, x_itS, x_wipe0, x_wipe1, x_keyS, x_keyI, x_items, x_sortItems, x_scrCut, x_isD, x_bOf, x_gNil, isT_int, isT_bool, isT_str, isT_list, isT_tuple, isT_dict, x_al2S, x_pl2S, x_eqS, x_inS, List.getElem?_cons_zero, List.getElem?_cons_succ, List.set_cons_zero, List.set_cons_succ, List.length_cons, List.length_nil, Nat.reduceAdd, Nat.reduceSub, Nat.reduceLT, Nat.reduceLeDiff, Nat.lt_add_one, Nat.zero_add, List.map_cons, List.map_nil, List.append_nil, List.cons_append, List.nil_append, List.reduceReplicate, List.replicate_zero, List.replicate_succ, reduceIte, if_true, if_false, true_and, and_true, Bool.not_true, Bool.not_false, Bool.false_eq_true, Nat.zero_lt_succ, Nat.add_lt_add_iff_right, Int.reduceEq, decide_true, decide_false, Int.reduceNeg, Int.reduceSub, Int.reduceAdd, x_eqvNil, x_pl2Nil, y_plNil, Bool.not_eq_true', List.isEmpty_nil, List.isEmpty_cons])
      refine ⟨rfl, by omega, fun n12 hn12 => ?_⟩
      (try simp only [y_seq, y_next, y_ret, y_kRet, y_set, y_kSet, y_if, y_kIf, y_drop, y_kDrop, y_break, y_cont, y_lit, y_var, y_kO, y_bin, y_kB1, y_kB2, y_un, y_kU, y_call, y_kC, y_kC2, y_are0, y_are1, y_kAre, y_tup, y_lst, y_tupN, y_lstN, y_nil, y_cons, y_kA1, y_kA2, y_fn, y_kF, y_kR, y_fnK, y_kFnK1, y_kFnK, y_val, y_kV, y_tru, y_kT, y_kTb, y_and, y_or, y_not, y_kAn, y_kOr, y_kNo, y_ifE, y_kIfE, y_andE, y_kAnE, y_orE, y_kOrE, y_notE, y_kNoE, y_isI, y_kIsI, y_chain, y_kCh, y_kCh1, y_kCh2, y_kCh3, y_comp, y_kCo, y_kL, y_comp0, y_seqI, y_kSI, y_kIt, y_rng, y_kRg, y_for, y_kFo, y_part, y_kPt, y_noPart, y_slice, y_kSl1, y_kSl2, y_kSl3, y_slL, y_slT, y_slS, y_revL, y_par, y_kPar, y_asg, y_kAsg, y_gName, y_gTup, y_gCons, y_kG1, y_yes, y_methS, y_kM1, y_kM2, y_newTab, y_newOwn, y_putTab, y_kP1, y_kP2, y_inTab, y_kIn, y_append, y_kAp, y_step, y_kSc, y_kSc1, y_kSc2, y_plNil, y_sl, y_ixL0, y_ixT0, y_ixL1, y_ixT1, y_ixLm, y_dictS, y_dictI, x_varD, x_varSat, x_varScr, x_varOwn, x_varTab, x_intD, x_cmp, x_addI, x_addS, x_addL, x_subI, x_mulI, x_divI, x_modI, x_powI, x_negI, x_intI, x_intB, x_absI, x_truB, x_truI, x_truL, x_truT, x_sat1, x_sat2, x_sat0n, x_sat0s, x_satIs, x_put1, x_put2, x_eqI, x_ltI, x_al2I, x_pl2I, x_lenL, x_lenT, x_lenS, x_ixS, x_tupleL, x_tupleT, x_listL, x_listT, x_strI, x_repr, x_sorted, x_itL, x_itT, x_itS, x_wipe0, x_wipe1, x_keyS, x_keyI, x_items, x_sortItems, x_scrCut, x_isD, x_bOf, x_gNil, isT_int, isT_bool, isT_str, isT_list, isT_tuple, isT_dict, x_al2S, x_pl2S, x_eqS, x_inS, List.getElem?_cons_zero, List.getElem?_cons_succ, List.set_cons_zero, List.set_cons_succ, List.length_cons, List.length_nil, Nat.reduceAdd, Nat.reduceSub, Nat.reduceLT, Nat.reduceLeDiff, Nat.lt_add_one, Nat.zero_add, List.map_cons, List.map_nil, List.append_nil, List.cons_append, List.nil_append, List.reduceReplicate, List.replicate_zero, List.replicate_succ, reduceIte, if_true, if_false, true_and, and_true, Bool.not_true, Bool.not_false, Bool.false_eq_true, Nat.zero_lt_succ, Nat.add_lt_add_iff_right, Int.reduceEq, decide_true, decide_false, Int.reduceNeg, Int.reduceSub, Int.reduceAdd, x_eqvNil, x_pl2Nil, y_plNil, Bool.not_eq_true', List.isEmpty_nil, List.isEmpty_cons])
      exact hK _ ⟨n12, _, _, _, _, _, _, _, _, _, _, _, _, rfl, by omega⟩
  · rintro s ⟨m, a2, a3, a4, a5, a6, a7, a8, a9, a10, a11, a12, a13, rfl, hm⟩
    (try simp only [y_seq, y_next, y_ret, y_kRet, y_set, y_kSet, y_if, y_kIf, y_drop, y_kDrop, y_break, y_cont, y_lit, y_var, y_kO, y_bin, y_kB1, y_kB2, y_un, y_kU, y_call, y_kC, y_kC2, y_are0, y_are1, y_kAre, y_tup, y_lst, y_tupN, y_lstN, y_nil, y_cons, y_kA1, y_kA2, y_fn, y_kF, y_kR, y_fnK, y_kFnK1, y_kFnK, y_val, y_kV, y_tru, y_kT, y_kTb, y_and, y_or, y_not, y_kAn, y_kOr, y_kNo, y_ifE, y_kIfE, y_andE, y_kAnE, y_orE, y_kOrE, y_notE, y_kNoE, y_isI, y_kIsI, y_chain, y_kCh, y_kCh1, y_kCh2, y_kCh3, y_comp, y_kCo, y_kL, y_comp0, y_seqI, y_kSI, y_kIt, y_rng, y_kRg, y_for, y_kFo, y_part, y_kPt, y_noPart, y_slice, y_kSl1, y_kSl2, y_kSl3, y_slL, y_slT, y_slS, y_revL, y_par, y_kPar, y_asg, y_kAsg, y_gName, y_gTup, y_gCons, y_kG1, y_yes, y_methS, y_kM1, y_kM2, y_newTab, y_newOwn, y_putTab, y_kP1, y_kP2, y_inTab, y_kIn, y_append, y_kAp, y_step, y_kSc, y_kSc1, y_kSc2, y_plNil, y_sl, y_ixL0, y_ixT0, y_ixL1, y_ixT1, y_ixLm, y_dictS, y_dictI, x_varD, x_varSat, x_varScr, x_varOwn, x_varTab, x_intD, x_cmp, x_addI, x_addS, x_addL, x_subI, x_mulI, x_divI, x_modI, x_powI, x_negI, x_intI, x_intB, x_absI, x_truB, x_truI, x_truL, x_truT, x_sat1, x_sat2, x_sat0n, x_sat0s, x_satIs, x_put1, x_put2, x_eqI, x_ltI, x_al2I, x_pl2I, x_lenL, x_lenT, x_lenS, x_ixS, x_tupleL, x_tupleT, x_listL, x_listT, x_strI, x_repr, x_sorted, x_itL, x_itT, x_itS, x_wipe0, x_wipe1, x_keyS, x_keyI, x_items, x_sortItems, x_scrCut, x_isD, x_bOf, x_gNil, isT_int, isT_bool, isT_str, isT_list, isT_tuple, isT_dict, x_al2S, x_pl2S, x_eqS, x_inS, List.getElem?_cons_zero, List.getElem?_cons_succ, List.set_cons_zero, List.set_cons_succ, List.length_cons, List.length_nil, Nat.reduceAdd, Nat.reduceSub, Nat.reduceLT, Nat.reduceLeDiff, Nat.lt_add_one, Nat.zero_add, List.map_cons, List.map_nil, List.append_nil, List.cons_append, List.nil_append, List.reduceReplicate, List.replicate_zero, List.replicate_succ, reduceIte, if_true, if_false, true_and, and_true, Bool.not_true, Bool.not_false, Bool.false_eq_true, Nat.zero_lt_succ, Nat.add_lt_add_iff_right, Int.reduceEq, decide_true, decide_false, Int.reduceNeg, Int.reduceSub, Int.reduceAdd, x_eqvNil, x_pl2Nil, y_plNil, Bool.not_eq_true', List.isEmpty_nil, List.isEmpty_cons, T2_law_1])

theorem w1_law (A : Fds K) (B : Gm K mg) : DSt ⟨P, w, K, mg, base, N_law, defScope s_law, 4, true⟩ (defBody s_law).head! T1_law := (ds_set (i := 1) sc_law.nd rfl (Or.inr rfl) (de_fn (k := lv_law_hamper) ⟨ok_law_hamper A B, len_law_hamper⟩ (show lv_law_hamper ≤ 4 by decide) B.g_law_hamper A.F_law_hamper.kp (bN_law_hamper A) (da_cons (de_var 0) da_nil)))
theorem w2_law (A : Fds K) (B : Gm K mg) : DSs ⟨P, w, K, mg, base, N_law, defScope s_law, 4, true⟩ (defBody s_law).tail T2_law := (dss_cons (ds_for (di_range1 de_int B.n_range) (dg_name (i := 2) sc_law.nd rfl (Or.inl rfl)) (dss_cons (ds_set (i := 3) sc_law.nd rfl (Or.inl rfl) (de_fn (k := lv_law_value) ⟨ok_law_value A B, len_law_value⟩ (show lv_law_value ≤ 4 by decide) B.g_law_value A.F_law_value.kp (bN_law_value A) (da_cons (de_var 1) da_nil)))
    (dss_cons (ds_par (i := 4) (j := 5) sc_law.nd rfl rfl (by decide) rfl rfl rfl (da_cons (de_bin (fun _ h => o_sub h) lo_sub (de_fn (k := lv_law_delve) ⟨ok_law_delve A B, len_law_delve⟩ (show lv_law_delve ≤ 4 by decide) B.g_law_delve A.F_law_delve.kp (bN_law_delve A) (da_cons (de_var 1) (da_cons de_int da_nil))) de_int) (da_cons (de_bin (fun _ h => o_sub h) lo_sub (de_fn (k := lv_law_delve) ⟨ok_law_delve A B, len_law_delve⟩ (show lv_law_delve ≤ 4 by decide) B.g_law_delve A.F_law_delve.kp (bN_law_delve A) (da_cons (de_var 1) (da_cons de_int da_nil))) de_int) da_nil)) (by intro X h; generalize X.env = en at h ⊢; cases en; dsimp only at h; subst h; rfl))
    (dss_cons (ds_set (i := 6) sc_law.nd rfl (Or.inl rfl) (de_fn (k := lv_law_one) ⟨ok_law_one A B, len_law_one⟩ (show lv_law_one ≤ 4 by decide) B.g_law_one A.F_law_one.kp (bN_law_one A) (da_cons (de_var 1) (da_cons (de_lst (da_cons (de_var 3) (da_cons (de_var 4) (da_cons (de_var 5) (da_cons (de_bin (fun _ h => o_sub h) lo_sub (de_var 4) de_int) (da_cons (de_bin (fun _ h => o_add h) lo_add (de_var 5) de_int) (da_cons de_int da_nil))))))) da_nil))))
    (dss_cons (ds_par (i := 7) (j := 8) sc_law.nd rfl rfl (by decide) rfl rfl rfl (da_cons (de_fn (k := lv_law_one) ⟨ok_law_one A B, len_law_one⟩ (show lv_law_one ≤ 4 by decide) B.g_law_one A.F_law_one.kp (bN_law_one A) (da_cons (de_var 1) (da_cons (de_lst (da_cons (de_var 4) (da_cons de_non da_nil))) da_nil))) (da_cons (de_fn (k := lv_law_one) ⟨ok_law_one A B, len_law_one⟩ (show lv_law_one ≤ 4 by decide) B.g_law_one A.F_law_one.kp (bN_law_one A) (da_cons (de_var 1) (da_cons (de_lst (da_cons (de_var 5) (da_cons de_non da_nil))) da_nil))) da_nil)) (by intro X h; generalize X.env = en at h ⊢; cases en; dsimp only at h; subst h; rfl))
    (dss_cons (ds_set (i := 9) sc_law.nd rfl (Or.inl rfl) (de_and (de_fn (k := lv_law_own_integer) ⟨ok_law_own_integer A B, len_law_own_integer⟩ (show lv_law_own_integer ≤ 4 by decide) B.g_law_own_integer A.F_law_own_integer.kp (bN_law_own_integer A) (da_cons (de_var 6) da_nil)) (de_and (de_or (de_cmp (fun _ h => o_is h) lo_cmp (de_var 7) de_non) (de_one (de_cmp (fun _ h => o_ge h) lo_cmp (de_var 6) (de_var 7)))) (de_one (de_or (de_cmp (fun _ h => o_is h) lo_cmp (de_var 8) de_non) (de_one (de_cmp (fun _ h => o_le h) lo_cmp (de_var 6) (de_var 8))))))))
    (dss_cons (ds_if (dw_or (dt_cmp (fun _ h => o_ne h) lo_cmp (de_callB (fun _ h => o_repr h) lo_repr B.n_repr (by decide +kernel) (da_cons (de_fnK0 [0] (k := lv_is_integer) ⟨ok_is_integer A B, len_is_integer⟩ (show lv_is_integer ≤ 4 by decide) B.g_is_integer A.F_is_integer.kp (kb_is_integer_2 A) (dk_cons (de_var 6) dk_nil)) da_nil)) (de_callB (fun _ h => o_repr h) lo_repr B.n_repr (by decide +kernel) (da_cons (de_fn (k := lv_law_own_integer) ⟨ok_law_own_integer A B, len_law_own_integer⟩ (show lv_law_own_integer ≤ 4 by decide) B.g_law_own_integer A.F_law_own_integer.kp (bN_law_own_integer A) (da_cons (de_var 6) da_nil)) da_nil))) (dw_or1 (dt_cmp (fun _ h => o_ne h) lo_cmp (de_callB (fun _ h => o_repr h) lo_repr B.n_repr (by decide +kernel) (da_cons (de_fnK0 [2, 1, 0] (k := lv_is_within) ⟨ok_is_within A B, len_is_within⟩ (show lv_is_within ≤ 4 by decide) B.g_is_within A.F_is_within.kp (kb_is_within_3 A) (dk_cons (de_var 8) (dk_cons (de_var 7) (dk_cons (de_var 6) dk_nil)))) da_nil)) (de_callB (fun _ h => o_repr h) lo_repr B.n_repr (by decide +kernel) (da_cons (de_var 9) da_nil))))).dt (dss_one (ds_ret de_bl)) dss_nil)
    (dss_cons (ds_setComp (i := 10) [("at", 11)] sc_law.nd rfl rfl rfl rfl (by decide +kernel) (di_range1 (de_fn (k := lv_law_delve) ⟨ok_law_delve A B, len_law_delve⟩ (show lv_law_delve ≤ 4 by decide) B.g_law_delve A.F_law_delve.kp (bN_law_delve A) (da_cons (de_var 1) (da_cons de_int da_nil))) B.n_range) (by show blkC N_law (defScope s_law) _ _ = true; decide +kernel) (dg_name (i := 11) sc_law.nd rfl (Or.inl rfl)) dts_nil (de_fn (k := lv_law_one) ⟨ok_law_one A B, len_law_one⟩ (show lv_law_one ≤ 4 by decide) B.g_law_one A.F_law_one.kp (bN_law_one A) (da_cons (de_var 1) (da_cons (de_lst (da_cons (de_fn (k := lv_law_delve) ⟨ok_law_delve A B, len_law_delve⟩ (show lv_law_delve ≤ 4 by decide) B.g_law_delve A.F_law_delve.kp (bN_law_delve A) (da_cons (de_var 1) (da_cons de_int da_nil))) (da_cons (de_bin (fun _ h => o_pow h) lo_pow de_int de_int) (da_cons (de_fn (k := lv_law_one) ⟨ok_law_one A B, len_law_one⟩ (show lv_law_one ≤ 4 by decide) B.g_law_one A.F_law_one.kp (bN_law_one A) (da_cons (de_var 1) (da_cons (de_lst (da_cons de_bl (da_cons de_non (da_cons de_str (da_cons (de_lst (da_cons de_int da_nil)) (da_cons (de_un (fun _ h => o_neg h) lo_neg de_int) da_nil)))))) da_nil))) da_nil)))) da_nil))))
    (dss_cons (ds_set (i := 12) sc_law.nd rfl (Or.inl rfl) (de_cmp (fun _ h => o_eq h) lo_cmp (de_comp [("each", 13)] sc_law.nd (di_seq (de_var 10)) (by show blkC N_law (defScope s_law) _ _ = true; decide +kernel) (dg_name (i := 13) sc_law.nd rfl (Or.inl rfl)) (dts_one (dt_not (dt_tru (de_fn (k := lv_law_own_integer) ⟨ok_law_own_integer A B, len_law_own_integer⟩ (show lv_law_own_integer ≤ 4 by decide) B.g_law_own_integer A.F_law_own_integer.kp (bN_law_own_integer A) (da_cons (de_var 13) da_nil))))) (de_var 13)) (de_lst da_nil)))
    (dss_cons (ds_if (dt_cmp (fun _ h => o_ne h) lo_cmp (de_callB (fun _ h => o_repr h) lo_repr B.n_repr (by decide +kernel) (da_cons (de_lst (da_cons (de_fnK0 [0] (k := lv_are_integers) ⟨ok_are_integers A B, len_are_integers⟩ (show lv_are_integers ≤ 4 by decide) B.g_are_integers A.F_are_integers.kp (kb_are_integers_4 A) (dk_cons (de_var 10) dk_nil)) (da_cons (de_fn (k := lv_are_integers) ⟨ok_are_integers A B, len_are_integers⟩ (show lv_are_integers ≤ 4 by decide) B.g_are_integers A.F_are_integers.kp (bN_are_integers A) (da_cons (de_callTy (fun _ h => o_tuple h) lo_tuple B.n_tuple (by decide +kernel) (da_cons (de_var 10) da_nil)) da_nil)) (da_cons (de_fn (k := lv_are_integers) ⟨ok_are_integers A B, len_are_integers⟩ (show lv_are_integers ≤ 4 by decide) B.g_are_integers A.F_are_integers.kp (bN_are_integers A) (da_cons (de_dict (dps_cons de_int de_int dps_nil)) da_nil)) (da_cons (de_fn (k := lv_are_integers) ⟨ok_are_integers A B, len_are_integers⟩ (show lv_are_integers ≤ 4 by decide) B.g_are_integers A.F_are_integers.kp (bN_are_integers A) (da_cons de_str da_nil)) da_nil))))) da_nil)) (de_callB (fun _ h => o_repr h) lo_repr B.n_repr (by decide +kernel) (da_cons (de_lst (da_cons (de_var 12) (da_cons (de_var 12) (da_cons de_bl (da_cons de_bl da_nil))))) da_nil))) (dss_one (ds_ret de_bl)) dss_nil)
    (dss_one (ds_if (dw_or (dt_not (dt_tru (de_fn (k := lv_law_names_right) ⟨ok_law_names_right A B, len_law_names_right⟩ (show lv_law_names_right ≤ 4 by decide) B.g_law_names_right A.F_law_names_right.kp (bN_law_names_right A) (da_cons (de_var 1) da_nil)))) (dw_or1 (dt_not (dt_tru (de_fn (k := lv_law_setting_right) ⟨ok_law_setting_right A B, len_law_setting_right⟩ (show lv_law_setting_right ≤ 4 by decide) B.g_law_setting_right A.F_law_setting_right.kp (bN_law_setting_right A) (da_cons (de_var 1) da_nil)))))).dt (dss_one (ds_ret de_bl)) dss_nil))))))))))))
    (dss_one (ds_ret de_bl)))
abbrev spLaw (K : PySem.W.Frag) : Sp := fun vs H Q _ => ∃ (a : Addr) (ns : List Int), vs = [.ref a] ∧ ns.length ≤ 63 ∧ SqL K H a (ns.map V.int) ∧ ∀ H', Q (.bl true) H'
theorem ok_law (A : Fds K) (B : Gm K mg) : FnG P w K mg base 5 (He.ga K "law") A.fd_law ["script"] (spLaw K) := by
  have z := law_body (m := 12) A.F_law sc_law rfl rfl (w1_law (P := P) (w := w) (base := base) A B) (w2_law (P := P) (w := w) (base := base) A B)
  refine ⟨fun vs H Q E ⟨a, ns, e, _⟩ => by rw [e]; rfl, fun Ar ol s H args us vs Q E hg hr e0 hb hv ⟨a, ns, e, hl, hS, hQ⟩ => z.run Ar ol s H args us vs Q E hg hr e0 hb hv ⟨a, ns, e, hS, hQ, m1_law ns hl, m2_law ns hl⟩⟩
theorem factsL {P : Program} {w : World} {K : PySem.W.Frag} {h : Heap} {mg : Str → Option Value} {f : Addr} (X : K.In h) (G : h.Ns mainGlobals mg) (hfa : mg ("law" : Str) = some (.ref f)) (c : He.SaysD faL fnL K) (x : exL K = true) :
    ∃ fd : FuncData, (∀ (s : Shared) (v : Value), BindsTo s fd ⟨[v], []⟩ [("script", v)]) ∧ ∀ base : Heap, K.In base → base.Ns mainGlobals mg → FnG P w K mg base 5 f fd ["script"] (spLaw K) := by
  obtain ⟨A⟩ := fdsL c
  have B := gmL X G c x
  have e := hfa.symm.trans B.g_law
  cases e
  have b := FunD.bindsA (ps := ["script"]) A.F_law fun _ _ _ _ _ _ us hl => match us, hl with | [_], _ => rfl
  exact ⟨A.fd_law, fun s v => b s [v] rfl, fun base _ _ => ok_law A B⟩
end Lk01
open PySem PySem.W PySem.Calls PyProof.Rows
theorem PySem.Challenge.cw_claimduel_k01_plain_values_and_settings_holds : PySem.Challenge.rw_claimduel_k01_plain_values_and_settings.Holds := by
  w_on; o_law
  refine HandSHeadRun.head_any (r := OpenLaw.row PySem.Challenge.rw_claimduel_k01_plain_values_and_settings) (q := view (OpenLaw.row PySem.Challenge.rw_claimduel_k01_plain_values_and_settings).prog [22]) (H := Lk01.hkL) (ob := Lk01.obL) (M := 600) (loose := Lk01.looseL) (d := HandSHeadRun.topDef (OpenLaw.row PySem.Challenge.rw_claimduel_k01_plain_values_and_settings).prog 22) (kwd := []) Lk01.obL_eq
    (by kernel_rfl) (fun s => by kernel_rfl) Lk01.runL (by kernel_rfl) (by kernel_rfl) (by kernel_rfl) (by rfl) (by first | assumption | decide +kernel) (by decide +kernel) ⟨rfl, rfl, rfl, rfl, rfl, by decide +kernel⟩ ?hw ?hc
  case hw => w_witness2
  case hc =>
    refine PD.walk_g (l := PySem.Challenge.rw_claimduel_k01_plain_values_and_settings) (n := 63) (k := 5) (x := "script") rfl (by decide) (by kernel_rfl) ⟨rfl, by decide, by decide⟩ ?F
    intro w mg fa h Y G hmg0
    obtain ⟨K, KX, c, x⟩ := Y
    have hmg : mg ("law" : PySem.Str) = some (.ref fa) := by
      have e : (HandSHeadRun.topDef (OpenLaw.row PySem.Challenge.rw_claimduel_k01_plain_values_and_settings).prog 22).name = ("law" : PySem.Str) := by kernel_rfl
      rw [← e]
      exact hmg0
    obtain ⟨fd, hb, hF⟩ := Lk01.factsL (P := (PySem.Challenge.rw_claimduel_k01_plain_values_and_settings).prog) (w := w) KX G hmg c x
    exact ⟨K, fd, Lk01.spLaw K, KX, hb, fun H a ns hl _ hS => ⟨a, ns, rfl, hl, hS, fun _ => rfl⟩, hF⟩
