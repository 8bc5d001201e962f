import PyProof.Rows.All
import Wide.All
import OpenK.AllK
import Wide.FinOn
import HandS.ForMost
import HandS.ForExc
import HandS.HotCalls
import HandS.ExcInit
import HandS.ExcIs
import HandS.ExcField
import HandS.ExcValue
import HandS.IsInst
import PyProof.ReprRoads
import HandS.OwnEq
import HandS.DictComp
import HandS.Dict
import HandS.Comp
import HandS.TupSets
import HandS.Conv
import KE.GoesEnum
import KE.GoesMore
import HandS.Iter
import HandS.Wide
import HandS.Codes
import HandS.Walk
import HandS.TupAny
import HandS.Flow
import HandS.SortOrd
import HandS.Defaults
import HandS.Style
import HandS.More
import HandS.RaiseMore
import KE.KExcIs
import HandS.Star
import HandS.Strs
import KE.KOpsOwn
import PyProof.ListMulRight
import PyProof.TwoTypes
import HandS.ExcOwn
import HandS.CallSlots
import KE.KDictCopyH
import KE.KDictOf
import OpenK.KMeth
import HandS.Zip
import HandS.SortKw
import KE.KCallOwn
import PyProof.Rows.StrBool
import HandS.List
import HandS.Hot
import PyProof.Rows.TupIter
import PyProof.P3Eq
import HandS.Ends
import PySem.Challenge.RW_contentties_k27_whole_webs_add_up
set_option Elab.async false
set_option linter.all false
set_option maxRecDepth 100000
set_option maxHeartbeats 8000000
/-! Contracts of defs where it is known that no repr is under way (guards), calm or within an except suite. -/
namespace Wk
open PySem PySem.Spec PyProof.Rows L2

/-- no repr and the like is under way -/
def Gd (A : Around) : Prop := A.guards = some []
theorem Gd.deeper {A : Around} (g : Gd A) (env : Env) : Gd (A.deeper env) := g
theorem Gd.mark {A : Around} (g : Gd A) (v : Option Value) : Gd (A.mark v) := g

/-- the body's context, calm or not, with pins -/
def cxG (CX : CXT) (P : Program) (w : World) (K : PySem.W.Frag) (mg : Str → Option Value) (base : Heap) (N : List Str) (qual : Str) (scope : Scope) (f : Addr) (cd : Value) (A : Around)
    (outer : List Env) (s : Shared) (H : Hp) (E : XK) (c : Bool) (pn : List (Addr × Obj)) : Cx :=
  { cxOf CX P w K mg base N qual scope f cd A outer s H E with calm := c, pn := pn }

section
variable {CX : CXT} {P : Program} {w : World} {K : PySem.W.Frag} {mg : Str → Option Value} {base : Heap}
/-- one run of a def's body, at one entry -/
theorem body_run {f : Addr} {name qual : Str} {params : Arguments} {body : List Stmt} {scope : Scope} {dV kV doc pm cdv ct oc : Value} {an od : Option Addr} {osl : Array (Option Value)} {N ps : List Str}
    {A : Around} {outer : List Env} {s : Shared} {H : Hp} {args : Args} {us : List Value} {vs : List V} {Q : VK} {E : XK} {c : Bool} {pn : List (Addr × Obj)} {t : TS}
    (lk : K.lookup f = some ⟨oc, od, .func (PySem.W.fnOf name qual params body scope dV kV doc pm an cdv ct), osl⟩) (hcd : PySem.W.codeIn K cdv qual = true) (S : FnScope N ps scope)
    (hdp : A.depth < recursionLimit) (e0 : Env0 P w K mg base A outer s H) (hb : BindsTo s (PySem.W.fnOf name qual params body scope dV kV doc pm an cdv ct) args (ps.zip us))
    (hI : ∀ s1, InCallC s s.heap.objs.size (bindL (envOfC qual scope s.heap.objs.size f cdv).kindOf (ps.zip us) fun _ => none) (cellsFrom (s.heap.objs.size + 1) scope.names [])
      (bindC (envOfC qual scope s.heap.objs.size f cdv).kindOf (ps.zip us) fun _ => none) s1 → Inv (cxG CX P w K mg base N qual scope f cdv A outer s H E c pn) [] (start N vs) H s1)
    (ht : PSs (cxG CX P w K mg base N qual scope f cdv A outer s H E c pn) body t) (hq : t { nx := fun _ H' => Q .non H', rt := Q } (start N vs) H) :
    codeAny (model P w) A (.call (.ref f) args) (CR CX outer P w H s Q E) s := by
  have hin := e0.mod.kin.keeps (fun b o z => (e0.bs b o z).1)
  have hlim := e0.mod.nolimit.keeps (fun b o z => (e0.bs b o z).1)
  have hk : ∀ y ∈ ps.zip us, scope.names.lookup y.1 = some .local ∨
      (scope.names.lookup y.1 = some .cell ∧ ((cellsFrom (s.heap.objs.size + 1) scope.names []).lookup y.1).isSome = true) := by
    rintro ⟨n, v⟩ hy
    have hn := S.par n (List.of_mem_zip hy).1
    exact hn.elim Or.inl (fun q => Or.inr ⟨q, PySem.W.cellsFrom_some _ _ _ (.inl q)⟩)
  refine codeAny_call_function hdp (hin _ _ lk) rfl S.co S.gen rfl (PySem.W.codeRec_of hin hcd) (hb _ _ _ _ ?_)
  refine wpAny_newFunctionEnv_cells S.kind hk (fun env he s1 x => ?_)
  cases he
  refine ⟨hlim.keeps x.toInCall.keep, codeAny_func ?_⟩
  refine wpAny_mono (ht.run [] s1 (start N vs) H _ (hI s1 x) hq) (fun fl s' hs => ?_) (fun e s' hs => hs)
  cases fl with
  | ret u => obtain ⟨v, _, H', J, rv, q⟩ := hs; exact ⟨v, H', J.os, J.bare, J.base, J.hok, rv, q⟩
  | next => obtain ⟨_, H', J, q⟩ := hs; exact ⟨V.non, H', J.os, J.bare, J.base, J.hok, rfl, q⟩
  | brk => obtain ⟨_, _, _, q⟩ := hs; exact q.elim
  | cont => obtain ⟨_, _, _, q⟩ := hs; exact q.elim

/-! ### calm, the guards known -/
structure FnC (P : Program) (w : World) (K : PySem.W.Frag) (mg : Str → Option Value) (base : Heap) (CX : CXT) (k : Nat) (f : Addr) (fd : FuncData) (ps : List Str) (sp : Sp) : Prop where
  len : ∀ vs H Q E, sp vs H Q E → vs.length = ps.length
  run : ∀ (A : Around) (outer : List Env) (s : Shared) (H : Hp) (args : Args) (us : List Value) (vs : List V) (Q : VK) (E : XK), Room k A → Gd A →
    Env0 P w K mg base A outer s H → BindsTo s fd args (ps.zip us) → Vals vs us → sp vs H Q E → codeAny (model P w) A (.call (.ref f) args) (CR CX outer P w H s Q E) s
theorem ofOk {k : Nat} {f : Addr} {fd : FuncData} {ps : List Str} {sp : Sp} (F : FnOk P w K mg base CX k f fd ps sp) : FnC P w K mg base CX k f fd ps sp :=
  ⟨F.len, fun A outer s H args us vs Q E hr _ => F.run A outer s H args us vs Q E hr⟩
theorem okC {x qual : Str} {st : Stmt} {f : Addr} {fd : FuncData} {N ps : List Str} {k : Nat} {sp : Sp} (F : Fun K x qual st f fd) (S : FnScope N ps (defScope st)) (len : ∀ vs H Q E, sp vs H Q E → vs.length = ps.length)
    (hbody : ∀ (cdv : Value) (A : Around) (outer : List Env) (s : Shared) (H : Hp) (vs : List V) (Q : VK) (E : XK), Room k (A.deeper (envOfC qual (defScope st) s.heap.objs.size f cdv)) → Gd A → sp vs H Q E →
      ∃ t, PSs (cxOf CX0 P w K mg base N qual (defScope st) f cdv A outer s H E).nox (defBody st) t ∧ t { nx := fun _ H' => Q .non H', rt := Q } (start N vs) H) :
    FnC P w K mg base CX0 (k + 1) f fd ps sp := by
  obtain ⟨oc, od, kV, doc, pm, an, cdv, ct, osl, rfl, lk, hcd⟩ := F.ex
  refine ⟨len, fun A outer s H args us vs Q E hr hg e0 hb r hsp => ?_⟩
  obtain ⟨t, h, q⟩ := hbody cdv A outer s H vs Q E (hr.deeper _) hg hsp
  exact body_run (c := true) (pn := []) lk hcd S hr.depth e0 hb (fun s1 x => inv_start S hr.hd e0 (len _ _ _ _ hsp) r x) h.nox q
end

section
variable {X : Cx} {k : Nat} {f : Addr} {fd : FuncData} {ps : List Str} {sp : Sp} {x : Str} {p pos : Pos} {e : Expr} {es : List Expr} {t : TA}
theorem run_C {pins : List (Addr × Obj)} {σ : L2.St} {H : Hp} {s : Shared} {Q : VK} {us : List Value} {vs : List V} (F : FnC X.prog X.w X.K X.mg X.base CX0 k f fd ps sp) (hr : Room k X.A) (hg : Gd X.A)
    (hb : Binds X.K fd ps []) (I : Inv X pins σ H s) (r : Vals vs us) (h : sp vs H Q E0) : wpAny (model X.prog X.w) X.A (call (.ref f) us) (EP X pins σ Q) X.xe s := by
  have hl : (us ++ []).length = ps.length := by rw [List.append_nil, ← r.length]; exact F.len _ _ _ _ h
  have b := hb s us I.kIn hl
  rw [List.append_nil] at b
  refine wpAny_call (codeAny_mono (F.run X.A X.stack s H ⟨us, []⟩ us vs Q E0 hr hg I.env0 b r h) (fun res s' hq => ?_))
  match res, hq with
  | .ok (.ret u), hq => exact I.after hq
theorem pe_callC (F : FnC X.prog X.w X.K X.mg X.base CX0 k f fd ps sp) (hr : Room k X.A) (hgd : Gd X.A) (hg : Gl X x) (hm : X.mg x = some (.ref f)) (hk : PySem.W.keepIn X.K (.ref f) = true) (hb : Binds X.K fd ps [])
    (ha : PA X (e :: es) t) (hdb : (x == ("__debug__" : Str)) = false := by decide) (he : starEach (e :: es) X.env = (false, eval e X.env) :: starEach es X.env := by rfl)
    (hpl : (backTo pos (starEach es X.env)).any (·.1) = false := by rfl) : PE X (.Call (.Name x p) (e :: es) [] pos) (tCall sp [] E0 t) := by
  refine ⟨fun pins s σ H Q I h => wpAny_Call_Name_kw (ld_glob I hg hm ?_ hdb)⟩
  refine PySem.W.callWith_K (h₀ := X.base) I.ok.mod.kin hk (thn (ha.run pos pins s σ H _ I h) (fun us s1 hq => ?_)) he hpl
  obtain ⟨vs, H1, I1, r, q⟩ := hq
  rw [List.append_nil] at q
  exact ⟨I1.kIn, run_C F hr hgd hb I1 r q⟩
theorem pe_callC0 (F : FnC X.prog X.w X.K X.mg X.base CX0 k f fd ps sp) (hr : Room k X.A) (hgd : Gd X.A) (hg : Gl X x) (hm : X.mg x = some (.ref f)) (hk : PySem.W.keepIn X.K (.ref f) = true) (hb : Binds X.K fd ps [])
    (hdb : (x == ("__debug__" : Str)) = false := by decide) : PE X (.Call (.Name x p) [] [] pos) (tCall sp [] E0 tNil) := by
  refine ⟨fun pins s σ H Q I h => wpAny_Call_Name_kw (ld_glob I hg hm ?_ hdb)⟩
  exact PySem.W.callWith_K0 I.kIn hk (run_C (us := []) F hr hgd hb I .nil h)
end

/-! ### within an except suite: the exception at a, of the class cls, with the dict d -/
/-- a promise that speaks of the handled exception -/
abbrev SpE := Addr → Value → Option Addr → Sp
structure FnE (P : Program) (w : World) (K : PySem.W.Frag) (mg : Str → Option Value) (base : Heap) (k : Nat) (f : Addr) (fd : FuncData) (ps : List Str) (sp : SpE) : Prop where
  len : ∀ a cls d vs H Q E, sp a cls d vs H Q E → vs.length = ps.length
  run : ∀ (A : Around) (outer : List Env) (s : Shared) (H : Hp) (args : Args) (us : List Value) (vs : List V) (Q : VK) (E : XK) (a : Addr) (oe : Obj) (cls : Value) (d : Option Addr),
    L2H.RoomH k A → Gd A → L2H.Hot1 A (a, oe) → Zc cls d oe → L2H.PinOk outer H s (a, oe) →
    Env0 P w K mg base A outer s H → BindsTo s fd args (ps.zip us) → Vals vs us → sp a cls d vs H Q E → codeAny (model P w) A (.call (.ref f) args) (CR CX0 outer P w H s Q E) s
section
variable {P : Program} {w : World} {K : PySem.W.Frag} {mg : Str → Option Value} {base : Heap}
theorem okE {x qual : Str} {st : Stmt} {f : Addr} {fd : FuncData} {N ps : List Str} {k : Nat} {sp : SpE} (F : Fun K x qual st f fd) (S : FnScope N ps (defScope st)) (len : ∀ a cls d vs H Q E, sp a cls d vs H Q E → vs.length = ps.length)
    (hbody : ∀ (cdv : Value) (A : Around) (outer : List Env) (s : Shared) (H : Hp) (vs : List V) (Q : VK) (E : XK) (a : Addr) (oe : Obj) (cls : Value) (d : Option Addr),
      L2H.RoomH k (A.deeper (envOfC qual (defScope st) s.heap.objs.size f cdv)) → Gd A → L2H.Hot1 A (a, oe) → Zc cls d oe → sp a cls d vs H Q E →
      ∃ t, PSs (L2H.cxH CX0 P w K mg base N qual (defScope st) f cdv A outer s H E (a, oe)).nox (defBody st) t ∧ t { nx := fun _ H' => Q .non H', rt := Q } (start N vs) H) :
    FnE P w K mg base (k + 1) f fd ps sp := by
  obtain ⟨oc, od, kV, doc, pm, an, cdv, ct, osl, rfl, lk, hcd⟩ := F.ex
  refine ⟨len, fun A outer s H args us vs Q E a oe cls d hr hg hot hz hpin e0 hb r hsp => ?_⟩
  obtain ⟨t, h, q⟩ := hbody cdv A outer s H vs Q E a oe cls d (hr.deeper _) hg hot hz hsp
  exact body_run (c := false) (pn := [(a, oe)]) lk hcd S hr.depth e0 hb (fun s1 x => L2H.inv_startH S hpin e0 (len _ _ _ _ _ _ _ hsp) r x) h.nox q
end
section
variable {X : Cx} {k : Nat} {f : Addr} {fd : FuncData} {ps : List Str} {sp : SpE} {x : Str} {p pos : Pos} {e : Expr} {es : List Expr} {t : TA} {a : Addr} {oe : Obj} {cls : Value} {d : Option Addr}
theorem pe_callE (F : FnE X.prog X.w X.K X.mg X.base k f fd ps sp) (hr : L2H.RoomH k X.A) (hgd : Gd X.A) (hot : L2H.Hot1 X.A (a, oe)) (hz : Zc cls d oe) (hp : (a, oe) ∈ X.pn)
    (hg : Gl X x) (hm : X.mg x = some (.ref f)) (hk : PySem.W.keepIn X.K (.ref f) = true) (hb : Binds X.K fd ps [])
    (ha : PA X (e :: es) t) (hdb : (x == ("__debug__" : Str)) = false := by decide) (he : starEach (e :: es) X.env = (false, eval e X.env) :: starEach es X.env := by rfl)
    (hpl : (backTo pos (starEach es X.env)).any (·.1) = false := by rfl) : PE X (.Call (.Name x p) (e :: es) [] pos) (tCall (sp a cls d) [] E0 t) := by
  refine ⟨fun pins s σ H Q I h => wpAny_Call_Name_kw (ld_glob I hg hm ?_ hdb)⟩
  refine PySem.W.callWith_K (h₀ := X.base) I.ok.mod.kin hk (thn (ha.run pos pins s σ H _ I h) (fun us s1 hq => ?_)) he hpl
  obtain ⟨vs, H1, I1, r, q⟩ := hq
  rw [List.append_nil] at q
  refine ⟨I1.kIn, ?_⟩
  have hl : (us ++ []).length = ps.length := by rw [List.append_nil, ← r.length]; exact F.len _ _ _ _ _ _ _ q
  have b := hb s1 us I1.kIn hl
  rw [List.append_nil] at b
  have P1 := I1.pin (a, oe) (List.mem_append_left _ hp)
  have hpin : L2H.PinOk X.stack H1 s1 (a, oe) := ⟨P1.1, P1.2.1, fun hmm => (List.mem_cons.mp (I1.stkSub a hmm)).elim P1.2.2.1 P1.2.2.2.1, P1.2.2.2.2⟩
  refine wpAny_call (codeAny_mono (F.run X.A X.stack s1 H1 ⟨us, []⟩ us vs Q E0 a oe cls d hr hgd hot hz hpin I1.env0 b r q) (fun res s' hq => ?_))
  match res, hq with
  | .ok (.ret u), hq => exact I1.after hq
end

/-! ### the pinned exception: isinstance, its fields -/
section
variable {X : Cx} {a D : Addr} {oe : Obj}
theorem inst_pin {pins : List (Addr × Obj)} {σ : L2.St} {H : Hp} {s : Shared} {d : Option Addr} (I : Inv X pins σ H s) (hp : (a, oe) ∈ X.pn) (hz : Zc (.ref D) d oe) : s.heap.get? a = some oe := (I.pin (a, oe) (List.mem_append_left _ hp)).1
end
end Wk
/-! in, [ ], == and != by a class's own methods. -/
namespace Wk
open PySem PySem.Spec PyProof.Rows L2
section
variable {X : Cx} {CX : CXT} {k : Nat} {C f : Addr} {fd : FuncData} {ps : List Str} {sp : Sp} {E : XK}
theorem dun_call {A : Around} {pins : List (Addr × Obj)} {σ : L2.St} {H : Hp} {s : Shared} {vs : List V} {us : List Value} {Q : VK} (F : FnOk X.prog X.w X.K X.mg X.base CX k f fd ps sp)
    (hA : A.frames = X.A.frames) (hr : Room k A) (hb : Binds X.K fd ps []) (hx : Passes CX X E) (I : Inv X pins σ H s) (rv : Vals vs us) (h : sp vs H Q E) :
    wpAny (model X.prog X.w) A (call (.ref f) us) (EP X pins σ Q) X.xe s := by
  have e0 : Env0 X.prog X.w X.K X.mg X.base A X.stack s H := by
    have e := I.env0
    exact ⟨by rw [hA]; exact e.frames, e.mod, e.bs, e.bsz, e.funs, e.frf, e.hok, e.bare⟩
  have hl := F.len _ _ _ _ h
  refine wpAny_call (codeAny_mono (F.run A X.stack s H ⟨us, []⟩ us vs _ E hr e0 (by
    have := hb s us I.kIn (by rw [List.append_nil, ← rv.length]; exact hl)
    simpa using this) rv h) fun r s' hq => ?_)
  cases r with
  | error e => exact hx pins σ H s e s' I hq
  | ok fl =>
    cases fl with
    | ret w =>
      obtain ⟨z, H', I', rz, q⟩ := I.after hq
      exact ⟨z, H', I', rz, q⟩
    | next => exact False.elim hq
    | brk => exact False.elim hq
    | cont => exact False.elim hq
/-- x in o -/
def rInO (C : Addr) (sp : Sp) (E : XK) : R2 := fun x y H Q => ∃ a dx fs, y = .ref a ∧ H a = some (.ins C dx fs) ∧ sp [.ref a, x] H (fun v H' => ∃ b, v = .bl b ∧ Q (.bl b) H') E
theorem op_inO (F : FnOk X.prog X.w X.K X.mg X.base CX k f fd ps sp) (hr : Room k X.A) (hb : Binds X.K fd ps []) (hx : Passes CX X E)
    (hs : PySem.W.findIn X.K (.ref C) "__contains__" = some (some (.ref f))) (hf : PySem.W.isFn X.K (.ref f) = true) : OpR X (compareOp .In) (rInO C sp E) := by
  intro pins s σ H x y v u Q I rx ry h
  obtain ⟨a, dx, fs, rfl, ha, h⟩ := h
  cases (show u = Value.ref a from ry)
  obtain ⟨mA, J, _⟩ := ins_get I.hok ha
  obtain ⟨od, J, _⟩ := J.look
  obtain ⟨m, hF⟩ := I.fr
  refine PySem.W.in_K hF I.ok.mod.kin J hs hf (wpAny_mono (dun_call F rfl hr hb hx I (.cons (show RelV (.ref a) (.ref a) from rfl) (.cons rx .nil)) h) (fun r s' z => ?_) fun _ _ e => e)
  obtain ⟨z, H', I', rz, b, ez, q⟩ := z
  subst ez
  cases rz
  exact wpAny_truthy_bool ⟨.bl b, H', I', rfl, q⟩
/-- o[i] -/
def rIxO (C : Addr) (sp : Sp) (E : XK) : R2 := fun x y H Q => ∃ a dx fs, x = .ref a ∧ H a = some (.ins C dx fs) ∧ sp [.ref a, y] H Q E
theorem pe_ixO {a b : Expr} {ta tb : TE} {pos : Pos} (F : FnOk X.prog X.w X.K X.mg X.base CX k f fd ps sp) (hr : Room (k + 1) X.A) (hb : Binds X.K fd ps []) (hx : Passes CX X E)
    (hs : PySem.W.findIn X.K (.ref C) "__getitem__" = some (some (.ref f))) (hfn : PySem.W.fnIn X.K f = true) (hf : PySem.W.isFn X.K (.ref f) = true) (ha : PE X a ta) (hb' : PE X b tb)
    (hsl : ∀ o i, subscripted b true o i = runValue (.builtin "lifetime.subscript" ⟨[o, i], []⟩)) : PE X (.Subscript a b pos) (tOp (rIxO C sp E) ta tb) := by
  refine ⟨fun pins s σ H Q I h => ?_⟩
  refine Subscript_ (binT ha hb' I h fun v u s2 x y H2 I2 rx ry q => ?_)
  obtain ⟨p, dx, fs, rfl, hp, q⟩ := q
  cases (show v = Value.ref p from rx)
  obtain ⟨mA, J, _⟩ := ins_get I2.hok hp
  obtain ⟨od, J, _⟩ := J.look
  obtain ⟨m, hF⟩ := I2.fr
  exact PySem.W.sub_K hF I2.ok.mod.kin J hs hfn hf (dun_call F rfl hr.in1 hb hx I2 (.cons (show RelV (.ref p) (.ref p) from rfl) (.cons ry .nil)) q) (hsl _ _)
/-- o == y -/
def rEqO (K : PySem.W.Frag) (C : Addr) (sp : Sp) (E : XK) : R2 := fun x y H Q => ∃ a dx fs t, x = .ref a ∧ H a = some (.ins C dx fs) ∧ TyX K H y t ∧ PySem.W.notFirst K C t = true ∧ sp [.ref a, y] H (fun v H' => ∃ b, v = .bl b ∧ Q (.bl b) H') E
theorem op_eqO (F : FnOk X.prog X.w X.K X.mg X.base CX k f fd ps sp) (hr : Room k X.A) (hb : Binds X.K fd ps []) (hx : Passes CX X E)
    (hs : PySem.W.findIn X.K (.ref C) "__eq__" = some (some (.ref f))) (hf : PySem.W.isFn X.K (.ref f) = true) : OpR X (compareOp .Eq) (rEqO X.K C sp E) := by
  intro pins s σ H x y v u Q I rx ry h
  obtain ⟨a, dx, fs, t, rfl, ha, ty, nf, h⟩ := h
  cases (show v = Value.ref a from rx)
  obtain ⟨mA, J, _⟩ := ins_get I.hok ha
  obtain ⟨od, J, _⟩ := J.look
  obtain ⟨m, hF⟩ := I.fr
  obtain ⟨P, Z, p, _⟩ := kit_of I ry ty
  refine PySem.W.cmp_K (op := .Eq) hr.units0 hF I.ok.mod.kin J (Z.ty _ _ I.kIn p) nf hs hf (wpAny_mono (dun_call F rfl hr hb hx I (.cons (show RelV (.ref a) (.ref a) from rfl) (.cons ry .nil)) h) (fun r s' z => ?_) fun _ _ e => e)
  obtain ⟨z, H', I', rz, b, ez, q⟩ := z
  subst ez
  cases rz
  exact ⟨.bl b, H', I', rfl, q⟩
/-- o != y, by == -/
theorem ne_own {prog : Program} {w : World} {A : Around} {E : Value → Shared → Prop} {s : Shared} {K : PySem.W.Frag} {x C f : Addr} {ox : Obj} {od : Option Obj} {b tb : Value} {Q : Value → Shared → Prop}
    (hu : A.units + 1 < cLine) (X : K.In s.heap) (I : PySem.W.InstAt s.heap x ox C od) (hb : PySem.W.Looks (model prog w) s.heap (typeOf b) tb) (hn : PySem.W.notFirst K C tb = true)
    (hne : PySem.W.findIn K (.ref C) "__ne__" = some (some (.builtin "object.__ne__"))) (hin : PySem.W.mroIn K C (.type "object") = some true) (hs : PySem.W.findIn K (.ref C) "__eq__" = some (some (.ref f))) (hf : PySem.W.isFn K (.ref f) = true)
    (h : wpAny (model prog w) A.in1 (call (.ref f) [.ref x, b]) (fun v s' => ∃ r, v = .bool r ∧ Q (.bool (!r)) s') E s) : wpAny (model prog w) A (richCompare .NotEq (.ref x) b) Q E s := by
  have S := F.cmp_object.ne
  have one : wpAny (model prog w) A (tryCompare (.ref x) "__ne__" b) (fun r s' => ∃ v, r = some v ∧ Q v s') E s := by
    unfold tryCompare
    have inner : wpAny (model prog w) A (call (.builtin "object.__ne__") [.ref x, b]) (fun v s' => ∃ r, v = .bool r ∧ Q (.bool r) s') E s := by
      refine wpAny_call (codeAny_call_builtin S.plain F.cmpEntry_ne (PySem.W.check_slot F.cmpKind_ne F.cmpSplit_ne ?_ (F.cmpArgs_ne _ _) ?_))
      · exact I.type.andThen (PySem.W.looks_mroIn X hin)
      · unfold Builtin.«object.__ne__»
        have hu' : A.in1.units < cLine := Nat.lt_of_le_of_lt (by first | exact Nat.le_refl _ | exact Nat.le_succ _) hu
        repeat (first
          | with_reducible refine wpAny_cRoomFor hu' ?_
          | (refine wpAny_bind (m := callSpecialIfBound? (.ref x) (Str.ofString "__eq__") [b])
              (PySem.W.ifBound_K X I hs hf (wpAny_mono h (fun r s' hr => by
                obtain ⟨b', rfl, hq⟩ := hr
                repeat (first | exact ⟨!b', rfl, hq⟩ | exact wpAny_pure ⟨!b', rfl, hq⟩ | (refine wpAny_bind (m := truthy (.bool _)) (wpAny_truthy_bool ?_)) | wp_step)) fun _ _ e => e)))
          | wp_step)
    refine wpAny_bind ?_
    simp only [callSpecialIfBound?, bindSpecialIfBound?]
    refine wpAny_holding (wpAny_bind (wpAny_bind (wpAny_bind (I.type.here ((PySem.W.looks_findIn X hne).here ?_)))))
    simp only [S.bind]
    refine wpAny_bind (wpAny_askSetting (wpAny_ite ?_))
    have fin : wpAny (model prog w) A (call (.builtin "object.__ne__") ([.ref x] ++ [b]) >>= fun v => pure (some v)) (fun a s₁ => wpAny (model prog w) A (match a with | some .notImplemented | none => pure none | some v => pure (some v)) (fun r s' => ∃ v, r = some v ∧ Q v s') E s₁) E s :=
      wpAny_bind (wpAny_mono inner (fun v s' h' => by obtain ⟨r, rfl, q⟩ := h'; exact wpAny_pure (wpAny_pure ⟨_, rfl, q⟩)) fun _ _ h' => h')
    split
    · exact wpAny_bind (wpAny_pure (wpAny_pure fin))
    · exact wpAny_tryCatch (wpAny_bind (wpAny_pure (wpAny_pure fin)))
  unfold richCompare
  simp only [oneThing_ref]
  refine wpAny_holding (wpAny_bind (wpAny_cRoomFor (Nat.lt_of_succ_lt hu) ?_))
  refine wpAny_bind (I.type.here (wpAny_bind (hb.here ?_)))
  split
  · rename_i q
    have e : PySem.W.subIn K tb (.ref C) = some false := by
      rcases Bool.or_eq_true_iff.mp hn with e | e
      · rw [beq_iff_eq.mp e] at q; simp at q
      · exact beq_iff_eq.mp e
    refine wpAny_bind ((PySem.W.looks_subIn X e).here ?_)
    simp only [Bool.false_eq_true, if_false]
    refine wpAny_bind (wpAny_mono one (fun r s' z => ?_) fun _ _ e => e)
    obtain ⟨v, rfl, hq⟩ := z
    exact wpAny_pure hq
  · refine wpAny_bind (wpAny_pure ?_)
    simp only [Bool.false_eq_true, if_false]
    refine wpAny_bind (wpAny_mono one (fun r s' z => ?_) fun _ _ e => e)
    obtain ⟨v, rfl, hq⟩ := z
    exact wpAny_pure hq
theorem op_neO (F : FnOk X.prog X.w X.K X.mg X.base CX k f fd ps sp) (hr : Room (k + 1) X.A) (hb : Binds X.K fd ps []) (hx : Passes CX X E)
    (hne : PySem.W.findIn X.K (.ref C) "__ne__" = some (some (.builtin "object.__ne__"))) (hin : PySem.W.mroIn X.K C (.type "object") = some true)
    (hs : PySem.W.findIn X.K (.ref C) "__eq__" = some (some (.ref f))) (hf : PySem.W.isFn X.K (.ref f) = true) : OpR X (compareOp .NotEq) (fun x y H Q => rEqO X.K C sp E x y H fun v H' => ∃ b, v = .bl b ∧ Q (.bl (!b)) H') := by
  intro pins s σ H x y v u Q I rx ry h
  obtain ⟨a, dx, fs, t, rfl, ha, ty, nf, h⟩ := h
  cases (show v = Value.ref a from rx)
  obtain ⟨mA, J, _⟩ := ins_get I.hok ha
  obtain ⟨od, J, _⟩ := J.look
  obtain ⟨m, hF⟩ := I.fr
  obtain ⟨P, Z, p, _⟩ := kit_of I ry ty
  refine ne_own (by have := hr.in1.units0; exact this) I.kIn J (Z.ty _ _ I.kIn p) nf hne hin hs hf (wpAny_mono (dun_call F rfl hr.in1 hb hx I (.cons (show RelV (.ref a) (.ref a) from rfl) (.cons ry .nil)) h) (fun r s' z => ?_) fun _ _ e => e)
  obtain ⟨z, H', I', rz, b, ez, b2, eb, q⟩ := z
  subst ez
  cases rz
  cases eb
  exact ⟨b, rfl, .bl (!b), H', I', rfl, q⟩
end
end Wk
/-! A dict comprehension with two clauses, its keys tuples. -/
namespace Wk
open PySem PySem.Spec PyProof.Rows L2
abbrev dcE (kx vx t0 i0 t1 i1 : Expr) (scope : Scope) (pos : Pos) : Expr := .DictComp kx vx [⟨t0, i0, [], 0⟩, ⟨t1, i1, [], 0⟩] scope pos
section
variable {prog : Program} {w : World} {A : Around} {R : Result → Shared → Prop} {s : Shared} {kx vx t0 i0 t1 i1 : Expr} {scope : Scope} {pos : Pos} {it : Value} {D : Addr} {env : Env}
theorem dcOut : compTurn (dcE kx vx t0 i0 t1 i1 scope pos) 0 it (.ref D) env = (do
      standAt i0.pos
      match ← pyNext it with
      | none => pure (.done .next)
      | some v =>
        letOwnedTupleGo t0 it v
        assign t0 env v
        let x ← eval i1 env
        standAt i1.pos
        let x ← foldedSetIterable i1 env x
        let _ ← runOwn (.compStart (dcE kx vx t0 i0 t1 i1 scope pos) 1 (← holding [x] (pyIter x)) (.ref D) env) env
        again (.compLoop (dcE kx vx t0 i0 t1 i1 scope pos) 0 it (.ref D) env)) := by rfl
theorem dcIn : compTurn (dcE kx vx t0 i0 t1 i1 scope pos) 1 it (.ref D) env = (do
      standAt i1.pos
      match ← pyNext it with
      | none => pure (.done .next)
      | some v =>
        letOwnedTupleGo t1 it v
        assign t1 env v
        (do
          let kv ← eval kx env
          let vv ← holding [kv] (eval vx env)
          standAt { kx.pos with endLine := vx.pos.endLine, endCol := vx.pos.endCol }
          holding [kv, vv] (dictSet D kv vv))
        again (.compLoop (dcE kx vx t0 i0 t1 i1 scope pos) 1 it (.ref D) env)) := by rfl
/-- what is wanted where an error leaves the block: here nothing -/
abbrev NoX (prog : Program) (w : World) (A : Around) (env : Env) (R : Result → Shared → Prop) : Value → Shared → Prop := notedBy (model prog w) A env fun e s' => R (.error e) s'
/-- the outer clause's loop -/
theorem dc_outer (hs : ∀ x, foldedSetIterable i1 env x = pure x) (I : Nat → Shared → Prop)
    (stop_go : ∀ n s, I n s → wpAny (model prog w) A (pyNext it) (fun r s₁ => match r with
      | none => R (.ok .next) s₁
      | some v => wpAny (model prog w) A (letOwnedTupleGo t0 it v) (fun _ s₂ => wpAny (model prog w) A (assign t0 env v) (fun _ s₃ =>
          wpAny (model prog w) A (eval i1 env) (fun x s₄ => wpAny (model prog w) A (pyIter x) (fun it1 s₅ =>
            codeAny (model prog w) A (.compStart (dcE kx vx t0 i0 t1 i1 scope pos) 1 it1 (.ref D) env) (fun r s' => match r with
              | .ok _ => ∃ m, m < n ∧ I m s'
              | .error _ => False) s₅) (NoX prog w A env R) s₄) (NoX prog w A env R) s₃) (NoX prog w A env R) s₂) (NoX prog w A env R) s₁) (NoX prog w A env R) s)
    (n : Nat) (h : I n s) : codeAny (model prog w) A (.compLoop (dcE kx vx t0 i0 t1 i1 scope pos) 0 it (.ref D) env) R s := by
  refine codeAny_loop rfl I (fun n s hI => ?_) n h
  show wpAny _ A ((compTurn (dcE kx vx t0 i0 t1 i1 scope pos) 0 it (.ref D) env).onRaise (fun x => do noteFrame x env; theTreesLotGoes x)) _ _ s
  refine wpAny_noted ?_
  rw [dcOut]
  refine wpAny_bind (wpAny_standAt (wpAny_bind (wpAny_mono (stop_go n s hI) (fun r s₁ h₁ => ?_) fun _ _ z => z)))
  cases r with
  | none => exact wpAny_pure h₁
  | some v =>
    refine wpAny_bind (wpAny_mono h₁ (fun _ s₂ h₂ => wpAny_bind (wpAny_mono h₂ (fun _ s₃ h₃ => wpAny_bind (wpAny_mono h₃ (fun x s₄ h₄ => ?_) fun _ _ z => z)) fun _ _ z => z)) fun _ _ z => z)
    refine wpAny_bind (wpAny_standAt (wpAny_bind (wpAny_of_eq (hs x) (wpAny_bind (wpAny_holding (wpAny_mono h₄ (fun it1 s₅ h₅ => ?_) fun _ _ z => z))))))
    refine wpAny_bind (wpAny_runOwn ?_)
    rw [Around.mark_none]
    refine codeAny_mono h₅ fun r s' hr => ?_
    cases r with
    | ok f => first
      | exact wpAny_pure ⟨rfl, hr⟩
      | exact wpAny_bind (wpAny_pure (wpAny_pure ⟨rfl, hr⟩))
    | error e => exact hr.elim
/-- the inner clause's loop -/
theorem dc_inner (I : Nat → Shared → Prop)
    (stop_go : ∀ n s, I n s → wpAny (model prog w) A (pyNext it) (fun r s₁ => match r with
      | none => R (.ok .next) s₁
      | some v => wpAny (model prog w) A (letOwnedTupleGo t1 it v) (fun _ s₂ => wpAny (model prog w) A (assign t1 env v) (fun _ s₃ =>
          wpAny (model prog w) A (eval kx env) (fun kv s₄ => wpAny (model prog w) A (eval vx env) (fun vv s₅ =>
            wpAny (model prog w) A (dictSet D kv vv) (fun _ s₆ => ∃ m, m < n ∧ I m s₆) (NoX prog w A env R) s₅) (NoX prog w A env R) s₄) (NoX prog w A env R) s₃) (NoX prog w A env R) s₂) (NoX prog w A env R) s₁) (NoX prog w A env R) s)
    (n : Nat) (h : I n s) : codeAny (model prog w) A (.compLoop (dcE kx vx t0 i0 t1 i1 scope pos) 1 it (.ref D) env) R s := by
  refine codeAny_loop rfl I (fun n s hI => ?_) n h
  show wpAny _ A ((compTurn (dcE kx vx t0 i0 t1 i1 scope pos) 1 it (.ref D) env).onRaise (fun x => do noteFrame x env; theTreesLotGoes x)) _ _ s
  refine wpAny_noted ?_
  rw [dcIn]
  refine wpAny_bind (wpAny_standAt (wpAny_bind (wpAny_mono (stop_go n s hI) (fun r s₁ h₁ => ?_) fun _ _ z => z)))
  cases r with
  | none => exact wpAny_pure h₁
  | some v =>
    refine wpAny_bind (wpAny_mono h₁ (fun _ s₂ h₂ => wpAny_bind (wpAny_mono h₂ (fun _ s₃ h₃ => ?_) fun _ _ z => z)) fun _ _ z => z)
    exact wpAny_bind (wpAny_bind (wpAny_mono h₃ (fun kv s₄ h₄ => wpAny_bind (wpAny_holding (wpAny_mono h₄ (fun vv s₅ h₅ => wpAny_bind (wpAny_standAt (wpAny_holding (wpAny_mono h₅ (fun _ s₆ h₆ => wpAny_pure ⟨rfl, h₆⟩) fun _ _ z => z)))) fun _ _ z => z))) fun _ _ z => z))
/-- the inner clause's start -/
theorem dc_start1 (h0 : codeAny (model prog w) A (.compLoop (dcE kx vx t0 i0 t1 i1 scope pos) 1 it (.ref D) env) R s)
    (h : wpAny (model prog w) A (pyIter it) (fun it' s' => codeAny (model prog w) A (.compLoop (dcE kx vx t0 i0 t1 i1 scope pos) 1 it' (.ref D) env) R s') (NoX prog w A env R) s) :
    codeAny (model prog w) A (.compStart (dcE kx vx t0 i0 t1 i1 scope pos) 1 it (.ref D) env) R s := by
  refine codeAny_of_tree ?_
  show wpAny _ _ ((compStart (dcE kx vx t0 i0 t1 i1 scope pos) 1 it (.ref D) env).onRaise (fun x => do noteFrame x env; standAt theWindowsPlace)) _ _ s
  refine wpAny_notedAt ?_
  unfold compStart
  show wpAny _ _ (ask >>= _) _ _ s
  refine wpAny_bind (wpAny_askSetting (wpAny_ite ?_))
  split
  · first
      | exact wpAny_pure ⟨rfl, h0⟩
      | exact wpAny_bind (wpAny_pure (wpAny_pure ⟨rfl, h0⟩))
  · refine wpAny_bind (wpAny_rule ?_)
    show wpAny _ _ (standAt i1.pos >>= _) _ _ s
    exact wpAny_bind (wpAny_standAt (wpAny_bind (wpAny_mono h (fun it' s' h' => wpAny_pure ⟨rfl, h'⟩) fun _ _ z => z)))
end
/-- d[(..)] = v of a dict with tuple keys, as a comprehension does it -/
theorem dt_put {X : Cx} {pins : List (Addr × Obj)} {σ : L2.St} {H : Hp} {s : Shared} {E : Value → Shared → Prop} {D b : Addr} {kvs : List (List Key × V)} {k : List Key} {v : V} {r : Value} {Q : Unit → Shared → Prop} (hu : X.A.units < cLine) (I : Inv X pins σ H s)
    (hD : H D = some (.dT kvs)) (hb : H b = some (.tup (k.map kV))) (hz : kvs.length < sizeLine) (rv : RelV v r) (h : ∀ s', Inv X pins σ (upd H D (.dT (putK kvs k v))) s' → Q () s') : wpAny (model X.prog X.w) X.A (dictSet D (.ref b) r) Q E s := by
  obtain ⟨z, hd, xs, rel, dd⟩ := dt_of I.hok hD
  have hl : (putK kvs k v).length ≤ sizeLine := Nat.le_trans (length_putK kvs k v) hz
  refine wpAny_dictSet_heap (hsz := by rw [← Paired.length rel]; exact z) (show (tupleKind (mixKind X.prog X.w)).room X.A from hu) (key_of I.hok hb) dd fun h' dd' hs => h _ ?_
  obtain ⟨q, es, ep, hq, h2, h3, h4, _, h5⟩ := dd'
  exact d_write I (by rw [hD]; exact True.intro) hs ⟨q, hq⟩ ⟨hl, hd, _, (rel.put k hb rv).keeps (fun c ys ec => (upd_ne (ne_of ec hD (fun z => nomatch z))).trans ec), q, es, ep, hq, h2, h3, h4, h5⟩
end Wk
/-! The rule of a dict comprehension with two clauses. -/
namespace Wk
open PySem PySem.Spec PyProof.Rows L2
section
variable {X : Cx}
/-- the inner clause's reading, from slots σ2: Nx is what the outer loop wants behind it -/
def tDcIn (wi1 : TI) (g1 : TG) (tk tv : TE) (vs1 : List Nat) (D : Addr) (Nx : Hp → Prop) (σ2 : L2.St) (H2 : Hp) : Prop := wi1 σ2 H2 fun J1 H4 => ∃ W1 : Nat → Nat → Hp → Prop, (∃ m, W1 0 m H4) ∧ ∀ j k H, W1 j k H →
  (J1.stop j H ∧ Nx H) ∨ (J1.go j H ∧ ∃ Nx1 : Hp → Prop, (∀ H', Nx1 H' → ∃ k', k' < k ∧ W1 (j + 1) k' H') ∧ ∀ x H', J1.yld j H x H' → g1 x (wipe σ2 vs1) H' fun σ3 H5 => wipe σ3 vs1 = wipe σ2 vs1 ∧
    tk σ3 H5 fun y H6 => tv σ3 H6 fun z H7 => ∃ (kvs : List (List Key × V)) (q : List Key) (b : Addr), y = .ref b ∧ H7 b = some (.tup (q.map kV)) ∧ H7 D = some (.dT kvs) ∧ kvs.length < sizeLine ∧ Nx1 (upd H7 D (.dT (putK kvs q z))))
def tDc2 (wi : TI) (g : TG) (wi1 : TI) (g1 : TG) (tk tv : TE) (vs vs1 : List Nat) : TE := fun σ H Q => wi σ H fun J H1 => ∀ D, H1 D = none → ∃ W : Nat → Nat → Hp → Prop, (∃ m, W 0 m (upd H1 D (.dT []))) ∧ ∀ i m H, W i m H →
  (J.stop i H ∧ Q (.ref D) H) ∨ (J.go i H ∧ ∃ Nx : Hp → Prop, (∀ H', Nx H' → ∃ m', m' < m ∧ W (i + 1) m' H') ∧ ∀ x H', J.yld i H x H' → g x (wipe σ vs) H' fun σ2 H2 => wipe σ2 vs = wipe σ vs ∧ tDcIn wi1 g1 tk tv vs1 D Nx σ2 H2)
theorem pe_dc2 {kx vx tg iter tg1 iter1 : Expr} {scope : Scope} {own : List (Str × Nat)} {vs1 : List Nat} {pos : Pos} {wi wi1 : TI} {g g1 : TG} {tk tv : TE} (hc : X.calm = true) (hu : X.A.units < cLine) (hN : X.N.Nodup) (hi : PI X tg iter wi) (ok : BlkOk X.N X.env.scope scope own) (hv : ∀ i ∈ vs1, i ∈ own.map (·.2))
    (hg : ∀ (s : Shared) (H : Hp) (C : Addr) (cl : List (Str × Addr)) (fp : List Addr), PG (X.blk s H scope (compEnvC scope cl C X.env) fp) tg g)
    (hi1 : ∀ (s : Shared) (H : Hp) (C : Addr) (cl : List (Str × Addr)) (fp : List Addr), PI (X.blk s H scope (compEnvC scope cl C X.env) fp) tg1 iter1 wi1)
    (hg1 : ∀ (s : Shared) (H : Hp) (C : Addr) (cl : List (Str × Addr)) (fp : List Addr), PG (X.blk s H scope (compEnvC scope cl C X.env) fp) tg1 g1)
    (hk : ∀ (s : Shared) (H : Hp) (C : Addr) (cl : List (Str × Addr)) (fp : List Addr), PE (X.blk s H scope (compEnvC scope cl C X.env) fp) kx tk)
    (he : ∀ (s : Shared) (H : Hp) (C : Addr) (cl : List (Str × Addr)) (fp : List Addr), PE (X.blk s H scope (compEnvC scope cl C X.env) fp) vx tv)
    (hs : ∀ x, foldedSetIterable iter X.env x = pure x := by intro _; rfl) (hs1 : ∀ env x, foldedSetIterable iter1 env x = pure x := by intro _ _; rfl) :
    PE X (dcE kx vx tg iter tg1 iter1 scope pos) (tDc2 wi g wi1 g1 tk tv (own.map (·.2)) vs1) := by
  refine ⟨fun pins s σ H Q I h => ?_⟩
  unfold dcE
  rw [arm_eval_DictComp]
  have hfree : ∀ y ∈ scope.names, y.2 = .free → ∃ c, X.env.cells.lookup y.1 = some c := fun y hy e => by
    rcases ok.free y hy e with z | z <;> exact I.ok.has _ (by first | exact .inl z | exact .inr z)
  refine wpAny_comprehension_free (use := none) rfl hs (closure_ok hfree) ok.kind (fun y hy e => by rw [ok.uniq y hy, e])
    (thn (hi.run pins s σ H _ I h) fun xv s1 hx => thn hx fun itv s2 h2 => ?_)
  obtain ⟨it, fp, tn, J, H2, e, I2, T, st2, f2, q⟩ := h2
  subst e
  refine wpAny_newObj_type (newEnv_comp ?_)
  -- the new dict at D
  generalize hD : s2.heap.objs.size = D
  have hDn : H2 D = none := I2.hok.fresh (Nat.le_of_eq hD)
  obtain ⟨W, ⟨m0, w0⟩, turn⟩ := q D hDn
  generalize hs3 : ({ s2 with heap := s2.heap.push { cls := .type "dict", data := .dict #[] } } : Shared) = s3
  have h3 : s3.heap = s2.heap.push { cls := .type "dict", data := .dict #[] } := by rw [← hs3]
  have I3 : Inv X pins σ (upd H2 D (.dT [])) s3 := by
    rw [← hs3]
    refine I2.laid (t' := s2.toks) (fun b o e => Heap.get?_push_of_some _ e) (Nat.le_of_eq hD) ?_
    rw [← hD]
    exact dt_empty s2.heap I2.big
  have f3 : ∀ b ∈ fp, FpOk X pins (upd H2 D (.dT [])) b ∧ b < s3.heap.objs.size := fun b hb => by
    obtain ⟨o, e, _⟩ := T.obj _ _ st2 b hb
    have hlt := Heap.lt_size e
    exact ⟨⟨(upd_ne (by rw [← hD]; exact Nat.ne_of_lt hlt)).trans (f2 b hb).1, (f2 b hb).2⟩, by rw [h3, Heap.size_push]; exact Nat.lt_succ_of_lt hlt⟩
  have st3 : tn 0 s3.heap := T.keep _ _ _ st2 fun b _ o e => by rw [h3]; exact Heap.get?_push_of_some _ e
  have I4 := block_start I3 ok hN f3
  have pg := hg s3 (upd H2 D (.dT [])) s3.heap.objs.size (cellsFrom (s3.heap.objs.size + 1) scope.names (cloFrom X.env.cells scope.names [])) fp
  have pi1 := hi1 s3 (upd H2 D (.dT [])) s3.heap.objs.size (cellsFrom (s3.heap.objs.size + 1) scope.names (cloFrom X.env.cells scope.names [])) fp
  have pg1 := hg1 s3 (upd H2 D (.dT [])) s3.heap.objs.size (cellsFrom (s3.heap.objs.size + 1) scope.names (cloFrom X.env.cells scope.names [])) fp
  have pk := hk s3 (upd H2 D (.dT [])) s3.heap.objs.size (cellsFrom (s3.heap.objs.size + 1) scope.names (cloFrom X.env.cells scope.names [])) fp
  have pe := he s3 (upd H2 D (.dT [])) s3.heap.objs.size (cellsFrom (s3.heap.objs.size + 1) scope.names (cloFrom X.env.cells scope.names [])) fp
  show codeAny _ _ (.compStart (dcE kx vx tg iter tg1 iter1 scope pos) 0 (.ref it) (.ref D) (compEnvC scope (cellsFrom (s3.heap.objs.size + 1) scope.names (cloFrom X.env.cells scope.names [])) s3.heap.objs.size X.env)) (compPost (model X.prog X.w) X.A X.xe none (EP X pins σ Q) (.ref D) s3.heap.objs.size) { s3 with heap := pushCells (s3.heap.push { cls := .type "dict", data := .dict #[] }) scope.names }
  have nfp : ∀ b ∈ fp, (upd H2 D (.dT [])) b = none := fun b hb => (f3 b hb).1.1
  generalize hce : compEnvC scope (cellsFrom (s3.heap.objs.size + 1) scope.names (cloFrom X.env.cells scope.names [])) s3.heap.objs.size X.env = ce at I4 pg pi1 pg1 pk pe ⊢
  have cL : ce.locals = s3.heap.objs.size := by rw [← hce]; rfl
  generalize hH3 : upd H2 D (.dT []) = H3 at I3 I4 pg pi1 pg1 pk pe w0 nfp f3
  generalize hs4 : ({ s3 with heap := pushCells (s3.heap.push { cls := .type "dict", data := .dict #[] }) scope.names } : Shared) = s4 at I4 ⊢
  have st4 : tn 0 s4.heap := T.keep _ _ _ st3 fun b _ o e => by rw [← hs4]; exact pushCells_keeps _ _ _ _ (Heap.get?_push_of_some _ e)
  have loop : codeAny (model X.prog X.w) X.A (.compLoop (dcE kx vx tg iter tg1 iter1 scope pos) 0 (.ref it) (.ref D) ce) (compPost (model X.prog X.w) X.A X.xe none (EP X pins σ Q) (.ref D) s3.heap.objs.size) s4 := by
    -- the outer iterator's objects stand still
    have still : ∀ {σ' : L2.St} {H' : Hp} {s' : Shared}, Inv (X.blk s3 H3 scope ce fp) [] σ' H' s' → (∀ b ∈ fp, H' b = none) → ∀ b ∈ fp, FpOk (X.blk s3 H3 scope ce fp) [] H' b := fun {σ' H' s'} I' hn b hb =>
      ⟨hn b hb, (I'.ok.exf b hb).1, I'.ok.exfs b hb, .inl hb, fun x c e => (I'.ok.exf b hb).2 x c e, fun p hp => absurd (show p ∈ ([] : List (Addr × Obj)) ++ [] from hp) (by simp)⟩
    refine dc_outer (hs1 ce) (fun n s' => ∃ i H', Inv (X.blk s3 H3 scope ce fp) [] (wipe σ (own.map (·.2))) H' s' ∧ tn i s'.heap ∧ (∀ b ∈ fp, H' b = none) ∧ W i n H') ?_ m0 ⟨0, H3, I4, st4, nfp, w0⟩
    rintro n s5 ⟨i, H5, I5, st5, n5, w5⟩
    rcases turn i n H5 w5 with ⟨stop, qq⟩ | ⟨go, Nx, hNx, step⟩
    · refine thnF (T.done (X.blk s3 H3 scope ce fp) rfl rfl rfl hc i [] s5 _ H5 (fun _ _ => False) I5 (still I5 n5) st5 stop) fun r s6 ⟨hr, I6⟩ => ?_
      subst hr
      have I7 : Inv X pins σ H5 s6 := I3.call' (ch := fp) I6.os I6.base I6.hok I6.bare fun b hb => ⟨(f3 b hb).1.2.2.2.1, (f3 b hb).1.2.1, (f3 b hb).1.2.2.2.2.1, (f3 b hb).1.2.2.2.2.2⟩
      have nC : H5 s3.heap.objs.size = none := cL ▸ (show H5 ce.locals = none from I6.free)
      obtain ⟨m, hn, _⟩ := I6.loc
      have hn : s6.heap.Ns s3.heap.objs.size m := cL ▸ (show s6.heap.Ns ce.locals m from hn)
      obtain ⟨z0, z1, z2, z3, z4, z5⟩ := I3.fpOk (Nat.le_refl _) nC
      exact ⟨m, hn, fun h'' sb => ⟨.ref D, H5, I7.turned (t' := s6.toks) (fun b o hb e => (sb.2 b hb).trans e) z0 z1 z3 z4 z5, rfl, qq⟩⟩
    · refine thnF (T.item (X.blk s3 H3 scope ce fp) rfl rfl rfl hc i [] s5 _ H5 (fun _ _ => False) I5 (still I5 n5) st5 go) fun r s6 ⟨u, hr, h6⟩ => ?_
      subst hr
      refine thnF h6 fun _ s7 ⟨x, H7, I7, r7, y7, st7, n7⟩ => ?_
      have I7' := I7.pinned (still I7 n7) (T.obj _ _ st7)
      refine thnF (pg.run _ s7 _ H7 x u _ I7' r7 (step x H7 y7)) fun _ s8 ⟨σ8, H8, I8, hw8, q8⟩ => ?_
      refine thnF (pi1.run _ s8 σ8 H8 _ I8 q8) fun xv s10 hx => thnF hx fun itv s11 h11 => ?_
      obtain ⟨it1, fp1, tn1, J1, H11, e1, I11, T1, st11, f11, W1, ⟨m1, w1⟩, turn1⟩ := h11
      subst e1
      have still1 : ∀ {H' : Hp}, (∀ b ∈ fp1, H' b = none) → ∀ b ∈ fp1, FpOk (X.blk s3 H3 scope ce fp) ([] ++ pinsAt fp s7.heap) H' b := fun hn b hb => ⟨hn b hb, (f11 b hb).2⟩
      -- what the block knew at its start it knows again
      have back : ∀ (j : Nat) v, (wipe σ (own.map (·.2)))[j]? = some (some v) → (wipe σ8 vs1)[j]? = some (some v) := fun j v e => by
        rw [← hw8] at e
        obtain ⟨e1, e2⟩ := wipe_some e
        rw [wipe_out fun z => e2 (hv j z)]
        exact e1
      have len8 : (wipe σ (own.map (·.2))).length = (wipe σ8 vs1).length := by rw [← hw8, wipe_length, wipe_length]
      have loop1 : codeAny (model X.prog X.w) X.A (.compLoop (dcE kx vx tg iter tg1 iter1 scope pos) 1 (.ref it1) (.ref D) ce)
          (fun r s' => match r with
            | .ok _ => ∃ m, m < n ∧ ∃ i H', Inv (X.blk s3 H3 scope ce fp) [] (wipe σ (own.map (·.2))) H' s' ∧ tn i s'.heap ∧ (∀ b ∈ fp, H' b = none) ∧ W i m H'
            | .error _ => False) s11 := by
        refine dc_inner (fun k s' => ∃ j H', Inv (X.blk s3 H3 scope ce fp) ([] ++ pinsAt fp s7.heap) (wipe σ8 vs1) H' s' ∧ tn1 j s'.heap ∧ (∀ b ∈ fp1, H' b = none) ∧ W1 j k H') ?_ m1
          ⟨0, H11, I11.weak (wipe_length _ _) (fun j v e => (wipe_some e).1), st11, fun b hb => (f11 b hb).1, w1⟩
        rintro k s12 ⟨j, H12, I12, st12, n12, w12⟩
        rcases turn1 j k H12 w12 with ⟨stop1, nx1⟩ | ⟨go1, Nx1, hNx1, step1⟩
        · refine thnF (T1.done (X.blk s3 H3 scope ce fp) rfl rfl rfl hc j _ s12 (wipe σ8 vs1) H12 (fun _ _ => False) I12 (still1 n12) st12 stop1) fun r s13 ⟨hr, I13⟩ => ?_
          subst hr
          obtain ⟨m', hm, w'⟩ := hNx H12 nx1
          have pin : ∀ b ∈ fp, ∀ o, s7.heap.get? b = some o → s13.heap.get? b = some o ∧ H12 b = none := fun b hb o e =>
            let z := I13.pin (b, o) (List.mem_append_right _ (List.mem_append_right _ (mem_pinsAt hb e)))
            ⟨z.1, z.2.1⟩
          refine ⟨m', hm, i + 1, H12, (I13.unpinned (pins := [])).weak len8 back, T.keep _ _ _ st7 fun b hb o e => (pin b hb o e).1, fun b hb => ?_, w'⟩
          obtain ⟨o, e, _⟩ := T.obj _ _ st7 b hb
          exact (pin b hb o e).2
        · refine thnF (T1.item (X.blk s3 H3 scope ce fp) rfl rfl rfl hc j _ s12 (wipe σ8 vs1) H12 (fun _ _ => False) I12 (still1 n12) st12 go1) fun r s13 ⟨u1, hr, h13⟩ => ?_
          subst hr
          refine thnF h13 fun _ s14 ⟨x1, H14, I14, r14, y14, st14, n14⟩ => ?_
          have I14' := I14.pinned (still1 n14) (T1.obj _ _ st14)
          refine thnF (pg1.run _ s14 (wipe σ8 vs1) H14 x1 u1 _ I14' r14 (step1 x1 H14 y14)) fun _ s15 ⟨σ15, H15, I15, hw15, q15⟩ => ?_
          refine thnF (pk.run _ s15 σ15 H15 _ I15 q15) fun z s16 ⟨yk, H16, I16, r16, q16⟩ => ?_
          refine thnF (pe.run _ s16 σ15 H16 _ I16 q16) fun z2 s17 ⟨yv, H17, I17, r17, kvs, qk, b, ek, hb, hDk, hz, nx⟩ => ?_
          subst ek
          cases (show z = Value.ref b from r16)
          refine dt_put (X := X.blk s3 H3 scope ce fp) hu I17 hDk hb hz r17 fun s18 I18 => ?_
          obtain ⟨m', hm, w'⟩ := hNx1 _ nx
          have pin : ∀ b ∈ fp1, ∀ o, s14.heap.get? b = some o → s18.heap.get? b = some o ∧ (upd H17 D (.dT (putK kvs qk yv))) b = none := fun b hb o e =>
            let z := I18.pin (b, o) (List.mem_append_right _ (List.mem_append_right _ (mem_pinsAt hb e)))
            ⟨z.1, z.2.1⟩
          refine ⟨m', hm, j + 1, _, I18.unpinned.weak (by rw [← hw15, wipe_length]) (fun j v e => by rw [← hw15] at e; exact (wipe_some e).1), T1.keep _ _ _ st14 fun b hb o e => (pin b hb o e).1, fun b hb => ?_, w'⟩
          obtain ⟨o, e, _⟩ := T1.obj _ _ st14 b hb
          exact (pin b hb o e).2
      exact dc_start1 loop1 (T1.self X.A 0 _ _ _ st11 loop1)
  exact codeAny_compStart_dict loop (T.self X.A 0 _ _ _ st4 loop)
end
end Wk
/-! sorted(d) of a dict whose keys are tuples of numbers. -/
namespace Wk
open PySem PySem.Spec PyProof.Rows L2
/-- an address and its numbers -/
def unref (h : Heap) : Value → Addr × List Int
  | .ref a => (a, TS.intsOf h (.ref a))
  | _ => (0, [])
/-- what sorted(d) asks and gives: ks the keys' numbers, ys the key objects with their numbers, ascending -/
def rSortD (d : Nat) (B : Int) : List V → Hp → VK → Prop := fun vs H Q => ∃ (a : Addr) (kvs : List (List Key × V)) (ks : List (List Int)), vs = [V.ref a] ∧ H a = some (.dT kvs) ∧ kvs.map (·.1) = ks.map (·.map Sum.inl) ∧ ks.length < 64 ∧
  (∀ n ∈ ks, n.length = d ∧ TS.Bd B n) ∧ ∀ (ys : List (Addr × List Int)) (p : Addr), (ys.map (·.2)).Perm ks → (ys.map (·.2)).Pairwise (fun n m => TS.code B n ≤ TS.code B m) → (∀ y ∈ ys, H y.1 = some (.tup (y.2.map V.int))) → H p = none →
    Q (.ref p) (upd H p (.lst (ys.map fun y => V.ref y.1)))
theorem kT_ints {H : Hp} : ∀ {kvs : List (List Key × V)} {xs : List (List Key × Addr × Value)} {ks : List (List Int)}, KT H kvs xs → kvs.map (·.1) = ks.map (·.map Sum.inl) →
    ∃ L : List (Addr × List Int), L.map (·.2) = ks ∧ (xs.map fun x => Value.ref x.2.1) = L.map (fun y => Value.ref y.1) ∧ ∀ y ∈ L, H y.1 = some (.tup (y.2.map V.int))
  | [], [], [], _, _ => ⟨[], rfl, rfl, fun y hy => (by cases hy)⟩
  | p :: ps, x :: xs, k :: ks, .cons h t, e => by
    obtain ⟨e1, e2⟩ := List.cons.inj e
    obtain ⟨L, l1, l2, l3⟩ := kT_ints t e2
    refine ⟨(x.2.1, k) :: L, by rw [List.map_cons, l1], by rw [List.map_cons, List.map_cons, l2], fun y hy => ?_⟩
    rcases List.mem_cons.mp hy with rfl | hy
    · have e1' : p.1 = k.map Sum.inl := e1
      have q := h.2.1
      rw [e1', List.map_map] at q
      exact q
    · exact l3 y hy
  | [], [], _ :: _, _, e => by cases e
  | _ :: _, _ :: _, [], _, e => by cases e
theorem refs_V (l : List (Addr × List Int)) : (l.map fun y => V.ref y.1) = (l.map (·.1)).map V.ref := by rw [List.map_map]; rfl
theorem refs_U (l : List (Addr × List Int)) : (l.map fun y => Value.ref y.1) = (l.map (·.1)).map Value.ref := by rw [List.map_map]; rfl
theorem call_sortedTD {X : Cx} {d : Nat} {B : Int} (hd1 : 1 ≤ d) (hc : X.calm = true) : CallR X (.builtin "sorted") (rSortD d B) := by
  intro pins s σ H xs us Q I r q
  obtain ⟨a, kvs, ks, rfl, ha, hks, h64, hB, q⟩ := q
  obtain ⟨u, rfl, rx⟩ := r.one
  cases rx
  obtain ⟨z, hs, xt, pr, o, es, ep, ho, hx, hdt, he, hn⟩ := (show ObjOk X.prog X.w H s.heap a (.dT kvs) from I.hok a _ ha)
  have l1 : es.size = xt.length := size_of_entries he
  have l2 : kvs.length = xt.length := Paired.length pr
  obtain ⟨L, L1, L2', L3⟩ := kT_ints pr hks
  have lL : L.length = ks.length := by rw [← L1, List.length_map]
  have lx : xt.length = L.length := by have := congrArg List.length L2'; rwa [List.length_map, List.length_map] at this
  refine Calls.call_function_entry PyProof.Rows.kind_sorted PyProof.Rows.plain_sorted PyProof.Rows.entry_sorted (PyProof.Rows.args_sorted1 _) ?_
  unfold Builtin.«sorted»
  refine wpAny_bind (m := checkCount "sorted" 1 1 _) (wpAny_pure ?_)
  refine wpAny_bind (PySem.W.kdu_collect (A := X.A.in1) (kdl_raw hs hx hdt) (I.ok.hd hc) ho (by rw [sizeLine_eq]; omega) fun h' tk acc hk it => ?_)
  have ea : acc.toList = L.map fun y => Value.ref y.1 := by
    rw [← L2']
    have hl : acc.toList.length = xt.length := by rw [Array.length_toList, it.1]; exact l1
    refine List.ext_getElem? fun j => ?_
    rw [List.getElem?_map]
    cases hj : acc.toList[j]? with
    | none =>
      have h1 := List.getElem?_eq_none_iff.mp hj
      rw [List.getElem?_eq_none (by omega)]
      rfl
    | some v =>
      obtain ⟨en, hen, hv⟩ := it.2 j v (by rw [← Array.getElem?_toList]; exact hj)
      rw [entry_at he j] at hen
      obtain ⟨b, hb, e2⟩ := Option.map_eq_some_iff.mp hen
      rw [hb, hv, ← e2]
      rfl
  have I1 : Inv X pins σ H { s with heap := h', toks := tk } := I.kept hk
  have hal : acc.toList.length = ks.length := by rw [ea, List.length_map, lL]
  have tup : ∀ y ∈ L, TS.TupInts h' (.ref y.1) y.2 := fun y hy => tupI_raw I1 (.inl (.inl (L3 y hy)))
  refine wpAny_bind (wpAny_newList ?_ (by rw [hal, sizeLine_eq]; omega))
  have hoL : (h'.push (seqObj "list" acc.toList.toArray 0)).get? h'.objs.size = some (seqObj "list" acc.toList.toArray 0) := Heap.get?_push_size _ rfl
  show wpAny _ _ _ _ _ { s with heap := h'.push (seqObj "list" acc.toList.toArray 0), toks := tk }
  have keep : ∀ b o, h'.get? b = some o → o.cls = .type "tuple" → (h'.push (seqObj "list" acc.toList.toArray 0)).get? b = some o := fun b o e _ => Heap.get?_push_of_some _ e
  have ok : TS.TupsOk h' d B acc.toList := fun v hv => by
    rw [ea] at hv
    obtain ⟨y, hy, rfl⟩ := List.mem_map.mp hv
    have hm : y.2 ∈ ks := by rw [← L1]; exact List.mem_map.mpr ⟨y, hy, rfl⟩
    exact ⟨y.2, tup y hy, hB _ hm⟩
  refine wpAny_bind (wpAny_holding (wpAny_call_entry PyProof.Rows.slot_list_sort ⟨_, hoL, rfl⟩ PyProof.Rows.entry_list_sort
    (TS.sort_tups (s := { s with heap := h'.push (seqObj "list" acc.toList.toArray 0), toks := tk }) hoL (by rw [hal]; exact h64) hd1 (ok.keeps keep) (fun v => TS.code B (TS.intsOf h' v)) (fun v hv ns t => ?_) fun out g1 g2 => ⟨_, rfl, ?_⟩) (PyProof.Rows.args_list_sort _)))
  · obtain ⟨ns0, t0, _⟩ := ok v hv
    have e : ns = ns0 := t.ints.symm.trans (t0.keeps keep).ints
    rw [e]
    show TS.code B (TS.intsOf h' v) = TS.code B ns0
    rw [t0.ints]
  · obtain ⟨e', he'⟩ := PyProof.Rows.sortedHeap_at (vs := acc.toList) (out := out) hoL
    -- the key objects with their numbers
    have un : ∀ y ∈ L, unref h' (Value.ref y.1) = y := fun y hy => by
      show (y.1, TS.intsOf h' (Value.ref y.1)) = y
      rw [(tup y hy).ints]
    have back : ∀ us : List Value, (∀ v ∈ us, ∃ y ∈ L, v = Value.ref y.1) → us = (us.map (unref h')).map (fun y => Value.ref y.1) := fun us hu => by
      rw [List.map_map]
      have : us.map (fun v => v) = us.map ((fun y => Value.ref y.1) ∘ unref h') := List.map_congr_left fun v hv => by
        obtain ⟨y, hy, rfl⟩ := hu v hv
        show Value.ref y.1 = Value.ref (unref h' (Value.ref y.1)).1
        rw [un y hy]
      rwa [List.map_id'] at this
    have hm : ∀ v ∈ out.toList, ∃ y ∈ L, v = Value.ref y.1 := fun v hv => by
      have := g1.mem_iff.mp hv
      rw [ea] at this
      obtain ⟨y, hy, rfl⟩ := List.mem_map.mp this
      exact ⟨y, hy, rfl⟩
    have hL : (acc.toList.map (unref h')) = L := by
      rw [ea, List.map_map]
      have : L.map (unref h' ∘ fun y => Value.ref y.1) = L.map (fun y => y) := List.map_congr_left fun y hy => un y hy
      rw [this, List.map_id']
    have hp : (out.toList.map (unref h')).Perm L := by
      have := g1.map (unref h')
      rwa [hL] at this
    have hlen : (((out.toList.map (unref h')).map fun y => V.ref y.1)).length ≤ sizeLine := by
      rw [List.length_map, hp.length_eq, lL, sizeLine_eq]
      omega
    have hv : Vals ((out.toList.map (unref h')).map fun y => V.ref y.1) out.toList := by
      rw [refs_V]
      conv => rhs; rw [back _ hm]
      rw [refs_U]
      exact vals_refs _
    refine wpAny_pure ⟨_, rfl, .ref h'.objs.size, upd H h'.objs.size (.lst ((out.toList.map (unref h')).map fun y => V.ref y.1)), I1.laid (t' := tk) (fun b u e => ?_) (Nat.le_refl _)
      (show ObjOk X.prog X.w _ _ _ (.lst ((out.toList.map (unref h')).map fun y => V.ref y.1)) from ⟨hlen, out.toList, e', hv, by rw [Array.toArray_toList]; exact he'⟩), rfl, q _ _ ?_ ?_ ?_ (I1.hok.fresh (Nat.le_refl _))⟩
    · have hb : b < h'.objs.size := Heap.lt_size e
      rw [PyProof.Rows.sortedHeap_old (Nat.ne_of_lt hb) (by rw [size_push']; exact Nat.lt_succ_of_lt hb)]
      exact Heap.get?_push_of_some _ e
    · rw [← L1]
      exact hp.map _
    · rw [List.map_map, List.pairwise_map]
      refine g2.imp_of_mem fun {u v} hu hv h => ?_
      obtain ⟨y, hy, rfl⟩ := hm u hu
      obtain ⟨y', hy', rfl⟩ := hm v hv
      exact h
    · intro y hy
      exact L3 y (hp.mem_iff.mp hy)
end Wk
/-! enumerate of a list or of a tuple. -/
namespace Wk
open PySem PySem.Spec PyProof.Rows L2
open AutoSeq1 (wpAny_loadPart')
theorem newEnumT (l : Addr) (items : Array Value) (n : Nat) (dct : Option Addr) (sl : Array (Option Value)) :
    Meets (Builtin.«enumerate.__new__» ⟨[.type "enumerate", .ref l], []⟩) (fun _ R s => s.heap.get? l = some { cls := .type "tuple", dict := dct, data := .seq items n, slots := sl } ∧
      R (.ok (.ret (.ref (s.heap.push { cls := .type "tuple_iterator", data := .fields #[.ref l, .int 0 0] }).objs.size)))
        { s with heap := (s.heap.push { cls := .type "tuple_iterator", data := .fields #[.ref l, .int 0 0] }).push { cls := .type "enumerate", data := .fields #[.none, .bool false, .ref s.heap.objs.size, rawInt 0, .none, .none] } }) :=
  .of_wp fun prog w A R s h => by
    obtain ⟨hp, g, d, tk, os⟩ := s
    obtain ⟨hl, h⟩ := h
    have hsub := sub_enumerate
    have hL : Heap.IsTuple (Shared.heap ⟨hp, g, d, tk, os⟩) l items := ⟨_, hl, rfl, n, rfl⟩
    wp_walk using wpAny_loadPart' hl
    refine wpAny_stack_any fun st => wpAny_pure ?_
    split
    · rename_i c _ _ _ _ _
      cases (c == Value.type "enumerate") <;> (wp_walk using wpAny_loadPart' hl, wpAny_pyIter_tuple hL; exact ⟨_, rfl, h⟩)
    · wp_walk using wpAny_loadPart' hl, wpAny_pyIter_tuple hL
      exact ⟨_, rfl, h⟩
section
variable {prog : Program} {w : World} {A : Around} {E : Value → Shared → Prop} {s : Shared}
theorem callEnumT {l : Addr} {items : Array Value} {Q : Value → Shared → Prop} (hL : s.heap.IsTuple l items)
    (h : ∀ h', IsEnum h' (s.heap.objs.size + 1) s.heap.objs.size 0 .none → h'.IsTupleIter s.heap.objs.size l 0 → (∀ b o, s.heap.get? b = some o → h'.get? b = some o) → Q (.ref (s.heap.objs.size + 1)) { s with heap := h' }) :
    wpAny (model prog w) A (call (.type "enumerate") [.ref l]) Q E s := by
  obtain ⟨⟨c, dct, dt, sl⟩, hl, hc, n, hd⟩ := hL
  cases (show c = .type "tuple" from hc)
  cases (show dt = .seq items n from hd)
  refine callType_new F.called_enumerate (by decide) (F.typeCall_enumerate_1 _) (F.newCall_enumerate_1 _) (fun obj => F.args_object_init_2 obj _) F.entry_enumerate_new (newEnumT l items n dct sl) ⟨hl, ?_⟩
  have hz : (s.heap.push { cls := .type "tuple_iterator", data := .fields #[.ref l, .int 0 0] }).objs.size = s.heap.objs.size + 1 := Heap.size_push ..
  show _ ∧ _
  rw [hz]
  have he : IsEnum ((s.heap.push { cls := .type "tuple_iterator", data := .fields #[.ref l, .int 0 0] }).push { cls := .type "enumerate", data := .fields #[.none, .bool false, .ref s.heap.objs.size, rawInt 0, .none, .none] }) (s.heap.objs.size + 1) s.heap.objs.size 0 .none := by
    have q := Heap.get?_push_size (s.heap.push { cls := .type "tuple_iterator", data := .fields #[.ref l, .int 0 0] }) (o := { cls := .type "enumerate", data := .fields #[.none, .bool false, .ref s.heap.objs.size, rawInt 0, .none, .none] }) rfl
    rwa [hz] at q
  exact ⟨⟨_, he, rfl⟩, h _ he ⟨_, Heap.get?_push_of_some _ (Heap.get?_push_size _ rfl), rfl, rfl⟩ fun b o x => Heap.get?_push_of_some _ (Heap.get?_push_of_some _ x)⟩
end
/-- the tuple at a, each item in a new pair -/
def IteT (K : PySem.W.Frag) (a : Addr) : It :=
  ⟨fun i H => ∃ (xs : List V) (x : V), SqT K H a xs ∧ xs[i]? = some x, fun i H v H' => ∃ T x, v = .ref T ∧ H T = none ∧ H' = upd H T (.tup [.int (i : Nat), x]) ∧ ∀ xs, SqT K H a xs → xs[i]? = some x, fun i H => ∃ xs : List V, SqT K H a xs ∧ xs.length = i⟩
theorem turnEnumT {P : Program} {w : World} {K : PySem.W.Frag} {elts : List Expr} {kk : Nat} {tpos : Pos} (a e it : Addr) :
    Turn P w K (.Tuple elts kk tpos) (IteT K a) [e, it] e (fun i h => (∃ old, IsEnum h e it ((i : Nat) : Int) old) ∧ h.IsTupleIter it a i ∧ e ≠ it) where
  mem := by simp
  obj := fun i h st b hb => by
    obtain ⟨⟨old, he⟩, ⟨o, ho, hc, hd⟩, _⟩ := st
    rcases (show b = e ∨ b = it by simpa using hb) with z | z
    · rw [z]; exact ⟨_, he, fun v q => nomatch q⟩
    · rw [z]; exact ⟨o, ho, fun v q => by rw [hd] at q; cases q⟩
  keep := fun i h h' st k => let ⟨⟨old, he⟩, hi, hne⟩ := st; ⟨⟨old, k e (by simp) _ he⟩, hi.at fun o q => k it (by simp) o q, hne⟩
  item := by
    intro X hP hw hK hc i pins s σ H E I hf st hg
    subst hP hw hK
    obtain ⟨⟨old, he⟩, hit, hne⟩ := st
    obtain ⟨xs, x, hq, hx⟩ := hg
    obtain ⟨its, rv, p, hz⟩ := I.tuple hq
    obtain ⟨u, hu, ru⟩ := rv.get hx
    have hel : e < s.heap.objs.size := Heap.lt_size he
    have hil : it < s.heap.objs.size := by obtain ⟨_, q, _⟩ := hit; exact Heap.lt_size q
    have hta : a ≠ it := fun z => by
      obtain ⟨o, h1, h2, _⟩ := p
      obtain ⟨o', h1', h2', _⟩ := hit
      rw [z, h1'] at h1
      cases h1
      rw [h2'] at h2
      exact absurd h2 (by decide)
    have hte : e ≠ a := fun z => by
      obtain ⟨o, h1, h2, _⟩ := p
      rw [← z, he] at h1
      cases h1
      exact absurd (show Value.type "enumerate" = .type "tuple" from h2) (by decide)
    have hi : i < its.toArray.size := by simpa using (List.getElem?_eq_some_iff.mp hu).1
    refine wpAny_pyNext_enum_itemD (PySem.Draws.tuple (prog := X.prog) (w := X.w) (A := X.A.in1) (I.ok.hd hc) it a hta its.toArray) he ⟨hit, p⟩ hi hne (by simp [hne, hte]) fun u' h' tk hu' ho hst hT hsz hk => ?_
    have eu : u' = u := by
      have : its.toArray[i]? = some u' := hu'
      rw [List.getElem?_toArray, hu] at this
      exact (Option.some.inj this).symm
    subst eu
    refine ⟨_, rfl, wpAny_letOwnedTupleGo_enum (s := { s with heap := h', toks := tk + 1 }) ho fun h'' he' sb => ?_⟩
    have hT2 : h''.get? s.heap.objs.size = some { cls := .type "tuple", data := .seq #[.int i tk, u'] } := (sb.2 _ (Nat.ne_of_gt hel)).trans hT
    have new : ObjOk X.prog X.w (upd H s.heap.objs.size (.tup [.int (i : Nat), x])) h'' s.heap.objs.size (.tup [.int (i : Nat), x]) :=
      ⟨by show 2 ≤ sizeLine; decide, [.int i tk, u'], .cons ⟨_, rfl⟩ (.cons ru .nil), ⟨_, hT2, rfl, _, rfl⟩⟩
    have I1 : Inv X pins σ (upd H s.heap.objs.size (.tup [.int (i : Nat), x])) { s with heap := h'', toks := tk + 1 } :=
      I.turnedNew (ch := [e, it]) (fun b ob hb q => (sb.2 b (fun z => hb (by simp [z]))).trans (hk b ob (fun z => hb (by simp [z])) (fun z => hb (by simp [z])) q)) hf (Nat.le_refl _) new
    refine ⟨.ref s.heap.objs.size, _, I1, rfl, ⟨_, x, rfl, I.hok.fresh (Nat.le_refl _), rfl, fun ys hy => by rw [I.tuple_inj hy hq]; exact hx⟩, ⟨⟨u', ?_⟩, hst.1.at fun o q => (sb.2 it (Ne.symm hne)).trans q, hne⟩, fun b hb => ?_⟩
    · rw [show ((i + 1 : Nat) : Int) = (i : Int) + 1 by omega]
      exact he'
    · have hb' : b < s.heap.objs.size := by
        rcases (show b = e ∨ b = it by simpa using hb) with z | z
        · rw [z]; exact hel
        · rw [z]; exact hil
      rw [upd_ne (Nat.ne_of_lt hb')]
      exact (hf b hb).1
  done := by
    intro X hP hw hK hc i pins s σ H E I hf st hg
    subst hP hw hK
    obtain ⟨⟨old, he⟩, hit, hne⟩ := st
    obtain ⟨xs, hq, hx⟩ := hg
    obtain ⟨its, rv, p, hz⟩ := I.tuple hq
    obtain ⟨f0, f1, f2, f3, f4, f5⟩ := hf it (by simp)
    have hta : a ≠ it := fun z => by
      obtain ⟨o, h1, h2, _⟩ := p
      obtain ⟨o', h1', h2', _⟩ := hit
      rw [z, h1'] at h1
      cases h1
      rw [h2'] at h2
      exact absurd h2 (by decide)
    have hl : i = its.toArray.size := by rw [List.size_toArray, ← rv.length]; exact hx.symm
    exact wpAny_pyNext_enum_endD (PySem.Draws.tuple (prog := X.prog) (w := X.w) (A := X.A.in1) (I.ok.hd hc) it a hta its.toArray) he ⟨hl ▸ hit, p⟩ fun h' eb => ⟨rfl, I.turned (t' := s.toks) (fun b o hb q => eb b o hb q) f0 f1 f3 f4 f5⟩
  self := fun A i s Q E st h => let ⟨⟨_, he⟩, _⟩ := st; wpAny_pyIter_enum he h
/-- enumerate(x), x a list or a tuple -/
def iEnumS (K : PySem.W.Frag) (ta : TA) : TI := fun σ H R => ta σ H fun vs H1 => ∃ a xs, vs = [.ref a] ∧ ((SqL K H1 a xs ∧ R (Ite K a) H1) ∨ (SqT K H1 a xs ∧ R (IteT K a) H1))
theorem pi_enumS {X : Cx} {e : Expr} {ta : TA} {p pos tpos : Pos} {elts : List Expr} {kk : Nat} (hg : Gl X "enumerate") (hm : X.mg "enumerate" = none) (ha : PA X [e] ta) (hs : starEach [e] X.env = [(false, eval e X.env)] := by rfl) :
    PI X (.Tuple elts kk tpos) (.Call (.Name "enumerate" p) [e] [] pos) (iEnumS X.K ta) := by
  refine ⟨fun pins s σ H R I h => ?_⟩
  refine Call_ (ld_blt I hg hm boot_enumerate (PyProof.Rows.callWith_type1 (thn (ha.run pos pins s σ H _ I h) fun us s1 ⟨vs, H1, I1, r1, q1⟩ => ?_) hs rfl))
  obtain ⟨a, xs, rfl, q⟩ := q1
  obtain ⟨u, rfl, ru⟩ := r1.one
  cases (show u = Value.ref a from ru)
  have fp : ∀ b ∈ [s1.heap.objs.size + 1, s1.heap.objs.size], FpOk X pins H1 b := fun b hb => by
    have hle : s1.heap.objs.size ≤ b := by
      rcases (show b = s1.heap.objs.size + 1 ∨ b = s1.heap.objs.size by simpa using hb) with z | z <;> omega
    exact I1.fpOk hle (I1.hok.fresh hle)
  rcases q with ⟨hq, q⟩ | ⟨hq, q⟩
  · obtain ⟨its, rv, p', hz⟩ := I1.list hq
    refine call_enumerate_list p'.isList fun h' he hit hsz hk => wpAny_pyIter_enum he ?_
    exact ⟨s1.heap.objs.size + 1, [s1.heap.objs.size + 1, s1.heap.objs.size], _, _, H1, rfl, I1.kept (t' := s1.toks) hk, turn_enum a (s1.heap.objs.size + 1) s1.heap.objs.size, ⟨⟨.none, he⟩, hit, Nat.succ_ne_self _⟩, fp, q⟩
  · obtain ⟨its, rv, p', hz⟩ := I1.tuple hq
    refine callEnumT p' fun h' he hit hk => wpAny_pyIter_enum he ?_
    exact ⟨s1.heap.objs.size + 1, [s1.heap.objs.size + 1, s1.heap.objs.size], _, _, H1, rfl, I1.kept (t' := s1.toks) hk, turnEnumT a (s1.heap.objs.size + 1) s1.heap.objs.size, ⟨⟨.none, he⟩, hit, Nat.succ_ne_self _⟩, fp, q⟩
end Wk
/-! The bag of draws: made of the script, drawn from. -/
namespace T27
open PySem PySem.Spec PyProof.Rows L2 Wk
def top (i : Nat) : Stmt := PySem.Challenge.pw_contentties_k27_whole_webs_add_up.main.body.getD i (.Pass ⟨0, 0, 0, 0⟩)
abbrev sBag : Stmt := top 29
abbrev sTake : Stmt := top 30
/-! ### the data -/
/-- a bag stands at b: three numbers and the script's sizes; at most n of them were taken -/
structure BagAt (H : Hp) (b l : Addr) (n : Nat) : Prop where
  ex : ∃ (x0 x1 x2 : Int) (cs : List Int), H b = some (.lst [.int x0, .int x1, .int x2, .ref l]) ∧ H l = some (.lst (cs.map V.int)) ∧ (∀ c ∈ cs, 0 ≤ c) ∧ 0 ≤ x0 ∧ 0 ≤ x1 ∧ x1 < 2147483647 ∧ 0 ≤ x2 ∧ x2 ≤ n ∧ cs.length ≤ 63
theorem BagAt.mono {H : Hp} {b l : Addr} {n m : Nat} (B : BagAt H b l n) (h : n ≤ m) : BagAt H b l m := by
  obtain ⟨x0, x1, x2, cs, h1, h2, h3, h4, h5, h6, h7, h8, h9⟩ := B.ex
  exact ⟨x0, x1, x2, cs, h1, h2, h3, h4, h5, h6, h7, by omega, h9⟩
theorem BagAt.same {H H' : Hp} {b l : Addr} {n : Nat} (B : BagAt H b l n) (h : Same H H') : BagAt H' b l n := by
  obtain ⟨x0, x1, x2, cs, h1, h2, h3⟩ := B.ex
  exact ⟨x0, x1, x2, cs, h _ _ h1, h _ _ h2, h3⟩
/-- all that was tracked stands, but at b -/
def But (b : Addr) (H H' : Hp) : Prop := ∀ c o, c ≠ b → H c = some o → H' c = some o
theorem But.refl (b : Addr) (H : Hp) : But b H H := fun _ _ _ h => h
theorem But.trans {b : Addr} {H H1 H2 : Hp} (x : But b H H1) (y : But b H1 H2) : But b H H2 := fun c o hc h => y c o hc (x c o hc h)
theorem But.of {b : Addr} {H H' : Hp} (x : Same H H') : But b H H' := fun c o _ h => x c o h
theorem But.upd (b : Addr) (H : Hp) (o : HO) : But b H (upd H b o) := fun c u hc h => by rw [upd_ne hc]; exact h
theorem same_upd {H : Hp} {p : Addr} {o : HO} (h : H p = none) : Same H (upd H p o) := fun b x e => by
  rw [upd_ne (ne_of_none e h)]
  exact e
/-! ### promises -/
def spBag (K : PySem.W.Frag) : Sp := fun vs H Q _ => ∃ (a : Addr) (ns : List Int), vs = [.ref a] ∧ SqL K H a (ns.map V.int) ∧ ns.length ≤ 63 ∧ ∀ (H' : Hp) (b l : Addr), Same H H' → H b = none → BagAt H' b l 0 → Q (.ref b) H'
def spTake : Sp := fun vs H Q _ => ∃ (b l : Addr) (m : Int) (n : Nat), vs = [.ref b, .int m] ∧ 0 < m ∧ m < 2 ^ 62 ∧ BagAt H b l n ∧ n ≤ 1000000 ∧
  ∀ (r : Int) (H' : Hp), 0 ≤ r → r < m → BagAt H' b l (n + 1) → But b H H' → Q (.int r) H'
theorem scB : FnScope ["_law_script", "_law_cell"] ["_law_script"] (defScope sBag) := ⟨rfl, rfl, rfl, by decide +kernel, rfl, by decide +kernel, by decide +kernel⟩
theorem cut63 (xs : List V) : cutV xs none (some 63) = xs.take 63 := by
  unfold cutV
  rw [HT.sIx_none, show HT.sIx xs.length xs.length (some 63) = min 63 xs.length from HT.sIx_nat xs.length xs.length 63]
  rw [List.drop_zero, Nat.sub_zero]
  by_cases h : xs.length ≤ 63
  · rw [Nat.min_eq_right h, List.take_of_length_le (Nat.le_refl _), List.take_of_length_le h]
  · rw [Nat.min_eq_left (by omega)]
section
variable {P : Program} {w : World} {K : PySem.W.Frag} {mg : Str → Option Value} {base : Heap}
theorem ok_bag {f : Addr} {fd : FuncData} {k : Nat} (F : Fun K "_law_bag" "_law_bag" sBag f fd) (ma : mg "abs" = none) : FnOk P w K mg base CX0 (k + 1) f fd ["_law_script"] (spBag K) := by
  refine F.ok scB (fun vs H Q E h => ?_) (fun cdv A outer s H vs Q E hr h => ?_)
  · obtain ⟨a, ns, rfl, _⟩ := h
    rfl
  · obtain ⟨a, ns, rfl, hS, hlen, q⟩ := h
    refine ⟨_, pss_one (ps_ret (pe_lst (pa_cons pe_int (pa_cons pe_int (pa_cons pe_int (pa_cons
      (pe_lc (own := [("_law_cell", 1)]) (g := gName 1) (tt := tYes) rfl scB.nd (pi_list (pe_slice sl_list (pv 0) po_none (po_some pe_int))) (blkOk_by (N := ["_law_script", "_law_cell"]) (sc := defScope sBag) (by decide +kernel))
        (fun _ _ _ _ _ => pg_name (i := 1) scB.nd rfl (Or.inl rfl)) (fun _ _ _ _ _ => pts_nil) (fun _ _ _ _ _ => pe_callB call_abs (by rfl) ma (by decide +kernel) (pa_cons (pv 1) pa_nil))) pa_nil)))))), ?_⟩
    refine ⟨.ref a, rfl, 63, rfl, a, ns.map V.int, rfl, hS, fun c nc => ?_⟩
    refine ⟨c, rfl, ⟨_, .inl (.inl upd_same)⟩, fun D nD => ?_⟩
    rw [cut63, ← List.map_take]
    rw [cut63, ← List.map_take] at nD
    generalize hcs : ns.take 63 = cs at nD ⊢
    have hl : cs.length ≤ 63 := by rw [← hcs, List.length_take]; omega
    have ncD : c ≠ D := ne_of_none upd_same nD
    have s1 : Same H (upd H c (.lst (cs.map V.int))) := same_upd nc
    have nD0 : H D = none := s1.free nD
    refine lc_list (K := K) (a := c) (xs := cs.map V.int) (fun i H2 => Same H H2 ∧ H2 c = some (.lst (cs.map V.int)) ∧ H2 D = some (.lst (((cs.take i).map fun z => if z < 0 then -z else z).map V.int))) ?_ (fun i H2 _ h2 => .inl (.inl h2.2.1)) ?_ ?_
    · exact ⟨fun b o z => by rw [upd_ne (ne_of_none z nD0)]; exact s1 b o z, by rw [upd_ne ncD]; exact upd_same, by rw [upd_same]; rfl⟩
    · rintro i x H2 hx ⟨g1, g2, g3⟩
      obtain ⟨z, hz, rfl⟩ : ∃ z, cs[i]? = some z ∧ x = V.int z := by
        rw [List.getElem?_map] at hx
        cases e : cs[i]? with
        | none => rw [e] at hx; cases hx
        | some z => rw [e] at hx; exact ⟨z, rfl, (Option.some.inj hx).symm⟩
      have hi : i < cs.length := (List.getElem?_eq_some_iff.mp hz).1
      refine ⟨rfl, .int z, rfl, z, rfl, _, g3, ?_, ?_, ?_, ?_⟩
      · rw [List.length_map, List.length_map, List.length_take]
        exact Nat.lt_of_le_of_lt (Nat.min_le_left _ _) (small1000 (by omega))
      · intro b o e
        rw [upd_ne (ne_of_none e nD0)]
        exact g1 b o e
      · rw [upd_ne ncD]; exact g2
      · rw [upd_same, List.take_add_one, hz, List.map_append, List.map_append]
        rfl
    · rintro H2 ⟨g1, g2, g3⟩
      rw [List.length_map, List.take_length] at g3
      refine ⟨(by show 4 ≤ sizeLine; decide), fun b nb => ?_⟩
      refine q _ b D (fun x o e => by rw [upd_ne (ne_of_none (g1 x o e) nb)]; exact g1 x o e) (g1.free nb) ⟨0, 1234567891, 0, _, upd_same, by rw [upd_ne (ne_of_none g3 nb)]; exact g3, ?_, by decide, by decide, by decide, by decide, by decide, by rw [List.length_map]; exact hl⟩
      intro y hy
      obtain ⟨z, _, rfl⟩ := List.mem_map.mp hy
      split <;> omega
end
end T27
namespace T27
open PySem PySem.Spec PyProof.Rows L2 Wk
/-- o[i] of a list, i from 0 on -/
def rGetN : V → V → Hp → VK → Prop := fun o i H Q => ∃ (p : Addr) (xs : List V) (j : Nat) (v : V), o = .ref p ∧ i = .int (j : Int) ∧ H p = some (.lst xs) ∧ xs[j]? = some v ∧ Q v H
theorem get_list {X : Cx} : PGet X rGetN := by
  intro pins s σ H o i ov iv Q I ro ri h
  obtain ⟨p, xs, j, v, rfl, rfl, hp, hv, q⟩ := h
  cases (show ov = Value.ref p from ro)
  obtain ⟨t, rfl⟩ := (show ∃ t, iv = Value.int (j : Int) t from ri)
  obtain ⟨its, r, pl, hz⟩ := I.list (.inl (.inl hp))
  obtain ⟨u, hu, ru⟩ := r.get hv
  have hj : j < xs.length := (List.getElem?_eq_some_iff.mp hv).1
  rw [sizeLine_eq] at hz
  exact wpAny_getItem_list pl.isList (by omega) (by omega) (by simpa using hu) ⟨v, H, I, ru, q⟩
theorem scT : FnScope ["_law_bag_here", "_law_many", "_law_cell", "_law_mixed_here", "_law_drawn", "_law_early", "_law_second"] ["_law_bag_here", "_law_many"] (defScope sTake) := ⟨rfl, rfl, rfl, by decide +kernel, rfl, by decide +kernel, by decide +kernel⟩
/-- the bag's parts, as they stand -/
structure Parts (H : Hp) (b l : Addr) (x0 x1 x2 : Int) (cs : List Int) : Prop where
  hb : H b = some (.lst [.int x0, .int x1, .int x2, .ref l])
  hl : H l = some (.lst (cs.map V.int))
  c0 : ∀ c ∈ cs, 0 ≤ c
  cl : cs.length ≤ 63
theorem Parts.ne {H : Hp} {b l : Addr} {x0 x1 x2 : Int} {cs : List Int} (p : Parts H b l x0 x1 x2 cs) : l ≠ b := fun e => by
  have h1 := p.hb
  have h2 := p.hl
  rw [e, h1] at h2
  have h3 := HO.lst.inj (Option.some.inj h2)
  match cs, h3 with
  | [a, c, d, f], h3 => simp at h3
theorem Parts.put {H : Hp} {b l : Addr} {x0 x1 x2 : Int} {cs : List Int} (p : Parts H b l x0 x1 x2 cs) (y0 y1 y2 : Int) : Parts (upd H b (.lst [.int y0, .int y1, .int y2, .ref l])) b l y0 y1 y2 cs :=
  ⟨upd_same, by rw [upd_ne p.ne]; exact p.hl, p.c0, p.cl⟩
section
variable {P : Program} {w : World} {K : PySem.W.Frag} {mg : Str → Option Value} {base : Heap}
theorem ok_take {f : Addr} {fd : FuncData} {k : Nat} (F : Fun K "_law_take" "_law_take" sTake f fd) (ml : mg "len" = none) (mi : mg "int" = none) : FnOk P w K mg base CX0 (k + 1) f fd ["_law_bag_here", "_law_many"] spTake := by
  refine F.ok scT (fun vs H Q E h => ?_) (fun cdv A outer s H vs Q E hr h => ?_)
  · obtain ⟨b, l, m, n, rfl, _⟩ := h
    rfl
  · obtain ⟨b, l, m, n, rfl, m0, m1, B, hn, q⟩ := h
    refine ⟨_, C8.pss_cut (ps_if (pt_cmpR op_eq (pe_ix ix_list (pv 0) pe_int (fun _ _ => rfl)) pe_int (nomark _))
        (pss_cons (ps_set (i := 2) scT.nd rfl (Or.inl rfl) pe_int)
        (C8.pss_cut (ps_if (pt_cmpR op_lt (pe_ix ix_list (pv 0) pe_int (fun _ _ => rfl)) (pe_callB call_len_seq (by rfl) ml PySem.boot_len (pa_cons (pe_ix ix_list (pv 0) pe_int (fun _ _ => rfl)) pa_nil)) (nomark _))
          (pss_one (ps_set (i := 2) scT.nd rfl (Or.inl rfl) (pe_ix ix_list (pe_ix ix_list (pv 0) pe_int (fun _ _ => rfl)) (pe_ix ix_list (pv 0) pe_int (fun _ _ => rfl)) (fun _ _ => rfl)))) pss_nil)
        (pss_cons (ps_augS (pv 0) pe_int get_list pe_int ip_add set_list)
        (C8.pss_cut (ps_if (pt_cmpR op_ge (pv 2) pe_int (nomark _)) (pss_one (ps_asg (pv 2) (pg_sub (pv 0) pe_int set_list))) pss_nil)
        (pss_cons (ps_set (i := 3) scT.nd rfl (Or.inl rfl) (pe_op op_add (pe_op op_add (pe_op op_mul (pe_ix ix_list (pv 0) pe_int (fun _ _ => rfl)) pe_int)
            (pe_op op_mod (pe_callTy call_int1 (by rfl) mi (by decide +kernel) (pa_cons (pv 2) pa_nil)) pe_int)) (pe_op op_mul pe_int (pe_ix ix_list (pv 0) pe_int (fun _ _ => rfl)))))
        (pss_one (ps_asg (pe_op op_mod (pe_callTy call_int1 (by rfl) mi (by decide +kernel) (pa_cons (pv 3) pa_nil)) pe_int) (pg_sub (pv 0) pe_int set_list)))))))) pss_nil)
      (pss_cons (ps_if (pt_cmpR op_gt (pe_ix ix_list (pv 0) pe_int (fun _ _ => rfl)) pe_int (nomark _))
        (pss_cons (ps_set (i := 4) scT.nd rfl (Or.inl rfl) (pe_op op_mod (pe_callTy call_int1 (by rfl) mi (by decide +kernel) (pa_cons (pe_ix ix_list (pv 0) pe_int (fun _ _ => rfl)) pa_nil)) (pv 1)))
        (pss_cons (ps_asg (pe_op op_fdivW (pe_callTy call_int1 (by rfl) mi (by decide +kernel) (pa_cons (pe_ix ix_list (pv 0) pe_int (fun _ _ => rfl)) pa_nil)) (pv 1)) (pg_sub (pv 0) pe_int set_list))
        (pss_one (ps_ret (pv 4))))) pss_nil)
      (pss_cons (ps_set (i := 5) scT.nd rfl (Or.inl rfl) (pe_op op_mod (pe_callTy call_int1 (by rfl) mi (by decide +kernel) (pa_cons (pe_op op_mul (pe_op op_add (pe_ix ix_list (pv 0) pe_int (fun _ _ => rfl)) pe_int) pe_int) pa_nil)) pe_int))
      (pss_cons (ps_set (i := 6) scT.nd rfl (Or.inl rfl) (pe_op op_mod (pe_callTy call_int1 (by rfl) mi (by decide +kernel) (pa_cons (pe_op op_mul (pe_op op_mod (pe_callTy call_int1 (by rfl) mi (by decide +kernel)
          (pa_cons (pe_op op_mul (pv 5) (pv 5)) pa_nil)) pe_int) pe_int) pa_nil)) pe_int))
      (pss_one (ps_ret (pe_op op_mod (pe_callTy call_int1 (by rfl) mi (by decide +kernel) (pa_cons (pe_op op_fdiv (pv 6) pe_int) pa_nil)) (pv 1))))))), ?_⟩
    obtain ⟨x0, x1, x2, cs, h1, h2, h3, h4, h5, h6, h7, h8, h9⟩ := B.ex
    have p0 : Parts H b l x0 x1 x2 cs := ⟨h1, h2, h3, h9⟩
    -- behind the first if
    refine ⟨fun σ H2 => ∃ (v2 v3 : Option V) (y0 y1 y2 : Int), σ = [some (.ref b), some (.int m), v2, v3, none, none, none] ∧ Parts H2 b l y0 y1 y2 cs ∧ 0 ≤ y0 ∧ 0 ≤ y1 ∧ y1 < 2147483647 ∧ 0 ≤ y2 ∧ y2 ≤ n + 1 ∧ But b H H2, ?_, ?_⟩
    · refine ⟨_, rfl, b, _, 0, _, rfl, rfl, .inl (.inl h1), rfl, rfl, _, rfl, ?_⟩
      refine ite2 (fun hc => ?_) (fun hc => ?_)
      · -- cell
        refine ⟨fun σ H2 => ∃ c : Int, 0 ≤ c ∧ σ = [some (.ref b), some (.int m), some (.int c), none, none, none, none] ∧ H2 = H, ?_, ?_⟩
        · refine ⟨_, rfl, b, _, 2, _, rfl, rfl, .inl (.inl h1), rfl, _, rfl, b, _, 3, _, rfl, rfl, .inl (.inl h1), rfl, l, _, rfl, .inl (.inl (.inl h2)), _, _, rfl, rfl, _, rfl, ?_⟩
          refine ite2 (fun hi => ?_) (fun hi => ?_)
          · have hi' : x2 < (cs.length : Int) := by simpa using hi
            have hx : (x2.toNat : Int) = x2 := Int.toNat_of_nonneg h7
            have hlt : x2.toNat < cs.length := by omega
            have e : (cs.map V.int)[x2.toNat]? = some (V.int cs[x2.toNat]) := by rw [List.getElem?_map, List.getElem?_eq_getElem hlt]; rfl
            have a1 := atI_nat e
            rw [hx] at a1
            refine ⟨_, rfl, b, _, 3, _, rfl, rfl, .inl (.inl h1), rfl, _, rfl, b, _, 2, _, rfl, rfl, .inl (.inl h1), rfl, l, _, x2, _, rfl, rfl, .inl (.inl h2), a1, cs[x2.toNat], h3 _ (List.getElem_mem hlt), rfl, rfl⟩
          · exact ⟨0, by decide, rfl, rfl⟩
        · rintro σ H2 ⟨c, hc0, rfl, hH⟩
          rw [hH]
          have e2 : ([V.int x0, V.int x1, V.int x2, V.ref l] : List V)[2]? = some (V.int x2) := rfl
          refine ⟨_, rfl, b, _, 2, _, rfl, rfl, h1, e2, x2, 1, rfl, rfl, b, _, 2, 2, rfl, rfl, h1, rfl, ?_⟩
          refine ⟨fun σ H2 => ∃ y0 : Int, 0 ≤ y0 ∧ σ = [some (.ref b), some (.int m), some (.int c), none, none, none, none] ∧ Parts H2 b l y0 x1 (x2 + 1) cs ∧ But b H H2, ?_, ?_⟩
          · refine ⟨_, rfl, _, _, rfl, rfl, _, rfl, ?_⟩
            refine ite2 (fun _ => ?_) (fun _ => ?_)
            · refine ⟨_, rfl, _, rfl, b, _, 0, 0, rfl, rfl, upd_same, rfl, ?_⟩
              rw [upd_upd]
              exact ⟨c, hc0, rfl, p0.put c x1 (x2 + 1), But.upd _ _ _⟩
            · exact ⟨x0, h4, rfl, p0.put x0 x1 (x2 + 1), But.upd _ _ _⟩
          · rintro σ H2 ⟨y0, g0, rfl, p, bt⟩
            refine ⟨_, rfl, b, _, 1, _, rfl, rfl, .inl (.inl p.hb), rfl, x1, 48271, rfl, rfl, .inr ⟨by decide, by decide⟩, _, rfl, .inl ⟨c, rfl, _, _, rfl, rfl, (by show (0 : Int) < 2147483647; decide), _, _, rfl, rfl,
              _, rfl, b, _, 2, _, rfl, rfl, .inl (.inl p.hb), rfl, _, _, rfl, rfl, .inl ⟨by decide, by decide⟩, _, _, rfl, rfl, ?_⟩⟩
            refine ⟨_, rfl, .inl ⟨_, rfl, _, _, rfl, rfl, (by show (0 : Int) < 2147483647; decide), _, rfl, b, _, 1, 1, rfl, rfl, p.hb, rfl, ?_⟩⟩
            exact ⟨_, _, y0, _, x2 + 1, rfl, p.put y0 _ (x2 + 1), g0, Int.emod_nonneg _ (by decide), Int.emod_lt_of_pos _ (by decide), by omega, by omega, bt.trans (But.upd _ _ _)⟩
      · refine ⟨none, none, x0, x1, x2, rfl, p0, h4, h5, h6, h7, by omega, But.refl b H⟩
    · rintro σ H2 ⟨v2, v3, y0, y1, y2, rfl, p, g0, g1, g2, g3, g4, bt⟩
      refine ⟨_, rfl, b, _, 0, _, rfl, rfl, .inl (.inl p.hb), rfl, _, _, rfl, rfl, _, rfl, ?_⟩
      refine ite2 (fun _ => ?_) (fun _ => ?_)
      · refine ⟨_, rfl, b, _, 0, _, rfl, rfl, .inl (.inl p.hb), rfl, .inl ⟨y0, rfl, _, rfl, _, _, rfl, rfl, m0, ?_⟩⟩
        refine ⟨_, rfl, b, _, 0, _, rfl, rfl, .inl (.inl p.hb), rfl, .inl ⟨y0, rfl, _, rfl, _, _, rfl, rfl, wide_div (b := 62) m0 (by omega) (by decide) (by decide), ?_⟩⟩
        refine ⟨_, rfl, b, _, 0, 0, rfl, rfl, p.hb, rfl, ?_⟩
        refine ⟨_, rfl, ?_⟩
        have pp := p.put (y0 / m) y1 y2
        exact q _ _ (Int.emod_nonneg _ (by omega)) (Int.emod_lt_of_pos _ m0) ⟨y0 / m, y1, y2, cs, pp.hb, pp.hl, h3, Int.ediv_nonneg g0 (by omega), g1, g2, g3, by omega, h9⟩ (bt.trans (But.upd _ _ _))
      · refine ⟨_, rfl, b, _, 1, _, rfl, rfl, .inl (.inl p.hb), rfl, _, _, rfl, rfl, _, _, rfl, rfl, .inr ⟨by decide, by decide⟩, .inl ⟨_, rfl, _, _, rfl, rfl, (by show (0 : Int) < 1000000007; decide), ?_⟩⟩
        generalize he : (y1 + 1) * 39373 % 1000000007 = e5
        have b5 : 0 ≤ e5 ∧ e5 < 1000000007 := by rw [← he]; exact ⟨Int.emod_nonneg _ (by decide), Int.emod_lt_of_pos _ (by decide)⟩
        refine ⟨_, rfl, _, rfl, _, _, rfl, rfl, .inl ⟨by omega, by omega⟩, .inl ⟨_, rfl, _, _, rfl, rfl, (by show (0 : Int) < 998244353; decide), _, _, rfl, rfl, .inr ⟨by decide, by decide⟩, .inl ⟨_, rfl, _, _, rfl, rfl, (by show (0 : Int) < 998244353; decide), ?_⟩⟩⟩
        refine ⟨_, rfl, _, _, rfl, rfl, ⟨by decide, by decide⟩, .inl ⟨_, rfl, _, rfl, _, _, rfl, rfl, m0, ?_⟩⟩
        exact q _ _ (Int.emod_nonneg _ (by omega)) (Int.emod_lt_of_pos _ m0) ⟨y0, y1, y2, cs, p.hb, p.hl, h3, g0, g1, g2, g3, by omega, h9⟩ bt
end
end T27
/-! Kinds of values: is_whole, is_from_to, is_place. -/
namespace T27
open PySem PySem.Spec PyProof.Rows L2 Wk
abbrev sWhole : Stmt := top 9
abbrev sFromTo : Stmt := top 10
abbrev sPlace : Stmt := top 11
/-- an integer, no truth -/
def wholeB : V → Bool
  | .int _ => true
  | _ => false
def intB : V → Bool
  | .int _ => true
  | .bl _ => true
  | _ => false
def truthB : V → Bool
  | .bl _ => true
  | _ => false
/-- an integer from lo to hi -/
def fromToB (x : V) (lo hi : Int) : Bool := match x with
  | .int i => decide (lo ≤ i) && decide (i ≤ hi)
  | _ => false
theorem wholeB_of {x : V} : wholeB x = (intB x && !truthB x) := by cases x <;> rfl
theorem whole_int {x : V} (h : wholeB x = true) : ∃ i, x = .int i := by
  cases x <;> first | exact ⟨_, rfl⟩ | cases h
/-- any value of a kind that is known -/
structure AnyV (K : PySem.W.Frag) (H : Hp) (x : V) (t : Value) : Prop where
  ty : TyX K H x t
  int : PySem.W.kitOne K t (.type "int") = some (intB x)
  bl : PySem.W.kitOne K t (.type "bool") = some (truthB x)
section
variable {K : PySem.W.Frag} {H : Hp}
theorem any_int (i : Int) : AnyV K H (.int i) (.type "int") := ⟨.base (.int i), kit_ty (r := true) (by decide +kernel), kit_ty (r := false) (by decide +kernel)⟩
theorem any_bl (b : Bool) : AnyV K H (.bl b) (.type "bool") := ⟨.base (.bl b), kit_ty (r := true) (by decide +kernel), kit_ty (r := true) (by decide +kernel)⟩
theorem any_non : AnyV K H .non (.type "NoneType") := ⟨.base .non, kit_ty (r := false) (by decide +kernel), kit_ty (r := false) (by decide +kernel)⟩
theorem any_str (x : Str) : AnyV K H (.str x) (.type "str") := ⟨.base (.str x), kit_ty (r := false) (by decide +kernel), kit_ty (r := false) (by decide +kernel)⟩
theorem any_lst {a : Addr} {xs : List V} (h : H a = some (.lst xs)) : AnyV K H (.ref a) (.type "list") := ⟨.base (.lst h), kit_ty (r := false) (by decide +kernel), kit_ty (r := false) (by decide +kernel)⟩
theorem any_tup {a : Addr} {xs : List V} (h : H a = some (.tup xs)) : AnyV K H (.ref a) (.type "tuple") := ⟨.base (.tup h), kit_ty (r := false) (by decide +kernel), kit_ty (r := false) (by decide +kernel)⟩
end
def spWhole (K : PySem.W.Frag) : Sp := fun vs H Q _ => ∃ x t, vs = [x] ∧ AnyV K H x t ∧ Q (.bl (wholeB x)) H
def spFromTo (K : PySem.W.Frag) : Sp := fun vs H Q _ => ∃ x t lo hi, vs = [x, .int lo, .int hi] ∧ AnyV K H x t ∧ Q (.bl (fromToB x lo hi)) H
def spPlace (K : PySem.W.Frag) : Sp := fun vs H Q _ => ∃ x t n, vs = [x, .int n] ∧ AnyV K H x t ∧ Q (.bl (fromToB x 0 (n - 1))) H
theorem scW : FnScope ["thing"] ["thing"] (defScope sWhole) := ⟨rfl, rfl, rfl, by decide +kernel, rfl, by decide +kernel, by decide +kernel⟩
theorem scF : FnScope ["thing", "low", "high"] ["thing", "low", "high"] (defScope sFromTo) := ⟨rfl, rfl, rfl, by decide +kernel, rfl, by decide +kernel, by decide +kernel⟩
theorem scP : FnScope ["thing", "size"] ["thing", "size"] (defScope sPlace) := ⟨rfl, rfl, rfl, by decide +kernel, rfl, by decide +kernel, by decide +kernel⟩
section
variable {P : Program} {w : World} {K : PySem.W.Frag} {mg : Str → Option Value} {base : Heap}
theorem ok_whole {f : Addr} {fd : FuncData} {k : Nat} (F : Fun K "is_whole" "is_whole" sWhole f fd) (mi : mg "isinstance" = none) (mt : mg "int" = none) (mb : mg "bool" = none) : FnOk P w K mg base CX0 (k + 1) f fd ["thing"] (spWhole K) := by
  refine F.ok scW (fun vs H Q E h => ?_) (fun cdv A outer s H vs Q E hr h => ?_)
  · obtain ⟨x, t, rfl, _⟩ := h
    rfl
  · obtain ⟨x, t, rfl, a, q⟩ := h
    refine ⟨_, pss_one (ps_ret (pe_and (pe_callB call_isi (by rfl) mi (by decide +kernel) (pa_cons (pv 0) (pa_cons (pe_bltn (v := .ty "int") (u := .type "int") (by rfl) mt (by decide +kernel) rfl) pa_nil)))
      (pe_one (pe_not (pe_callB call_isi (by rfl) mi (by decide +kernel) (pa_cons (pv 0) (pa_cons (pe_bltn (v := .ty "bool") (u := .type "bool") (by rfl) mb (by decide +kernel) rfl) pa_nil))))))), ?_⟩
    refine ⟨x, rfl, x, _, _, _, _, rfl, .ty "int", a.ty, a.int, intB x, rfl, ?_⟩
    rw [wholeB_of] at q
    cases hi : intB x with
    | false => rw [hi] at q; exact q
    | true =>
      rw [hi] at q
      exact ⟨x, rfl, x, _, _, _, _, rfl, .ty "bool", a.ty, a.bl, truthB x, rfl, q⟩
theorem ok_fromTo {f fw : Addr} {fd fdw : FuncData} {k : Nat} (F : Fun K "is_from_to" "is_from_to" sFromTo f fd) (GW : FnOk P w K mg base CX0 k fw fdw ["thing"] (spWhole K)) (gW : mg "is_whole" = some (.ref fw)) (kW : PySem.W.keepIn K (.ref fw) = true)
    (bW : Binds K fdw ["thing"] []) : FnOk P w K mg base CX0 (k + 1) f fd ["thing", "low", "high"] (spFromTo K) := by
  refine F.ok scF (fun vs H Q E h => ?_) (fun cdv A outer s H vs Q E hr h => ?_)
  · obtain ⟨x, t, lo, hi, rfl, _⟩ := h
    rfl
  · obtain ⟨x, t, lo, hi, rfl, a, q⟩ := h
    refine ⟨_, pss_one (ps_ret (pe_and (pe_call GW hr rfl gW kW bW .nil pass0 (pa_cons (pv 0) pa_nil)) (pe_one (pe_chain op_le op_le (pv 1) (pv 0) (pv 2))))), ?_⟩
    refine ⟨x, rfl, x, t, rfl, a, wholeB x, rfl, ?_⟩
    cases hw : wholeB x with
    | false =>
      have e : fromToB x lo hi = false := by cases x <;> first | rfl | cases hw
      rw [e] at q
      exact q
    | true =>
      obtain ⟨i, rfl⟩ := whole_int hw
      refine ⟨_, rfl, _, rfl, lo, i, rfl, rfl, _, rfl, ?_⟩
      have e : fromToB (.int i) lo hi = (decide (lo ≤ i) && decide (i ≤ hi)) := rfl
      rw [e] at q
      by_cases h1 : lo ≤ i
      · rw [if_pos (by simpa using h1)]
        rw [decide_eq_true h1, Bool.true_and] at q
        exact ⟨_, rfl, i, hi, rfl, rfl, q⟩
      · rw [if_neg (by simpa using h1)]
        rw [decide_eq_false h1, Bool.false_and] at q
        exact q
theorem ok_place {f fw : Addr} {fd fdw : FuncData} {k : Nat} (F : Fun K "is_place" "is_place" sPlace f fd) (GW : FnOk P w K mg base CX0 k fw fdw ["thing", "low", "high"] (spFromTo K)) (gW : mg "is_from_to" = some (.ref fw)) (kW : PySem.W.keepIn K (.ref fw) = true)
    (bW : Binds K fdw ["thing", "low", "high"] []) : FnOk P w K mg base CX0 (k + 1) f fd ["thing", "size"] (spPlace K) := by
  refine F.ok scP (fun vs H Q E h => ?_) (fun cdv A outer s H vs Q E hr h => ?_)
  · obtain ⟨x, t, n, rfl, _⟩ := h
    rfl
  · obtain ⟨x, t, n, rfl, a, q⟩ := h
    refine ⟨_, pss_one (ps_ret (pe_call GW hr rfl gW kW bW .nil pass0 (pa_cons (pv 0) (pa_cons pe_int (pa_cons (pe_op op_sub (pv 1) pe_int) pa_nil))))), ?_⟩
    exact ⟨x, rfl, _, rfl, n, 1, rfl, rfl, x, t, 0, n - 1, rfl, a, q⟩
end
end T27
/-! Walks over a list or a tuple, whichever it is. -/
namespace Wk
open PySem PySem.Spec PyProof.Rows L2
/-- a list or a tuple -/
def SqS (K : PySem.W.Frag) (H : Hp) (a : Addr) (xs : List V) : Prop := SqL K H a xs ∨ SqT K H a xs
theorem SqS.ext {K : PySem.W.Frag} {H H' : Hp} {a : Addr} {xs : List V} (h : SqS K H a xs) (e : Ext H H') : SqS K H' a xs := h.elim (fun h => .inl (h.ext e)) fun h => .inr (h.ext e)
theorem walk_enumT {K : PySem.W.Frag} {a : Addr} {xs : List V} : Walk (IteT K a) xs.length (fun H => SqT K H a xs) (YPair (fun i => some (.int (i : Nat))) (fun i => xs[i]?)) := by
  refine ⟨fun i _ hi q => ⟨xs, xs[i], q, by simp [hi]⟩, fun _ q => ⟨xs, q, rfl⟩, fun i H v H' _ q y => ?_⟩
  obtain ⟨T, x, h1, h2, h3, h4⟩ := y
  exact ⟨T, .int (i : Nat), x, h1, h2, h3, rfl, h4 xs q⟩
/-- R of any walk of this kind that goes on while the object at a stays -/
def OnWalk (a : Addr) (n : Nat) (Y : Nat → Hp → V → Hp → Prop) (R : It → Hp → Prop) (H1 : Hp) : Prop := ∀ (J : It) (G : Hp → Prop), Walk J n G Y → (∀ H2, (∀ o, H1 a = some o → H2 a = some o) → G H2) → R J H1
theorem SqT.stay {K : PySem.W.Frag} {H H' : Hp} {a : Addr} {xs : List V} (h : SqT K H a xs) (e : ∀ o, H a = some o → H' a = some o) : SqT K H' a xs :=
  h.elim (fun h => .inl (h.elim (fun h => .inl (e _ h)) fun ⟨o, h⟩ => .inr ⟨o, e _ h⟩)) fun h => .inr h
theorem SqL.stay {K : PySem.W.Frag} {H H' : Hp} {a : Addr} {xs : List V} (h : SqL K H a xs) (e : ∀ o, H a = some o → H' a = some o) : SqL K H' a xs :=
  h.elim (fun h => .inl (h.elim (fun h => .inl (e _ h)) fun ⟨o, h⟩ => .inr ⟨o, e _ h⟩)) fun h => .inr h
def iEnumW (K : PySem.W.Frag) (ta : TA) : TI := fun σ H R => ta σ H fun vs H1 => ∃ a xs, vs = [.ref a] ∧ SqS K H1 a xs ∧ OnWalk a xs.length (YPair (fun i => some (.int (i : Nat))) (fun i => xs[i]?)) R H1
def iSeqW (K : PySem.W.Frag) (te : TE) : TI := fun σ H R => te σ H fun v H1 => ∃ a xs, v = .ref a ∧ SqS K H1 a xs ∧ OnWalk a xs.length (YAt xs) R H1
section
variable {X : Cx} {e : Expr} {ta : TA} {te : TE} {p pos tpos : Pos} {elts : List Expr} {kk : Nat} {tg : Expr}
theorem PI.weak {wi wi' : TI} (h : PI X tg e wi) (hw : ∀ σ H R, wi' σ H R → wi σ H R) : PI X tg e wi' := ⟨fun pins s σ H R I q => h.run pins s σ H R I (hw σ H R q)⟩
theorem pi_enumW (hg : Gl X "enumerate") (hm : X.mg "enumerate" = none) (hmono : ∀ (σ : L2.St) (H : Hp) (Q Q' : List V → Hp → Prop), (∀ vs H1, Q vs H1 → Q' vs H1) → ta σ H Q → ta σ H Q') (ha : PA X [e] ta) (hs : starEach [e] X.env = [(false, eval e X.env)] := by rfl) :
    PI X (.Tuple elts kk tpos) (.Call (.Name "enumerate" p) [e] [] pos) (iEnumW X.K ta) :=
  PI.weak (pi_enumS hg hm ha hs) fun σ H R q => hmono σ H _ _ (fun vs H1 z => by
    obtain ⟨a, xs, e, hq | hq, w⟩ := z
    · exact ⟨a, xs, e, .inl ⟨hq, w _ _ walk_enum fun H2 x => SqL.stay hq x⟩⟩
    · exact ⟨a, xs, e, .inr ⟨hq, w _ _ walk_enumT fun H2 x => SqT.stay hq x⟩⟩) q
theorem pi_seqW (he : PE X e te) : PI X tg e (iSeqW X.K te) := by
  refine ⟨fun pins s σ H R I h => ?_⟩
  refine thn (he.run pins s σ H _ I h) fun v s1 ⟨x, H1, I1, r1, q1⟩ => ?_
  obtain ⟨a, xs, rfl, hq, q⟩ := q1
  cases (show v = Value.ref a from r1)
  have fp : ∀ b ∈ [s1.heap.objs.size], FpOk X pins H1 b := fun b hb => by
    cases List.mem_singleton.mp hb
    exact I1.fpOk (Nat.le_refl _) (I1.hok.fresh (Nat.le_refl _))
  rcases hq with hq | hq
  · obtain ⟨its, rv, p, hz⟩ := I1.list hq
    exact wpAny_pyIter_list p.isList ⟨s1.heap.objs.size, [s1.heap.objs.size], _, _, H1, rfl, I1.kept (t' := s1.toks) fun b o e => Heap.get?_push_of_some _ e, turn_list a _, ⟨_, Heap.get?_push_size _ rfl, rfl, rfl⟩, fp, q _ _ walk_list fun H2 x => SqL.stay hq x⟩
  · obtain ⟨its, rv, p, hz⟩ := I1.tuple hq
    exact wpAny_pyIter_tuple (show s1.heap.IsTuple a its.toArray from p) ⟨s1.heap.objs.size, [s1.heap.objs.size], _, _, H1, rfl, I1.kept (t' := s1.toks) fun b o e => Heap.get?_push_of_some _ e, turn_tuple a _, ⟨_, Heap.get?_push_size _ rfl, rfl, rfl⟩, fp, q _ _ walk_tup fun H2 x => SqT.stay hq x⟩
end
/-- the type of a list or tuple, for isinstance -/
theorem SqT.tyX {K : PySem.W.Frag} {H : Hp} {a : Addr} {xs : List V} (h : SqT K H a xs) : TyX K H (.ref a) (.type "tuple") := by
  rcases h with (h | ⟨o, h⟩) | ⟨o, its, n, h, hc, _⟩
  · exact .base (.tup h)
  · exact .fTuple h
  · exact .kTuple h hc
theorem SqL.tyX {K : PySem.W.Frag} {H : Hp} {a : Addr} {xs : List V} (h : SqL K H a xs) : TyX K H (.ref a) (.type "list") := by
  rcases h with (h | ⟨o, h⟩) | ⟨o, its, n, h, hc, _⟩
  · exact .base (.lst h)
  · exact .base (.frz h)
  · exact .kList h hc
end Wk
/-! Pairs, ties, the constructor's arguments. -/
namespace T27
open PySem PySem.Spec PyProof.Rows L2 Wk
abbrev sPair : Stmt := top 16
abbrev sTie : Stmt := top 17
abbrev sNeed : Stmt := top 18
/-- two different places below n -/
def pairB (y z : V) (n : Int) : Bool := fromToB y 0 (n - 1) && (fromToB z 0 (n - 1) && !decide (y = z))
def tieB (u v m n : Int) : Bool := pairB (.int u) (.int v) n && fromToB (.int m) 0 1000000000
theorem fromTo_int {x : V} {lo hi : Int} (h : fromToB x lo hi = true) : ∃ i, x = .int i ∧ lo ≤ i ∧ i ≤ hi := by
  cases x <;> first | (cases h; done) | (simp only [fromToB, Bool.and_eq_true, decide_eq_true_eq] at h; exact ⟨_, rfl, h⟩)
theorem tieB_iff {u v m n : Int} : tieB u v m n = true ↔ 0 ≤ u ∧ u < n ∧ 0 ≤ v ∧ v < n ∧ u ≠ v ∧ 0 ≤ m ∧ m ≤ 1000000000 := by
  simp only [tieB, pairB, fromToB, Bool.and_eq_true, decide_eq_true_eq, Bool.not_eq_true', decide_eq_false_iff_not]
  constructor
  · rintro ⟨⟨⟨h1, h2⟩, ⟨h3, h4⟩, h5⟩, h6, h7⟩
    exact ⟨h1, by omega, h3, by omega, fun e => h5 (by rw [e]), h6, h7⟩
  · rintro ⟨h1, h2, h3, h4, h5, h6, h7⟩
    exact ⟨⟨⟨h1, by omega⟩, ⟨h3, by omega⟩, fun e => h5 (by injection e)⟩, h6, h7⟩
/-- a tuple of these three numbers -/
def Tr (K : PySem.W.Frag) (H : Hp) (x : V) (u v m : Int) : Prop := ∃ t, x = .ref t ∧ SqT K H t [.int u, .int v, .int m]
theorem Tr.same {K : PySem.W.Frag} {H H' : Hp} {x : V} {u v m : Int} (h : Tr K H x u v m) (s : Same H H') : Tr K H' x u v m := let ⟨t, e, q⟩ := h; ⟨t, e, q.ext s⟩
/-- items of ties: the values xs are these triples -/
def Trs (K : PySem.W.Frag) (H : Hp) : List V → List (Int × Int × Int) → Prop
  | [], [] => True
  | x :: xs, p :: ps => Tr K H x p.1 p.2.1 p.2.2 ∧ Trs K H xs ps
  | _, _ => False
theorem Trs.same {K : PySem.W.Frag} {H H' : Hp} (s : Same H H') : ∀ {xs : List V} {ps : List (Int × Int × Int)}, Trs K H xs ps → Trs K H' xs ps
  | [], [], _ => True.intro
  | _ :: _, _ :: _, h => ⟨h.1.same s, Trs.same s h.2⟩
  | [], _ :: _, h => h.elim
  | _ :: _, [], h => h.elim
theorem Trs.length {K : PySem.W.Frag} {H : Hp} : ∀ {xs : List V} {ps : List (Int × Int × Int)}, Trs K H xs ps → xs.length = ps.length
  | [], [], _ => rfl
  | _ :: _, _ :: _, h => by rw [List.length_cons, List.length_cons, Trs.length h.2]
  | [], _ :: _, h => h.elim
  | _ :: _, [], h => h.elim
theorem Trs.get {K : PySem.W.Frag} {H : Hp} : ∀ {xs : List V} {ps : List (Int × Int × Int)} {i : Nat} {x : V}, Trs K H xs ps → xs[i]? = some x → ∃ p, ps[i]? = some p ∧ Tr K H x p.1 p.2.1 p.2.2
  | x :: _, p :: _, 0, _, h, e => by cases e; exact ⟨p, rfl, h.1⟩
  | _ :: _, _ :: _, i + 1, _, h, e => Trs.get (i := i) h.2 e
  | [], [], _, _, _, e => by simp at e
  | [], _ :: _, _, _, h, _ => h.elim
  | _ :: _, [], _, _, h, _ => h.elim
def spPair (K : PySem.W.Frag) : Sp := fun vs H Q _ => ∃ x t n b, vs = [x, .int n] ∧ TyX K H x t ∧ ((PySem.W.kitOne K t (.type "tuple") = some false ∧ b = false) ∨ (PySem.W.kitOne K t (.type "tuple") = some true ∧ ∃ a xs, x = .ref a ∧ SqT K H a xs ∧
  ((xs.length ≠ 2 ∧ b = false) ∨ ∃ y z ty tz, xs = [y, z] ∧ AnyV K H y ty ∧ AnyV K H z tz ∧ b = pairB y z n))) ∧ Q (.bl b) H
def spTie (K : PySem.W.Frag) : Sp := fun vs H Q _ => ∃ x n u v m, vs = [x, .int n] ∧ Tr K H x u v m ∧ ∀ H', Same H H' → Q (.bl (tieB u v m n)) H'
def spNeed (K : PySem.W.Frag) : Sp := fun vs H Q _ => ∃ n a xs ps, vs = [.int n, .ref a] ∧ 0 ≤ n ∧ n ≤ 60 ∧ SqS K H a xs ∧ Trs K H xs ps ∧ (∀ p ∈ ps, tieB p.1 p.2.1 p.2.2 n = true) ∧ ∀ H', Same H H' → Q .non H'
theorem scPr : FnScope ["thing", "size"] ["thing", "size"] (defScope sPair) := ⟨rfl, rfl, rfl, by decide +kernel, rfl, by decide +kernel, by decide +kernel⟩
theorem scTi : FnScope ["thing", "size"] ["thing", "size"] (defScope sTie) := ⟨rfl, rfl, rfl, by decide +kernel, rfl, by decide +kernel, by decide +kernel⟩
theorem scNe : FnScope ["size", "ties", "at", "tie"] ["size", "ties"] (defScope sNeed) := ⟨rfl, rfl, rfl, by decide +kernel, rfl, by decide +kernel, by decide +kernel⟩
theorem kit_tup {K : PySem.W.Frag} : PySem.W.kitOne K (.type "tuple") (.type "tuple") = some true := kit_ty (r := true) (by decide +kernel)
section
variable {P : Program} {w : World} {K : PySem.W.Frag} {mg : Str → Option Value} {base : Heap}
theorem ok_pair {f fw : Addr} {fd fdw : FuncData} {k : Nat} (F : Fun K "_is_pair" "_is_pair" sPair f fd) (GP : FnOk P w K mg base CX0 k fw fdw ["thing", "size"] (spPlace K)) (gP : mg "is_place" = some (.ref fw)) (kP : PySem.W.keepIn K (.ref fw) = true)
    (bP : Binds K fdw ["thing", "size"] []) (mi : mg "isinstance" = none) (mt : mg "tuple" = none) (ml : mg "len" = none) : FnOk P w K mg base CX0 (k + 1) f fd ["thing", "size"] (spPair K) := by
  refine F.ok scPr (fun vs H Q E h => ?_) (fun cdv A outer s H vs Q E hr h => ?_)
  · obtain ⟨x, t, n, b, rfl, _⟩ := h
    rfl
  · obtain ⟨x, t, n, b, rfl, ty, hb, q⟩ := h
    refine ⟨_, pss_cons (ps_if (PW.pt (pw_or (pt_not (pt_val (pe_callB call_isi (by rfl) mi (by decide +kernel) (pa_cons (pv 0) (pa_cons (pe_bltn (v := .ty "tuple") (u := .type "tuple") (by rfl) mt (by decide +kernel) rfl) pa_nil)))))
        (pw_or1 (pt_cmpR op_ne (pe_callB call_len_seq (by rfl) ml PySem.boot_len (pa_cons (pv 0) pa_nil)) pe_int (nomark _))))) (pss_one (ps_ret pe_bl)) pss_nil)
      (pss_one (ps_ret (pe_and (pe_call GP hr rfl gP kP bP .nil pass0 (pa_cons (pe_ix ix_tup (pv 0) pe_int (fun _ _ => rfl)) (pa_cons (pv 1) pa_nil)))
        (pe_and (pe_call GP hr rfl gP kP bP .nil pass0 (pa_cons (pe_ix ix_tup (pv 0) pe_int (fun _ _ => rfl)) (pa_cons (pv 1) pa_nil)))
          (pe_one (pe_cmpR op_ne (pe_ix ix_tup (pv 0) pe_int (fun _ _ => rfl)) (pe_ix ix_tup (pv 0) pe_int (fun _ _ => rfl)) (nomark _))))))), ?_⟩
    rcases hb with ⟨hk, rfl⟩ | ⟨hk, a, xs, rfl, hS, hb⟩
    · exact ⟨x, rfl, x, _, _, _, _, rfl, .ty "tuple", ty, hk, false, rfl, q⟩
    · refine ⟨_, rfl, _, _, _, _, _, rfl, .ty "tuple", ty, hk, true, rfl, ?_⟩
      refine ⟨_, rfl, a, xs, rfl, .inr hS, rfl, _, rfl, ?_⟩
      rcases hb with ⟨hl, rfl⟩ | ⟨y, z, tyy, tz, rfl, ay, az, rfl⟩
      · have e : (!decide (V.int (xs.length : Int) = V.int 2)) = true := by
          simp only [Bool.not_eq_true', decide_eq_false_iff_not]
          intro z
          injection z with z
          exact hl (by omega)
        rw [e]
        exact q
      · have i0 : atI [y, z] 0 = some y := atI_nat (xs := [y, z]) (j := 0) rfl
        have i1 : atI [y, z] 1 = some z := atI_nat (xs := [y, z]) (j := 1) rfl
        have e : (!decide (V.int (([y, z] : List V).length : Int) = V.int 2)) = false := rfl
        rw [e]
        refine ⟨.ref a, rfl, a, _, 0, y, rfl, rfl, hS, i0, .int n, rfl, y, tyy, n, rfl, ay, fromToB y 0 (n - 1), rfl, ?_⟩
        unfold pairB at q
        cases h1 : fromToB y 0 (n - 1) with
        | false => rw [h1] at q; exact q
        | true =>
          rw [h1] at q
          refine ⟨.ref a, rfl, a, _, 1, z, rfl, rfl, hS, i1, .int n, rfl, z, tz, n, rfl, az, fromToB z 0 (n - 1), rfl, ?_⟩
          cases h2 : fromToB z 0 (n - 1) with
          | false => rw [h2] at q; exact q
          | true =>
            rw [h2] at q
            obtain ⟨i, rfl, _⟩ := fromTo_int h1
            obtain ⟨j, rfl, _⟩ := fromTo_int h2
            exact ⟨.ref a, rfl, a, _, 0, _, rfl, rfl, hS, i0, .ref a, rfl, a, _, 1, _, rfl, rfl, hS, i1, rfl, q⟩
theorem ok_tie {f fp ff : Addr} {fd fdp fdf : FuncData} {k : Nat} (F : Fun K "_is_tie" "_is_tie" sTie f fd) (GP : FnOk P w K mg base CX0 k fp fdp ["thing", "size"] (spPair K)) (gP : mg "_is_pair" = some (.ref fp)) (kP : PySem.W.keepIn K (.ref fp) = true)
    (bP : Binds K fdp ["thing", "size"] []) (GF : FnOk P w K mg base CX0 k ff fdf ["thing", "low", "high"] (spFromTo K)) (gF : mg "is_from_to" = some (.ref ff)) (kF : PySem.W.keepIn K (.ref ff) = true) (bF : Binds K fdf ["thing", "low", "high"] [])
    (mi : mg "isinstance" = none) (mt : mg "tuple" = none) (ml : mg "len" = none) (mm : ∃ t, mg "MOST_TIES" = some (.int 1000000000 t)) : FnOk P w K mg base CX0 (k + 1) f fd ["thing", "size"] (spTie K) := by
  obtain ⟨tm, mm⟩ := mm
  refine F.ok scTi (fun vs H Q E h => ?_) (fun cdv A outer s H vs Q E hr h => ?_)
  · obtain ⟨x, n, u, v, m, rfl, _⟩ := h
    rfl
  · obtain ⟨x, n, u, v, m, rfl, ⟨a, rfl, hS⟩, q⟩ := h
    refine ⟨_, pss_cons (ps_if (PW.pt (pw_or (pt_not (pt_val (pe_callB call_isi (by rfl) mi (by decide +kernel) (pa_cons (pv 0) (pa_cons (pe_bltn (v := .ty "tuple") (u := .type "tuple") (by rfl) mt (by decide +kernel) rfl) pa_nil)))))
        (pw_or1 (pt_cmpR op_ne (pe_callB call_len_seq (by rfl) ml PySem.boot_len (pa_cons (pv 0) pa_nil)) pe_int (nomark _))))) (pss_one (ps_ret pe_bl)) pss_nil)
      (pss_one (ps_ret (pe_and (pe_call GP hr rfl gP kP bP .nil pass0 (pa_cons (pe_slice sl_tupA (pv 0) po_none (po_some pe_int)) (pa_cons (pv 1) pa_nil)))
        (pe_one (pe_call GF hr rfl gF kF bF .nil pass0 (pa_cons (pe_ix ix_tup (pv 0) pe_int (fun _ _ => rfl)) (pa_cons pe_int (pa_cons (pe_glob (v := .int 1000000000) rfl mm ⟨_, rfl⟩) pa_nil)))))))), ?_⟩
    have i2 : atI [V.int u, V.int v, V.int m] 2 = some (.int m) := atI_nat (xs := [V.int u, V.int v, V.int m]) (j := 2) rfl
    refine ⟨_, rfl, _, _, _, _, _, rfl, .ty "tuple", Wk.SqT.tyX hS, kit_tup, true, rfl, ?_⟩
    refine ⟨_, rfl, a, _, rfl, .inr hS, rfl, _, rfl, ?_⟩
    refine ⟨.ref a, rfl, 2, rfl, a, _, rfl, hS, fun z => absurd z.2 (show ¬ (HT.sIx 3 3 (some 2) = 3) by decide), fun _ p hp => ?_⟩
    have sm : Same H (upd H p (.tup [.int u, .int v])) := same_upd hp
    refine ⟨.int n, rfl, .ref p, .type "tuple", n, pairB (.int u) (.int v) n, rfl, .base (.tup upd_same), .inr ⟨kit_tup, p, _, rfl, .inl (.inl upd_same), .inr ⟨.int u, .int v, _, _, rfl, any_int u, any_int v, rfl⟩⟩, _, rfl, ?_⟩
    unfold tieB at q
    cases h1 : pairB (.int u) (.int v) n with
    | false => rw [h1] at q; exact q _ sm
    | true =>
      rw [h1] at q
      exact ⟨.ref a, rfl, a, _, 2, _, rfl, rfl, hS.ext sm, i2, _, _, 0, 1000000000, rfl, any_int m, q _ sm⟩
theorem ok_need {f fp ff : Addr} {fd fdp fdf : FuncData} {k : Nat} (F : Fun K "_need_arguments" "_need_arguments" sNeed f fd) (GT : FnOk P w K mg base CX0 k fp fdp ["thing", "size"] (spTie K)) (gT : mg "_is_tie" = some (.ref fp)) (kT : PySem.W.keepIn K (.ref fp) = true)
    (bT : Binds K fdp ["thing", "size"] []) (GF : FnOk P w K mg base CX0 k ff fdf ["thing", "low", "high"] (spFromTo K)) (gF : mg "is_from_to" = some (.ref ff)) (kF : PySem.W.keepIn K (.ref ff) = true) (bF : Binds K fdf ["thing", "low", "high"] [])
    (mi : mg "isinstance" = none) (mt : mg "tuple" = none) (ml : mg "list" = none) (me : mg "enumerate" = none) (mm : ∃ t, mg "MOST_PLACES" = some (.int 60 t)) : FnOk P w K mg base CX0 (k + 1) f fd ["size", "ties"] (spNeed K) := by
  obtain ⟨tm, mm⟩ := mm
  refine F.ok scNe (fun vs H Q E h => ?_) (fun cdv A outer s H vs Q E hr h => ?_)
  · obtain ⟨n, a, xs, ps, rfl, _⟩ := h
    rfl
  · obtain ⟨n, a, xs, ps, rfl, n0, n1, hS, hT, hv, q⟩ := h
    refine ⟨_, pss_cons (ps_if (pt_not (pt_val (pe_call GF hr rfl gF kF bF .nil pass0 (pa_cons (pv 0) (pa_cons pe_int (pa_cons (pe_glob (v := .int 60) rfl mm ⟨_, rfl⟩) pa_nil)))))) (pss_one ps_never) pss_nil)
      (pss_cons (ps_if (pt_not (pt_val (pe_callB call_isiT (by rfl) mi (by decide +kernel) (pa_cons (pv 1) (pa_cons (pe_tup (pa_cons (pe_bltn (v := .ty "list") (u := .type "list") (by rfl) ml (by decide +kernel) rfl)
          (pa_cons (pe_bltn (v := .ty "tuple") (u := .type "tuple") (by rfl) mt (by decide +kernel) rfl) pa_nil))) pa_nil))))) (pss_one ps_never) pss_nil)
      (pss_one (ps_for PassesOwn.never rfl (pi_enumW (by rfl) me (fun σ H Q Q' h z => by obtain ⟨v, e, q⟩ := z; exact ⟨v, e, h _ _ q⟩) (pa_cons (pv 1) pa_nil)) (pg_tup rfl (pgs_cons (pg_name (i := 2) scNe.nd rfl (Or.inl rfl)) (pgs_cons (pg_name (i := 3) scNe.nd rfl (Or.inl rfl)) pgs_nil)))
        (pss_one (ps_if (pt_not (pt_val (pe_call GT hr rfl gT kT bT .nil pass0 (pa_cons (pv 3) (pa_cons (pv 0) pa_nil))))) (pss_one ps_never) pss_nil))))), ?_⟩
    have e1 : fromToB (.int n) 0 60 = true := by simp only [fromToB, Bool.and_eq_true, decide_eq_true_eq]; omega
    refine ⟨.int n, rfl, .int n, .type "int", 0, 60, rfl, any_int n, fromToB (.int n) 0 60, rfl, ?_⟩
    rw [e1]
    refine ⟨.ref a, rfl, (by show 2 ≤ sizeLine; decide), fun T nT => ?_⟩
    have sm : Same H (upd H T (.tup [.ty "list", .ty "tuple"])) := same_upd nT
    have hkind : ∃ t, TyX K (upd H T (.tup [.ty "list", .ty "tuple"])) (.ref a) t ∧ PySem.W.kitAny K t [.type "list", .type "tuple"] = some true := by
      rcases hS.ext sm with h | h
      · exact ⟨_, Wk.SqL.tyX h, kitAny_cons (b := true) (kit_ty (r := true) (by decide +kernel)) (fun z => by cases z) (fun _ => rfl)⟩
      · exact ⟨_, Wk.SqT.tyX h, kitAny_cons (b := false) (kit_ty (r := false) (by decide +kernel)) (fun _ => kitAny_cons (b := true) (kit_ty (r := true) (by decide +kernel)) (fun z => by cases z) (fun _ => rfl)) (fun z => by cases z)⟩
    obtain ⟨t, ty, hk⟩ := hkind
    refine ⟨_, T, _, t, _, true, rfl, upd_same, .cons (.ty "list") (.cons (.ty "tuple") .nil), ty, hk, true, rfl, ?_⟩
    refine ⟨.ref a, rfl, a, xs, rfl, hS.ext sm, fun J G W hG => ?_⟩
    refine for_it W (fun i σ H2 => (∃ v2 v3, σ = [some (.int n), some (.ref a), v2, v3]) ∧ Same (upd H T (.tup [.ty "list", .ty "tuple"])) H2) ⟨⟨_, _, rfl⟩, Same.refl _⟩ (fun i σ H2 _ p => hG H2 fun o z => p.2 _ _ z) ?_ ?_
    · rintro i x σ H2 H3 hi ⟨⟨v2, v3, rfl⟩, s2⟩ ⟨T2, x', y, rfl, nT2, rfl, hx, hy⟩
      obtain rfl : V.int (i : Int) = x' := Option.some.inj hx
      have s3 : Same (upd H T (.tup [.ty "list", .ty "tuple"])) (upd H2 T2 (.tup [.int (i : Int), y])) := s2.trans (same_upd nT2)
      obtain ⟨p, hp, htr⟩ := hT.get hy
      refine ⟨T2, _, rfl, .inl (.inl upd_same), rfl, ?_⟩
      refine ⟨_, _, rfl, _, _, rfl, ?_⟩
      refine ⟨rfl, y, rfl, .int n, rfl, y, n, _, _, _, rfl, htr.same (sm.trans s3), fun H4 s4 => ?_⟩
      rw [hv p (List.mem_of_getElem? hp)]
      exact ⟨true, rfl, ⟨_, _, rfl⟩, s3.trans s4⟩
    · rintro σ H2 ⟨⟨v2, v3, rfl⟩, s2⟩
      exact q H2 (sm.trans s2)
end
end T27
/-! The mathematics of bundles: triples (u, v, n) of two places and a number. -/
namespace T27
open PySem
abbrev T3 := Int × Int × Int
/-- the numbers at one pair, added up -/
def amt (l : List T3) (u v : Int) : Int := (l.map fun p => if p.1 = u ∧ p.2.1 = v then p.2.2 else 0).sum
theorem amt_nil {u v : Int} : amt [] u v = 0 := rfl
theorem amt_cons {p : T3} {l : List T3} {u v : Int} : amt (p :: l) u v = (if p.1 = u ∧ p.2.1 = v then p.2.2 else 0) + amt l u v := by simp [amt]
theorem amt_append {l m : List T3} {u v : Int} : amt (l ++ m) u v = amt l u v + amt m u v := by simp [amt]
theorem sum_perm {l m : List Int} (h : l.Perm m) : l.sum = m.sum := by
  induction h with
  | nil => rfl
  | cons x _ ih => simp [ih]
  | swap x y l => simp only [List.sum_cons]; omega
  | trans _ _ h1 h2 => exact h1.trans h2
theorem amt_perm {l m : List T3} (h : l.Perm m) {u v : Int} : amt l u v = amt m u v := sum_perm (h.map _)
theorem amt_zero {l : List T3} {u v : Int} (h : ∀ p ∈ l, ¬ (p.1 = u ∧ p.2.1 = v)) : amt l u v = 0 := by
  induction l with
  | nil => rfl
  | cons p l ih => rw [amt_cons, if_neg (h p List.mem_cons_self), ih fun q hq => h q (List.mem_cons_of_mem _ hq)]; rfl
theorem amt_nonneg {l : List T3} {u v : Int} (h : ∀ p ∈ l, 0 ≤ p.2.2) : 0 ≤ amt l u v := by
  induction l with
  | nil => exact Int.le_refl _
  | cons p l ih =>
    rw [amt_cons]
    have h1 := h p List.mem_cons_self
    have h2 := ih fun q hq => h q (List.mem_cons_of_mem _ hq)
    split <;> omega
/-- the lesser place first (as min and max tell them) -/
def norm (p : T3) : T3 := (if p.2.1 < p.1 then p.2.1 else p.1, if p.2.1 > p.1 then p.2.1 else p.1, p.2.2)
/-- ascending by the two places -/
def lt2 (p q : T3) : Prop := p.1 < q.1 ∨ (p.1 = q.1 ∧ p.2.1 < q.2.1)
def key (p q : T3) : Prop := p.1 = q.1 ∧ p.2.1 = q.2.1
theorem lt2.trans {p q r : T3} (a : lt2 p q) (b : lt2 q r) : lt2 p r := by unfold lt2 at *; omega
theorem lt2_irrefl {p q : T3} (h : lt2 p q) (k : key p q) : False := by unfold lt2 key at *; omega
/-- bundles of n places with these numbers of ties: ascending, none empty -/
structure TiesOf (n : Int) (am : Int → Int → Int) (T : List T3) : Prop where
  asc : T.Pairwise lt2
  mem : ∀ p ∈ T, 0 ≤ p.1 ∧ p.1 < p.2.1 ∧ p.2.1 < n ∧ 0 < p.2.2
  am : ∀ u v, amt T u v = am u v
theorem amt_mem {T : List T3} (h : T.Pairwise lt2) {p : T3} (hp : p ∈ T) : amt T p.1 p.2.1 = p.2.2 := by
  induction T with
  | nil => cases hp
  | cons q T ih =>
    obtain ⟨h1, h2⟩ := List.pairwise_cons.mp h
    rw [amt_cons]
    rcases List.mem_cons.mp hp with rfl | hp
    · rw [if_pos ⟨rfl, rfl⟩, amt_zero fun r hr k => lt2_irrefl (h1 r hr) ⟨k.1.symm, k.2.symm⟩]
      omega
    · rw [if_neg (show ¬ (q.1 = p.1 ∧ q.2.1 = p.2.1) from fun k => lt2_irrefl (h1 p hp) k), ih h2 hp]
      omega
theorem mem_amt {T : List T3} {u v : Int} (h : amt T u v ≠ 0) : ∃ p ∈ T, p.1 = u ∧ p.2.1 = v := by
  refine Classical.byContradiction fun c => h (amt_zero fun p hp k => c ⟨p, hp, k⟩)
theorem asc_ext : ∀ {T S : List T3}, T.Pairwise lt2 → S.Pairwise lt2 → (∀ p, p ∈ T ↔ p ∈ S) → T = S
  | [], [], _, _, _ => rfl
  | [], q :: S, _, _, h => by have := (h q).mpr List.mem_cons_self; cases this
  | p :: T, [], _, _, h => by have := (h p).mp List.mem_cons_self; cases this
  | p :: T, q :: S, hT, hS, h => by
    obtain ⟨t1, t2⟩ := List.pairwise_cons.mp hT
    obtain ⟨s1, s2⟩ := List.pairwise_cons.mp hS
    have e : p = q := by
      rcases List.mem_cons.mp ((h p).mp List.mem_cons_self) with e | m
      · exact e
      · rcases List.mem_cons.mp ((h q).mpr List.mem_cons_self) with e | m'
        · exact e.symm
        · exact (lt2_irrefl ((s1 p m).trans (t1 q m')) ⟨rfl, rfl⟩).elim
    subst e
    refine congrArg (p :: ·) (asc_ext t2 s2 fun r => ⟨fun m => ?_, fun m => ?_⟩)
    · rcases List.mem_cons.mp ((h r).mp (List.mem_cons_of_mem _ m)) with e | m'
      · subst e; exact (lt2_irrefl (t1 r m) ⟨rfl, rfl⟩).elim
      · exact m'
    · rcases List.mem_cons.mp ((h r).mpr (List.mem_cons_of_mem _ m)) with e | m'
      · subst e; exact (lt2_irrefl (s1 r m) ⟨rfl, rfl⟩).elim
      · exact m'
/-- there is just one such list -/
theorem TiesOf.eq {n n' : Int} {am am' : Int → Int → Int} {T S : List T3} (a : TiesOf n am T) (b : TiesOf n' am' S) (h : ∀ u v, am u v = am' u v) : T = S := by
  have half : ∀ {n n' : Int} {am am' : Int → Int → Int} {T S : List T3}, TiesOf n am T → TiesOf n' am' S → (∀ u v, am u v = am' u v) → ∀ p ∈ T, p ∈ S := fun {n n' am am' T S} a b h p hp => by
    have h1 := amt_mem a.asc hp
    have h2 : amt S p.1 p.2.1 = p.2.2 := by rw [b.am, ← h, ← a.am, h1]
    obtain ⟨q, hq, k1, k2⟩ := mem_amt (T := S) (u := p.1) (v := p.2.1) (by have := (a.mem p hp).2.2.2; omega)
    have h3 := amt_mem b.asc hq
    rw [k1, k2, h2] at h3
    have : q = p := Prod.ext k1 (Prod.ext k2 h3.symm)
    exact this ▸ hq
  exact asc_ext a.asc b.asc fun p => ⟨half a b h p, half b a (fun u v => (h u v).symm) p⟩
/-- one more triple, the list upside down -/
def putR : List T3 → T3 → List T3
  | [], p => [p]
  | q :: r, p => if q.1 = p.1 ∧ q.2.1 = p.2.1 then (p.1, p.2.1, q.2.2 + p.2.2) :: r else p :: q :: r
theorem putR_same {q p : T3} {r : List T3} (h : q.1 = p.1 ∧ q.2.1 = p.2.1) : putR (q :: r) p = (p.1, p.2.1, q.2.2 + p.2.2) :: r := if_pos h
theorem putR_new {q p : T3} {r : List T3} (h : ¬ (q.1 = p.1 ∧ q.2.1 = p.2.1)) : putR (q :: r) p = p :: q :: r := if_neg h
structure BInv (n : Int) (acc done : List T3) : Prop where
  desc : acc.Pairwise fun p q => lt2 q p
  am : ∀ u v, amt acc u v = amt done u v
  mem : ∀ p ∈ acc, 0 ≤ p.1 ∧ p.1 < p.2.1 ∧ p.2.1 < n ∧ 0 ≤ p.2.2
  head : ∀ q ∈ acc, ∃ p ∈ done, key p q
theorem BInv.nil {n : Int} : BInv n [] [] := ⟨.nil, fun _ _ => rfl, fun p hp => (by cases hp), fun p hp => (by cases hp)⟩
theorem BInv.put {n : Int} {acc done : List T3} {p : T3} (b : BInv n acc done) (hp : 0 ≤ p.1 ∧ p.1 < p.2.1 ∧ p.2.1 < n ∧ 0 ≤ p.2.2) (hd : ∀ d ∈ done, lt2 d p ∨ key d p) : BInv n (putR acc p) (done ++ [p]) := by
  have am1 : ∀ u v, amt [p] u v = if p.1 = u ∧ p.2.1 = v then p.2.2 else 0 := fun u v => by rw [amt_cons, amt_nil]; omega
  match acc, b with
  | [], b =>
    refine ⟨List.pairwise_singleton .., fun u v => ?_, fun q hq => ?_, fun q hq => ⟨p, by simp, by cases List.mem_singleton.mp hq; exact ⟨rfl, rfl⟩⟩⟩
    · rw [amt_append, ← b.am]; show amt [p] u v = _; rw [amt_nil]; omega
    · cases List.mem_singleton.mp hq; exact hp
  | q :: r, b =>
    obtain ⟨d1, d2⟩ := List.pairwise_cons.mp b.desc
    by_cases hk : q.1 = p.1 ∧ q.2.1 = p.2.1
    · rw [putR_same hk]
      have hq := b.mem q List.mem_cons_self
      refine ⟨List.pairwise_cons.mpr ⟨fun x hx => ?_, d2⟩, fun u v => ?_, fun x hx => ?_, fun x hx => ?_⟩
      · have := d1 x hx
        unfold lt2 at *
        dsimp only at *
        omega
      · rw [amt_append, ← b.am, amt_cons, amt_cons, am1]
        dsimp only
        rw [hk.1, hk.2]
        split <;> omega
      · rcases List.mem_cons.mp hx with rfl | hx
        · exact ⟨hp.1, hp.2.1, hp.2.2.1, by dsimp only; omega⟩
        · exact b.mem x (List.mem_cons_of_mem _ hx)
      · rcases List.mem_cons.mp hx with rfl | hx
        · exact ⟨p, by simp, rfl, rfl⟩
        · obtain ⟨y, hy, k⟩ := b.head x (List.mem_cons_of_mem _ hx)
          exact ⟨y, by simp [hy], k⟩
    · rw [putR_new hk]
      have ql : lt2 q p := by
        obtain ⟨y, hy, k⟩ := b.head q List.mem_cons_self
        have := hd y hy
        unfold lt2 key at *
        omega
      refine ⟨List.pairwise_cons.mpr ⟨fun x hx => ?_, b.desc⟩, fun u v => ?_, fun x hx => ?_, fun x hx => ?_⟩
      · rcases List.mem_cons.mp hx with rfl | hx
        · exact ql
        · exact (d1 x hx).trans ql
      · rw [amt_append, ← b.am, amt_cons (p := p), am1]
        omega
      · rcases List.mem_cons.mp hx with rfl | hx
        · exact hp
        · exact b.mem x hx
      · rcases List.mem_cons.mp hx with rfl | hx
        · exact ⟨x, by simp, rfl, rfl⟩
        · obtain ⟨y, hy, k⟩ := b.head x hx
          exact ⟨y, by simp [hy], k⟩
theorem amt_pos {l : List T3} {u v : Int} (h : ∀ p ∈ l, 0 ≤ p.2.2) : amt (l.filter fun p => decide (0 < p.2.2)) u v = amt l u v := by
  induction l with
  | nil => rfl
  | cons p l ih =>
    have ih := ih fun q hq => h q (List.mem_cons_of_mem _ hq)
    have h0 := h p List.mem_cons_self
    by_cases hp : 0 < p.2.2
    · rw [List.filter_cons_of_pos (by simpa using hp), amt_cons, amt_cons, ih]
    · rw [List.filter_cons_of_neg (by simpa using hp), amt_cons, ih]
      split <;> omega
theorem BInv.done {n : Int} {acc done : List T3} (b : BInv n acc done) : TiesOf n (amt done) (acc.reverse.filter fun p => decide (0 < p.2.2)) := by
  refine ⟨List.Pairwise.filter _ (List.pairwise_reverse.mpr b.desc), fun p hp => ?_, fun u v => ?_⟩
  · obtain ⟨h1, h2⟩ := List.mem_filter.mp hp
    have := b.mem p (List.mem_reverse.mp h1)
    exact ⟨this.1, this.2.1, this.2.2.1, by simpa using h2⟩
  · rw [amt_pos fun p hp => (b.mem p (List.mem_reverse.mp hp)).2.2.2, amt_perm (List.reverse_perm acc), b.am]
/-- the order of the code is that of the places -/
theorem le2_of_code {B : Int} {p q : T3} (hp : TS.Bd B [p.1, p.2.1, p.2.2]) (hq : TS.Bd B [q.1, q.2.1, q.2.2]) (h : TS.code B [p.1, p.2.1, p.2.2] ≤ TS.code B [q.1, q.2.1, q.2.2]) : lt2 p q ∨ key p q := by
  by_cases h1 : q.1 < p.1
  · have := TS.code_lt (B := B) (r := [q.2.1, q.2.2]) (q := [p.2.1, p.2.2]) rfl hq.tail hp.tail h1
    omega
  · by_cases h2 : p.1 = q.1
    · by_cases h3 : q.2.1 < p.2.1
      · have a := TS.code_lt (B := B) (r := [q.2.2]) (q := [p.2.2]) rfl hq.tail.tail hp.tail.tail h3
        have b := (TS.code_same (B := B) (d := p.1) (r := [q.2.1, q.2.2]) (q := [p.2.1, p.2.2]) rfl).mpr a
        rw [h2] at b h
        omega
      · unfold lt2 key; omega
    · unfold lt2 key; omega
end T27
/-! The bundles of items of ties. -/
namespace T27
open PySem PySem.Spec PyProof.Rows L2 Wk
abbrev sBundles : Stmt := top 20
abbrev sBounds : Stmt := top 21
def spBounds (K : PySem.W.Frag) : Sp := fun vs H Q _ => ∃ D bs T, vs = [.ref D] ∧ H D = some (.lst bs) ∧ bs.length ≤ sizeLine ∧ Trs K H bs T ∧ (∀ p ∈ T, p.2.2 ≤ 1000000000) ∧ ∀ H', Same H H' → Q .non H'
def spBundles (K : PySem.W.Frag) : Sp := fun vs H Q _ => ∃ n a xs ps, vs = [.ref a] ∧ n ≤ 60 ∧ SqS K H a xs ∧ Trs K H xs ps ∧ ps.length < 4000 ∧ (∀ p ∈ ps, tieB p.1 p.2.1 p.2.2 n = true) ∧ (∀ u v, amt (ps.map norm) u v ≤ 1000000000) ∧
  ∀ H' t ys T, Same H H' → H t = none → H' t = some (.tup ys) → Trs K H' ys T → TiesOf n (amt (ps.map norm)) T → ys.length < 4000 → Q (.ref t) H'
theorem scBo : FnScope ["bundles", "bundle"] ["bundles"] (defScope sBounds) := ⟨rfl, rfl, rfl, by decide +kernel, rfl, by decide +kernel, by decide +kernel⟩
theorem scBu : FnScope ["ties", "bundles", "u", "v", "number", "goes_on", "ahead", "bundle"] ["ties"] (defScope sBundles) := ⟨rfl, rfl, rfl, by decide +kernel, rfl, by decide +kernel, by decide +kernel⟩
theorem Trs.append {K : PySem.W.Frag} {H : Hp} : ∀ {xs ys : List V} {ps qs : List T3}, Trs K H xs ps → Trs K H ys qs → Trs K H (xs ++ ys) (ps ++ qs)
  | [], _, [], _, _, h => h
  | _ :: _, _, _ :: _, _, g, h => ⟨g.1, Trs.append g.2 h⟩
  | [], _, _ :: _, _, g, _ => g.elim
  | _ :: _, _, [], _, g, _ => g.elim
theorem Trs.take {K : PySem.W.Frag} {H : Hp} : ∀ {xs : List V} {ps : List T3} (i : Nat), Trs K H xs ps → Trs K H (xs.take i) (ps.take i)
  | _, _, 0, _ => True.intro
  | _ :: _, _ :: _, i + 1, h => ⟨h.1, Trs.take i h.2⟩
  | [], [], _ + 1, _ => True.intro
  | [], _ :: _, _ + 1, h => h.elim
  | _ :: _, [], _ + 1, h => h.elim
theorem Trs.reverse {K : PySem.W.Frag} {H : Hp} : ∀ {xs : List V} {ps : List T3}, Trs K H xs ps → Trs K H xs.reverse ps.reverse
  | [], [], _ => True.intro
  | _ :: _, _ :: _, h => by
    rw [List.reverse_cons, List.reverse_cons]
    exact Trs.append (Trs.reverse h.2) ⟨h.1, True.intro⟩
  | [], _ :: _, h => h.elim
  | _ :: _, [], h => h.elim
theorem Trs.perm {K : PySem.W.Frag} {H : Hp} {xs ys : List V} (h : ys.Perm xs) : ∀ {ps : List T3}, Trs K H xs ps → ∃ qs, qs.Perm ps ∧ Trs K H ys qs := by
  induction h with
  | nil => exact fun {ps} t => ⟨ps, .refl _, t⟩
  | @cons x l1 l2 _ ih =>
    intro ps t
    cases ps with
    | nil => exact t.elim
    | cons p ps =>
      obtain ⟨qs, h1, h2⟩ := ih t.2
      exact ⟨p :: qs, h1.cons p, t.1, h2⟩
  | swap x y l =>
    intro ps t
    cases ps with
    | nil => exact t.elim
    | cons p ps =>
      cases ps with
      | nil => exact t.2.elim
      | cons r ps => exact ⟨r :: p :: ps, .swap p r ps, t.2.1, t.1, t.2.2⟩
  | trans _ _ h1 h2 =>
    intro ps t
    obtain ⟨qs, a1, a2⟩ := h2 t
    obtain ⟨rs, b1, b2⟩ := h1 a2
    exact ⟨rs, b1.trans a1, b2⟩
theorem Tr.tupI {K : PySem.W.Frag} {H : Hp} {x : V} {u v m : Int} (h : Tr K H x u v m) : TupI K H x [u, v, m] := h
theorem Trs.order {K : PySem.W.Frag} {H : Hp} {B : Int} : ∀ {xs : List V} {ps : List T3}, Trs K H xs ps → (∀ p ∈ ps, TS.Bd B [p.1, p.2.1, p.2.2]) → xs.Pairwise (fun x y => ∀ n m, TupI K H x n → TupI K H y m → TS.code B n ≤ TS.code B m) →
    ps.Pairwise fun p q => lt2 p q ∨ key p q
  | [], [], _, _, _ => .nil
  | x :: xs, p :: ps, h, hb, hp => by
    obtain ⟨p1, p2⟩ := List.pairwise_cons.mp hp
    refine List.pairwise_cons.mpr ⟨fun q hq => ?_, Trs.order h.2 (fun q hq => hb q (List.mem_cons_of_mem _ hq)) p2⟩
    obtain ⟨i, hi, e⟩ := List.mem_iff_getElem.mp hq
    have hlt : i < xs.length := by rw [Trs.length h.2]; exact hi
    obtain ⟨q', e', tq⟩ := Trs.get h.2 (List.getElem?_eq_getElem hlt)
    rw [List.getElem?_eq_getElem hi, e] at e'
    cases e'
    exact le2_of_code (hb p List.mem_cons_self) (hb q (List.mem_cons_of_mem _ hq)) (p1 _ (List.getElem_mem hlt) _ _ h.1.tupI tq.tupI)
  | [], _ :: _, h, _, _ => h.elim
  | _ :: _, [], h, _, _ => h.elim
theorem SqT.but {K : PySem.W.Frag} {H H' : Hp} {D t : Addr} {bs xs : List V} (hD : H D = some (.lst bs)) (h : SqT K H t xs) (b : But D H H') : SqT K H' t xs := by
  rcases h with (h | ⟨o, h⟩) | h
  · exact .inl (.inl (b t _ (fun e => by rw [e, hD] at h; cases h) h))
  · exact .inl (.inr ⟨o, b t _ (fun e => by rw [e, hD] at h; cases h) h⟩)
  · exact .inr h
theorem Trs.but {K : PySem.W.Frag} {H H' : Hp} {D : Addr} {bs : List V} (hD : H D = some (.lst bs)) (b : But D H H') : ∀ {xs : List V} {ps : List T3}, Trs K H xs ps → Trs K H' xs ps
  | [], [], _ => True.intro
  | _ :: _, _ :: _, h => ⟨let ⟨t, e, q⟩ := h.1; ⟨t, e, SqT.but hD q b⟩, Trs.but hD b h.2⟩
  | [], _ :: _, h => h.elim
  | _ :: _, [], h => h.elim
theorem norm_ok {n : Int} {p : T3} (h : tieB p.1 p.2.1 p.2.2 n = true) : 0 ≤ (norm p).1 ∧ (norm p).1 < (norm p).2.1 ∧ (norm p).2.1 < n ∧ 0 ≤ (norm p).2.2 ∧ (norm p).2.2 ≤ 1000000000 := by
  obtain ⟨h1, h2, h3, h4, h5, h6, h7⟩ := tieB_iff.mp h
  unfold norm
  dsimp only
  split <;> split <;> omega
section
variable {P : Program} {w : World} {K : PySem.W.Frag} {mg : Str → Option Value} {base : Heap}
theorem ok_bounds {f : Addr} {fd : FuncData} {k : Nat} (F : Fun K "_need_bounds" "_need_bounds" sBounds f fd) (ma : mg "any" = none) (mm : ∃ t, mg "MOST_TIES" = some (.int 1000000000 t)) : FnOk P w K mg base CX0 (k + 1) f fd ["bundles"] (spBounds K) := by
  obtain ⟨tm, mm⟩ := mm
  refine F.ok scBo (fun vs H Q E h => ?_) (fun cdv A outer s H vs Q E hr h => ?_)
  · obtain ⟨D, bs, T, rfl, _⟩ := h
    rfl
  · obtain ⟨a, bs, T, rfl, ha, hlen, hT, hv, q⟩ := h
    refine ⟨_, pss_one (ps_if (pt_val (pe_callB (cr_any rfl) (by rfl) ma (by decide +kernel) (pa_cons
      (pe_lc (own := [("bundle", 1)]) (g := gName 1) (tt := tYes) rfl scBo.nd (pi_list (pv 0)) (blkOk_by (N := ["bundles", "bundle"]) (sc := defScope sBounds) (by decide +kernel))
        (fun _ _ _ _ _ => pg_name (i := 1) scBo.nd rfl (Or.inl rfl)) (fun _ _ _ _ _ => pts_nil) (fun _ _ _ _ _ => pe_cmpR op_gt (pe_ix (r := rIxT K) ix_tup (pv 1) pe_int (fun _ _ => rfl)) (pe_glob (v := .int 1000000000) rfl mm ⟨_, rfl⟩) (nomark _))) pa_nil))) (pss_one ps_never) pss_nil), ?_⟩
    refine ⟨.ref a, rfl, a, rfl, ⟨bs, .inl (.inl ha)⟩, fun D nD => ?_⟩
    have haD : a ≠ D := ne_of_none ha nD
    refine lc_list (K := K) (a := a) (xs := bs) (fun i H2 => Ext H H2 ∧ H2 D = some (.lst ((List.replicate i false).map V.bl))) ?_ (fun i H2 _ h2 => .inl (.inl (h2.1 _ _ ha))) ?_ ?_
    · exact ⟨fun b o z => by rw [upd_ne (ne_of_none z nD)]; exact z, upd_same⟩
    · rintro i x H2 hx ⟨g1, g2⟩
      obtain ⟨p, hp, t, rfl, hS⟩ := hT.get hx
      have i2 : atI [V.int p.1, V.int p.2.1, V.int p.2.2] 2 = some (.int p.2.2) := atI_nat (xs := [V.int p.1, V.int p.2.1, V.int p.2.2]) (j := 2) rfl
      have le := hv p (List.mem_of_getElem? hp)
      refine ⟨rfl, .ref t, rfl, t, _, 2, _, rfl, rfl, hS.ext g1, i2, p.2.2, 1000000000, rfl, rfl, _, g2, ?_, ?_, ?_⟩
      · rw [List.length_map, List.length_replicate]
        exact Nat.lt_of_lt_of_le (List.getElem?_eq_some_iff.mp hx).1 hlen
      · intro b o z
        rw [upd_ne (ne_of_none z nD)]
        exact g1 b o z
      · have e : decide ((1000000000 : Int) < p.2.2) = false := decide_eq_false (by omega)
        rw [upd_same, List.replicate_succ', List.map_append]
        show some (HO.lst (_ ++ [V.bl (decide ((1000000000 : Int) < p.2.2))])) = _
        rw [e]
        rfl
    · rintro H2 ⟨g1, g2⟩
      refine ⟨D, _, rfl, .inl (.inl g2), _, rfl, ?_⟩
      have e : (List.replicate bs.length false).any id = false := by rw [List.any_replicate]; split <;> rfl
      rw [e]
      exact q H2 g1
end
end T27
/-! sorted of any number of tuples of ints: of a list of them, of a dict whose keys they are. -/
namespace Wk
open PySem PySem.Spec PyProof.Rows L2 SrtO
section
variable {prog : Program} {w : World} {A : Around} {E : Value → Shared → Prop} {s : Shared}
/-- the order of the tuples' codes, read at a heap -/
abbrev cLt (h : Heap) (B : Int) : Value → Value → Bool := fun v u => decide (TS.code B (TS.intsOf h v) < TS.code B (TS.intsOf h u))
theorem swo_code (h : Heap) (B : Int) : Swo (cLt h B) := by
  refine ⟨fun x y e => ?_, fun x y z e1 e2 => ?_⟩
  · have := of_decide_eq_true e
    exact decide_eq_false (by omega)
  · have a := of_decide_eq_false e1
    have b := of_decide_eq_false e2
    exact decide_eq_false (by omega)
theorem tups_sortable {a : Addr} {vs : List Value} {d : Nat} {B : Int} (h0 : 0 < vs.length) (hd : 1 ≤ d) (x : TS.TupsOk s.heap d B vs) (ha : ∀ o, s.heap.get? a = some o → o.cls ≠ .type "tuple") : SortableO prog w A s a vs (cLt s.heap B) := by
  intro h' keep
  have k' : ∀ b o, s.heap.get? b = some o → o.cls = .type "tuple" → h'.get? b = some o := fun b o e c => keep b o (fun z => by subst z; exact ha o e c) e
  have x' : TS.TupsOk h' d B vs := x.keeps k'
  obtain ⟨fs, k, hl, hi⟩ := TS.firsts_of hd vs x'
  refine ⟨tuples' true, fun Q E hq => ?_, ?_⟩
  · refine PySem.W.kat_kind (T := .type "int") k (by omega) (fun f hf => ?_) (by rfl) ?_
    · obtain ⟨n, t, rfl⟩ := hi f hf
      exact PySem.W.Looks.now
    · have e : (Value.type "int" != Value.type "tuple") = true := by first | decide +kernel | rfl | decide
      rw [e]
      exact hq
  · intro p q hp hq
    obtain ⟨ns, tp, lp, bp⟩ := x _ hp
    obtain ⟨ms, tq, lq, bq⟩ := x _ hq
    have e : (lt2 (cLt s.heap B) p q) = decide (TS.code B ns < TS.code B ms) := by
      show decide (TS.code B (TS.intsOf s.heap p.1) < TS.code B (TS.intsOf s.heap q.1)) = _
      rw [tp.ints, tq.ints]
    rw [e]
    obtain ⟨b, xs, e1, ⟨o, ho, hc, n, hdt⟩, i⟩ := tp.keeps k'
    obtain ⟨c, ys, e2, ⟨o', ho', hc', n', hdt'⟩, i'⟩ := tq.keeps k'
    rw [e1, e2]
    refine PySem.W.kat_lt ho hdt ho' hdt' ?_
    have sz : decide (xs.size < ys.size) = false := by
      have l1 := i.length
      have l2 := i'.length
      rw [Array.length_toList] at l1 l2
      exact decide_eq_false (by omega)
    rw [sz]
    exact TS.lex_ints 0 i i' (by omega) bp bq ⟨rfl, rfl⟩
theorem srtd_code {h : Heap} {B : Int} {l : List Value} (q : Srtd (cLt h B) l) : l.Pairwise fun u v => TS.code B (TS.intsOf h u) ≤ TS.code B (TS.intsOf h v) := by
  refine List.Pairwise.imp (fun {u v} e => ?_) q
  have := of_decide_eq_false e
  omega
/-- sorted(xs) of a list of tuples, any number of them -/
theorem sorted_tupsA {l : Addr} {vs : List Value} {d : Nat} {B : Int} {Q : Value → Shared → Prop} (hl : s.heap.IsList l vs.toArray) (hz : vs.length ≤ sizeLine) (hd : 1 ≤ d) (x : TS.TupsOk s.heap d B vs)
    (h : ∀ (h' : Heap) (p : Addr) (out : List Value), out.Perm vs → out.Pairwise (fun u v => TS.code B (TS.intsOf s.heap u) ≤ TS.code B (TS.intsOf s.heap v)) → (∀ b o, s.heap.get? b = some o → h'.get? b = some o) → s.heap.objs.size ≤ p →
      (∃ n, h'.get? p = some (seqObj "list" out.toArray n)) → Q (.ref p) { s with heap := h' }) :
    wpAny (model prog w) A (call (.builtin "sorted") [.ref l]) Q E s := by
  refine sorted_ord (swo_code s.heap B) hl hz (fun h2 h₁ a ha kk => ?_) fun out hs hb => ?_
  · have keep : ∀ b o, s.heap.get? b = some o → o.cls = .type "tuple" → h₁.get? b = some o := fun b o e _ => (kk b o e).2
    have q := tups_sortable (prog := prog) (w := w) (A := A.in1.in1) (s := { s with heap := h₁ }) (a := a) (vs := vs) (B := B) (by omega) hd (x.keeps keep) fun o e => by
      have e' : some o = some (seqObj "list" vs.toArray 0) := e.symm.trans ha
      cases e'
      intro c
      exact absurd (Value.type.inj c) (by decide)
    intro h' keep2
    obtain ⟨κ, k1, k2⟩ := q h' keep2
    refine ⟨κ, k1, fun p r hp hr => ?_⟩
    have z := k2 p r hp hr
    have e : lt2 (cLt h₁ B) p r = lt2 (cLt s.heap B) p r := by
      obtain ⟨ns, tp, _⟩ := x _ hp
      obtain ⟨ms, tq, _⟩ := x _ hr
      show decide (TS.code B (TS.intsOf h₁ p.1) < TS.code B (TS.intsOf h₁ r.1)) = decide (TS.code B (TS.intsOf s.heap p.1) < TS.code B (TS.intsOf s.heap r.1))
      rw [tp.ints, tq.ints, (tp.keeps keep).ints, (tq.keeps keep).ints]
    rw [← e]
    exact z
  · exact h _ _ out hb.perm (srtd_code hs) (fun b o e => sortedAll_old e) (Nat.le_succ _) (sortedAll_at s.heap vs out.toArray)
end
section
variable {X : Cx}
/-- sorted(xs), xs a list of tuples of d ints in [0, B), however many: a new list of the same, ascending by code B -/
def rSortUA (K : PySem.W.Frag) (d : Nat) (B : Int) : List V → Hp → VK → Prop := fun vs H Q => ∃ (a : Addr) (xs : List V), vs = [V.ref a] ∧ SqL K H a xs ∧ (∀ x ∈ xs, ∃ ns, TupI K H x ns ∧ ns.length = d ∧ TS.Bd B ns) ∧
  ∀ (ys : List V) (p : Addr), ys.Perm xs → ys.Pairwise (fun x y => ∀ n m, TupI K H x n → TupI K H y m → TS.code B n ≤ TS.code B m) → H p = none → Q (.ref p) (upd H p (.lst ys))
theorem cr_sortTA {d : Nat} {B : Int} (hd : 1 ≤ d) : CallR X (.builtin "sorted") (rSortUA X.K d B) := by
  intro pins s σ H vs us Q I r h
  obtain ⟨a, xs, rfl, hs, hx, q⟩ := h
  obtain ⟨its, rv, hl, hz⟩ := I.list hs
  rw [Vals.ref1 r]
  obtain ⟨e1, e2⟩ := bkV_refs rv fun x m => by
    obtain ⟨ns, ⟨t, e, _⟩, _⟩ := hx x m
    exact ⟨t, e⟩
  refine sorted_tupsA (d := d) (B := B) hl.isList (by rw [← rv.length]; exact hz) hd (fun v hv => ?_) fun h' p out h1 h2 k hp ⟨ep, he'⟩ => ?_
  · obtain ⟨t, rfl⟩ := e2 v hv
    have hm : V.ref t ∈ xs := by
      rw [e1]
      exact List.mem_map.mpr ⟨_, hv, rfl⟩
    obtain ⟨ns, ⟨t', e, ht⟩, hn, hb⟩ := hx _ hm
    cases e
    exact ⟨ns, tupI_raw I ht, hn, hb⟩
  · have h3 : ∀ u ∈ out, ∃ a, u = Value.ref a := fun u hu => e2 u (h1.mem_iff.mp hu)
    have hpm : (out.map bkV).Perm xs := by
      rw [e1]
      exact h1.map bkV
    have hlen : (out.map bkV).length ≤ sizeLine := by
      rw [hpm.length_eq]
      exact hz
    refine ⟨.ref _, upd H p (.lst (out.map bkV)), I.laid (t' := s.toks) k hp ⟨hlen, out, ep, bkV_vals h3, he'⟩, rfl, q _ _ hpm ?_ (I.hok.fresh hp)⟩
    rw [List.pairwise_map]
    refine List.Pairwise.imp (fun {u v} huv n m hn hm => ?_) h2
    obtain ⟨t, et, ht⟩ := hn
    obtain ⟨t', et', ht'⟩ := hm
    have eu := bkV_ref et
    have ev := bkV_ref et'
    have i1 : TS.intsOf s.heap u = n := by
      rw [eu]
      exact (tupI_raw I ht).ints
    have i2 : TS.intsOf s.heap v = m := by
      rw [ev]
      exact (tupI_raw I ht').ints
    rw [← i1, ← i2]
    exact huv
/-- sorted(d), d a dict whose keys are tuples of numbers, however many -/
def rSortDA (d : Nat) (B : Int) : List V → Hp → VK → Prop := fun vs H Q => ∃ (a : Addr) (kvs : List (List Key × V)) (ks : List (List Int)), vs = [V.ref a] ∧ H a = some (.dT kvs) ∧ kvs.map (·.1) = ks.map (·.map Sum.inl) ∧ ks.length ≤ sizeLine ∧
  (∀ n ∈ ks, n.length = d ∧ TS.Bd B n) ∧ ∀ (ys : List (Addr × List Int)) (p : Addr), (ys.map (·.2)).Perm ks → (ys.map (·.2)).Pairwise (fun n m => TS.code B n ≤ TS.code B m) → (∀ y ∈ ys, H y.1 = some (.tup (y.2.map V.int))) → H p = none →
    Q (.ref p) (upd H p (.lst (ys.map fun y => V.ref y.1)))
theorem call_sortedTDA {d : Nat} {B : Int} (hd1 : 1 ≤ d) (hc : X.calm = true) : CallR X (.builtin "sorted") (rSortDA d B) := by
  intro pins s σ H xs us Q I r q
  obtain ⟨a, kvs, ks, rfl, ha, hks, hfit, hB, q⟩ := q
  obtain ⟨u, rfl, rx⟩ := r.one
  cases rx
  obtain ⟨z, hs, xt, pr, o, es, ep, ho, hx, hdt, he, hn⟩ := (show ObjOk X.prog X.w H s.heap a (.dT kvs) from I.hok a _ ha)
  have l1 : es.size = xt.length := size_of_entries he
  have l2 : kvs.length = xt.length := Paired.length pr
  obtain ⟨L, L1, L2', L3⟩ := kT_ints pr hks
  have lL : L.length = ks.length := by rw [← L1, List.length_map]
  have lx : xt.length = L.length := by have := congrArg List.length L2'; rwa [List.length_map, List.length_map] at this
  refine Calls.call_function_entry PyProof.Rows.kind_sorted PyProof.Rows.plain_sorted PyProof.Rows.entry_sorted (PyProof.Rows.args_sorted1 _) ?_
  unfold Builtin.«sorted»
  refine wpAny_bind (m := checkCount "sorted" 1 1 _) (wpAny_pure ?_)
  refine wpAny_bind (PySem.W.kdu_collect (A := X.A.in1) (kdl_raw hs hx hdt) (I.ok.hd hc) ho (by omega) fun h' tk acc hk it => ?_)
  have ea : acc.toList = L.map fun y => Value.ref y.1 := by
    rw [← L2']
    have hl : acc.toList.length = xt.length := by rw [Array.length_toList, it.1]; exact l1
    refine List.ext_getElem? fun j => ?_
    rw [List.getElem?_map]
    cases hj : acc.toList[j]? with
    | none =>
      have h1 := List.getElem?_eq_none_iff.mp hj
      rw [List.getElem?_eq_none (by omega)]
      rfl
    | some v =>
      obtain ⟨en, hen, hv⟩ := it.2 j v (by rw [← Array.getElem?_toList]; exact hj)
      rw [entry_at he j] at hen
      obtain ⟨b, hb, e2⟩ := Option.map_eq_some_iff.mp hen
      rw [hb, hv, ← e2]
      rfl
  have I1 : Inv X pins σ H { s with heap := h', toks := tk } := I.kept hk
  have hal : acc.toList.length = ks.length := by rw [ea, List.length_map, lL]
  have tup : ∀ y ∈ L, TS.TupInts h' (.ref y.1) y.2 := fun y hy => tupI_raw I1 (.inl (.inl (L3 y hy)))
  refine wpAny_bind (wpAny_newList ?_ (by rw [hal]; exact hfit))
  have hoL : (h'.push (seqObj "list" acc.toList.toArray 0)).get? h'.objs.size = some (seqObj "list" acc.toList.toArray 0) := Heap.get?_push_size _ rfl
  show wpAny _ _ _ _ _ { s with heap := h'.push (seqObj "list" acc.toList.toArray 0), toks := tk }
  have keep : ∀ b o, h'.get? b = some o → o.cls = .type "tuple" → (h'.push (seqObj "list" acc.toList.toArray 0)).get? b = some o := fun b o e _ => Heap.get?_push_of_some _ e
  have ok : TS.TupsOk h' d B acc.toList := fun v hv => by
    rw [ea] at hv
    obtain ⟨y, hy, rfl⟩ := List.mem_map.mp hv
    have hm : y.2 ∈ ks := by rw [← L1]; exact List.mem_map.mpr ⟨y, hy, rfl⟩
    exact ⟨y.2, tup y hy, hB _ hm⟩
  refine wpAny_bind (wpAny_holding (wpAny_call_entry PyProof.Rows.slot_list_sort ⟨_, hoL, rfl⟩ PyProof.Rows.entry_list_sort
    (list_sort_ord (swo_code (h'.push (seqObj "list" acc.toList.toArray 0)) B) hoL (by rw [hal]; exact hfit) (fun h2 => tups_sortable (s := { s with heap := h'.push (seqObj "list" acc.toList.toArray 0), toks := tk }) (by omega) hd1 (ok.keeps keep) fun o e => by
      have e' : some o = some (seqObj "list" acc.toList.toArray 0) := e.symm.trans hoL
      cases e'
      intro c
      exact absurd (Value.type.inj c) (by decide)) fun out hs1 hb1 => ⟨_, rfl, ?_⟩) (PyProof.Rows.args_list_sort _)))
  have g1 := hb1.perm
  have g2 : out.Pairwise fun u v => TS.code B (TS.intsOf h' u) ≤ TS.code B (TS.intsOf h' v) := by
    refine List.Pairwise.imp_of_mem (fun {u v} hu hv e => ?_) (srtd_code hs1)
    obtain ⟨ns0, t0, _⟩ := ok u (g1.mem_iff.mp hu)
    obtain ⟨ms0, t1, _⟩ := ok v (g1.mem_iff.mp hv)
    rw [(t0.keeps keep).ints, (t1.keeps keep).ints] at e
    rw [t0.ints, t1.ints]
    exact e
  · obtain ⟨e', he'⟩ := PyProof.Rows.sortedHeap_at (vs := acc.toList) (out := out.toArray) hoL
    have un : ∀ y ∈ L, unref h' (Value.ref y.1) = y := fun y hy => by
      show (y.1, TS.intsOf h' (Value.ref y.1)) = y
      rw [(tup y hy).ints]
    have back : ∀ us : List Value, (∀ v ∈ us, ∃ y ∈ L, v = Value.ref y.1) → us = (us.map (unref h')).map (fun y => Value.ref y.1) := fun us hu => by
      rw [List.map_map]
      have : us.map (fun v => v) = us.map ((fun y => Value.ref y.1) ∘ unref h') := List.map_congr_left fun v hv => by
        obtain ⟨y, hy, rfl⟩ := hu v hv
        show Value.ref y.1 = Value.ref (unref h' (Value.ref y.1)).1
        rw [un y hy]
      rwa [List.map_id'] at this
    have hm : ∀ v ∈ out, ∃ y ∈ L, v = Value.ref y.1 := fun v hv => by
      have := g1.mem_iff.mp hv
      rw [ea] at this
      obtain ⟨y, hy, rfl⟩ := List.mem_map.mp this
      exact ⟨y, hy, rfl⟩
    have hL : (acc.toList.map (unref h')) = L := by
      rw [ea, List.map_map]
      have : L.map (unref h' ∘ fun y => Value.ref y.1) = L.map (fun y => y) := List.map_congr_left fun y hy => un y hy
      rw [this, List.map_id']
    have hp : (out.map (unref h')).Perm L := by
      have := g1.map (unref h')
      rwa [hL] at this
    have hlen : (((out.map (unref h')).map fun y => V.ref y.1)).length ≤ sizeLine := by
      rw [List.length_map, hp.length_eq, lL]
      exact hfit
    have hv : Vals ((out.map (unref h')).map fun y => V.ref y.1) out := by
      rw [refs_V]
      conv => rhs; rw [back _ hm]
      rw [refs_U]
      exact vals_refs _
    refine wpAny_pure ⟨_, rfl, .ref h'.objs.size, upd H h'.objs.size (.lst ((out.map (unref h')).map fun y => V.ref y.1)), I1.laid (t' := tk) (fun b u e => ?_) (Nat.le_refl _)
      (show ObjOk X.prog X.w _ _ _ (.lst ((out.map (unref h')).map fun y => V.ref y.1)) from ⟨hlen, out, e', hv, he'⟩), rfl, q _ _ ?_ ?_ ?_ (I1.hok.fresh (Nat.le_refl _))⟩
    · have hb : b < h'.objs.size := Heap.lt_size e
      rw [PyProof.Rows.sortedHeap_old (Nat.ne_of_lt hb) (by rw [size_push']; exact Nat.lt_succ_of_lt hb)]
      exact Heap.get?_push_of_some _ e
    · rw [← L1]
      exact hp.map _
    · rw [List.map_map, List.pairwise_map]
      refine g2.imp_of_mem fun {u v} hu hv h => ?_
      obtain ⟨y, hy, rfl⟩ := hm u hu
      obtain ⟨y', hy', rfl⟩ := hm v hv
      exact h
    · intro y hy
      exact L3 y (hp.mem_iff.mp hy)
end
end Wk
namespace T27
open PySem PySem.Spec PyProof.Rows L2 Wk
theorem eqv2 (a b c d : Int) : PyData.eqv (.tuple [.int a, .int b]) (.tuple [.int c, .int d]) = (decide (a = c) && decide (b = d)) := by
  have e : PyData.eqv (.tuple [.int a, .int b]) (.tuple [.int c, .int d]) = ((a == c) && ((b == d) && true)) := by
    first | rfl | kernel_rfl | (rw [PyData.eqv, PyData.eqvAll, PyData.eqvAll, PyData.eqvAll, PyData.eqv, PyData.eqv])
  rw [e, Bool.and_true]
  rfl
section
variable {P : Program} {w : World} {K : PySem.W.Frag} {mg : Str → Option Value} {base : Heap}
theorem ok_bundles {f fb : Addr} {fd fdb : FuncData} {k : Nat} (F : Fun K "_bundles" "_bundles" sBundles f fd) (GB : FnOk P w K mg base CX0 k fb fdb ["bundles"] (spBounds K)) (gB : mg "_need_bounds" = some (.ref fb)) (kB : PySem.W.keepIn K (.ref fb) = true) (bB : Binds K fdb ["bundles"] [])
    (ms : mg "sorted" = none) (mi : mg "min" = none) (mx : mg "max" = none) (mt : mg "tuple" = none) : FnOk P w K mg base CX0 (k + 1) f fd ["ties"] (spBundles K) := by
  refine F.ok scBu (fun vs H Q E h => ?_) (fun cdv A outer s H vs Q E hr h => ?_)
  · obtain ⟨n, a, xs, ps, rfl, _⟩ := h
    rfl
  · obtain ⟨n, a, xs, ps, rfl, hn, hS, hT, h64, hv, ham, q⟩ := h
    have hu := hu_of hr
    refine ⟨_, pss_cons (ps_set (i := 1) scBu.nd rfl (Or.inl rfl) (pe_lst pa_nil))
      (pss_cons (ps_for PassesOwn.never rfl (pi_list (pe_callB (cr_sortTA (d := 3) (B := 1000000001) (by decide)) (by rfl) ms (by decide +kernel) (pa_cons
          (pe_lc (own := [("u", 2), ("v", 3), ("number", 4)]) (g := gTup K 3 (gCons (gName 2) (gCons (gName 3) (gCons (gName 4) gNil)))) (tt := tYes) rfl scBu.nd (pi_seqW (pv 0)) (blkOk_by (N := ["ties", "bundles", "u", "v", "number", "goes_on", "ahead", "bundle"]) (sc := defScope sBundles) (by decide +kernel))
            (fun _ _ _ _ _ => pg_tup rfl (pgs_cons (pg_name (i := 2) scBu.nd rfl (Or.inl rfl)) (pgs_cons (pg_name (i := 3) scBu.nd rfl (Or.inl rfl)) (pgs_cons (pg_name (i := 4) scBu.nd rfl (Or.inl rfl)) pgs_nil))))
            (fun _ _ _ _ _ => pts_nil) (fun _ _ _ _ _ => pe_tup (pa_cons (pe_callB (call_min2 rfl) (by rfl) mi (by decide +kernel) (pa_cons (pv 2) (pa_cons (pv 3) pa_nil)))
              (pa_cons (pe_callB (call_max2 rfl) (by rfl) mx (by decide +kernel) (pa_cons (pv 2) (pa_cons (pv 3) pa_nil))) (pa_cons (pv 4) pa_nil))))) pa_nil)))
          (pg_tup rfl (pgs_cons (pg_name (i := 2) scBu.nd rfl (Or.inl rfl)) (pgs_cons (pg_name (i := 3) scBu.nd rfl (Or.inl rfl)) (pgs_cons (pg_name (i := 4) scBu.nd rfl (Or.inl rfl)) pgs_nil))))
        (pss_cons (ps_set (i := 5) scBu.nd rfl (Or.inl rfl) (pe_andT (pv 1) (pe_one (pe_cmpR (op_eqD hr.units) (pe_slice sl_tupA (pe_ix ix_list (pv 1) (pe_un un_neg pe_int) (fun _ _ => rfl)) po_none (po_some pe_int)) (pe_tup (pa_cons (pv 2) (pa_cons (pv 3) pa_nil))) (nomark _)))))
        (pss_cons (ps_set (i := 6) scBu.nd rfl (Or.inl rfl) (pe_ifExp (pt_truth (pv 5) (by intro _; rfl)) (pe_ix ix_tup (pe_bm0 PySem.F.plainAttrs_list PySem.F.slot_list_pop PySem.F.type_list_pop mt_pop (pv 1)) pe_int (fun _ _ => rfl)) pe_int))
        (pss_one (ps_expr (pe_bm PySem.F.plainAttrs_list PySem.F.slot_list_append PySem.F.type_list_append mt_append (pv 1) (pa_cons (pe_tup (pa_cons (pv 2) (pa_cons (pv 3) (pa_cons (pe_op op_add (pv 6) (pv 4)) pa_nil)))) pa_nil)))))))
      (pss_cons (ps_expr (pe_call GB hr rfl gB kB bB .nil pass0 (pa_cons (pv 1) pa_nil)))
      (pss_one (ps_ret (pe_callTy call_tuple_of (by rfl) mt (by decide +kernel) (pa_cons
        (pe_lc (own := [("bundle", 7)]) (g := gName 7) rfl scBu.nd (pi_list (pv 1)) (blkOk_by (N := ["ties", "bundles", "u", "v", "number", "goes_on", "ahead", "bundle"]) (sc := defScope sBundles) (by decide +kernel))
          (fun _ _ _ _ _ => pg_name (i := 7) scBu.nd rfl (Or.inl rfl)) (fun _ _ _ _ _ => pts_one (pt_cmpR op_gt (pe_ix (r := rIxT K) ix_tup (pv 7) pe_int (fun _ _ => rfl)) pe_int (nomark _))) (fun _ _ _ _ _ => pv 7)) pa_nil)))))), ?_⟩
    refine ⟨(by show 0 ≤ sizeLine; decide), fun D nD => ?_⟩
    have e1 : Ext H (upd H D (.lst [])) := same_upd nD
    -- the normal items
    refine ⟨.ref a, rfl, a, xs, rfl, hS.ext e1, fun J G W hG L nL => ?_⟩
    have nL0 : H L = none := Same.free e1 nL
    have hDL : D ≠ L := ne_of_none upd_same nL
    have hlen : xs.length = ps.length := hT.length
    refine lc_it W (fun i H2 => Ext (upd H D (.lst [])) H2 ∧ ∃ ys, H2 L = some (.lst ys) ∧ Trs K H2 ys ((ps.take i).map norm)) ⟨fun b o z => by rw [upd_ne (ne_of_none z nL)]; exact z, [], upd_same, True.intro⟩ (fun i H2 _ p => hG H2 fun o z => p.1 _ _ z) ?_ ?_
    · rintro i x H2 H3 hi ⟨g1, ys, g2, g3⟩ ⟨rfl, hx⟩
      obtain ⟨p, hp, t, rfl, hSt⟩ := hT.get hx
      have hys : ys.length = ((ps.take i).map norm).length := g3.length
      have hsz : ys.length < sizeLine := by rw [hys, List.length_map, List.length_take, sizeLine_eq]; omega
      refine ⟨t, _, rfl, hSt.ext (Ext.trans e1 g1), rfl, _, _, rfl, _, _, rfl, _, _, rfl, rfl, rfl, ?_⟩
      refine ⟨_, rfl, _, rfl, p.1, p.2.1, rfl, _, rfl, _, rfl, p.1, p.2.1, rfl, _, rfl, (by show 3 ≤ sizeLine; decide), fun T nT => ⟨ys, by rw [upd_ne (ne_of_none g2 nT)]; exact g2, hsz, ?_⟩⟩
      have hTL : T ≠ L := Ne.symm (ne_of_none g2 nT)
      have s3 : Same H3 (upd H3 T (.tup [.int (if p.2.1 < p.1 then p.2.1 else p.1), .int (if p.2.1 > p.1 then p.2.1 else p.1), .int p.2.2])) := same_upd nT
      refine ⟨fun b o z => ?_, ys ++ [.ref T], upd_same, ?_⟩
      · rw [upd_ne (ne_of_none z nL)]
        exact s3 _ _ (g1 b o z)
      · rw [List.take_add_one, hp, List.map_append]
        have bt : But L (upd H3 T (.tup [.int (if p.2.1 < p.1 then p.2.1 else p.1), .int (if p.2.1 > p.1 then p.2.1 else p.1), .int p.2.2])) (upd (upd H3 T (.tup [.int (if p.2.1 < p.1 then p.2.1 else p.1), .int (if p.2.1 > p.1 then p.2.1 else p.1), .int p.2.2])) L (.lst (ys ++ [.ref T]))) := But.upd _ _ _
        refine Trs.append (Trs.but (D := L) (bs := ys) (by rw [upd_ne (Ne.symm hTL)]; exact g2) bt (g3.same s3)) ⟨⟨T, rfl, .inl (.inl (by rw [upd_ne hTL]; exact upd_same))⟩, True.intro⟩
    · rintro H2 ⟨g1, ys0, g2, g3⟩
      rw [hlen, List.take_length] at g3
      have hbd : ∀ p ∈ ps.map norm, TS.Bd 1000000001 [p.1, p.2.1, p.2.2] := fun p hp => by
        obtain ⟨p0, h0, rfl⟩ := List.mem_map.mp hp
        have := norm_ok (hv p0 h0)
        intro m hm
        simp only [List.mem_cons, List.not_mem_nil, or_false] at hm
        rcases hm with rfl | rfl | rfl <;> omega
      refine ⟨L, ys0, rfl, .inl (.inl g2), fun x hx => ?_, fun ys p hperm hord np => ?_⟩
      · obtain ⟨i, hi, rfl⟩ := List.mem_iff_getElem.mp hx
        obtain ⟨p, hp, tr⟩ := g3.get (List.getElem?_eq_getElem hi)
        exact ⟨_, tr.tupI, rfl, hbd p (List.mem_of_getElem? hp)⟩
      obtain ⟨qs, hqp, hTq⟩ := g3.perm hperm
      have hord' := hTq.order (fun p hp => hbd p (hqp.mem_iff.mp hp)) hord
      have hqv : ∀ q ∈ qs, 0 ≤ q.1 ∧ q.1 < q.2.1 ∧ q.2.1 < n ∧ 0 ≤ q.2.2 := fun q hq => by
        obtain ⟨p0, h0, rfl⟩ := List.mem_map.mp (hqp.mem_iff.mp hq)
        have := norm_ok (hv p0 h0)
        omega
      have hD2 : H2 D = some (.lst []) := g1 _ _ upd_same
      have hpD : p ≠ D := Ne.symm (ne_of_none hD2 np)
      have hql : qs.length < 4000 := by rw [hqp.length_eq, List.length_map]; exact h64
      have hyl : ys.length = qs.length := hTq.length
      refine ⟨p, rfl, ⟨ys, .inl (.inl upd_same)⟩, ?_⟩
      refine for_list (K := K) (a := p) (xs := ys) (fun i σ H3 => (∃ v2 v3 v4 v5 v6 v7, σ = [some (.ref a), some (.ref D), v2, v3, v4, v5, v6, v7]) ∧ But D (upd H2 p (.lst ys)) H3 ∧
        ∃ bs acc, H3 D = some (.lst bs.reverse) ∧ bs.length ≤ i ∧ Trs K H3 bs acc ∧ BInv n acc (qs.take i)) ?_ (fun i σ H3 _ h => .inl (.inl (h.2.1 p _ hpD upd_same))) ?_ ?_
      · exact ⟨⟨_, _, _, _, _, _, rfl⟩, But.refl _ _, [], [], by rw [upd_ne (Ne.symm hpD)]; exact hD2, Nat.le_refl _, True.intro, BInv.nil⟩
      · rintro i x σ H3 hx ⟨⟨v2, v3, v4, v5, v6, v7, rfl⟩, bt, bs, acc, k1, k2, k3, k4⟩
        have hDp : (upd H2 p (.lst ys)) D = some (.lst []) := by rw [upd_ne (Ne.symm hpD)]; exact hD2
        obtain ⟨q0, hq0, t, rfl, hSt⟩ := (Trs.but hDp bt (hTq.same (same_upd np))).get hx
        have hil : i < 4000 := by have := (List.getElem?_eq_some_iff.mp hq0).1; omega
        have hmem := List.mem_of_getElem? hq0
        have htk : qs.take (i + 1) = qs.take i ++ [q0] := by rw [List.take_add_one, hq0]; rfl
        have hbe : ∀ d ∈ qs.take i, lt2 d q0 ∨ key d q0 := fun d hd => by
          obtain ⟨j, hj, rfl⟩ := List.mem_iff_getElem.mp hd
          rw [List.length_take] at hj
          have hi' := (List.getElem?_eq_some_iff.mp hq0).1
          have e0 : qs[i] = q0 := (List.getElem?_eq_some_iff.mp hq0).2
          have := List.pairwise_iff_getElem.mp hord' j i (by omega) hi' (by omega)
          rw [List.getElem_take]
          rwa [e0] at this
        -- the turn's end: the new bundle at R
        have fin : ∀ (ah : Int) (bs' : List V) (acc' : List T3) (H4 : Hp) (R : Addr), H4 D = some (.lst bs'.reverse) → bs'.length ≤ i → Trs K H4 bs' acc' → But D H3 H4 → putR acc q0 = (q0.1, q0.2.1, ah + q0.2.2) :: acc' → H4 R = none →
            ∃ l xs y, V.ref D = .ref l ∧ [V.ref R] = [y] ∧ (upd H4 R (.tup [.int q0.1, .int q0.2.1, .int (ah + q0.2.2)])) l = some (.lst xs) ∧ xs.length < sizeLine ∧
              (But D (upd H2 p (.lst ys)) (upd (upd H4 R (.tup [.int q0.1, .int q0.2.1, .int (ah + q0.2.2)])) l (.lst (xs ++ [y]))) ∧
                ∃ bs acc, (upd (upd H4 R (.tup [.int q0.1, .int q0.2.1, .int (ah + q0.2.2)])) l (.lst (xs ++ [y]))) D = some (.lst bs.reverse) ∧ bs.length ≤ i + 1 ∧ Trs K (upd (upd H4 R (.tup [.int q0.1, .int q0.2.1, .int (ah + q0.2.2)])) l (.lst (xs ++ [y]))) bs acc ∧ BInv n acc (qs.take (i + 1))) := by
          intro ah bs' acc' H4 R j1 j2 j3 j4 j5 nR
          have hRD : R ≠ D := Ne.symm (ne_of_none j1 nR)
          have j1' : (upd H4 R (.tup [.int q0.1, .int q0.2.1, .int (ah + q0.2.2)])) D = some (.lst bs'.reverse) := by rw [upd_ne (Ne.symm hRD)]; exact j1
          refine ⟨D, _, _, rfl, rfl, j1', by rw [List.length_reverse, sizeLine_eq]; omega, bt.trans (j4.trans ((But.of (same_upd nR)).trans (But.upd _ _ _))), .ref R :: bs', (q0.1, q0.2.1, ah + q0.2.2) :: acc', by rw [upd_same, List.reverse_cons], by rw [List.length_cons]; omega, ?_, ?_⟩
          · exact ⟨⟨R, rfl, .inl (.inl (by rw [upd_ne hRD]; exact upd_same))⟩, Trs.but j1' (But.upd _ _ _) (j3.same (same_upd nR))⟩
          · rw [htk, ← j5]
            exact k4.put (hqv q0 hmem) hbe
        refine ⟨t, _, rfl, hSt, rfl, _, _, rfl, _, _, rfl, _, _, rfl, rfl, ?_⟩
        cases bs with
        | nil =>
          cases acc with
          | cons _ _ => exact k3.elim
          | nil =>
            have em : TruV K (.ref D) H3 false := .inl ⟨[], .inl (.inl k1), rfl⟩
            refine ⟨.ref D, rfl, false, em, ?_⟩
            refine ⟨.ref D, rfl, false, em, ?_⟩
            refine ⟨.ref D, rfl, .inl ⟨rfl, _, .inl (.inl k1)⟩, _, rfl, _, rfl, _, rfl, _, rfl, 0, q0.2.2, rfl, rfl, (by show 3 ≤ sizeLine; decide), fun R nR => ?_⟩
            obtain ⟨l, xs1, y1, z1, z2, z3, z4, z5⟩ := fin 0 [] [] H3 R k1 (Nat.zero_le _) True.intro (But.refl _ _) (by rw [Int.zero_add]; rfl) nR
            exact ⟨l, xs1, y1, z1, z2, z3, z4, ⟨_, _, _, _, _, _, rfl⟩, z5⟩
        | cons b r =>
          cases acc with
          | nil => exact k3.elim
          | cons c ra =>
            have k1' := k1
            rw [List.reverse_cons] at k1'
            obtain ⟨⟨tb, rfl, hSb⟩, k3r⟩ := k3
            have tr : TruV K (.ref D) H3 true := .inl ⟨_, .inl (.inl k1'), by simp⟩
            refine ⟨.ref D, rfl, true, tr, ?_⟩
            refine ⟨.ref D, rfl, 1, rfl, D, _, -1, _, rfl, rfl, .inl (.inl k1'), atI_last _ _, 2, rfl, tb, _, rfl, hSb, fun z => absurd z.2 (show ¬ (HT.sIx 3 3 (some 2) = 3) by decide), fun _ S nS => ?_⟩
            have s1 : Same H3 (upd H3 S (.tup (cutV [V.int c.1, V.int c.2.1, V.int c.2.2] none (some 2)))) := same_upd nS
            refine ⟨_, rfl, _, rfl, (by show 2 ≤ sizeLine; decide), fun S2 nS2 => ?_⟩
            have s2 : Same (upd H3 S (.tup (cutV [V.int c.1, V.int c.2.1, V.int c.2.2] none (some 2)))) (upd (upd H3 S (.tup (cutV [V.int c.1, V.int c.2.1, V.int c.2.2] none (some 2)))) S2 (.tup [.int q0.1, .int q0.2.1])) := same_upd nS2
            refine ⟨.tuple [.int c.1, .int c.2.1], .tuple [.int q0.1, .int q0.2.1], .tup (.inl (.inl (s2 _ _ upd_same))) (.cons (.int _) (.cons (.int _) .nil)), .tup (.inl (.inl upd_same)) (.cons (.int _) (.cons (.int _) .nil)), rfl, rfl, ?_⟩
            rw [eqv2]
            have s12 := s1.trans s2
            generalize upd (upd H3 S (.tup (cutV [V.int c.1, V.int c.2.1, V.int c.2.2] none (some 2)))) S2 (.tup [.int q0.1, .int q0.2.1]) = H4 at s12 ⊢
            by_cases hk : c.1 = q0.1 ∧ c.2.1 = q0.2.1
            · rw [decide_eq_true hk.1, decide_eq_true hk.2]
              refine ⟨.bl true, rfl, true, rfl, ?_⟩
              have i2 : atI [V.int c.1, V.int c.2.1, V.int c.2.2] 2 = some (.int c.2.2) := atI_nat (xs := [V.int c.1, V.int c.2.1, V.int c.2.2]) (j := 2) rfl
              have k1'' := s12 _ _ k1'
              refine ⟨.ref D, rfl, .inl ⟨rfl, _, .inl (.inl k1'')⟩, D, _, .ref tb, rfl, rfl, k1'', by simp, tb, _, 2, _, rfl, rfl, SqT.but k1'' (hSb.ext s12) (But.upd _ _ _), i2, ?_⟩
              have dl : (r.reverse ++ [V.ref tb]).dropLast = r.reverse := List.dropLast_concat
              rw [dl]
              refine ⟨.ref D, rfl, .inl ⟨rfl, _, .inl (.inl upd_same)⟩, _, rfl, _, rfl, _, rfl, _, rfl, c.2.2, q0.2.2, rfl, rfl, (by show 3 ≤ sizeLine; decide), fun R nR => ?_⟩
              obtain ⟨l, xs1, y1, z1, z2, z3, z4, z5⟩ := fin c.2.2 r ra _ R upd_same (by rw [List.length_cons] at k2; omega) (Trs.but k1'' (But.upd _ _ _) (Trs.same s12 k3r)) ((But.of s12).trans (But.upd _ _ _)) (putR_same hk) nR
              exact ⟨l, xs1, y1, z1, z2, z3, z4, ⟨_, _, _, _, _, _, rfl⟩, z5⟩
            · have e : (decide (c.1 = q0.1) && decide (c.2.1 = q0.2.1)) = false := by simpa using hk
              rw [e]
              refine ⟨.bl false, rfl, false, rfl, ?_⟩
              refine ⟨.ref D, rfl, .inl ⟨rfl, _, .inl (.inl (s12 _ _ k1'))⟩, _, rfl, _, rfl, _, rfl, _, rfl, 0, q0.2.2, rfl, rfl, (by show 3 ≤ sizeLine; decide), fun R nR => ?_⟩
              obtain ⟨l, xs1, y1, z1, z2, z3, z4, z5⟩ := fin 0 (.ref tb :: r) (c :: ra) H4 R (s12 _ _ k1) k2 ⟨⟨tb, rfl, hSb.ext s12⟩, Trs.same s12 k3r⟩ (But.of s12) (by rw [Int.zero_add]; exact putR_new hk) nR
              exact ⟨l, xs1, y1, z1, z2, z3, z4, ⟨_, _, _, _, _, _, rfl⟩, z5⟩
      · rintro σ H3 ⟨⟨v2, v3, v4, v5, v6, v7, rfl⟩, bt, bs, acc, k1, k2, k3, k4⟩
        rw [hyl] at k2
        rw [hyl, List.take_length] at k4
        have e3 : Ext H H3 := fun b o z => bt b o (ne_of_none z nD) (by
          rw [upd_ne (ne_of_none (g1 b o (e1 b o z)) np)]
          exact g1 b o (e1 b o z))
        have hbl : bs.length = acc.length := k3.length
        have tot : ∀ u v, amt qs u v = amt (ps.map norm) u v := fun u v => amt_perm hqp
        refine ⟨_, rfl, D, bs.reverse, acc.reverse, rfl, k1, by rw [List.length_reverse, sizeLine_eq]; omega, k3.reverse, fun r hr => ?_, fun H4 s4 => ?_⟩
        · have hr := List.mem_reverse.mp hr
          have h1 := amt_mem (List.pairwise_reverse.mpr k4.desc) (List.mem_reverse.mpr hr)
          rw [amt_perm (List.reverse_perm acc), k4.am, tot] at h1
          have := ham r.1 r.2.1
          omega
        · have k3' := k3.reverse.same s4
          refine ⟨_, rfl, D, rfl, ⟨_, .inl (.inl (s4 _ _ k1))⟩, fun L2 nL2 => ?_⟩
          have hDL2 : D ≠ L2 := ne_of_none (s4 _ _ k1) nL2
          refine lc_list (K := K) (a := D) (xs := bs.reverse) (fun j H5 => Ext H4 H5 ∧ ∃ zs, H5 L2 = some (.lst zs) ∧ Trs K H5 zs ((acc.reverse.take j).filter fun p => decide (0 < p.2.2)) ∧ zs.length ≤ j) ?_ (fun j H5 _ h => .inl (.inl (h.1 _ _ (s4 _ _ k1)))) ?_ ?_
          · exact ⟨fun b o z => by rw [upd_ne (ne_of_none z nL2)]; exact z, [], upd_same, True.intro, Nat.le_refl _⟩
          · rintro j x H5 hx ⟨m1, zs, m2, m3, m4⟩
            obtain ⟨r, hr, t, rfl, hSt⟩ := (k3'.same m1).get hx
            have hjl : j < 4000 := by
              have := (List.getElem?_eq_some_iff.mp hx).1
              rw [List.length_reverse] at this
              omega
            have i2 : atI [V.int r.1, V.int r.2.1, V.int r.2.2] 2 = some (.int r.2.2) := atI_nat (xs := [V.int r.1, V.int r.2.1, V.int r.2.2]) (j := 2) rfl
            refine ⟨rfl, .ref t, rfl, t, _, 2, _, rfl, rfl, hSt, i2, r.2.2, 0, rfl, rfl, _, rfl, ?_⟩
            have htk : acc.reverse.take (j + 1) = acc.reverse.take j ++ [r] := by rw [List.take_add_one, hr]; rfl
            by_cases hpos : 0 < r.2.2
            · rw [show decide ((0 : Int) < r.2.2) = true from decide_eq_true hpos]
              refine ⟨.ref t, rfl, zs, m2, by rw [sizeLine_eq]; omega, fun b o z => ?_, zs ++ [.ref t], upd_same, ?_, by rw [List.length_append, List.length_singleton]; omega⟩
              · rw [upd_ne (ne_of_none z nL2)]
                exact m1 b o z
              · rw [htk, List.filter_append, List.filter_cons_of_pos (by simpa using hpos)]
                exact Trs.append (Trs.but m2 (But.upd _ _ _) m3) ⟨⟨t, rfl, SqT.but m2 hSt (But.upd _ _ _)⟩, True.intro⟩
            · rw [show decide ((0 : Int) < r.2.2) = false from decide_eq_false hpos]
              refine ⟨m1, zs, m2, ?_, by omega⟩
              rw [htk, List.filter_append, List.filter_cons_of_neg (by simpa using hpos), List.filter_nil, List.append_nil]
              exact m3
          · rintro H5 ⟨m1, zs, m2, m3, m4⟩
            rw [show bs.reverse.length = acc.reverse.length by rw [List.length_reverse, List.length_reverse, hbl], List.take_length] at m3
            refine ⟨L2, zs, rfl, .inl ⟨.inl (.inl m2), fun t nt => ?_⟩⟩
            have e5 : Ext H H5 := Ext.trans e3 (Ext.trans s4 m1)
            refine q _ t zs _ (fun b o z => ?_) (Same.free e5 nt) upd_same (m3.same (same_upd nt)) ⟨k4.done.asc, k4.done.mem, fun u v => ?_⟩ (by rw [List.length_reverse] at m4; omega)
            · rw [upd_ne (ne_of_none (e5 b o z) nt)]
              exact e5 b o z
            · rw [k4.done.am, tot]
end
end T27
/-! The numbers of ties by their pairs, and the degrees. -/
namespace T27
open PySem PySem.Spec PyProof.Rows L2 Wk
abbrev sDegrees : Stmt := top 22
/-- the dict of a list of bundles: each pair in both orders -/
def both : List T3 → List (List Key × V)
  | [] => []
  | p :: r => ([.inl p.1, .inl p.2.1], .int p.2.2) :: ([.inl p.2.1, .inl p.1], .int p.2.2) :: both r
/-- the ties between two places -/
def look : List T3 → Int → Int → Option Int
  | [], _, _ => none
  | p :: r, u, v => if (p.1 = u ∧ p.2.1 = v) ∨ (p.2.1 = u ∧ p.1 = v) then some p.2.2 else look r u v
theorem valV_both : ∀ (T : List T3) (u v : Int), valV (both T) [.inl u, .inl v] = (look T u v).map V.int
  | [], _, _ => rfl
  | p :: r, u, v => by
    have ih := valV_both r u v
    unfold valV at ih ⊢
    unfold both look
    by_cases h1 : p.1 = u ∧ p.2.1 = v
    · rw [if_pos (.inl h1), List.find?_cons_of_pos (by simp [h1.1, h1.2])]
      rfl
    · rw [List.find?_cons_of_neg (by
        simp only [decide_eq_true_eq]
        intro e
        injection e with e1 e2
        injection e2 with e2 _
        exact h1 ⟨by injection e1, by injection e2⟩)]
      by_cases h2 : p.2.1 = u ∧ p.1 = v
      · rw [if_pos (.inr h2), List.find?_cons_of_pos (by simp [h2.1, h2.2])]
        rfl
      · rw [if_neg (fun h => h.elim h1 h2), List.find?_cons_of_neg (by
          simp only [decide_eq_true_eq]
          intro e
          injection e with e1 e2
          injection e2 with e2 _
          exact h2 ⟨by injection e1, by injection e2⟩)]
        exact ih
def deg (T : List T3) (n : Nat) (u : Int) : Int := ((List.range n).map fun (v : Nat) => (look T u (v : Int)).getD 0).sum
def degs (T : List T3) (n : Nat) : List Int := (List.range n).map fun (u : Nat) => deg T n (u : Int)
def spDegrees : Sp := fun vs H Q _ => ∃ (n : Nat) (d : Addr) (T : List T3), vs = [.int (n : Int), .ref d] ∧ n ≤ 60 ∧ H d = some (.dT (both T)) ∧ ∀ H' g, Same H H' → H g = none → H' g = some (.tup ((degs T n).map V.int)) → Q (.ref g) H'
theorem scDe : FnScope ["size", "numbers", "u", "v"] ["size", "numbers"] (defScope sDegrees) := ⟨rfl, rfl, rfl, by decide +kernel, rfl, by decide +kernel, by decide +kernel⟩
theorem sum_look (T : List T3) (n : Nat) (u : Int) : ((List.range n).filterMap fun (v : Nat) => look T u (v : Int)).sum = deg T n u := by
  unfold deg
  induction List.range n with
  | nil => rfl
  | cons v l ih =>
    rw [List.map_cons, List.sum_cons, ← ih]
    cases h : look T u (v : Int) with
    | none => rw [List.filterMap_cons_none (f := fun (v : Nat) => look T u (v : Int)) h]; simp
    | some z => rw [List.filterMap_cons_some (f := fun (v : Nat) => look T u (v : Int)) h, List.sum_cons]; rfl
section
variable {P : Program} {w : World} {K : PySem.W.Frag} {mg : Str → Option Value} {base : Heap}
theorem ok_degrees {f : Addr} {fd : FuncData} {k : Nat} (F : Fun K "_degrees" "_degrees" sDegrees f fd) (mt : mg "tuple" = none) (ms : mg "sum" = none) (mr : mg "range" = none) : FnOk P w K mg base CX0 (k + 1) f fd ["size", "numbers"] spDegrees := by
  refine F.ok scDe (fun vs H Q E h => ?_) (fun cdv A outer s H vs Q E hr h => ?_)
  · obtain ⟨n, d, T, rfl, _⟩ := h
    rfl
  · obtain ⟨n, d, T, rfl, hn, hd, q⟩ := h
    have hu := hu_of hr
    refine ⟨_, pss_one (ps_ret (pe_callTy call_tuple_of (by rfl) mt (by decide +kernel) (pa_cons
      (pe_lc (own := [("u", 2)]) (g := gName 2) (tt := tYes) rfl scDe.nd (pi_range1 (by rfl) mr (pa_cons (pv 0) pa_nil)) (blkOk_by (N := ["size", "numbers", "u", "v"]) (sc := defScope sDegrees) (by decide +kernel))
        (fun _ _ _ _ _ => pg_name (i := 2) scDe.nd rfl (Or.inr rfl)) (fun _ _ _ _ _ => pts_nil)
        (fun _ _ _ _ _ => pe_callB (r := rSum K) (cr_sum rfl) (by rfl) ms (by decide +kernel) (pa_cons
          (pe_lc (own := [("v", 3)]) (g := gName 3) rfl scDe.nd (pi_range1 (by rfl) mr (pa_cons (pv 0) pa_nil)) (blkOk_by (N := ["size", "numbers", "u", "v"]) (show blkC _ (relS _ (defScope sDegrees)) _ _ = true by decide +kernel))
            (fun _ _ _ _ _ => pg_name (i := 3) scDe.nd rfl (Or.inl rfl)) (fun _ _ _ _ _ => pts_one (pt_cmp (pc_din hu (pe_tup (pa_cons (pv 2) (pa_cons (pv 3) pa_nil))) (pv 1))))
            (fun _ _ _ _ _ => pe_dget hu (pv 1) (pe_tup (pa_cons (pv 2) (pa_cons (pv 3) pa_nil))) (fun _ _ => rfl))) pa_nil))) pa_nil))), ?_⟩
    have en : ((n : Int)).toNat = n := Int.toNat_natCast n
    refine ⟨.int n, rfl, (n : Int), rfl, by omega, by omega, ?_⟩
    rw [en]
    intro D nD
    refine lc_it walk_range (fun i H2 => Ext H H2 ∧ H2 D = some (.lst (((degs T n).take i).map V.int))) ⟨fun b o z => by rw [upd_ne (ne_of_none z nD)]; exact z, upd_same⟩ (fun _ _ _ _ => True.intro) ?_ ?_
    · rintro i x H2 H3 hi ⟨g1, g2⟩ ⟨rfl, rfl⟩
      refine ⟨rfl, .int n, rfl, (n : Int), rfl, by omega, by omega, ?_⟩
      rw [en]
      intro D2 nD2
      have hD2 : D ≠ D2 := ne_of_none g2 nD2
      refine lc_it walk_range (fun j H4 => Ext H3 H4 ∧ H4 D2 = some (.lst (((List.range j).filterMap fun (v : Nat) => look T (i : Int) (v : Int)).map V.int))) ⟨fun b o z => by rw [upd_ne (ne_of_none z nD2)]; exact z, upd_same⟩ (fun _ _ _ _ => True.intro) ?_ ?_
      · rintro j x H4 H5 hj ⟨m1, m2⟩ ⟨rfl, rfl⟩
        refine ⟨rfl, _, rfl, _, rfl, (by show 2 ≤ sizeLine; decide), fun R nR => ?_⟩
        have sR : Same H5 (upd H5 R (.tup [.int (0 + (i : Int)), .int (0 + (j : Int))])) := same_upd nR
        have hd5 := sR _ _ (m1 _ _ (g1 _ _ hd))
        have e : valV (both T) [.inl (0 + (i : Int)), .inl (0 + (j : Int))] = (look T (i : Int) (j : Int)).map V.int := by rw [valV_both, Int.zero_add, Int.zero_add]
        refine ⟨.ref d, rfl, d, _, rfl, DGet.t (k := [.inl (0 + (i : Int)), .inl (0 + (j : Int))]) hd5 upd_same, ?_⟩
        have hlen : ∀ (f : Nat → Option Int) (j : Nat), ((List.range j).filterMap f).length ≤ j := fun f j => by
          have := List.length_filterMap_le f (List.range j)
          rwa [List.length_range] at this
        rw [e]
        cases hl : look T (i : Int) (j : Int) with
        | none =>
          refine ⟨_, rfl, fun b o z => by exact sR _ _ (m1 b o z), ?_⟩
          rw [sR _ _ m2, List.range_succ, List.filterMap_append]
          simp [hl]
        | some z0 =>
          refine ⟨_, rfl, .ref d, rfl, _, rfl, _, rfl, (by show 2 ≤ sizeLine; decide), fun R2 nR2 => ?_⟩
          have sR2 : Same (upd H5 R (.tup [.int (0 + (i : Int)), .int (0 + (j : Int))])) (upd (upd H5 R (.tup [.int (0 + (i : Int)), .int (0 + (j : Int))])) R2 (.tup [.int (0 + (i : Int)), .int (0 + (j : Int))])) := same_upd nR2
          have e2 := DGet.t (k := [.inl (0 + (i : Int)), .inl (0 + (j : Int))]) (sR2 _ _ hd5) (upd_same (H := upd H5 R (.tup [.int (0 + (i : Int)), .int (0 + (j : Int))])) (a := R2) (o := .tup [.int (0 + (i : Int)), .int (0 + (j : Int))]))
          rw [e, hl] at e2
          refine ⟨d, _, rfl, e2, _, sR2 _ _ (sR _ _ m2), ?_, fun b o z => ?_, ?_⟩
          · rw [List.length_map, sizeLine_eq]
            have := hlen (fun (v : Nat) => look T (i : Int) (v : Int)) j
            omega
          · rw [upd_ne (ne_of_none z nD2)]
            exact sR2 _ _ (sR _ _ (m1 b o z))
          · rw [upd_same, List.range_succ, List.filterMap_append]
            simp [hl]
      · rintro H4 ⟨m1, m2⟩
        refine ⟨D2, _, rfl, .inl (.inl m2), _, m1 _ _ g2, ?_, ?_, ?_⟩
        · rw [List.length_map, List.length_take, sizeLine_eq]
          omega
        · intro b o z
          rw [upd_ne (ne_of_none z nD)]
          exact m1 _ _ (g1 b o z)
        · have hi' : i < (degs T n).length := by unfold degs; rw [List.length_map, List.length_range]; exact hi
          have ei : (degs T n)[i]? = some (deg T n (i : Int)) := by
            unfold degs
            rw [List.getElem?_map, List.getElem?_range hi]
            rfl
          rw [upd_same, List.take_add_one, ei, List.map_append, sum_look]
          rfl
    · rintro H2 ⟨g1, g2⟩
      refine ⟨D, _, rfl, .inl ⟨.inl (.inl g2), fun g ng => ?_⟩⟩
      rw [List.take_of_length_le (by unfold degs; rw [List.length_map, List.length_range]; exact Nat.le_refl _)]
      exact q _ g (fun b o z => by rw [upd_ne (ne_of_none (g1 b o z) ng)]; exact g1 b o z) (Same.free g1 ng) upd_same
end
end T27
/-! The readings of a dict comprehension with two clauses, both over tuples that stay. -/
namespace Wk
open PySem PySem.Spec PyProof.Rows L2
theorem dc2_tup {K : PySem.W.Frag} {a : Addr} {xs : List V} {g : TG} {wi1 : TI} {g1 : TG} {tk tv : TE} {vs vs1 : List Nat} {σ : L2.St} {H1 : Hp} {D : Addr} {Qd : Hp → Prop} (Pv : Nat → Hp → Prop) (h0 : Pv 0 (upd H1 D (.dT []))) (hl : ∀ i H, i ≤ xs.length → Pv i H → SqT K H a xs)
    (hs : ∀ i x H, xs[i]? = some x → Pv i H → g x (wipe σ vs) H fun σ2 H2 => wipe σ2 vs = wipe σ vs ∧ tDcIn wi1 g1 tk tv vs1 D (Pv (i + 1)) σ2 H2) (hd : ∀ H, Pv xs.length H → Qd H) :
    ∃ W : Nat → Nat → Hp → Prop, (∃ m, W 0 m (upd H1 D (.dT []))) ∧ ∀ i m H, W i m H →
      ((Itt K a).stop i H ∧ Qd H) ∨ ((Itt K a).go i H ∧ ∃ Nx : Hp → Prop, (∀ H', Nx H' → ∃ m', m' < m ∧ W (i + 1) m' H') ∧ ∀ x H', (Itt K a).yld i H x H' → g x (wipe σ vs) H' fun σ2 H2 => wipe σ2 vs = wipe σ vs ∧ tDcIn wi1 g1 tk tv vs1 D Nx σ2 H2) := by
  refine ⟨fun i m H => m = xs.length - i ∧ i ≤ xs.length ∧ Pv i H, ⟨xs.length, by simp, Nat.zero_le _, h0⟩, ?_⟩
  rintro i m H ⟨rfl, hi, p⟩
  have q := hl i H hi p
  by_cases hlt : i < xs.length
  · exact .inr ⟨walk_tup.goes i H hlt q, Pv (i + 1), fun H' p' => ⟨xs.length - (i + 1), by omega, rfl, hlt, p'⟩, fun x H' y => by
      obtain ⟨rfl, hx⟩ := walk_tup.yields i H x H' hlt q y
      exact hs i x _ hx p⟩
  · obtain rfl : i = xs.length := by omega
    exact .inl ⟨walk_tup.stops H q, hd H p⟩
theorem dc2_in {K : PySem.W.Frag} {a : Addr} {xs : List V} {g1 : TG} {tk tv : TE} {vs1 : List Nat} {σ2 : L2.St} {H4 : Hp} {D : Addr} {Nx : Hp → Prop} (Pv : Nat → Hp → Prop) (h0 : Pv 0 H4) (hl : ∀ i H, i ≤ xs.length → Pv i H → SqT K H a xs)
    (hs : ∀ i x H, xs[i]? = some x → Pv i H → g1 x (wipe σ2 vs1) H fun σ3 H5 => wipe σ3 vs1 = wipe σ2 vs1 ∧ tk σ3 H5 fun y H6 => tv σ3 H6 fun z H7 => ∃ (kvs : List (List Key × V)) (q : List Key) (b : Addr), y = .ref b ∧ H7 b = some (.tup (q.map kV)) ∧ H7 D = some (.dT kvs) ∧ kvs.length < sizeLine ∧ Pv (i + 1) (upd H7 D (.dT (putK kvs q z))))
    (hd : ∀ H, Pv xs.length H → Nx H) :
    ∃ W1 : Nat → Nat → Hp → Prop, (∃ m, W1 0 m H4) ∧ ∀ j k H, W1 j k H → ((Itt K a).stop j H ∧ Nx H) ∨ ((Itt K a).go j H ∧ ∃ Nx1 : Hp → Prop, (∀ H', Nx1 H' → ∃ k', k' < k ∧ W1 (j + 1) k' H') ∧ ∀ x H', (Itt K a).yld j H x H' → g1 x (wipe σ2 vs1) H' fun σ3 H5 => wipe σ3 vs1 = wipe σ2 vs1 ∧
      tk σ3 H5 fun y H6 => tv σ3 H6 fun z H7 => ∃ (kvs : List (List Key × V)) (q : List Key) (b : Addr), y = .ref b ∧ H7 b = some (.tup (q.map kV)) ∧ H7 D = some (.dT kvs) ∧ kvs.length < sizeLine ∧ Nx1 (upd H7 D (.dT (putK kvs q z)))) := by
  refine ⟨fun i m H => m = xs.length - i ∧ i ≤ xs.length ∧ Pv i H, ⟨xs.length, by simp, Nat.zero_le _, h0⟩, ?_⟩
  rintro i m H ⟨rfl, hi, p⟩
  have q := hl i H hi p
  by_cases hlt : i < xs.length
  · exact .inr ⟨walk_tup.goes i H hlt q, Pv (i + 1), fun H' p' => ⟨xs.length - (i + 1), by omega, rfl, hlt, p'⟩, fun x H' y => by
      obtain ⟨rfl, hx⟩ := walk_tup.yields i H x H' hlt q y
      exact hs i x _ hx p⟩
  · obtain rfl : i = xs.length := by omega
    exact .inl ⟨walk_tup.stops H q, hd H p⟩
end Wk
/-! The constructor of a web. -/
namespace T27
open PySem PySem.Spec PyProof.Rows L2 Wk
abbrev sInit : Stmt := inClass (top 15) 0
/-- what the text says of the class -/
structure TxtW (K : PySem.W.Frag) (mg : Str → Option Value) (C : Addr) : Prop where
  cl : Cls K C
  n1 : NoAttr K C "size"
  n2 : NoAttr K C "ties"
  n3 : NoAttr K C "total"
  n4 : NoAttr K C "_numbers"
  n5 : NoAttr K C "degrees"
  msum : mg "sum" = none
def total (T : List T3) : Int := (T.map fun p => p.2.2).sum
/-- a web stands at w -/
structure WebAt (K : PySem.W.Frag) (C : Addr) (H : Hp) (w : Addr) (n : Nat) (T : List T3) : Prop where
  ex : ∃ dx t ys d g, H w = some (.ins C dx [("size", .int (n : Int)), ("ties", .ref t), ("total", .int (total T)), ("_numbers", .ref d), ("degrees", .ref g)]) ∧ H t = some (.tup ys) ∧ Trs K H ys T ∧ H d = some (.dT (both T)) ∧ H g = some (.tup ((degs T n).map V.int))
theorem WebAt.same {K : PySem.W.Frag} {C : Addr} {H H' : Hp} {w : Addr} {n : Nat} {T : List T3} (h : WebAt K C H w n T) (s : Same H H') : WebAt K C H' w n T := by
  obtain ⟨dx, t, ys, d, g, h1, h2, h3, h4, h5⟩ := h.ex
  exact ⟨dx, t, ys, d, g, s _ _ h1, s _ _ h2, h3.same s, s _ _ h4, s _ _ h5⟩
def spInit (K : PySem.W.Frag) (C : Addr) : Sp := fun vs H Q _ => ∃ (w : Addr) (n : Nat) (a dx : Addr) (xs : List V) (ps : List T3), vs = [.ref w, .int (n : Int), .ref a] ∧ H w = some (.ins C dx []) ∧ n ≤ 60 ∧ SqS K H a xs ∧ Trs K H xs ps ∧ ps.length < 4000 ∧
  (∀ p ∈ ps, tieB p.1 p.2.1 p.2.2 (n : Int) = true) ∧ (∀ u v, amt (ps.map norm) u v ≤ 1000000000) ∧
  ∀ H' T, But w H H' → TiesOf (n : Int) (amt (ps.map norm)) T → WebAt K C H' w n T → Q .non H'
theorem scIn : FnScope ["self", "size", "ties", "tie", "u", "v", "number", "pair"] ["self", "size", "ties"] (defScope sInit) := ⟨rfl, rfl, rfl, by decide +kernel, rfl, by decide +kernel, by decide +kernel⟩
theorem SqT.butW {K : PySem.W.Frag} {H H' : Hp} {D t C dx : Addr} {fs : List (Str × V)} {xs : List V} (hD : H D = some (.ins C dx fs)) (h : SqT K H t xs) (b : But D H H') : SqT K H' t xs := by
  rcases h with (h | ⟨o, h⟩) | h
  · exact .inl (.inl (b t _ (fun e => by rw [e, hD] at h; cases h) h))
  · exact .inl (.inr ⟨o, b t _ (fun e => by rw [e, hD] at h; cases h) h⟩)
  · exact .inr h
theorem SqL.butW {K : PySem.W.Frag} {H H' : Hp} {D t C dx : Addr} {fs : List (Str × V)} {xs : List V} (hD : H D = some (.ins C dx fs)) (h : SqL K H t xs) (b : But D H H') : SqL K H' t xs := by
  rcases h with (h | ⟨o, h⟩) | h
  · exact .inl (.inl (b t _ (fun e => by rw [e, hD] at h; cases h) h))
  · exact .inl (.inr ⟨o, b t _ (fun e => by rw [e, hD] at h; cases h) h⟩)
  · exact .inr h
theorem Trs.butW {K : PySem.W.Frag} {H H' : Hp} {D C dx : Addr} {fs : List (Str × V)} (hD : H D = some (.ins C dx fs)) (b : But D H H') : ∀ {xs : List V} {ps : List T3}, Trs K H xs ps → Trs K H' xs ps
  | [], [], _ => True.intro
  | _ :: _, _ :: _, h => ⟨let ⟨t, e, q⟩ := h.1; ⟨t, e, SqT.butW hD q b⟩, Trs.butW hD b h.2⟩
  | [], _ :: _, h => h.elim
  | _ :: _, [], h => h.elim
abbrev F1 (x : V) : List (Str × V) := [(("size" : Str), x)]
abbrev F2 (x y : V) : List (Str × V) := [(("size" : Str), x), (("ties" : Str), y)]
abbrev F3 (x y z : V) : List (Str × V) := [(("size" : Str), x), (("ties" : Str), y), (("total" : Str), z)]
abbrev F4 (x y z u : V) : List (Str × V) := [(("size" : Str), x), (("ties" : Str), y), (("total" : Str), z), (("_numbers" : Str), u)]
abbrev F5 (x y z u v : V) : List (Str × V) := [(("size" : Str), x), (("ties" : Str), y), (("total" : Str), z), (("_numbers" : Str), u), (("degrees" : Str), v)]
theorem pf1 (x : V) : putF "size" x [] = F1 x := rfl
theorem pf2 (x y : V) : putF "ties" y (F1 x) = F2 x y := by kernel_rfl
theorem pf3 (x y z : V) : putF "total" z (F2 x y) = F3 x y z := by kernel_rfl
theorem pf4 (x y z u : V) : putF "_numbers" u (F3 x y z) = F4 x y z u := by kernel_rfl
theorem pf5 (x y z u v : V) : putF "degrees" v (F4 x y z u) = F5 x y z u v := by kernel_rfl
theorem lk2 (x y : V) : (F2 x y).lookup ("ties" : Str) = some y := by kernel_rfl
theorem lk3 (x y z : V) : (F3 x y z).lookup ("ties" : Str) = some y := by kernel_rfl
theorem lk4 (x y z u : V) : (F4 x y z u).lookup ("_numbers" : Str) = some u := by kernel_rfl
theorem both_append : ∀ (l m : List T3), both (l ++ m) = both l ++ both m
  | [], _ => rfl
  | p :: r, m => by
    show _ :: _ :: both (r ++ m) = _
    rw [both_append r m]
    rfl
theorem both_length : ∀ l : List T3, (both l).length = 2 * l.length
  | [] => rfl
  | p :: r => by
    show (both r).length + 1 + 1 = 2 * (r.length + 1)
    rw [both_length r]
    omega
theorem both_any : ∀ {l : List T3} {u v : Int}, (∀ p ∈ l, ¬ (p.1 = u ∧ p.2.1 = v) ∧ ¬ (p.2.1 = u ∧ p.1 = v)) → ((both l).any fun kv => decide (kv.1 = ([.inl u, .inl v] : List Key))) = false
  | [], _, _, _ => rfl
  | p :: r, u, v, h => by
    obtain ⟨h1, h2⟩ := h p List.mem_cons_self
    have ih := both_any (l := r) (u := u) (v := v) fun q hq => h q (List.mem_cons_of_mem _ hq)
    have e1 : ¬ (([.inl p.1, .inl p.2.1] : List Key) = [.inl u, .inl v]) := fun e => by
      injection e with e1 e2
      injection e2 with e2 _
      exact h1 ⟨by injection e1, by injection e2⟩
    have e2 : ¬ (([.inl p.2.1, .inl p.1] : List Key) = [.inl u, .inl v]) := fun e => by
      injection e with e1 e2
      injection e2 with e2 _
      exact h2 ⟨by injection e1, by injection e2⟩
    unfold both
    rw [List.any_cons, List.any_cons, ih, decide_eq_false e1, decide_eq_false e2]
    rfl
theorem putK_new {kvs : List (List Key × V)} {k : List Key} {v : V} (h : (kvs.any fun kv => decide (kv.1 = k)) = false) : putK kvs k v = kvs ++ [(k, v)] := by
  unfold putK
  rw [h]
  rfl
section
variable {P : Program} {w : World} {K : PySem.W.Frag} {mg : Str → Option Value} {base : Heap}
/-- a def with defaults, by its body -/
theorem okD {x qual : Str} {params : Arguments} {body : List Stmt} {scope : Scope} {dvs : List V} {kws : List (Str × V)} {f : Addr} {fd : FuncData} {N ps : List Str} {k : Nat} {sp : Sp} (F : FunD K x qual params body scope dvs kws f fd) (S : FnScope N ps scope)
    (len : ∀ vs H Q E, sp vs H Q E → vs.length = ps.length) (hb : ∀ (cdv : Value) (A : Around) (outer : List Env) (s : Shared) (H : Hp) (vs : List V) (Q : VK) (E : XK), Room k (A.deeper (envOfC qual scope s.heap.objs.size f cdv)) → sp vs H Q E →
      ∃ t, PSs (cxOf CX0 P w K mg base N qual scope f cdv A outer s H E).nox body t ∧ t { nx := fun _ H' => Q .non H', rt := Q } (start N vs) H) : FnOk P w K mg base CX0 (k + 1) f fd ps sp :=
  FunD.ok F S len fun cdv A outer s H vs Q E hr h => let ⟨t, h, q⟩ := hb cdv A outer s H vs Q E hr h; ⟨t, h.nox, q⟩
theorem ok_init {C f fn fb fg aE : Addr} {fd fdn fdb fdg : FuncData} {k : Nat} (F : FunD K "__init__" "Web.__init__" (defArgs sInit) (defBody sInit) (defScope sInit) [.ref aE] [] f fd) (T : TxtW K mg C) (GN : FnOk P w K mg base CX0 k fn fdn ["size", "ties"] (spNeed K)) (gN : mg "_need_arguments" = some (.ref fn)) (kN : PySem.W.keepIn K (.ref fn) = true) (bN : Binds K fdn ["size", "ties"] [])
    (GB : FnOk P w K mg base CX0 k fb fdb ["ties"] (spBundles K)) (gB : mg "_bundles" = some (.ref fb)) (kB : PySem.W.keepIn K (.ref fb) = true) (bB : Binds K fdb ["ties"] [])
    (GD : FnOk P w K mg base CX0 k fg fdg ["size", "numbers"] spDegrees) (gD : mg "_degrees" = some (.ref fg)) (kD : PySem.W.keepIn K (.ref fg) = true) (bD : Binds K fdg ["size", "numbers"] []) :
    FnOk P w K mg base CX0 (k + 1) f fd ["self", "size", "ties"] (spInit K C) := by
  refine okD F scIn (fun vs H Q E h => ?_) (fun cdv A outer s H vs Q E hr h => ?_)
  · obtain ⟨w, n, a, dx, xs, ps, rfl, _⟩ := h
    rfl
  · obtain ⟨w, n, a, dx, xs, ps, rfl, hw, hn, hS, hT, h64, hv, ham, q⟩ := h
    have hu := hu_of hr
    refine ⟨_, pss_cons (ps_expr (pe_call GN hr rfl gN kN bN .nil pass0 (pa_cons (pv 1) (pa_cons (pv 2) pa_nil))))
      (pss_cons (ps_fld (pv 0) (pv 1) rfl)
      (pss_cons (ps_fld (pv 0) (pe_call GB hr rfl gB kB bB .nil pass0 (pa_cons (pv 2) pa_nil)) rfl)
      (pss_cons (ps_fld (pv 0) (pe_callB (r := rSum K) (cr_sum rfl) (by rfl) T.msum (by decide +kernel) (pa_cons
        (pe_lc (own := [("tie", 3)]) (g := gName 3) (tt := tYes) rfl scIn.nd (pi_tup (pe_fld (pv 0) rfl)) (blkOk_by (N := ["self", "size", "ties", "tie", "u", "v", "number", "pair"]) (sc := defScope sInit) (by decide +kernel))
          (fun _ _ _ _ _ => pg_name (i := 3) scIn.nd rfl (Or.inl rfl)) (fun _ _ _ _ _ => pts_nil) (fun _ _ _ _ _ => pe_ix (r := rIxT K) ix_tup (pv 3) pe_int (fun _ _ => rfl))) pa_nil)) rfl)
      (pss_cons (ps_fld (pv 0) (pe_dc2 (own := [("u", 4), ("v", 5), ("number", 6), ("pair", 7)]) (vs1 := [7]) (g := gTup K 3 (gCons (gName 4) (gCons (gName 5) (gCons (gName 6) gNil)))) (g1 := gName 7) (wi1 := iTup K (tTup (tCons (tTup (tCons (tVar 4) (tCons (tVar 5) tNil))) (tCons (tTup (tCons (tVar 5) (tCons (tVar 4) tNil))) tNil))))
          rfl (Nat.lt_of_succ_lt hu) scIn.nd (pi_tup (pe_fld (pv 0) rfl)) (blkOk_by (N := ["self", "size", "ties", "tie", "u", "v", "number", "pair"]) (sc := defScope sInit) (by decide +kernel)) (by decide)
          (fun _ _ _ _ _ => pg_tup rfl (pgs_cons (pg_name (i := 4) scIn.nd rfl (Or.inl rfl)) (pgs_cons (pg_name (i := 5) scIn.nd rfl (Or.inl rfl)) (pgs_cons (pg_name (i := 6) scIn.nd rfl (Or.inl rfl)) pgs_nil))))
          (fun _ _ _ _ _ => pi_tup (pe_tup (pa_cons (pe_tup (pa_cons (pv 4) (pa_cons (pv 5) pa_nil))) (pa_cons (pe_tup (pa_cons (pv 5) (pa_cons (pv 4) pa_nil))) pa_nil))))
          (fun _ _ _ _ _ => pg_name (i := 7) scIn.nd rfl (Or.inl rfl)) (fun _ _ _ _ _ => pv 7) (fun _ _ _ _ _ => pv 6)) rfl)
      (pss_one (ps_fld (pv 0) (pe_call GD hr rfl gD kD bD .nil pass0 (pa_cons (pv 1) (pa_cons (pe_fld (pv 0) rfl) pa_nil))) rfl)))))), ?_⟩
    refine ⟨_, rfl, _, rfl, (n : Int), a, xs, ps, rfl, by omega, by omega, hS, hT, hv, fun H1 s1 => ?_⟩
    have hw1 := s1 _ _ hw
    refine ⟨_, rfl, .ref w, rfl, w, C, dx, [], rfl, hw1, T.cl, T.n1, (by show 0 < 1000; decide), ?_⟩
    rw [pf1]
    have b2 : But w H1 (upd H1 w (.ins C dx (F1 (.int (n : Int))))) := But.upd _ _ _
    have hS2 : SqS K (upd H1 w (.ins C dx (F1 (.int (n : Int))))) a xs := (hS.ext s1).elim (fun h => .inl (SqL.butW hw1 h b2)) fun h => .inr (SqT.butW hw1 h b2)
    refine ⟨_, rfl, (n : Int), a, xs, ps, rfl, by omega, hS2, Trs.butW hw1 b2 (hT.same s1), h64, hv, ham, fun H3 t ys TT s3 nt ht hTr hTi hy64 => ?_⟩
    have hw3 := s3 _ _ upd_same
    have hwt : w ≠ t := ne_of_none upd_same nt
    refine ⟨.ref w, rfl, w, C, dx, _, rfl, hw3, T.cl, T.n2, (by show 1 < 1000; decide), ?_⟩
    rw [pf2]
    have b4 : But w H3 (upd H3 w (.ins C dx (F2 (.int (n : Int)) (.ref t)))) := But.upd _ _ _
    have hTr4 := Trs.butW hw3 b4 hTr
    have ht4 : (upd H3 w (.ins C dx (F2 (.int (n : Int)) (.ref t)))) t = some (.tup ys) := b4 _ _ (Ne.symm hwt) ht
    have b04 : But w H (upd H3 w (.ins C dx (F2 (.int (n : Int)) (.ref t)))) := (But.of s1).trans (b2.trans ((But.of s3).trans b4))
    have hw4 : (upd H3 w (.ins C dx (F2 (.int (n : Int)) (.ref t)))) w = some (.ins C dx (F2 (.int (n : Int)) (.ref t))) := upd_same
    generalize upd H3 w (.ins C dx (F2 (.int (n : Int)) (.ref t))) = H4 at hTr4 ht4 b04 hw4 ⊢
    -- the total
    have hyl : ys.length = TT.length := hTr4.length
    have hTl : ys.length < sizeLine := by rw [sizeLine_eq]; omega
    refine ⟨.ref w, rfl, w, C, dx, _, _, rfl, hw4, T.cl, T.n2, lk2 _ _, t, rfl, ⟨ys, .inl (.inl ht4)⟩, fun D nD => ?_⟩
    have hDt : t ≠ D := ne_of_none ht4 nD
    refine lc_tup (K := K) (a := t) (xs := ys) (fun i H5 => Ext H4 H5 ∧ H5 D = some (.lst (((TT.take i).map fun p => p.2.2).map V.int))) ⟨fun b o z => by rw [upd_ne (ne_of_none z nD)]; exact z, upd_same⟩ (fun i H5 _ h => .inl (.inl (h.1 _ _ ht4))) ?_ ?_
    · rintro i x H5 hx ⟨m1, m2⟩
      obtain ⟨p, hp, t', rfl, hSt⟩ := (hTr4.same m1).get hx
      have hi := (List.getElem?_eq_some_iff.mp hx).1
      have i2 : atI [V.int p.1, V.int p.2.1, V.int p.2.2] 2 = some (.int p.2.2) := atI_nat (xs := [V.int p.1, V.int p.2.1, V.int p.2.2]) (j := 2) rfl
      refine ⟨rfl, _, rfl, t', _, 2, _, rfl, rfl, hSt, i2, _, m2, ?_, fun b o z => ?_, ?_⟩
      · rw [List.length_map, List.length_map, List.length_take]
        omega
      · rw [upd_ne (ne_of_none z nD)]
        exact m1 b o z
      · rw [upd_same, List.take_add_one, hp, List.map_append, List.map_append]
        rfl
    rintro H5 ⟨m1, m2⟩
    rw [hyl, List.take_length] at m2
    refine ⟨D, _, rfl, .inl (.inl m2), .ref w, rfl, w, C, dx, _, rfl, m1 _ _ hw4, T.cl, T.n3, (by show 2 < 1000; decide), ?_⟩
    rw [pf3]
    have b6 : But w H5 (upd H5 w (.ins C dx (F3 (.int (n : Int)) (.ref t) (.int (TT.map fun p => p.2.2).sum)))) := But.upd _ _ _
    have hw5 := m1 _ _ hw4
    have hTr6 := Trs.butW hw5 b6 (hTr4.same m1)
    have hwt' : t ≠ w := Ne.symm hwt
    have ht6 := b6 _ _ hwt' (m1 _ _ ht4)
    have b06 := b04.trans ((But.of m1).trans b6)
    have hw6 : (upd H5 w (.ins C dx (F3 (.int (n : Int)) (.ref t) (.int (TT.map fun p => p.2.2).sum)))) w = some (.ins C dx (F3 (.int (n : Int)) (.ref t) (.int (TT.map fun p => p.2.2).sum))) := upd_same
    generalize upd H5 w (.ins C dx (F3 (.int (n : Int)) (.ref t) (.int (TT.map fun p => p.2.2).sum))) = H6 at hTr6 ht6 b06 hw6 ⊢
    -- the numbers by their pairs
    refine ⟨.ref w, rfl, w, C, dx, _, _, rfl, hw6, T.cl, T.n2, lk3 _ _ _, t, rfl, ⟨ys, .inl (.inl ht6)⟩, fun D2 nD2 => ?_⟩
    refine dc2_tup (K := K) (a := t) (xs := ys) (fun i H => Ext H6 H ∧ H D2 = some (.dT (both (TT.take i)))) ⟨fun b o z => by rw [upd_ne (ne_of_none z nD2)]; exact z, upd_same⟩ (fun i H _ h => .inl (.inl (h.1 _ _ ht6))) ?_ ?_
    · rintro i x H7 hx ⟨r1, r2⟩
      obtain ⟨p, hp, t', rfl, hSt⟩ := (hTr6.same r1).get hx
      have hi : i < TT.length := (List.getElem?_eq_some_iff.mp hp).1
      have hpe : TT[i] = p := (List.getElem?_eq_some_iff.mp hp).2
      have hpm := hTi.mem p (List.mem_of_getElem? hp)
      have hlt : ∀ q ∈ TT.take i, lt2 q p := fun q hq => by
        obtain ⟨j, hj, rfl⟩ := List.mem_iff_getElem.mp hq
        rw [List.length_take] at hj
        have := List.pairwise_iff_getElem.mp hTi.asc j i (by omega) hi (by omega)
        rw [List.getElem_take]
        rwa [hpe] at this
      have hq : ∀ q ∈ TT.take i, q.1 < q.2.1 := fun q hq => (hTi.mem q (List.mem_of_mem_take hq)).2.1
      have htk : TT.take (i + 1) = TT.take i ++ [p] := by rw [List.take_add_one, hp]; rfl
      have hbl : (both (TT.take i)).length < 8200 := by rw [both_length, List.length_take]; omega
      have hbig : 100000 < sizeLine := by rw [sizeLine_eq]; decide
      refine ⟨t', _, rfl, hSt, rfl, _, _, rfl, _, _, rfl, _, _, rfl, rfl, rfl, ?_⟩
      refine ⟨_, rfl, _, rfl, (by show 2 ≤ sizeLine; decide), fun A1 n1 => ?_⟩
      refine ⟨_, rfl, _, rfl, (by show 2 ≤ sizeLine; decide), fun A2 n2 => ⟨(by show 2 ≤ sizeLine; decide), fun A3 n3 => ?_⟩⟩
      have q1 := same_upd (o := .tup [.int p.1, .int p.2.1]) n1
      have q2 := same_upd (o := .tup [.int p.2.1, .int p.1]) n2
      have q3 := same_upd (o := .tup [.ref A1, .ref A2]) n3
      have a1 := q3 _ _ (q2 _ _ (upd_same (H := H7) (a := A1) (o := .tup [.int p.1, .int p.2.1])))
      have a2 := q3 _ _ (upd_same (H := upd H7 A1 (.tup [.int p.1, .int p.2.1])) (a := A2) (o := .tup [.int p.2.1, .int p.1]))
      have d3 := q3 _ _ (q2 _ _ (q1 _ _ r2))
      have e13 : Ext H7 (upd (upd (upd H7 A1 (.tup [.int p.1, .int p.2.1])) A2 (.tup [.int p.2.1, .int p.1])) A3 (.tup [.ref A1, .ref A2])) := Ext.trans q1 (Ext.trans q2 q3)
      have a3 : (upd (upd (upd H7 A1 (.tup [.int p.1, .int p.2.1])) A2 (.tup [.int p.2.1, .int p.1])) A3 (.tup [.ref A1, .ref A2])) A3 = some (.tup [.ref A1, .ref A2]) := upd_same
      generalize upd (upd (upd H7 A1 (.tup [.int p.1, .int p.2.1])) A2 (.tup [.int p.2.1, .int p.1])) A3 (.tup [.ref A1, .ref A2]) = H8 at a1 a2 a3 d3 e13 ⊢
      have hA1 : A1 ≠ D2 := fun e => by rw [e, d3] at a1; cases a1
      have hA2 : A2 ≠ D2 := fun e => by rw [e, d3] at a2; cases a2
      have hA3 : A3 ≠ D2 := fun e => by rw [e, d3] at a3; cases a3
      refine ⟨A3, rfl, ⟨_, .inl (.inl a3)⟩, ?_⟩
      refine dc2_in (K := K) (a := A3) (xs := [.ref A1, .ref A2]) (fun j H => But D2 H8 H ∧ H D2 = some (.dT (both (TT.take i) ++ (both [p]).take j))) ⟨But.refl _ _, by rw [List.take_zero, List.append_nil]; exact d3⟩ (fun j H _ h => .inl (.inl (h.1 _ _ hA3 a3))) ?_ ?_
      · rintro j x H9 hx ⟨u1, u2⟩
        match j, hx, u2 with
        | 0, hx, u2 =>
          cases hx
          rw [List.take_zero, List.append_nil] at u2
          refine ⟨rfl, _, rfl, _, rfl, _, [.inl p.1, .inl p.2.1], A1, rfl, u1 _ _ hA1 a1, u2, by omega, u1.trans (But.upd _ _ _), ?_⟩
          rw [upd_same, putK_new (both_any fun q hm => by have := hlt q hm; have := hq q hm; unfold lt2 at *; omega)]
          rfl
        | 1, hx, u2 =>
          cases hx
          refine ⟨rfl, _, rfl, _, rfl, _, [.inl p.2.1, .inl p.1], A2, rfl, u1 _ _ hA2 a2, u2, ?_, u1.trans (But.upd _ _ _), ?_⟩
          · rw [List.length_append]
            have : ((both [p]).take 1).length ≤ 1 := List.length_take_le _ _
            omega
          · have e1 : ¬ (([.inl p.1, .inl p.2.1] : List Key) = [.inl p.2.1, .inl p.1]) := fun e => by
              injection e with e1 _
              injection e1 with e1
              omega
            rw [upd_same, putK_new (by
              rw [List.any_append, both_any fun q hm => by have := hlt q hm; have := hq q hm; unfold lt2 at *; omega]
              show (false || (decide (([.inl p.1, .inl p.2.1] : List Key) = [.inl p.2.1, .inl p.1]) || false)) = false
              rw [decide_eq_false e1]
              rfl), List.append_assoc]
            rfl
        | j + 2, hx, _ => cases hx
      · rintro H9 ⟨u1, u2⟩
        refine ⟨fun b o z => u1 b o (fun e => by rw [e, nD2] at z; cases z) (e13 _ _ (r1 b o z)), ?_⟩
        rw [htk, both_append]
        exact u2
    rintro H7 ⟨r1, r2⟩
    rw [hyl, List.take_length] at r2
    refine ⟨.ref w, rfl, w, C, dx, _, rfl, r1 _ _ hw6, T.cl, T.n4, (by show 3 < 1000; decide), ?_⟩
    rw [pf4]
    have b8 : But w H7 (upd H7 w (.ins C dx (F4 (.int (n : Int)) (.ref t) (.int (TT.map fun p => p.2.2).sum) (.ref D2)))) := But.upd _ _ _
    have hw7 := r1 _ _ hw6
    have hwD2 : D2 ≠ w := fun e => by rw [e, hw7] at r2; cases r2
    have hTr8 := Trs.butW hw7 b8 (hTr6.same r1)
    have ht8 := b8 _ _ hwt' (r1 _ _ ht6)
    have hd8 := b8 _ _ hwD2 r2
    have b08 := b06.trans ((But.of r1).trans b8)
    have hw8 : (upd H7 w (.ins C dx (F4 (.int (n : Int)) (.ref t) (.int (TT.map fun p => p.2.2).sum) (.ref D2)))) w = some (.ins C dx (F4 (.int (n : Int)) (.ref t) (.int (TT.map fun p => p.2.2).sum) (.ref D2))) := upd_same
    generalize upd H7 w (.ins C dx (F4 (.int (n : Int)) (.ref t) (.int (TT.map fun p => p.2.2).sum) (.ref D2))) = H8 at hTr8 ht8 hd8 b08 hw8 ⊢
    -- the degrees
    refine ⟨_, rfl, .ref w, rfl, w, C, dx, _, _, rfl, hw8, T.cl, T.n4, lk4 _ _ _ _, n, D2, TT, rfl, hn, hd8, fun H9 g s9 ng hg => ?_⟩
    have hw9 := s9 _ _ hw8
    have hwg : g ≠ w := fun e => by rw [e, hw9] at hg; cases hg
    refine ⟨.ref w, rfl, w, C, dx, _, rfl, hw9, T.cl, T.n5, (by show 4 < 1000; decide), ?_⟩
    rw [pf5]
    have b10 : But w H9 (upd H9 w (.ins C dx (F5 (.int (n : Int)) (.ref t) (.int (TT.map fun p => p.2.2).sum) (.ref D2) (.ref g)))) := But.upd _ _ _
    exact q _ TT (b08.trans ((But.of s9).trans b10)) hTi ⟨dx, t, ys, D2, g, upd_same, b10 _ _ hwt' (s9 _ _ ht8), Trs.butW hw9 b10 (hTr8.same s9), b10 _ _ hwD2 (s9 _ _ hd8), b10 _ _ hwg hg⟩
end
end T27
/-! web[u, v], x in web. -/
namespace T27
open PySem PySem.Spec PyProof.Rows L2 Wk
abbrev sGet : Stmt := inClass (top 15) 1
abbrev sCont : Stmt := inClass (top 15) 3
theorem lk5s (x y z u v : V) : (F5 x y z u v).lookup ("size" : Str) = some x := by kernel_rfl
theorem lk5t (x y z u v : V) : (F5 x y z u v).lookup ("ties" : Str) = some y := by kernel_rfl
theorem lk5o (x y z u v : V) : (F5 x y z u v).lookup ("total" : Str) = some z := by kernel_rfl
theorem lk5n (x y z u v : V) : (F5 x y z u v).lookup ("_numbers" : Str) = some u := by kernel_rfl
theorem lk5d (x y z u v : V) : (F5 x y z u v).lookup ("degrees" : Str) = some v := by kernel_rfl
def spGet (K : PySem.W.Frag) (C : Addr) : Sp := fun vs H Q _ => ∃ w p n T u v, vs = [.ref w, .ref p] ∧ WebAt K C H w n T ∧ SqT K H p [.int u, .int v] ∧ ∀ H', Same H H' → Q (.int ((look T u v).getD 0)) H'
/-- what x in web is worth -/
def PairIs (K : PySem.W.Frag) (H : Hp) (x : V) (n : Int) (T : List T3) (r : Bool) : Prop := ∃ t b, TyX K H x t ∧ ((PySem.W.kitOne K t (.type "tuple") = some false ∧ b = false) ∨ (PySem.W.kitOne K t (.type "tuple") = some true ∧ ∃ a xs, x = .ref a ∧ SqT K H a xs ∧
  ((xs.length ≠ 2 ∧ b = false) ∨ ∃ y z ty tz, xs = [y, z] ∧ AnyV K H y ty ∧ AnyV K H z tz ∧ b = pairB y z n))) ∧ (b = false → r = false) ∧ (b = true → ∃ a u v, x = .ref a ∧ SqT K H a [.int u, .int v] ∧ r = (look T u v).isSome)
def spCont (K : PySem.W.Frag) (C : Addr) : Sp := fun vs H Q _ => ∃ w x n T r, vs = [.ref w, x] ∧ WebAt K C H w n T ∧ PairIs K H x (n : Int) T r ∧ ∀ H', Same H H' → Q (.bl r) H'
theorem scGe : FnScope ["self", "at", "u", "v"] ["self", "at"] (defScope sGet) := ⟨rfl, rfl, rfl, by decide +kernel, rfl, by decide +kernel, by decide +kernel⟩
theorem scCo : FnScope ["self", "x"] ["self", "x"] (defScope sCont) := ⟨rfl, rfl, rfl, by decide +kernel, rfl, by decide +kernel, by decide +kernel⟩
section
variable {P : Program} {w : World} {K : PySem.W.Frag} {mg : Str → Option Value} {base : Heap}
theorem ok_get {C f : Addr} {fd : FuncData} {k : Nat} (F : Fun K "__getitem__" "Web.__getitem__" sGet f fd) (T : TxtW K mg C) : FnOk P w K mg base CX0 (k + 1) f fd ["self", "at"] (spGet K C) := by
  refine F.ok scGe (fun vs H Q E h => ?_) (fun cdv A outer s H vs Q E hr h => ?_)
  · obtain ⟨w, p, n, T, u, v, rfl, _⟩ := h
    rfl
  · obtain ⟨w, p, n, TT, u, v, rfl, hW, hp, q⟩ := h
    have hu := hu_of hr
    obtain ⟨dx, t, ys, d, g, h1, h2, h3, h4, h5⟩ := hW.ex
    refine ⟨_, pss_cons (ps_asg (pv 1) (pg_tup rfl (pgs_cons (pg_name (i := 2) scGe.nd rfl (Or.inl rfl)) (pgs_cons (pg_name (i := 3) scGe.nd rfl (Or.inl rfl)) pgs_nil))))
      (pss_cons (ps_if (pt_cmp (pc_din hu (pe_tup (pa_cons (pv 2) (pa_cons (pv 3) pa_nil))) (pe_fld (pv 0) rfl))) (pss_one (ps_ret (pe_dget hu (pe_fld (pv 0) rfl) (pe_tup (pa_cons (pv 2) (pa_cons (pv 3) pa_nil))) (fun _ _ => rfl)))) pss_nil)
      (pss_one (ps_ret pe_int))), ?_⟩
    refine ⟨.ref p, rfl, p, _, rfl, hp, rfl, _, _, rfl, _, _, rfl, rfl, ?_⟩
    refine ⟨_, rfl, _, rfl, (by show 2 ≤ sizeLine; decide), fun R nR => ?_⟩
    have s1 : Same H (upd H R (.tup [.int u, .int v])) := same_upd nR
    refine ⟨.ref w, rfl, w, C, dx, _, _, rfl, s1 _ _ h1, T.cl, T.n4, lk5n _ _ _ _ _, d, _, rfl, DGet.t (k := [.inl u, .inl v]) (s1 _ _ h4) upd_same, ?_⟩
    rw [valV_both]
    cases hl : look TT u v with
    | none =>
      rw [hl] at q
      exact ⟨_, rfl, q _ s1⟩
    | some m =>
      rw [hl] at q
      refine ⟨_, rfl, .ref w, rfl, w, C, dx, _, _, rfl, s1 _ _ h1, T.cl, T.n4, lk5n _ _ _ _ _, _, rfl, _, rfl, (by show 2 ≤ sizeLine; decide), fun R2 nR2 => ?_⟩
      have s2 : Same (upd H R (.tup [.int u, .int v])) (upd (upd H R (.tup [.int u, .int v])) R2 (.tup [.int u, .int v])) := same_upd nR2
      have e2 := DGet.t (k := [.inl u, .inl v]) (s2 _ _ (s1 _ _ h4)) (upd_same (H := upd H R (.tup [.int u, .int v])) (a := R2) (o := .tup [.int u, .int v]))
      rw [valV_both, hl] at e2
      exact ⟨d, _, rfl, e2, q _ (s1.trans s2)⟩
theorem ok_cont {C f fp : Addr} {fd fdp : FuncData} {k : Nat} (F : Fun K "__contains__" "Web.__contains__" sCont f fd) (T : TxtW K mg C) (GP : FnOk P w K mg base CX0 k fp fdp ["thing", "size"] (spPair K)) (gP : mg "_is_pair" = some (.ref fp)) (kP : PySem.W.keepIn K (.ref fp) = true)
    (bP : Binds K fdp ["thing", "size"] []) : FnOk P w K mg base CX0 (k + 1) f fd ["self", "x"] (spCont K C) := by
  refine F.ok scCo (fun vs H Q E h => ?_) (fun cdv A outer s H vs Q E hr h => ?_)
  · obtain ⟨w, x, n, T, r, rfl, _⟩ := h
    rfl
  · obtain ⟨w, x, n, TT, r, rfl, hW, ⟨t0, b, ty, hb, r0, r1⟩, q⟩ := h
    have hu := hu_of hr
    obtain ⟨dx, t, ys, d, g, h1, h2, h3, h4, h5⟩ := hW.ex
    refine ⟨_, pss_one (ps_ret (pe_and (pe_call GP hr rfl gP kP bP .nil pass0 (pa_cons (pv 1) (pa_cons (pe_fld (pv 0) rfl) pa_nil)))
      (pe_one (pe_cmp (pc_din hu (pe_tup (pa_cons (pe_ix ix_tup (pv 1) pe_int (fun _ _ => rfl)) (pa_cons (pe_ix ix_tup (pv 1) pe_int (fun _ _ => rfl)) pa_nil))) (pe_fld (pv 0) rfl)) rfl)))), ?_⟩
    refine ⟨x, rfl, .ref w, rfl, w, C, dx, _, _, rfl, h1, T.cl, T.n1, lk5s _ _ _ _ _, x, t0, (n : Int), b, rfl, ty, hb, b, rfl, ?_⟩
    cases b with
    | false => rw [r0 rfl] at q; exact q H (Same.refl H)
    | true =>
      obtain ⟨a, u, v, rfl, hS, rfl⟩ := r1 rfl
      have i0 : atI [V.int u, V.int v] 0 = some (.int u) := atI_nat (xs := [V.int u, V.int v]) (j := 0) rfl
      have i1 : atI [V.int u, V.int v] 1 = some (.int v) := atI_nat (xs := [V.int u, V.int v]) (j := 1) rfl
      refine ⟨.ref a, rfl, a, _, 0, _, rfl, rfl, hS, i0, .ref a, rfl, a, _, 1, _, rfl, rfl, hS, i1, (by show 2 ≤ sizeLine; decide), fun R nR => ?_⟩
      have s1 : Same H (upd H R (.tup [.int u, .int v])) := same_upd nR
      refine ⟨.ref w, rfl, w, C, dx, _, _, rfl, s1 _ _ h1, T.cl, T.n4, lk5n _ _ _ _ _, d, _, rfl, DGet.t (k := [.inl u, .inl v]) (s1 _ _ h4) upd_same, ?_⟩
      rw [valV_both]
      have e : ((look TT u v).map V.int).isSome = (look TT u v).isSome := by cases look TT u v <;> rfl
      rw [e]
      exact q _ s1
end
end T27
/-! web == any value. -/
namespace T27
open PySem PySem.Spec PyProof.Rows L2 Wk
abbrev sEq : Stmt := inClass (top 15) 4
def d3 (p : T3) : PyData := .tuple [.int p.1, .int p.2.1, .int p.2.2]
theorem eqv3 (p q : T3) : PyData.eqv (d3 p) (d3 q) = decide (p = q) := by
  have e : PyData.eqv (d3 p) (d3 q) = ((p.1 == q.1) && ((p.2.1 == q.2.1) && ((p.2.2 == q.2.2) && true))) := by
    unfold d3
    first | rfl | kernel_rfl | (rw [PyData.eqv, PyData.eqvAll, PyData.eqvAll, PyData.eqvAll, PyData.eqvAll, PyData.eqv, PyData.eqv, PyData.eqv])
  rw [e, Bool.eq_iff_iff]
  simp only [Bool.and_true, Bool.and_eq_true, beq_iff_eq, decide_eq_true_eq]
  constructor
  · rintro ⟨a, b, c⟩
    exact Prod.ext a (Prod.ext b c)
  · rintro rfl
    exact ⟨rfl, rfl, rfl⟩
theorem eqvT : ∀ (T S : List T3), PyData.eqvAll (T.map d3) (S.map d3) = decide (T = S)
  | [], [] => by simp [PyData.eqvAll]
  | [], _ :: _ => by simp [PyData.eqvAll]
  | _ :: _, [] => by simp [PyData.eqvAll]
  | p :: T, q :: S => by
    rw [List.map_cons, List.map_cons, PyData.eqvAll, eqv3, eqvT T S, Bool.eq_iff_iff]
    simp
theorem Trs.dp {K : PySem.W.Frag} {H : Hp} : ∀ {xs : List V} {ps : List T3}, Trs K H xs ps → DpAll K H xs (ps.map d3)
  | [], [], _ => .nil
  | _ :: _, _ :: _, h => by
    obtain ⟨⟨t, rfl, hS⟩, h2⟩ := h
    exact .cons (.tup hS (.cons (.int _) (.cons (.int _) (.cons (.int _) .nil)))) (Trs.dp h2)
  | [], _ :: _, h => h.elim
  | _ :: _, [], h => h.elim
theorem shapedT (T : List T3) : SeqAt.shaped (.tuple (T.map d3)) = true := by
  have h1 : ∀ T : List T3, PyData.canLayAll0 (T.map d3) = true := fun T => by
    induction T with
    | nil => simp [PyData.canLayAll0]
    | cons p T ih => rw [List.map_cons, PyData.canLayAll0, ih, d3]; simp [PyData.canLay0, PyData.canLayAll0]
  have h2 : ∀ T : List T3, PyData.depthAll (T.map d3) ≤ 1 := fun T => by
    induction T with
    | nil => simp [PyData.depthAll]
    | cons p T ih => rw [List.map_cons, PyData.depthAll, d3]; simp [PyData.depth, PyData.depthAll]; omega
  unfold SeqAt.shaped
  rw [PyData.canLay0, PyData.depth, h1, Bool.true_and]
  have := h2 T
  exact decide_eq_true (by omega)
theorem eqvTT (T S : List T3) : PyData.eqv (.tuple (T.map d3)) (.tuple (S.map d3)) = decide (T = S) := by rw [PyData.eqv, eqvT]
/-- the class as a kind -/
structure KindW (K : PySem.W.Frag) (mg : Str → Option Value) (C : Addr) : Prop where
  ty : ∀ (H : Hp) (a dx : Addr) (fs : List (Str × V)), H a = some (.ins C dx fs) → TyX K H (.ref a) (.ref C)
  own : PySem.W.kitOne K (.ref C) (.ref C) = some true
  gW : mg "Web" = some (.ref C)
  mi : mg "isinstance" = none
def spEqW (K : PySem.W.Frag) (C : Addr) : Sp := fun vs H Q _ => ∃ w n T y, vs = [.ref w, y] ∧ WebAt K C H w n T ∧ ((∃ t, TyX K H y t ∧ PySem.W.kitOne K t (.ref C) = some false ∧ Q (.bl false) H) ∨
  ∃ w2 n2 T2, y = .ref w2 ∧ WebAt K C H w2 n2 T2 ∧ Q (.bl (decide (n = n2) && decide (T = T2))) H)
theorem scEq : FnScope ["self", "other"] ["self", "other"] (defScope sEq) := ⟨rfl, rfl, rfl, by decide +kernel, rfl, by decide +kernel, by decide +kernel⟩
section
variable {P : Program} {w : World} {K : PySem.W.Frag} {mg : Str → Option Value} {base : Heap}
theorem ok_eq {C f : Addr} {fd : FuncData} {k : Nat} (F : Fun K "__eq__" "Web.__eq__" sEq f fd) (T : TxtW K mg C) (G : KindW K mg C) : FnOk P w K mg base CX0 (k + 1) f fd ["self", "other"] (spEqW K C) := by
  refine F.ok scEq (fun vs H Q E h => ?_) (fun cdv A outer s H vs Q E hr h => ?_)
  · obtain ⟨w, n, T, y, rfl, _⟩ := h
    rfl
  · obtain ⟨w, n, TT, y, rfl, hW, q⟩ := h
    obtain ⟨dx, t, ys, d, g, h1, h2, h3, h4, h5⟩ := hW.ex
    refine ⟨_, pss_one (ps_ret (pe_and (pe_callB call_isi (by rfl) G.mi (by decide +kernel) (pa_cons (pv 1) (pa_cons (pe_glob (v := .ref C) rfl G.gW rfl) pa_nil)))
      (pe_and (pe_cmpR op_eq (pe_fld (pv 0) rfl) (pe_fld (pv 1) rfl) (nomark _)) (pe_one (pe_cmpR (op_eqD hr.units) (pe_fld (pv 0) rfl) (pe_fld (pv 1) rfl) (nomark _)))))), ?_⟩
    rcases q with ⟨ty, hty, hk, q⟩ | ⟨w2, n2, T2, rfl, hW2, q⟩
    · exact ⟨y, rfl, y, _, _, _, _, rfl, .own C, hty, hk, false, rfl, q⟩
    · obtain ⟨dx2, t2, ys2, d2, g2, k1, k2, k3, k4, k5⟩ := hW2.ex
      refine ⟨_, rfl, _, _, _, _, _, rfl, .own C, G.ty _ _ _ _ k1, G.own, true, rfl, ?_⟩
      refine ⟨.ref w, rfl, w, C, dx, _, _, rfl, h1, T.cl, T.n1, lk5s _ _ _ _ _, .ref w2, rfl, w2, C, dx2, _, _, rfl, k1, T.cl, T.n1, lk5s _ _ _ _ _, rfl, decide (n = n2), ?_⟩
      have e : decide (V.int (n : Int) = V.int (n2 : Int)) = decide (n = n2) := by
        rw [Bool.eq_iff_iff]
        simp only [decide_eq_true_eq]
        constructor
        · intro z; injection z with z; omega
        · rintro rfl; rfl
      refine ⟨by rw [e], ?_⟩
      by_cases hn : n = n2
      · rw [decide_eq_true hn]
        rw [decide_eq_true hn, Bool.true_and] at q
        refine ⟨.ref w, rfl, w, C, dx, _, _, rfl, h1, T.cl, T.n2, lk5t _ _ _ _ _, .ref w2, rfl, w2, C, dx2, _, _, rfl, k1, T.cl, T.n2, lk5t _ _ _ _ _, _, _, .tup (.inl (.inl h2)) h3.dp, .tup (.inl (.inl k2)) k3.dp, shapedT _, shapedT _, ?_⟩
        rw [eqvTT]
        exact q
      · rw [decide_eq_false hn]
        rw [decide_eq_false hn, Bool.false_and] at q
        exact q
end
end T27
/-! The law's dict of sums, as a list of triples with different pairs. -/
namespace T27
open PySem PySem.Spec PyProof.Rows L2 Wk
/-- an entry of the dict -/
def ent (p : T3) : List Key × V := ([.inl p.1, .inl p.2.1], .int p.2.2)
/-- no pair twice -/
def Dif (S : List T3) : Prop := S.Pairwise fun p q => ¬ key p q
theorem ent_key {p : T3} {u v : Int} : ((ent p).1 = ([.inl u, .inl v] : List Key)) ↔ (p.1 = u ∧ p.2.1 = v) := by
  unfold ent
  constructor
  · intro e
    injection e with e1 e2
    injection e2 with e2 _
    exact ⟨by injection e1, by injection e2⟩
  · rintro ⟨rfl, rfl⟩; rfl
/-- what the dict holds at a pair -/
theorem valV_ent : ∀ {S : List T3} {u v : Int}, Dif S → valV (S.map ent) [.inl u, .inl v] = none ∧ (∀ p ∈ S, ¬ (p.1 = u ∧ p.2.1 = v)) ∨ valV (S.map ent) [.inl u, .inl v] = some (.int (amt S u v)) ∧ ∃ p ∈ S, p.1 = u ∧ p.2.1 = v
  | [], _, _, _ => .inl ⟨rfl, fun p hp => (by cases hp)⟩
  | p :: S, u, v, h => by
    obtain ⟨h1, h2⟩ := List.pairwise_cons.mp h
    have ih := valV_ent (u := u) (v := v) h2
    unfold valV at ih ⊢
    rw [List.map_cons]
    by_cases hk : p.1 = u ∧ p.2.1 = v
    · refine .inr ⟨?_, p, List.mem_cons_self, hk⟩
      rw [List.find?_cons_of_pos (by simpa using ent_key.mpr hk), amt_cons, if_pos hk, amt_zero fun q hq k => h1 q hq ⟨hk.1.trans k.1.symm, hk.2.trans k.2.symm⟩, Int.add_zero]
      rfl
    · rw [List.find?_cons_of_neg (by simpa using fun e => hk (ent_key.mp e)), amt_cons, if_neg hk, Int.zero_add]
      rcases ih with ⟨a, b⟩ | ⟨a, q, hq, b⟩
      · refine .inl ⟨a, fun q hq => ?_⟩
        rcases List.mem_cons.mp hq with rfl | hq
        · exact hk
        · exact b q hq
      · exact .inr ⟨a, q, List.mem_cons_of_mem _ hq, b⟩
theorem get_ent {S : List T3} {u v : Int} (h : Dif S) : (valV (S.map ent) [.inl u, .inl v]).getD (.int 0) = .int (amt S u v) := by
  rcases valV_ent (u := u) (v := v) h with ⟨a, b⟩ | ⟨a, _⟩
  · rw [a, amt_zero b]; rfl
  · rw [a]; rfl
/-- one number more at a pair -/
def setS (S : List T3) (u v c : Int) : List T3 :=
  if (S.any fun q => decide (q.1 = u ∧ q.2.1 = v)) = true then S.map fun q => if q.1 = u ∧ q.2.1 = v then (u, v, c) else q else S ++ [(u, v, c)]
theorem put_ent {S : List T3} {u v c : Int} : putK (S.map ent) [.inl u, .inl v] (.int c) = (setS S u v c).map ent := by
  unfold putK setS
  have e : ((S.map ent).any fun kv => decide (kv.1 = ([.inl u, .inl v] : List Key))) = S.any fun q => decide (q.1 = u ∧ q.2.1 = v) := by
    rw [List.any_map]
    congr 1
    funext q
    exact decide_eq_decide.mpr ent_key
  rw [e]
  split
  · rw [List.map_map, List.map_map]
    refine List.map_congr_left fun q _ => ?_
    show (if (ent q).1 = ([.inl u, .inl v] : List Key) then ((ent q).1, V.int c) else ent q) = ent (if q.1 = u ∧ q.2.1 = v then (u, v, c) else q)
    by_cases hk : q.1 = u ∧ q.2.1 = v
    · rw [if_pos hk, if_pos (ent_key.mpr hk), ent_key.mpr hk]
      rfl
    · rw [if_neg hk, if_neg fun z => hk (ent_key.mp z)]
  · rw [List.map_append]
    rfl
theorem setS_mem {S : List T3} {u v c : Int} {p : T3} (hp : p ∈ setS S u v c) : p ∈ S ∨ p = (u, v, c) := by
  unfold setS at hp
  split at hp
  · obtain ⟨q, hq, rfl⟩ := List.mem_map.mp hp
    split
    · exact .inr rfl
    · exact .inl hq
  · rcases List.mem_append.mp hp with h | h
    · exact .inl h
    · exact .inr (List.mem_singleton.mp h)
theorem setS_dif {S : List T3} {u v c : Int} (h : Dif S) : Dif (setS S u v c) := by
  unfold setS
  split
  · refine List.pairwise_map.mpr (h.imp fun {p q} hpq => ?_)
    unfold key at *
    split <;> split <;> ((try dsimp only) <;> omega)
  · rename_i hn
    refine List.pairwise_append.mpr ⟨h, List.pairwise_singleton .., fun p hp q hq k => hn ?_⟩
    cases List.mem_singleton.mp hq
    exact List.any_eq_true.mpr ⟨p, hp, by simpa [key] using k⟩
theorem setS_amt : ∀ {S : List T3} {u v c : Int}, Dif S → ∀ a b, amt (setS S u v c) a b = if a = u ∧ b = v then c else amt S a b := by
  intro S u v c h a b
  have one : amt [(u, v, c)] a b = if a = u ∧ b = v then c else 0 := by
    rw [amt_cons, amt_nil]
    dsimp only
    by_cases hk : a = u ∧ b = v
    · rw [if_pos hk, if_pos ⟨hk.1.symm, hk.2.symm⟩, Int.add_zero]
    · rw [if_neg hk, if_neg fun z => hk ⟨z.1.symm, z.2.symm⟩, Int.add_zero]
  unfold setS
  split
  · rename_i he
    obtain ⟨q0, hq0, k0⟩ := List.any_eq_true.mp he
    have k0 : q0.1 = u ∧ q0.2.1 = v := by simpa using k0
    induction S with
    | nil => cases hq0
    | cons p S ih =>
      obtain ⟨h1, h2⟩ := List.pairwise_cons.mp h
      rw [List.map_cons, amt_cons, amt_cons]
      by_cases hp : p.1 = u ∧ p.2.1 = v
      · have rest : S.map (fun q => if q.1 = u ∧ q.2.1 = v then (u, v, c) else q) = S := by
          have : S.map (fun q => if q.1 = u ∧ q.2.1 = v then (u, v, c) else q) = S.map id := List.map_congr_left fun q hq => if_neg fun k => h1 q hq ⟨hp.1.trans k.1.symm, hp.2.trans k.2.symm⟩
          rw [this, List.map_id]
        rw [rest, if_pos hp]
        dsimp only
        by_cases hk : a = u ∧ b = v
        · rw [if_pos hk, if_pos ⟨hk.1.symm, hk.2.symm⟩, amt_zero fun q hq k => h1 q hq ⟨hp.1.trans (hk.1.symm.trans k.1.symm), hp.2.trans (hk.2.symm.trans k.2.symm)⟩, Int.add_zero]
        · rw [if_neg hk, if_neg fun z => hk ⟨z.1.symm, z.2.symm⟩, if_neg fun z => hk ⟨z.1.symm.trans hp.1, z.2.symm.trans hp.2⟩]
      · have hm : q0 ∈ S := by
          rcases List.mem_cons.mp hq0 with rfl | h
          · exact absurd k0 hp
          · exact h
        have ih := ih h2 (List.any_eq_true.mpr ⟨q0, hm, by simpa using k0⟩) hm
        rw [if_neg hp, ih]
        by_cases hk : a = u ∧ b = v
        · rw [if_pos hk, if_neg fun z => hp ⟨z.1.trans hk.1, z.2.trans hk.2⟩, Int.zero_add, if_pos hk]
        · rw [if_neg hk, if_neg hk]
  · rename_i hn
    rw [amt_append, one]
    by_cases hk : a = u ∧ b = v
    · rw [if_pos hk, if_pos hk, amt_zero fun q hq k => hn (List.any_eq_true.mpr ⟨q, hq, by simpa using ⟨k.1.trans hk.1, k.2.trans hk.2⟩⟩), Int.zero_add]
    · rw [if_neg hk, if_neg hk, Int.add_zero]
theorem setS_length {S : List T3} {u v c : Int} : (setS S u v c).length ≤ S.length + 1 := by
  unfold setS
  split
  · rw [List.length_map]; omega
  · rw [List.length_append, List.length_singleton]; omega
/-- the sums of a list of normal triples -/
structure SumsOf (l S : List T3) : Prop where
  dif : Dif S
  am : ∀ u v, amt S u v = amt l u v
  mem : ∀ p ∈ S, ∃ q ∈ l, key q p
  len : S.length ≤ l.length
theorem SumsOf.nil : SumsOf [] [] := ⟨.nil, fun _ _ => rfl, fun p hp => (by cases hp), Nat.le_refl _⟩
theorem SumsOf.put {l S : List T3} {p : T3} (h : SumsOf l S) : SumsOf (l ++ [p]) (setS S p.1 p.2.1 (amt S p.1 p.2.1 + p.2.2)) := by
  refine ⟨setS_dif h.dif, fun u v => ?_, fun q hq => ?_, ?_⟩
  · rw [setS_amt h.dif, amt_append, amt_cons, amt_nil, ← h.am]
    by_cases hk : u = p.1 ∧ v = p.2.1
    · rw [if_pos hk, if_pos ⟨hk.1.symm, hk.2.symm⟩, hk.1, hk.2, Int.add_zero]
    · rw [if_neg hk, if_neg fun z => hk ⟨z.1.symm, z.2.symm⟩, Int.add_zero, Int.add_zero]
  · rcases setS_mem hq with hq | rfl
    · obtain ⟨r, hr, k⟩ := h.mem q hq
      exact ⟨r, by simp [hr], k⟩
    · exact ⟨p, by simp, rfl, rfl⟩
  · have := setS_length (S := S) (u := p.1) (v := p.2.1) (c := amt S p.1 p.2.1 + p.2.2)
    have := h.len
    rw [List.length_append, List.length_singleton]
    omega
end T27
/-! What stays when a dict changes, when the bag changes. -/
namespace T27
open PySem PySem.Spec PyProof.Rows L2 Wk
theorem SqT.butT {K : PySem.W.Frag} {H H' : Hp} {D t : Addr} {kvs : List (List Key × V)} {xs : List V} (hD : H D = some (.dT kvs)) (h : SqT K H t xs) (b : But D H H') : SqT K H' t xs := by
  rcases h with (h | ⟨o, h⟩) | h
  · exact .inl (.inl (b t _ (fun e => by rw [e, hD] at h; cases h) h))
  · exact .inl (.inr ⟨o, b t _ (fun e => by rw [e, hD] at h; cases h) h⟩)
  · exact .inr h
theorem SqL.butT {K : PySem.W.Frag} {H H' : Hp} {D t : Addr} {kvs : List (List Key × V)} {xs : List V} (hD : H D = some (.dT kvs)) (h : SqL K H t xs) (b : But D H H') : SqL K H' t xs := by
  rcases h with (h | ⟨o, h⟩) | h
  · exact .inl (.inl (b t _ (fun e => by rw [e, hD] at h; cases h) h))
  · exact .inl (.inr ⟨o, b t _ (fun e => by rw [e, hD] at h; cases h) h⟩)
  · exact .inr h
theorem Trs.butT {K : PySem.W.Frag} {H H' : Hp} {D : Addr} {kvs : List (List Key × V)} (hD : H D = some (.dT kvs)) (b : But D H H') : ∀ {xs : List V} {ps : List T3}, Trs K H xs ps → Trs K H' xs ps
  | [], [], _ => True.intro
  | _ :: _, _ :: _, h => ⟨let ⟨t, e, q⟩ := h.1; ⟨t, e, SqT.butT hD q b⟩, Trs.butT hD b h.2⟩
  | [], _ :: _, h => h.elim
  | _ :: _, [], h => h.elim
theorem BagAt.put {H : Hp} {b l F : Addr} {o : HO} {n : Nat} (B : BagAt H b l n) (h1 : F ≠ b) (h2 : F ≠ l) : BagAt (upd H F o) b l n := by
  obtain ⟨x0, x1, x2, cs, g1, g2, g3⟩ := B.ex
  exact ⟨x0, x1, x2, cs, by rw [upd_ne (Ne.symm h1)]; exact g1, by rw [upd_ne (Ne.symm h2)]; exact g2, g3⟩
theorem BagAt.in' {H : Hp} {b l : Addr} {n : Nat} (B : BagAt H b l n) : (∃ xs, H b = some (.lst xs)) ∧ ∃ xs, H l = some (.lst xs) := by
  obtain ⟨x0, x1, x2, cs, g1, g2, g3⟩ := B.ex
  exact ⟨⟨_, g1⟩, _, g2⟩
end T27
/-! Things in a drawn order. -/
namespace T27
open PySem PySem.Spec PyProof.Rows L2 Wk
abbrev sMixed : Stmt := top 31
def spMixed : Sp := fun vs H Q _ => ∃ (b l a : Addr) (c : Nat) (xs : List V), vs = [.ref b, .ref a] ∧ a ≠ b ∧ H a = some (.lst xs) ∧ xs.length ≤ 100 ∧ BagAt H b l c ∧ c + xs.length ≤ 999000 ∧
  ∀ H' D ys, BagAt H' b l (c + xs.length) → But b H H' → H D = none → H' D = some (.lst ys) → ys.Perm xs → Q (.ref D) H'
theorem scMi : FnScope ["_law_bag_here", "_law_things", "_law_found", "_law_thing"] ["_law_bag_here", "_law_things"] (defScope sMixed) := ⟨rfl, rfl, rfl, by decide +kernel, rfl, by decide +kernel, by decide +kernel⟩
section
variable {P : Program} {w : World} {K : PySem.W.Frag} {mg : Str → Option Value} {base : Heap}
theorem ok_mixed {f ft : Addr} {fd fdt : FuncData} {k : Nat} (F : Fun K "_law_mixed" "_law_mixed" sMixed f fd) (GT : FnOk P w K mg base CX0 k ft fdt ["_law_bag_here", "_law_many"] spTake) (gT : mg "_law_take" = some (.ref ft)) (kT : PySem.W.keepIn K (.ref ft) = true)
    (bT : Binds K fdt ["_law_bag_here", "_law_many"] []) (ml : mg "len" = none) : FnOk P w K mg base CX0 (k + 1) f fd ["_law_bag_here", "_law_things"] spMixed := by
  refine F.ok scMi (fun vs H Q E h => ?_) (fun cdv A outer s H vs Q E hr h => ?_)
  · obtain ⟨b, l, a, c, xs, rfl, _⟩ := h
    rfl
  · obtain ⟨b, l, a, c, xs, rfl, hab, ha, hlen, B, hc, q⟩ := h
    obtain ⟨⟨xb, hb⟩, xl, hl⟩ := B.in'
    refine ⟨_, pss_cons (ps_set (i := 2) scMi.nd rfl (Or.inl rfl) (pe_lst pa_nil))
      (pss_cons (ps_for PassesOwn.never rfl (pi_list (pv 1)) (pg_name (i := 3) scMi.nd rfl (Or.inl rfl))
        (pss_one (ps_expr (pe_bm PySem.F.plainAttrs_list PySem.F.slot_list_insert PySem.F.type_list_insert mt_insert (pv 2)
          (pa_cons (pe_call GT hr rfl gT kT bT .nil pass0 (pa_cons (pv 0) (pa_cons (pe_op op_add (pe_callB call_len_seq (by rfl) ml PySem.boot_len (pa_cons (pv 2) pa_nil)) pe_int) pa_nil))) (pa_cons (pv 3) pa_nil))))))
      (pss_one (ps_ret (pv 2)))), ?_⟩
    refine ⟨(by show 0 ≤ sizeLine; decide), fun D nD => ?_⟩
    have s1 : Same H (upd H D (.lst [])) := same_upd nD
    have hDb : D ≠ b := Ne.symm (ne_of_none hb nD)
    have hDl : D ≠ l := Ne.symm (ne_of_none hl nD)
    have hDa : a ≠ D := ne_of_none ha nD
    refine ⟨_, rfl, a, rfl, ⟨xs, .inl (.inl (s1 _ _ ha))⟩, ?_⟩
    refine for_list (K := K) (a := a) (xs := xs) (fun i σ H2 => (∃ v3, σ = [some (.ref b), some (.ref a), some (.ref D), v3]) ∧ BagAt H2 b l (c + i) ∧ But b H H2 ∧ ∃ ys, H2 D = some (.lst ys) ∧ ys.Perm (xs.take i)) ?_ (fun i σ H2 _ p => .inl (.inl (p.2.2.1 _ _ hab ha))) ?_ ?_
    · exact ⟨⟨_, rfl⟩, B.same s1, But.of s1, [], upd_same, .refl _⟩
    · rintro i x σ H2 hx ⟨⟨v3, rfl⟩, B2, b2, ys, hD, hp⟩
      have hi := (List.getElem?_eq_some_iff.mp hx).1
      have hyl : ys.length = i := by rw [hp.length_eq, List.length_take]; omega
      refine ⟨.ref D, rfl, .inl ⟨rfl, _, .inl (.inl hD)⟩, _, rfl, _, rfl, D, ys, rfl, .inl (.inl (.inl hD)), (ys.length : Int), 1, rfl, rfl, b, l, (ys.length : Int) + 1, _, rfl, by omega, by omega, B2, by omega, fun r H3 r0 r1 B3 b3 => ?_⟩
      have hD3 := b3 _ _ hDb hD
      refine ⟨x, rfl, D, ys, r, x, rfl, rfl, hD3, by rw [sizeLine_eq]; omega, r0, by omega, ⟨_, rfl⟩, (B3.put hDb hDl).mono (by omega), fun c' o hc' ho => ?_, _, upd_same, ?_⟩
      · rw [upd_ne (ne_of_none ho nD)]
        exact b3 _ _ hc' (b2 _ _ hc' ho)
      · rw [List.take_add_one, hx]
        show (ys.take r.toNat ++ [x] ++ ys.drop r.toNat).Perm (xs.take i ++ [x])
        refine .trans ?_ (hp.append_right [x])
        rw [List.append_assoc]
        refine .trans (List.Perm.append_left _ (List.perm_append_comm (l₁ := [x]) (l₂ := ys.drop r.toNat))) ?_
        rw [← List.append_assoc, List.take_append_drop]
    · rintro σ H2 ⟨⟨v3, rfl⟩, B2, b2, ys, hD, hp⟩
      rw [List.take_length] at hp
      exact ⟨_, rfl, q H2 D ys B2 b2 nD hD hp⟩
end
end T27
/-! The mathematics of degrees: each is the sum of the bundles at a place, together twice the ties. -/
namespace T27
open PySem PySem.Spec PyProof.Rows L2 Wk
theorem sum_ind (n : Nat) (t m : Int) : ((List.range n).map fun (v : Nat) => if t = (v : Int) then m else 0).sum = if 0 ≤ t ∧ t < n then m else 0 := by
  induction n with
  | zero => rw [if_neg (by omega)]; rfl
  | succ n ih =>
    rw [List.range_succ, List.map_append, List.sum_append, ih, List.map_singleton, List.sum_singleton]
    by_cases h : t = (n : Int)
    · rw [if_pos h, if_neg (by omega), if_pos (by omega), Int.zero_add]
    · rw [if_neg h, Int.add_zero]
      by_cases h2 : 0 ≤ t ∧ t < n
      · rw [if_pos h2, if_pos (by omega)]
      · rw [if_neg h2, if_neg (by omega)]
theorem sum_add {α : Type} (l : List α) (f g : α → Int) : (l.map fun x => f x + g x).sum = (l.map f).sum + (l.map g).sum := by
  induction l with
  | nil => rfl
  | cons x l ih => rw [List.map_cons, List.map_cons, List.map_cons, List.sum_cons, List.sum_cons, List.sum_cons, ih]; omega
/-- the ties at a place -/
def inc (T : List T3) (u : Int) : Int := (T.map fun p => (if p.1 = u then p.2.2 else 0) + (if p.2.1 = u then p.2.2 else 0)).sum
theorem inc_cons {p : T3} {T : List T3} {u : Int} : inc (p :: T) u = (if p.1 = u then p.2.2 else 0) + (if p.2.1 = u then p.2.2 else 0) + inc T u := by unfold inc; rw [List.map_cons, List.sum_cons]
theorem inc_append {T S : List T3} {u : Int} : inc (T ++ S) u = inc T u + inc S u := by unfold inc; rw [List.map_append, List.sum_append]
theorem look_none {T : List T3} {u v : Int} (h : ∀ p ∈ T, ¬ ((p.1 = u ∧ p.2.1 = v) ∨ (p.2.1 = u ∧ p.1 = v))) : look T u v = none := by
  induction T with
  | nil => rfl
  | cons p T ih => unfold look; rw [if_neg (h p List.mem_cons_self)]; exact ih fun q hq => h q (List.mem_cons_of_mem _ hq)
theorem deg_inc : ∀ {T : List T3} {n : Nat} {u : Int}, T.Pairwise lt2 → (∀ p ∈ T, 0 ≤ p.1 ∧ p.1 < p.2.1 ∧ p.2.1 < (n : Int) ∧ 0 < p.2.2) → deg T n u = inc T u
  | [], n, u, _, _ => by
    unfold deg inc
    induction List.range n with
    | nil => rfl
    | cons v l ih => rw [List.map_cons, List.sum_cons, ih]; rfl
  | p :: T, n, u, h, hm => by
    obtain ⟨h1, h2⟩ := List.pairwise_cons.mp h
    obtain ⟨m0, m1, m2, m3⟩ := hm p List.mem_cons_self
    have ih := deg_inc (u := u) h2 fun q hq => hm q (List.mem_cons_of_mem _ hq)
    have e : ∀ v : Nat, (look (p :: T) u (v : Int)).getD 0 = ((if p.1 = u then (if p.2.1 = (v : Int) then p.2.2 else 0) else 0) + (if p.2.1 = u then (if p.1 = (v : Int) then p.2.2 else 0) else 0)) + (look T u (v : Int)).getD 0 := fun v => by
      by_cases hk : (p.1 = u ∧ p.2.1 = (v : Int)) ∨ (p.2.1 = u ∧ p.1 = (v : Int))
      · have hn : look T u (v : Int) = none := look_none fun q hq k => by
          have := h1 q hq
          have := hm q (List.mem_cons_of_mem _ hq)
          unfold lt2 at *
          omega
        rw [hn]
        unfold look
        rw [if_pos hk]
        show p.2.2 = _ + 0
        rcases hk with ⟨a, b⟩ | ⟨a, b⟩
        · rw [if_pos a, if_pos b, if_neg (by omega)]; omega
        · rw [if_neg (by omega), if_pos a, if_pos b]; omega
      · have e1 : look (p :: T) u (v : Int) = look T u (v : Int) := by
          conv => lhs; unfold look
          rw [if_neg hk]
        rw [e1]
        have z1 : (if p.1 = u then (if p.2.1 = (v : Int) then p.2.2 else 0) else 0) = 0 := by
          by_cases a : p.1 = u
          · rw [if_pos a, if_neg fun b => hk (.inl ⟨a, b⟩)]
          · rw [if_neg a]
        have z2 : (if p.2.1 = u then (if p.1 = (v : Int) then p.2.2 else 0) else 0) = 0 := by
          by_cases a : p.2.1 = u
          · rw [if_pos a, if_neg fun b => hk (.inr ⟨a, b⟩)]
          · rw [if_neg a]
        rw [z1, z2]
        omega
    rw [inc_cons, ← ih]
    unfold deg
    have e' : ((List.range n).map fun (v : Nat) => (look (p :: T) u (v : Int)).getD 0) = (List.range n).map fun (v : Nat) => ((if p.1 = u then (if p.2.1 = (v : Int) then p.2.2 else 0) else 0) + (if p.2.1 = u then (if p.1 = (v : Int) then p.2.2 else 0) else 0)) + (look T u (v : Int)).getD 0 := List.map_congr_left fun v _ => e v
    rw [e', sum_add, sum_add]
    have s1 : ((List.range n).map fun (v : Nat) => if p.1 = u then (if p.2.1 = (v : Int) then p.2.2 else 0) else 0).sum = if p.1 = u then p.2.2 else 0 := by
      by_cases a : p.1 = u
      · simp only [if_pos a]
        rw [sum_ind, if_pos (by omega)]
      · simp only [if_neg a]
        induction List.range n with
        | nil => rfl
        | cons v l ih => rw [List.map_cons, List.sum_cons, ih]; rfl
    have s2 : ((List.range n).map fun (v : Nat) => if p.2.1 = u then (if p.1 = (v : Int) then p.2.2 else 0) else 0).sum = if p.2.1 = u then p.2.2 else 0 := by
      by_cases a : p.2.1 = u
      · simp only [if_pos a]
        rw [sum_ind, if_pos (by omega)]
      · simp only [if_neg a]
        induction List.range n with
        | nil => rfl
        | cons v l ih => rw [List.map_cons, List.sum_cons, ih]; rfl
    rw [s1, s2]
/-- all degrees together are twice the ties -/
theorem sum_inc : ∀ {T : List T3} {n : Nat}, (∀ p ∈ T, 0 ≤ p.1 ∧ p.1 < p.2.1 ∧ p.2.1 < (n : Int) ∧ 0 < p.2.2) → ((List.range n).map fun (u : Nat) => inc T (u : Int)).sum = 2 * total T
  | [], n, _ => by
    show _ = 2 * (0 : Int)
    unfold inc
    induction List.range n with
    | nil => rfl
    | cons v l ih => rw [List.map_cons, List.sum_cons, ih]; rfl
  | p :: T, n, hm => by
    obtain ⟨m0, m1, m2, m3⟩ := hm p List.mem_cons_self
    have ih := sum_inc (n := n) fun q hq => hm q (List.mem_cons_of_mem _ hq)
    have e' : ((List.range n).map fun (u : Nat) => inc (p :: T) (u : Int)) = (List.range n).map fun (u : Nat) => ((if p.1 = (u : Int) then p.2.2 else 0) + (if p.2.1 = (u : Int) then p.2.2 else 0)) + inc T (u : Int) := List.map_congr_left fun u _ => inc_cons
    rw [e', sum_add, sum_add, sum_ind, sum_ind, if_pos (by omega), if_pos (by omega), ih]
    unfold total
    rw [List.map_cons, List.sum_cons]
    omega
end T27
/-! What web[u, v] tells, and the law's dict against the web's ties. -/
namespace T27
open PySem PySem.Spec PyProof.Rows L2 Wk
theorem look_symm : ∀ (T : List T3) (u v : Int), look T u v = look T v u
  | [], _, _ => rfl
  | p :: T, u, v => by
    unfold look
    rw [look_symm T u v]
    by_cases h : (p.1 = u ∧ p.2.1 = v) ∨ (p.2.1 = u ∧ p.1 = v)
    · rw [if_pos h, if_pos (h.elim (fun a => .inr ⟨a.2, a.1⟩) fun a => .inl ⟨a.2, a.1⟩)]
    · rw [if_neg h, if_neg fun k => h (k.elim (fun a => .inr ⟨a.2, a.1⟩) fun a => .inl ⟨a.2, a.1⟩)]
theorem look_mem : ∀ {T : List T3}, T.Pairwise lt2 → (∀ p ∈ T, p.1 < p.2.1) → ∀ {p : T3}, p ∈ T → look T p.1 p.2.1 = some p.2.2
  | q :: T, h, hm, p, hp => by
    obtain ⟨h1, h2⟩ := List.pairwise_cons.mp h
    unfold look
    rcases List.mem_cons.mp hp with rfl | hp
    · rw [if_pos (.inl ⟨rfl, rfl⟩)]
    · have a := h1 p hp
      have b := hm q List.mem_cons_self
      have c := hm p (List.mem_cons_of_mem _ hp)
      rw [if_neg (by unfold lt2 at *; omega)]
      exact look_mem h2 (fun r hr => hm r (List.mem_cons_of_mem _ hr)) hp
/-- web[u, v] for u below v -/
theorem look_amt {T : List T3} {n : Int} {am : Int → Int → Int} (h : TiesOf n am T) {u v : Int} (huv : u < v) : (look T u v).getD 0 = am u v ∧ (look T u v).isSome = decide (0 < am u v) := by
  by_cases c : ∃ p ∈ T, p.1 = u ∧ p.2.1 = v
  · obtain ⟨p, hp, rfl, rfl⟩ := c
    have e := look_mem h.asc (fun q hq => (h.mem q hq).2.1) hp
    have a := amt_mem h.asc hp
    have b := (h.mem p hp).2.2.2
    rw [e, ← h.am, a]
    exact ⟨rfl, (decide_eq_true b).symm⟩
  · have e : look T u v = none := look_none fun p hp k => by
      rcases k with k | k
      · exact c ⟨p, hp, k⟩
      · have := (h.mem p hp).2.1
        omega
    have a : amt T u v = 0 := amt_zero fun p hp k => c ⟨p, hp, k⟩
    rw [e, ← h.am, a]
    exact ⟨rfl, rfl⟩
theorem look_norm {T : List T3} {n : Int} {am : Int → Int → Int} (h : TiesOf n am T) {u v : Int} (huv : u ≠ v) :
    (look T u v).getD 0 = am (norm (u, v, 0)).1 (norm (u, v, 0)).2.1 ∧ (look T u v).isSome = decide (0 < am (norm (u, v, 0)).1 (norm (u, v, 0)).2.1) := by
  by_cases hlt : u < v
  · have e1 : (norm (u, v, 0)).1 = u := by show (if v < u then v else u) = u; rw [if_neg (by omega)]
    have e2 : (norm (u, v, 0)).2.1 = v := by show (if v > u then v else u) = v; rw [if_pos hlt]
    rw [e1, e2]
    exact look_amt h hlt
  · have e1 : (norm (u, v, 0)).1 = v := by show (if v < u then v else u) = v; rw [if_pos (by omega)]
    have e2 : (norm (u, v, 0)).2.1 = u := by show (if v > u then v else u) = u; rw [if_neg (by omega)]
    rw [e1, e2, look_symm]
    exact look_amt h (by omega)
/-- the sums in the order of sorted, without the empty ones, are the ties -/
theorem SumsOf.ties {l S Z : List T3} {n : Int} (h : SumsOf l S) (hl : ∀ p ∈ l, 0 ≤ p.1 ∧ p.1 < p.2.1 ∧ p.2.1 < n ∧ 0 ≤ p.2.2) (hp : Z.Perm S) (ho : Z.Pairwise fun p q => lt2 p q ∨ key p q) : TiesOf n (amt l) (Z.filter fun p => decide (0 < p.2.2)) := by
  have hd : Dif Z := (hp.pairwise_iff (R := fun p q => ¬ key p q) fun {p q} k z => k ⟨z.1.symm, z.2.symm⟩).mpr h.dif
  have hk : ∀ p ∈ Z, 0 ≤ p.1 ∧ p.1 < p.2.1 ∧ p.2.1 < n := fun p hpz => by
    obtain ⟨q, hq, k⟩ := h.mem p (hp.mem_iff.mp hpz)
    have := hl q hq
    unfold key at k
    omega
  have hn : ∀ p ∈ Z, p.2.2 = amt l p.1 p.2.1 := fun p hpz => by
    rw [← h.am, ← amt_perm hp]
    have : ∀ {Z : List T3}, Dif Z → ∀ {p : T3}, p ∈ Z → amt Z p.1 p.2.1 = p.2.2 := by
      intro Z
      induction Z with
      | nil => intro _ p hp; cases hp
      | cons q Z ih =>
        intro hd p hp
        obtain ⟨h1, h2⟩ := List.pairwise_cons.mp hd
        rw [amt_cons]
        rcases List.mem_cons.mp hp with rfl | hp
        · rw [if_pos ⟨rfl, rfl⟩, amt_zero fun r hr k => h1 r hr ⟨k.1.symm, k.2.symm⟩, Int.add_zero]
        · rw [if_neg (show ¬ (q.1 = p.1 ∧ q.2.1 = p.2.1) from fun k => h1 p hp k), ih h2 hp, Int.zero_add]
    exact (this hd hpz).symm
  have h0 : ∀ p ∈ Z, 0 ≤ p.2.2 := fun p hpz => by rw [hn p hpz]; exact amt_nonneg fun q hq => (hl q hq).2.2.2
  refine ⟨List.Pairwise.filter _ ((List.pairwise_and_iff.mpr ⟨ho, hd⟩).imp fun {p q} k => k.1.resolve_right k.2), fun p hpf => ?_, fun u v => ?_⟩
  · obtain ⟨a, b⟩ := List.mem_filter.mp hpf
    have := hk p a
    exact ⟨this.1, this.2.1, this.2.2, by simpa using b⟩
  · rw [amt_pos h0, amt_perm hp, h.am]
end T27
/-! repr of a list of data whose tuples may be tracked or written in the text; the length of a number's text. -/
namespace Wk
open PySem PySem.Spec PyProof.Rows L2
theorem len_of (x : String) : ((x : Str)).length = x.length := by
  show (Str.ofString x).length = _
  rw [Str.ofString_eq_toList]
  show ((x.toList.map Char.toNat).toArray).size = _
  rw [List.size_toArray, List.length_map, String.length_toList]
theorem int_len {i : Int} {k : Nat} (hk : 0 < k) (h : i.natAbs < 10 ^ k) : (PyData.int i).shown.length ≤ k + 1 := by
  simp only [PyData.shown]
  rw [len_of]
  cases i with
  | ofNat n =>
    have e := (Nat.length_repr_le_iff (n := n) hk).mpr h
    show (Nat.repr n).length ≤ _
    omega
  | negSucc n =>
    have e := (Nat.length_repr_le_iff (n := n + 1) hk).mpr h
    show ("-" ++ Nat.repr (n + 1)).length ≤ _
    rw [String.length_append]
    have : ("-" : String).length = 1 := rfl
    omega
theorem int_show {i : Int} (h : i.natAbs < 10 ^ 15) : (PyData.int i).shown.length ≤ 16 ∧ (PyData.int i).showable = true := by
  refine ⟨int_len (by decide) h, ?_⟩
  simp only [PyData.showable]
  refine decide_eq_true ?_
  have : i.natAbs.log2 < 64 := by
    by_cases h0 : i.natAbs = 0
    · rw [h0]; decide
    · exact (Nat.log2_lt h0).mpr (Nat.lt_of_lt_of_le h (by decide))
  omega
mutual
/-- the value is such data, all its objects tracked -/
inductive Rq (K : PySem.W.Frag) (H : Hp) : V → PyData → Prop
  | non : Rq K H .non .none
  | bl (b : Bool) : Rq K H (.bl b) (.bool b)
  | int (i : Int) : Rq K H (.int i) (.int i)
  | str (x : Str) : Rq K H (.str x) (.str x)
  | lst {a : Addr} {vs : List V} {ds : List PyData} : H a = some (.lst vs) → RqAll K H vs ds → Rq K H (.ref a) (.list ds)
  | tup {a : Addr} {vs : List V} {ds : List PyData} : SqT K H a vs → RqAll K H vs ds → Rq K H (.ref a) (.tuple ds)
  | emp {a : Addr} : H a = some (.dT []) → Rq K H (.ref a) (.dict [])
inductive RqAll (K : PySem.W.Frag) (H : Hp) : List V → List PyData → Prop
  | nil : RqAll K H [] []
  | cons {v : V} {vs : List V} {d : PyData} {ds : List PyData} : Rq K H v d → RqAll K H vs ds → RqAll K H (v :: vs) (d :: ds)
end
section
variable {X : Cx} {pins : List (Addr × Obj)} {σ : L2.St} {H : Hp} {s : Shared}
mutual
theorem Rq.k (I : Inv X pins σ H s) : ∀ (d : PyData) (v : V) (u : Value), Rq X.K H v d → RelV v u → d.showable = true → d.shown.length ≤ sizeLine →
    (∃ as, Reads s.heap u d as) ∧ ∃ bs, ReadAtMost s.heap d.depth bs ∧ ReprK X.prog X.w bs s.heap d.depth u d.shown
  | .none, v, u, h, r, _, _ => by
    cases h; cases r
    refine ⟨⟨_, Reads.none⟩, [], (fun _ z => nomatch z), ?_⟩
    simp only [PyData.shown]; exact ReprK.of_is ReprIs.none _ _ _
  | .bool b, v, u, h, r, _, _ => by
    cases h; cases r
    refine ⟨⟨_, Reads.bool b⟩, [], (fun _ z => nomatch z), ?_⟩
    simp only [PyData.shown]; exact ReprK.of_is (ReprIs.bool b) _ _ _
  | .int i, v, u, h, r, hs, _ => by
    cases h
    obtain ⟨t, rfl⟩ := r
    refine ⟨⟨_, Reads.int i t⟩, [], (fun _ z => nomatch z), ?_⟩
    simp only [PyData.shown]; exact ReprK.of_is (ReprIs.int t (by simpa [PyData.showable] using hs)) _ _ _
  | .str x, v, u, h, r, _, hz => by
    cases h
    obtain ⟨t, rfl⟩ := r
    refine ⟨⟨_, Reads.str x t⟩, [], (fun _ z => nomatch z), ?_⟩
    simp only [PyData.shown] at hz ⊢; exact ReprK.of_is (ReprIs.str x t hz) _ _ _
  | .list ds, v, u, h, r, hs, hz => by
    cases h with
    | @lst a vs _ ha hall =>
      cases (show u = Value.ref a from r)
      obtain ⟨_, its, n, rv, e⟩ := (show ObjOk X.prog X.w H s.heap a (.lst vs) from I.hok a _ ha)
      simp only [PyData.shown] at hz
      simp only [PyData.showable] at hs
      obtain ⟨⟨as, ra⟩, bs, hb, hk⟩ := RqAll.k I ds vs its hall rv hs (fun t ht => Nat.le_trans (listText_mem_le ht) hz)
      have hr : Reads s.heap (.ref a) (.list ds) (a :: as) := Reads.list (vs := its.toArray) e rfl rfl (by simpa using ra)
      have hna : a ∉ bs := not_mem_of_deeper hr (by simp only [PyData.depth]; omega) hb
      refine ⟨⟨_, hr⟩, a :: bs, ReadAtMost.cons hr (by simp only [PyData.depth]; omega) hb, ?_⟩
      simp only [PyData.depth, PyData.shown]
      cases its with
      | nil =>
        cases ra
        simp only [PyData.shownAll, listText_nil]
        exact ReprK.listEmpty e rfl rfl
      | cons y l => exact ReprK.list e rfl rfl hna (by simpa using hk.length_eq) (fun i z q => hk.item i z (by simpa using q))
  | .tuple ds, v, u, h, r, hs, hz => by
    cases h with
    | @tup a vs _ ha hall =>
      cases (show u = Value.ref a from r)
      obtain ⟨its, rv, ⟨o, e1, e2, n, e3⟩, _⟩ := I.tuple ha
      simp only [PyData.shown] at hz
      simp only [PyData.showable] at hs
      obtain ⟨⟨as, ra⟩, bs, hb, hk⟩ := RqAll.k I ds vs its hall rv hs (fun t ht => Nat.le_trans (tupleText_mem_le ht) hz)
      have hr : Reads s.heap (.ref a) (.tuple ds) as := Reads.tuple (vs := its.toArray) e1 e2 e3 (by simpa using ra)
      have hna : a ∉ bs := not_mem_of_deeper hr (by simp only [PyData.depth]; omega) hb
      refine ⟨⟨_, hr⟩, a :: bs, ReadAtMost.cons hr (by simp only [PyData.depth]; omega) hb, ?_⟩
      simp only [PyData.depth, PyData.shown]
      exact ReprK.tuple e1 e2 e3 hna (by simpa using hk)
  | .dict ps, v, u, h, r, _, _ => by
    cases h with
    | @emp a ha =>
      cases (show u = Value.ref a from r)
      obtain ⟨_, hsys, xs, hp, o, es, ep, e, ed, od, hes, _⟩ := (show ObjOk X.prog X.w H s.heap a (.dT []) from I.hok a _ ha)
      cases hp
      have hes : es.toList = [] := hes
      have hr : Reads s.heap (.ref a) (.dict []) ([a] ++ []) := Reads.dict e ed.1 od (by rw [hes]; exact ReadsAll.nil) (by rw [hes]; exact ReadsAll.nil)
      refine ⟨⟨_, hr⟩, [a], ReadAtMost.cons hr (Nat.le_refl _) (fun _ z => nomatch z), ?_⟩
      have hk := ReprK.dict (prog := X.prog) (w := X.w) (as := []) (d := 0) (ps := []) e ed.1 od hsys (fun z => nomatch z) (by rw [hes]; exact .nil)
      have e1 : (PyData.dict []).shown = dictText [] := by simp only [PyData.shown, PyData.shownKv]
      rw [e1]
      exact hk.level_le (by simp only [PyData.depth]; omega)
theorem RqAll.k (I : Inv X pins σ H s) : ∀ (ds : List PyData) (vs : List V) (us : List Value), RqAll X.K H vs ds → Vals vs us → PyData.showableAll ds = true → (∀ t ∈ PyData.shownAll ds, t.length ≤ sizeLine) →
    (∃ as, ReadsAll s.heap us ds as) ∧ ∃ bs, ReadAtMost s.heap (PyData.depthAll ds) bs ∧ ReprAllK X.prog X.w bs s.heap (PyData.depthAll ds) us (PyData.shownAll ds)
  | [], vs, us, h, r, _, _ => by
    cases h; cases r
    refine ⟨⟨_, ReadsAll.nil⟩, [], (fun _ z => nomatch z), ?_⟩
    simp only [PyData.shownAll]; exact ReprAllK.nil
  | d :: ds, vs, us, h, r, hs, hz => by
    cases h with
    | cons h1 h2 =>
      cases r with
      | cons r1 r2 =>
        simp only [PyData.showableAll, Bool.and_eq_true] at hs
        obtain ⟨⟨a1, q1⟩, b1, p1, k1⟩ := Rq.k I d _ _ h1 r1 hs.1 (hz _ (by simp only [PyData.shownAll]; exact List.mem_cons_self))
        obtain ⟨⟨a2, q2⟩, b2, p2, k2⟩ := RqAll.k I ds _ _ h2 r2 hs.2 (fun t ht => hz t (by simp only [PyData.shownAll]; exact List.mem_cons_of_mem _ ht))
        refine ⟨⟨_, ReadsAll.cons q1 q2⟩, b1 ++ b2, (p1.mono (by simp only [PyData.depthAll]; omega)).append (p2.mono (by simp only [PyData.depthAll]; omega)), ?_⟩
        simp only [PyData.depthAll, PyData.shownAll]
        exact ReprAllK.cons ((k1.more (fun b hm => List.mem_append_left _ hm)).level_le (Nat.le_max_left _ _)) (k2.more_le (fun b hm => List.mem_append_right _ hm) (Nat.le_max_right _ _))
end
end
end Wk
namespace Wk
open PySem PySem.Spec PyProof.Rows L2
/-- repr(xs), xs a list of such data -/
def rReprQ (K : PySem.W.Frag) : List V → Hp → VK → Prop := fun xs H Q => ∃ (a : Addr) (vs : List V) (ds : List PyData), xs = [.ref a] ∧ H a = some (.lst vs) ∧ RqAll K H vs ds ∧ PyData.showableAll ds = true ∧ PyData.depthAll ds ≤ 40 ∧
  (listText (PyData.shownAll ds)).length ≤ sizeLine ∧ Q (.str (listText (PyData.shownAll ds))) H
section
variable {X : Cx}
theorem call_reprQ {K : PySem.W.Frag} (hK : X.K = K) (hg : Gd X.A) (hu : X.A.units + 64 < cLine) : CallR X (.builtin "repr") (rReprQ K) := by
  subst hK
  intro pins s σ H xs us Q I r h
  obtain ⟨a, vs, ds, rfl, ha, hall, hs, hd, hz, q⟩ := h
  obtain ⟨u, rfl, e⟩ := vals1 r
  cases (show u = Value.ref a from e)
  obtain ⟨_, its, n, rv, e1⟩ := (show ObjOk X.prog X.w H s.heap a (.lst vs) from I.hok a _ ha)
  obtain ⟨⟨as, ra⟩, bs, hb, hk⟩ := RqAll.k I ds vs its hall rv hs (fun t ht => Nat.le_trans (listText_mem_le ht) hz)
  have hr : Reads s.heap (.ref a) (.list ds) (a :: as) := Reads.list (vs := its.toArray) e1 rfl rfl (by simpa using ra)
  have hna : a ∉ bs := not_mem_of_deeper hr (by simp only [PyData.depth]; omega) hb
  refine call_repr_slot (by omega) ⟨_, e1, rfl⟩ F.slot_list_repr.toG ?_
  cases its with
  | nil =>
    cases ra
    simp only [PyData.shownAll, listText_nil] at q
    exact call_list_repr_empty ⟨_, e1, rfl⟩ e1 rfl ⟨_, _, rfl, .str "[]", H, I.tok _, ⟨_, rfl⟩, q⟩
  | cons y l =>
    refine call_list_reprK e1 rfl rfl hna (by simpa using hk.length_eq) (fun i z w => hk.item i z (by simpa using w)) hg (fun b _ => Clear.nil b) (by show X.A.units + 1 + _ < _; omega) (fun _ _ z => z) (fun h' u tk kp => ?_) hz
    exact ⟨_, _, rfl, .str _, H, I.kept (t' := tk) kp, ⟨_, rfl⟩, q⟩
end
end Wk
/-! The texts of sizes, ties and degrees are short; what the law's data look like. -/
namespace T27
open PySem PySem.Spec PyProof.Rows L2 Wk
/-- the signs of a list of data -/
def cost : List PyData → Nat
  | [] => 0
  | d :: ds => d.shown.length + 2 + cost ds
theorem cost_sum : ∀ ds : List PyData, ((PyData.shownAll ds).map fun t => t.length + 2).sum = cost ds
  | [] => rfl
  | d :: ds => by
    show (((d.shown :: PyData.shownAll ds)).map fun t => t.length + 2).sum = d.shown.length + 2 + cost ds
    rw [List.map_cons, List.sum_cons, cost_sum ds]
theorem cost_append : ∀ ds es : List PyData, cost (ds ++ es) = cost ds + cost es
  | [], es => by show cost es = 0 + cost es; omega
  | d :: ds, es => by show d.shown.length + 2 + cost (ds ++ es) = _; rw [cost_append ds es]; show _ = d.shown.length + 2 + cost ds + cost es; omega
theorem textFrom_le : ∀ (ts : List Str) (k : Nat) (acc : Str), (textFrom k acc ts).length ≤ acc.length + (ts.map fun t => t.length + 2).sum
  | [], _, acc => by simp [textFrom]
  | t :: r, k, acc => by
    have ih := textFrom_le r (k + 1) (acc ++ (if k > 0 then ", " else "" : String) ++ t)
    have e : (((if k > 0 then ", " else "" : String) : Str)).length ≤ 2 := by split <;> decide +kernel
    rw [strLen_append, strLen_append] at ih
    rw [List.map_cons, List.sum_cons]
    refine Nat.le_trans (show (textFrom k acc (t :: r)).length ≤ _ from ih) ?_
    omega
theorem listText_le (ds : List PyData) : (listText (PyData.shownAll ds)).length ≤ 2 + cost ds := by
  have h := textFrom_le (PyData.shownAll ds) 0 "["
  rw [cost_sum] at h
  unfold listText
  rw [strLen_append]
  have e1 : ((("[" : String) : Str)).length = 1 := rfl
  have e2 : ((("]" : String) : Str)).length = 1 := rfl
  omega
theorem piled_eq : ∀ ts : List Str, piled ts = (ts.map fun t => t.length + 2).sum := fun ts => by
  induction ts with
  | nil => rfl
  | cons t ts ih => rw [List.map_cons, List.sum_cons, ← ih]; simp [piled]
theorem tupleText_le (ds : List PyData) : (tupleText (PyData.shownAll ds)).length ≤ 3 + cost ds := by
  unfold tupleText
  rw [strLen_append, strLen_append]
  have e1 : ((("(" : String) : Str)).length = 1 := rfl
  have e2 : (((if (PyData.shownAll ds).length == 1 then ",)" else ")" : String) : Str)).length ≤ 2 := by split <;> decide +kernel
  have e3 : (Str.join ", " (PyData.shownAll ds)).length ≤ cost ds := by
    cases ds with
    | nil => decide +kernel
    | cons d ds =>
      have h := join_length_add (PyData.shownAll (d :: ds)) (by simp [PyData.shownAll])
      rw [piled_eq, cost_sum] at h
      omega
  omega
/-- a number of moderate size -/
abbrev Small (i : Int) : Prop := i.natAbs < 10 ^ 15
theorem small_of {i : Int} (h0 : 0 ≤ i) (h : i ≤ 100000000000000) : Small i := by
  have : (10 : Nat) ^ 15 = 1000000000000000 := by decide
  show i.natAbs < _
  omega
theorem ints_ok : ∀ {l : List Int}, (∀ i ∈ l, Small i) → cost (l.map PyData.int) ≤ 18 * l.length ∧ PyData.showableAll (l.map PyData.int) = true ∧ PyData.depthAll (l.map PyData.int) = 0
  | [], _ => ⟨Nat.le_refl _, by simp [PyData.showableAll], by simp [PyData.depthAll]⟩
  | i :: l, h => by
    obtain ⟨a, b, c⟩ := ints_ok fun j hj => h j (List.mem_cons_of_mem _ hj)
    obtain ⟨d, e⟩ := int_show (h i List.mem_cons_self)
    refine ⟨?_, ?_, ?_⟩
    · show (PyData.int i).shown.length + 2 + cost (l.map PyData.int) ≤ 18 * (l.length + 1)
      omega
    · rw [List.map_cons, PyData.showableAll, e, b]; rfl
    · rw [List.map_cons, PyData.depthAll, c]; simp [PyData.depth]
theorem tup_len {ds : List PyData} : (PyData.tuple ds).shown.length ≤ 3 + cost ds := by
  have := tupleText_le ds
  simpa only [PyData.shown] using this
theorem d3_ok {p : T3} (h1 : Small p.1) (h2 : Small p.2.1) (h3 : Small p.2.2) : (d3 p).shown.length ≤ 57 ∧ (d3 p).showable = true ∧ (d3 p).depth = 1 := by
  have h := ints_ok (l := [p.1, p.2.1, p.2.2]) (by
    intro i hi
    simp only [List.mem_cons, List.not_mem_nil, or_false] at hi
    rcases hi with rfl | rfl | rfl <;> assumption)
  obtain ⟨a, b, c⟩ := h
  have e : d3 p = .tuple ([p.1, p.2.1, p.2.2].map PyData.int) := rfl
  rw [e]
  refine ⟨?_, ?_, ?_⟩
  · have := tup_len (ds := [p.1, p.2.1, p.2.2].map PyData.int)
    have e3 : [p.1, p.2.1, p.2.2].length = 3 := rfl
    omega
  · rw [PyData.showable]; exact b
  · rw [PyData.depth, c]
theorem d3s_ok : ∀ {T : List T3}, (∀ p ∈ T, Small p.1 ∧ Small p.2.1 ∧ Small p.2.2) → cost (T.map d3) ≤ 59 * T.length ∧ PyData.showableAll (T.map d3) = true ∧ PyData.depthAll (T.map d3) ≤ 1
  | [], _ => ⟨Nat.le_refl _, by simp [PyData.showableAll], by simp [PyData.depthAll]⟩
  | p :: T, h => by
    obtain ⟨a, b, c⟩ := d3s_ok fun j hj => h j (List.mem_cons_of_mem _ hj)
    obtain ⟨h1, h2, h3⟩ := h p List.mem_cons_self
    obtain ⟨d, e, f⟩ := d3_ok h1 h2 h3
    refine ⟨?_, ?_, ?_⟩
    · show (d3 p).shown.length + 2 + cost (T.map d3) ≤ 59 * (T.length + 1)
      omega
    · rw [List.map_cons, PyData.showableAll, e, b]; rfl
    · rw [List.map_cons, PyData.depthAll, f]; omega
/-- triples as data -/
theorem Trs.rq {K : PySem.W.Frag} {H : Hp} : ∀ {xs : List V} {ps : List T3}, Trs K H xs ps → RqAll K H xs (ps.map d3)
  | [], [], _ => .nil
  | _ :: _, _ :: _, h => by
    obtain ⟨⟨t, rfl, hS⟩, h2⟩ := h
    exact .cons (.tup hS (.cons (.int _) (.cons (.int _) (.cons (.int _) .nil)))) (Trs.rq h2)
  | [], _ :: _, h => h.elim
  | _ :: _, [], h => h.elim
theorem ints_rq {K : PySem.W.Frag} {H : Hp} : ∀ {l : List Int}, RqAll K H (l.map V.int) (l.map PyData.int)
  | [] => .nil
  | _ :: _ => .cons (.int _) ints_rq
/-- size, ties, total, degrees -/
def told (n : Nat) (T : List T3) (t : Int) (g : List Int) : List PyData := [.int (n : Int), .tuple (T.map d3), .int t, .tuple (g.map PyData.int)]
theorem told_ok {n : Nat} {T : List T3} {t : Int} {g : List Int} (hn : n ≤ 60) (hT : ∀ p ∈ T, Small p.1 ∧ Small p.2.1 ∧ Small p.2.2) (hl : T.length ≤ 4000) (ht : Small t) (hg : ∀ i ∈ g, Small i) (hgl : g.length ≤ 100) :
    PyData.showableAll (told n T t g) = true ∧ PyData.depthAll (told n T t g) ≤ 40 ∧ (listText (PyData.shownAll (told n T t g))).length ≤ sizeLine := by
  obtain ⟨a1, a2⟩ := int_show (i := (n : Int)) (small_of (by omega) (by omega))
  obtain ⟨b1, b2⟩ := int_show ht
  obtain ⟨c1, c2, c3⟩ := d3s_ok hT
  obtain ⟨d1, d2, d3'⟩ := ints_ok hg
  refine ⟨?_, ?_, ?_⟩
  · unfold told
    rw [PyData.showableAll, PyData.showableAll, PyData.showableAll, PyData.showableAll, PyData.showableAll, a2, b2, PyData.showable, c2, PyData.showable, d2]
    rfl
  · unfold told
    rw [PyData.depthAll, PyData.depthAll, PyData.depthAll, PyData.depthAll, PyData.depthAll, PyData.depth, PyData.depth, PyData.depth, PyData.depth, d3']
    omega
  · refine Nat.le_trans (listText_le _) ?_
    unfold told
    show 2 + ((PyData.int (n : Int)).shown.length + 2 + ((PyData.tuple (T.map d3)).shown.length + 2 + ((PyData.int t).shown.length + 2 + ((PyData.tuple (g.map PyData.int)).shown.length + 2 + 0)))) ≤ sizeLine
    have e1 := tup_len (ds := T.map d3)
    have e2 := tup_len (ds := g.map PyData.int)
    rw [sizeLine_eq]
    omega
end T27
/-! A web and the law's sums of its items; degrees that are added up in a list. -/
namespace T27
open PySem PySem.Spec PyProof.Rows L2 Wk
theorem perm_back {α β : Type} {f : α → β} {l m : List β} (h : l.Perm m) : ∀ {S : List α}, m = S.map f → ∃ Z : List α, Z.Perm S ∧ Z.map f = l := by
  induction h with
  | nil => exact fun {S} e => ⟨S, .refl _, e.symm⟩
  | cons x _ ih =>
    intro S e
    cases S with
    | nil => cases e
    | cons s S =>
      rw [List.map_cons] at e
      obtain ⟨e1, e2⟩ := List.cons.inj e
      obtain ⟨Z, h1, h2⟩ := ih e2
      exact ⟨s :: Z, h1.cons s, by rw [List.map_cons, h2, e1]⟩
  | swap x y l =>
    intro S e
    cases S with
    | nil => cases e
    | cons s S =>
      cases S with
      | nil => rw [List.map_cons] at e; cases (List.cons.inj e).2
      | cons t S =>
        rw [List.map_cons, List.map_cons] at e
        obtain ⟨e1, e2⟩ := List.cons.inj e
        obtain ⟨e2, e3⟩ := List.cons.inj e2
        exact ⟨t :: s :: S, List.Perm.swap .., by rw [List.map_cons, List.map_cons, ← e1, ← e2, ← e3]⟩
  | trans _ _ ih1 ih2 =>
    intro S e
    obtain ⟨Z2, h1, h2⟩ := ih2 e
    obtain ⟨Z1, h3, h4⟩ := ih1 h2.symm
    exact ⟨Z1, h3.trans h1, h4⟩
/-- a pair's two numbers -/
def kk (p : T3) : List Int := [p.1, p.2.1]
theorem le2_of_code2 {B : Int} {p q : T3} (hp : TS.Bd B (kk p)) (hq : TS.Bd B (kk q)) (h : TS.code B (kk p) ≤ TS.code B (kk q)) : lt2 p q ∨ key p q := by
  unfold kk at *
  by_cases h1 : q.1 < p.1
  · have := TS.code_lt (B := B) (r := [q.2.1]) (q := [p.2.1]) rfl hq.tail hp.tail h1
    omega
  · by_cases h2 : p.1 = q.1
    · by_cases h3 : q.2.1 < p.2.1
      · have a := TS.code_lt (B := B) (r := []) (q := []) rfl hq.tail.tail hp.tail.tail h3
        have b := (TS.code_same (B := B) (d := p.1) (r := [q.2.1]) (q := [p.2.1]) rfl).mpr a
        rw [h2] at b h
        omega
      · unfold lt2 key; omega
    · unfold lt2 key; omega
/-- the pairs in the order of sorted -/
theorem sorted_back {S : List T3} {ks : List (List Int)} (hB : ∀ p ∈ S, TS.Bd 61 (kk p)) (hp : ks.Perm (S.map kk)) (ho : ks.Pairwise fun n m => TS.code 61 n ≤ TS.code 61 m) :
    ∃ Z : List T3, Z.Perm S ∧ Z.map kk = ks ∧ Z.Pairwise fun p q => lt2 p q ∨ key p q := by
  obtain ⟨Z, h1, h2⟩ := perm_back hp rfl
  refine ⟨Z, h1, h2, ?_⟩
  rw [← h2, List.pairwise_map] at ho
  exact ho.imp_of_mem fun {p q} hp hq h => le2_of_code2 (hB p (h1.mem_iff.mp hp)) (hB q (h1.mem_iff.mp hq)) h
theorem dif_amt : ∀ {Z : List T3}, Dif Z → ∀ {p : T3}, p ∈ Z → amt Z p.1 p.2.1 = p.2.2
  | q :: Z, hd, p, hp => by
    obtain ⟨h1, h2⟩ := List.pairwise_cons.mp hd
    rw [amt_cons]
    rcases List.mem_cons.mp hp with rfl | hp
    · rw [if_pos ⟨rfl, rfl⟩, amt_zero fun r hr k => h1 r hr ⟨k.1.symm, k.2.symm⟩, Int.add_zero]
    · rw [if_neg (show ¬ (q.1 = p.1 ∧ q.2.1 = p.2.1) from fun k => h1 p hp k), dif_amt h2 hp, Int.zero_add]
theorem Dif.perm {Z S : List T3} (h : Dif S) (p : Z.Perm S) : Dif Z := (p.pairwise_iff (R := fun p q => ¬ key p q) fun {p q} k z => k ⟨z.1.symm, z.2.symm⟩).mpr h
/-- what the dict holds at a pair of its own -/
theorem valV_mem {S : List T3} (h : Dif S) {p : T3} (hp : p ∈ S) : valV (S.map ent) [.inl p.1, .inl p.2.1] = some (.int p.2.2) := by
  rcases valV_ent (u := p.1) (v := p.2.1) h with ⟨_, b⟩ | ⟨a, _⟩
  · exact absurd ⟨rfl, rfl⟩ (b p hp)
  · rw [a, dif_amt h hp]
theorem inc_pos {l : List T3} {u : Int} (h : ∀ p ∈ l, 0 ≤ p.2.2) : inc (l.filter fun p => decide (0 < p.2.2)) u = inc l u := by
  induction l with
  | nil => rfl
  | cons p l ih =>
    have ih := ih fun q hq => h q (List.mem_cons_of_mem _ hq)
    have h0 := h p List.mem_cons_self
    by_cases hp : 0 < p.2.2
    · rw [List.filter_cons_of_pos (by simpa using hp), inc_cons, inc_cons, ih]
    · rw [List.filter_cons_of_neg (by simpa using hp), inc_cons, ih]
      have : p.2.2 = 0 := by omega
      rw [this]
      split <;> split <;> omega
theorem total_cons {p : T3} {l : List T3} : total (p :: l) = p.2.2 + total l := by unfold total; rw [List.map_cons, List.sum_cons]
theorem total_pos {l : List T3} (h : ∀ p ∈ l, 0 ≤ p.2.2) : total (l.filter fun p => decide (0 < p.2.2)) = total l := by
  induction l with
  | nil => rfl
  | cons p l ih =>
    have ih := ih fun q hq => h q (List.mem_cons_of_mem _ hq)
    have h0 := h p List.mem_cons_self
    by_cases hp : 0 < p.2.2
    · rw [List.filter_cons_of_pos (by simpa using hp), total_cons, total_cons, ih]
    · rw [List.filter_cons_of_neg (by simpa using hp), total_cons, ih]
      omega
theorem total_bound : ∀ {l : List T3}, (∀ p ∈ l, 0 ≤ p.2.2 ∧ p.2.2 ≤ 1000000000) → 0 ≤ total l ∧ total l ≤ 1000000000 * (l.length : Int)
  | [], _ => ⟨Int.le_refl _, Int.le_refl _⟩
  | p :: l, h => by
    obtain ⟨a, b⟩ := total_bound fun q hq => h q (List.mem_cons_of_mem _ hq)
    have := h p List.mem_cons_self
    rw [total_cons, List.length_cons]
    omega
theorem inc_bound : ∀ {l : List T3} {u : Int}, (∀ p ∈ l, 0 ≤ p.2.2 ∧ p.2.2 ≤ 1000000000) → 0 ≤ inc l u ∧ inc l u ≤ 2000000000 * (l.length : Int)
  | [], _, _ => ⟨Int.le_refl _, Int.le_refl _⟩
  | p :: l, u, h => by
    obtain ⟨a, b⟩ := inc_bound (u := u) fun q hq => h q (List.mem_cons_of_mem _ hq)
    have := h p List.mem_cons_self
    rw [inc_cons, List.length_cons]
    split <;> split <;> omega
/-- a web at w, and at d the law's sums of the items it was made of -/
structure WD (K : PySem.W.Frag) (C : Addr) (H : Hp) (w : Addr) (n : Nat) (T : List T3) (d : Addr) (S l : List T3) : Prop where
  web : WebAt K C H w n T
  dic : H d = some (.dT (S.map ent))
  sums : SumsOf l S
  norm : ∀ p ∈ l, 0 ≤ p.1 ∧ p.1 < p.2.1 ∧ p.2.1 < (n : Int) ∧ 0 ≤ p.2.2
  ties : TiesOf (n : Int) (amt l) T
  len : l.length < 4000
  big : ∀ u v, amt l u v ≤ 1000000000
  n60 : n ≤ 60
theorem WD.same {K : PySem.W.Frag} {C : Addr} {H H' : Hp} {w : Addr} {n : Nat} {T : List T3} {d : Addr} {S l : List T3} (h : WD K C H w n T d S l) (s : Same H H') : WD K C H' w n T d S l :=
  ⟨h.web.same s, s _ _ h.dic, h.sums, h.norm, h.ties, h.len, h.big, h.n60⟩
theorem TiesOf.num {T l : List T3} {n : Int} (h : TiesOf n (amt l) T) (hb : ∀ u v, amt l u v ≤ 1000000000) {p : T3} (hp : p ∈ T) : 0 ≤ p.2.2 ∧ p.2.2 ≤ 1000000000 := by
  have a := amt_mem h.asc hp
  have b := h.mem p hp
  have c := hb p.1 p.2.1
  rw [h.am] at a
  omega
section
variable {l S T Z : List T3} {n : Nat}
theorem SumsOf.bd (h : SumsOf l S) (hl : ∀ p ∈ l, 0 ≤ p.1 ∧ p.1 < p.2.1 ∧ p.2.1 < (n : Int) ∧ 0 ≤ p.2.2) (hn : n ≤ 60) : ∀ p ∈ S, 0 ≤ p.1 ∧ p.1 < p.2.1 ∧ p.2.1 < (n : Int) ∧ TS.Bd 61 (kk p) := fun p hp => by
  obtain ⟨q, hq, k⟩ := h.mem p hp
  have := hl q hq
  unfold key at k
  refine ⟨by omega, by omega, by omega, fun m hm => ?_⟩
  unfold kk at hm
  simp only [List.mem_cons, List.not_mem_nil, or_false] at hm
  rcases hm with rfl | rfl <;> omega
theorem SumsOf.pos (h : SumsOf l S) (hl : ∀ p ∈ l, 0 ≤ p.1 ∧ p.1 < p.2.1 ∧ p.2.1 < (n : Int) ∧ 0 ≤ p.2.2) : ∀ p ∈ S, p.2.2 = amt l p.1 p.2.1 ∧ 0 ≤ p.2.2 := fun p hp => by
  have a := dif_amt h.dif hp
  rw [h.am] at a
  have := amt_nonneg (u := p.1) (v := p.2.1) fun q hq => (hl q hq).2.2.2
  omega
theorem SumsOf.eqT (h : SumsOf l S) (hl : ∀ p ∈ l, 0 ≤ p.1 ∧ p.1 < p.2.1 ∧ p.2.1 < (n : Int) ∧ 0 ≤ p.2.2) (ht : TiesOf (n : Int) (amt l) T) (hp : Z.Perm S) (ho : Z.Pairwise fun p q => lt2 p q ∨ key p q) :
    (Z.filter fun p => decide (0 < p.2.2)) = T := (h.ties hl hp ho).eq ht fun _ _ => rfl
end
/-- a list of degrees, one place raised -/
theorem range_set {n u : Nat} {f : Nat → Int} {m : Int} (hu : u < n) : (((List.range n).map f).map V.int).set u (.int (f u + m)) = ((List.range n).map fun x => f x + if x = u then m else 0).map V.int := by
  refine List.ext_getElem? fun i => ?_
  rw [List.getElem?_set, List.length_map, List.length_map, List.length_range, List.getElem?_map, List.getElem?_map, List.getElem?_map, List.getElem?_map]
  by_cases e : u = i
  · subst e
    rw [if_pos rfl, if_pos hu, List.getElem?_range hu]
    show some _ = some (V.int (f u + if u = u then m else 0))
    rw [if_pos rfl]
  · rw [if_neg e]
    by_cases hi : i < n
    · rw [List.getElem?_range hi]
      show some (V.int (f i)) = some (V.int (f i + if i = u then m else 0))
      rw [if_neg (Ne.symm e), Int.add_zero]
    · rw [List.getElem?_eq_none (by rw [List.length_range]; omega)]
      rfl
theorem range_at {n u : Nat} {f : Nat → Int} (hu : u < n) : (((List.range n).map f).map V.int)[u]? = some (.int (f u)) := by
  rw [List.getElem?_map, List.getElem?_map, List.getElem?_range hu]
  rfl
theorem range_len {n : Nat} {f : Nat → Int} : (((List.range n).map f).map V.int).length = n := by rw [List.length_map, List.length_map, List.length_range]
theorem rep0 (n : Nat) : (List.replicate ((n : Int)).toNat [V.int 0]).flatten = ((List.range n).map fun _ => (0 : Int)).map V.int := by
  rw [Int.toNat_natCast]
  induction n with
  | zero => rfl
  | succ n ih =>
    rw [List.replicate_succ', List.flatten_append, ih, List.range_succ, List.map_append, List.map_append]
    rfl
/-- degrees behind one more bundle -/
theorem inc_step {n : Nat} {T : List T3} {p : T3} (h0 : 0 ≤ p.1) (h1 : 0 ≤ p.2.1) : ((List.range n).map fun (x : Nat) => (inc T (x : Int) + if x = p.1.toNat then p.2.2 else 0) + if x = p.2.1.toNat then p.2.2 else 0) = (List.range n).map fun (x : Nat) => inc (T ++ [p]) (x : Int) := by
  refine List.map_congr_left fun x _ => ?_
  rw [inc_append, inc_cons]
  have e : inc [] (x : Int) = 0 := rfl
  rw [e]
  have c1 : (x = p.1.toNat) ↔ (p.1 = (x : Int)) := by omega
  have c2 : (x = p.2.1.toNat) ↔ (p.2.1 = (x : Int)) := by omega
  by_cases a : p.1 = (x : Int)
  · rw [if_pos a, if_pos (c1.mpr a)]
    by_cases b : p.2.1 = (x : Int)
    · rw [if_pos b, if_pos (c2.mpr b)]; omega
    · rw [if_neg b, if_neg fun z => b (c2.mp z)]; omega
  · rw [if_neg a, if_neg fun z => a (c1.mp z)]
    by_cases b : p.2.1 = (x : Int)
    · rw [if_pos b, if_pos (c2.mpr b)]; omega
    · rw [if_neg b, if_neg fun z => b (c2.mp z)]; omega
theorem degs_inc {T l : List T3} {n : Nat} (h : TiesOf (n : Int) (amt l) T) : degs T n = (List.range n).map fun (x : Nat) => inc T (x : Int) :=
  List.map_congr_left fun x _ => deg_inc h.asc h.mem
end T27
/-! repr(bool); t[::-1] of a tuple. -/
namespace Wk
open PySem PySem.Spec PyProof.Rows L2 HT
theorem call_reprBl {X : Cx} : CallR X (.builtin "repr") (fun xs H Q => ∃ b : Bool, xs = [.bl b] ∧ Q (.str (if b then "True" else "False")) H) := by
  intro pins s σ H xs us Q I r h
  obtain ⟨b, rfl, q⟩ := h
  obtain ⟨u, rfl, e⟩ := vals1 r
  cases (show u = Value.bool b from e)
  exact PySem.P.repr_of_bool ⟨.str _, H, I.tok _, ⟨_, rfl⟩, q⟩
theorem rev_pick (xs : Array Value) : ((List.range xs.size).filterMap fun (k : Nat) => xs[((xs.size : Int) - 1 + (k : Int) * (-1)).toNat]?) = xs.toList.reverse := by
  have h := PySem.W.krv_all xs
  have e : ((List.range xs.size).map fun k => xs.size - 1 - k).filterMap (xs[·]?) = xs.toList.reverse := by
    rw [PySem.W.krv_range, List.filterMap_reverse, h]
  rw [List.filterMap_map] at e
  rw [← e]
  have hh : ∀ l : List Nat, (∀ k ∈ l, k < xs.size) → l.filterMap (fun (k : Nat) => xs[((xs.size : Int) - 1 + (k : Int) * (-1)).toNat]?) = l.filterMap ((xs[·]?) ∘ fun k => xs.size - 1 - k) := by
    intro l
    induction l with
    | nil => intro _; rfl
    | cons k l ih =>
      intro hl
      have hk := hl k List.mem_cons_self
      rw [List.filterMap_cons, List.filterMap_cons, ih fun j hj => hl j (List.mem_cons_of_mem _ hj)]
      have : ((xs.size : Int) - 1 + (k : Int) * (-1)).toNat = xs.size - 1 - k := by omega
      have e2 : xs[((xs.size : Int) - 1 + (k : Int) * (-1)).toNat]? = ((xs[·]?) ∘ fun k => xs.size - 1 - k) k := by rw [this]; rfl
      rw [e2]
  exact hh _ fun k hk => List.mem_range.mp hk
section
variable {prog : Program} {w : World} {A : Around} {E : Value → Shared → Prop} {s : Shared}
theorem applied_rev {sl : Addr} {vs : Value} {n : Nat} {Q : Int × Int × Nat → Shared → Prop} (hs : s.heap.IsSliceOf sl .none .none vs) (ps : IsPart vs (some (-1))) (h : Q ((n : Int) - 1, -1, n) s) :
    wpAny (model prog w) A (Builtin.Slice.sliceApplied (.ref sl) (pure (n : Int))) Q E s := by
  obtain ⟨os, hos, hcs, hds⟩ := id hs
  unfold Builtin.Slice.sliceApplied Builtin.Slice.sliceFields
  refine wpAny_bind (wpAny_bind (wpAny_field hos hds (x := .none) rfl (wpAny_bind (wpAny_field hos hds (x := .none) rfl (wpAny_bind (wpAny_field hos hds (x := vs) rfl (wpAny_pure ?_)))))))
  refine wpAny_bind (slicePart_ ps ?_)
  show wpAny _ _ (if ((-1 : Int) == 0) = true then _ else _) _ _ s
  rw [if_neg (by decide)]
  refine wpAny_bind (slicePart_ .none (wpAny_bind (slicePart_ .none (wpAny_bind (wpAny_pure ?_)))))
  have ad : Builtin.Slice.sliceAdjust none none (-1) (n : Int) = ((n : Int) - 1, -1) := by
    unfold Builtin.Slice.sliceAdjust
    first | rfl | simp
  have pl : Builtin.Slice.slicePlaces ((n : Int) - 1) (-1) (-1) = n := by
    unfold Builtin.Slice.slicePlaces
    have h1 : ¬ ((-1 : Int) > 0) := by decide
    simp only [h1, if_false]
    by_cases h0 : n = 0
    · subst h0; decide
    · rw [show (- -1 : Int) = 1 by decide]
      simp only [Int.ediv_one]
      split <;> omega
  show wpAny _ _ (match Builtin.Slice.sliceAdjust none none (-1) (n : Int) with | (a, b) => pure (a, (-1 : Int), Builtin.Slice.slicePlaces a b (-1))) _ _ s
  rw [ad]
  show wpAny _ _ (pure ((n : Int) - 1, (-1 : Int), Builtin.Slice.slicePlaces ((n : Int) - 1) (-1) (-1))) _ _ s
  rw [pl]
  exact wpAny_pure h
theorem getItem_rev {t sl : Addr} {items : Array Value} {vs : Value} {Q : Value → Shared → Prop} (ht : IsTup s.heap t items) (hs : s.heap.IsSliceOf sl .none .none vs) (ps : IsPart vs (some (-1)))
    (h : Q (.ref s.heap.objs.size) { s with heap := s.heap.push { cls := .type "tuple", data := .seq items.toList.reverse.toArray } }) (hz : items.size ≤ sizeLine) : wpAny (model prog w) A (getItem (.ref t) (.ref sl)) Q E s := by
  have hk : sizeOk (.seq items.toList.reverse.toArray) := by
    show items.toList.reverse.toArray.size ≤ sizeLine
    rw [List.size_toArray, List.length_reverse, Array.length_toList]; exact hz
  obtain ⟨os, hos, hcs, hds⟩ := id hs
  have hTs : s.TypeIs (.ref sl) "slice" := ⟨os, hos, hcs⟩
  unfold getItem
  try with_reducible refine wpAny_holding ?_
  first | refine wpAny_bind (wpAny_pure ?_) | skip
  refine wpAny_bind (wpAny_sequenceKey ht.typeIs (by decide) ?_)
  refine wpAny_bind (wpAny_callSpecial?_slot (name := Str.ofString "__getitem__") ht.typeIs PyProof.Rows.slot_tuple_getitem (wpAny_call_entry PyProof.Rows.slot_tuple_getitem ht.typeIs entry_tuple_getitem ?_ (args_tuple_getitem _ _)))
  show wpAny _ _ (Builtin.Tuple.tupleItemsOf (.ref t) >>= _) _ _ s
  refine wpAny_bind (tupleItemsOf_ ht ?_)
  refine wpAny_bind (wpAny_typeOf hTs ?_)
  rw [if_pos (by decide)]
  refine wpAny_bind (applied_rev hs ps ?_)
  have no : ¬ ((((items.size : Int) - 1) == 0 && (-1 : Int) == 1 && items.size == items.size) = true) := by simp
  show wpAny _ _ (if (((items.size : Int) - 1) == 0 && (-1 : Int) == 1 && items.size == items.size) = true then _ else _) _ _ s
  rw [if_neg no, rev_pick]
  first
    | exact wpAny_bind (m := Builtin.Tuple.tupleExact _) (wpAny_newObj_type (wpAny_pure ⟨_, rfl, wpAny_pure h⟩) hk)
    | exact wpAny_bind (m := Builtin.Tuple.tupleExact _) (wpAny_newObj_type (wpAny_bind (wpAny_pure (wpAny_pure ⟨_, rfl, wpAny_pure h⟩))) hk)
    | exact wpAny_bind (wpAny_bind (m := Builtin.Tuple.tupleExact _) (wpAny_newObj_type (wpAny_pure (wpAny_pure ⟨_, rfl, wpAny_pure h⟩)) hk))
    | exact wpAny_bind (wpAny_bind (m := Builtin.Tuple.tupleExact _) (wpAny_newObj_type (wpAny_pure ⟨_, rfl, wpAny_pure h⟩) hk))
end
/-- t[::-1] -/
def tRevT (K : PySem.W.Frag) (te : TE) : TE := fun σ H Q => te σ H fun x H1 => ∃ a xs, x = .ref a ∧ SqT K H1 a xs ∧ ∀ p, H1 p = none → Q (.ref p) (upd H1 p (.tup xs.reverse))
theorem pe_revT {X : Cx} {e : Expr} {te : TE} {k : Nat} {p1 p2 p3 pos : Pos} (he : PE X e te) : PE X (.Subscript e (.Slice none none (some (.UnaryOp .USub (.Constant (.int 1) k p1) p2)) p3) pos) (tRevT X.K te) := by
  refine ⟨fun pins s σ H Q I h => Subscript_ (thn (he.run pins s σ H _ I h) fun v s1 ⟨x, H1, I1, r1, q1⟩ => ?_)⟩
  obtain ⟨a, xs, ex, hx, q⟩ := q1
  subst ex
  cases r1
  have st : PO X (some (.UnaryOp .USub (.Constant (.int 1) k p1) p2)) (tPart (tUn (rU fun i => .int (-i)) (tC (.int 1)))) := po_some (pe_un un_neg pe_int)
  refine wpAny_Slice (thn (po_none.run pins s1 σ H1 (fun o H2 => o = none ∧ H2 = H1) I1 ⟨rfl, rfl⟩) fun vl s2 ⟨l, H2, I2, pl, el, e2⟩ => ?_)
  subst el e2
  cases pl
  refine thn (po_none.run pins s2 σ H2 (fun o H3 => o = none ∧ H3 = H2) I2 ⟨rfl, rfl⟩) fun vu s3 ⟨u, H3, I3, pu, eu, e3⟩ => ?_
  subst eu e3
  cases pu
  refine thn (st.run pins s3 σ H3 (fun o H4 => o = some (-1) ∧ H4 = H3) I3 ⟨1, rfl, -1, rfl, rfl, rfl⟩) fun vs s4 ⟨o, H4, I4, ps, eo, e4⟩ => ?_
  subst eo e4
  have I5 : Inv X pins σ H4 { s4 with heap := s4.heap.push { cls := .type "slice", data := .fields #[.none, .none, vs] } } := I4.kept (t' := s4.toks) fun b ob q => Heap.get?_push_of_some _ q
  obtain ⟨its, r, ht, hz⟩ := I5.tuple hx
  have hlen := r.length
  refine tail_any (ops := [.ref a, .ref s4.heap.objs.size]) ht.typeIs (PyProof.Rows.slot_tuple_getitem.lookup) ?_ (by with_unfolding_all rfl)
  refine getItem_rev ht (Heap.IsSliceOf.new _ .none .none vs) ps ?_ (by rw [List.size_toArray]; omega)
  refine ⟨.ref _, _, I5.laid (t' := s4.toks) (o := .tup xs.reverse) (fun b ob q => Heap.get?_push_of_some _ q) (Nat.le_refl _) ?_, rfl, q _ (I5.hok.fresh (Nat.le_refl _))⟩
  refine ⟨by rw [List.length_reverse]; exact hz, its.reverse, r.reverse, _, Heap.get?_push_size _ rfl, rfl, 0, ?_⟩
  simp
end Wk
/-! What stays when the bag changes; what is and what is not in a web. -/
namespace T27
open PySem PySem.Spec PyProof.Rows L2 Wk
section
variable {K : PySem.W.Frag} {C : Addr} {H H' : Hp} {w b : Addr} {n : Nat} {T : List T3}
theorem WebAt.butL {xb : List V} (hb : H b = some (.lst xb)) (h : WebAt K C H w n T) (s : But b H H') : WebAt K C H' w n T := by
  obtain ⟨dx, t, ys, d, g, h1, h2, h3, h4, h5⟩ := h.ex
  have ne : ∀ {a : Addr} {o : HO}, H a = some o → (∀ xs, o ≠ .lst xs) → a ≠ b := fun {a o} ha ho e => by
    subst e
    rw [hb] at ha
    exact ho xb (by injection ha with ha; exact ha.symm)
  exact ⟨dx, t, ys, d, g, s _ _ (ne h1 fun _ e => by cases e) h1, s _ _ (ne h2 fun _ e => by cases e) h2, Trs.but hb s h3, s _ _ (ne h4 fun _ e => by cases e) h4, s _ _ (ne h5 fun _ e => by cases e) h5⟩
theorem WD.butL {xb : List V} {d : Addr} {S l : List T3} (hb : H b = some (.lst xb)) (h : WD K C H w n T d S l) (s : But b H H') : WD K C H' w n T d S l :=
  ⟨h.web.butL hb s, s _ _ (fun e => by subst e; have := h.dic; rw [hb] at this; cases this) h.dic, h.sums, h.norm, h.ties, h.len, h.big, h.n60⟩
theorem kit_no {t : String} (h : PySem.W.kitOne K (.type t) (.type "tuple") = some false) (x : V) (r : Int) (ty : TyX K H x (.type t)) : PairIs K H x r T false := ⟨_, false, ty, .inl ⟨h, rfl⟩, fun _ => rfl, fun e => by cases e⟩
theorem pi_non (r : Int) : PairIs K H .non r T false := kit_no (kit_ty (r := false) (by decide +kernel)) _ _ (.base .non)
theorem pi_int (i r : Int) : PairIs K H (.int i) r T false := kit_no (kit_ty (r := false) (by decide +kernel)) _ _ (.base (.int i))
theorem pi_str (x : Str) (r : Int) : PairIs K H (.str x) r T false := kit_no (kit_ty (r := false) (by decide +kernel)) _ _ (.base (.str x))
theorem pi_lst {a : Addr} {xs : List V} (h : H a = some (.lst xs)) (r : Int) : PairIs K H (.ref a) r T false := kit_no (kit_ty (r := false) (by decide +kernel)) _ _ (.base (.lst h))
theorem pi_len {a : Addr} {xs : List V} (h : SqT K H a xs) (hl : xs.length ≠ 2) (r : Int) : PairIs K H (.ref a) r T false :=
  ⟨_, false, Wk.SqT.tyX h, .inr ⟨kit_tup, a, xs, rfl, h, .inl ⟨hl, rfl⟩⟩, fun _ => rfl, fun e => by cases e⟩
theorem pi_bad {a : Addr} {y z : V} {ty tz : Value} {r : Int} (h : SqT K H a [y, z]) (ay : AnyV K H y ty) (az : AnyV K H z tz) (hp : pairB y z r = false) : PairIs K H (.ref a) r T false :=
  ⟨_, false, Wk.SqT.tyX h, .inr ⟨kit_tup, a, _, rfl, h, .inr ⟨y, z, _, _, rfl, ay, az, hp.symm⟩⟩, fun _ => rfl, fun e => by cases e⟩
theorem pairB_of {u v r : Int} (h0 : 0 ≤ u) (h1 : u < r) (h2 : 0 ≤ v) (h3 : v < r) (h4 : u ≠ v) : pairB (.int u) (.int v) r = true := by
  simp only [pairB, fromToB, Bool.and_eq_true, decide_eq_true_eq, Bool.not_eq_true', decide_eq_false_iff_not]
  exact ⟨⟨h0, by omega⟩, ⟨h2, by omega⟩, fun e => h4 (by injection e)⟩
theorem pi_ok {a : Addr} {u v r : Int} (h : SqT K H a [.int u, .int v]) (h0 : 0 ≤ u) (h1 : u < r) (h2 : 0 ≤ v) (h3 : v < r) (h4 : u ≠ v) : PairIs K H (.ref a) r T (look T u v).isSome :=
  ⟨_, true, Wk.SqT.tyX h, .inr ⟨kit_tup, a, _, rfl, h, .inr ⟨_, _, _, _, rfl, any_int u, any_int v, (pairB_of h0 h1 h2 h3 h4).symm⟩⟩, fun e => (by cases e), fun _ => ⟨a, u, v, rfl, h, rfl⟩⟩
end
/-- the class's own methods, as the text has them -/
structure DunW (P : Program) (w : World) (K : PySem.W.Frag) (mg : Str → Option Value) (base : Heap) (C : Addr) (k : Nat) (fg fc fe : Addr) (dg dc de : FuncData) : Prop where
  G : FnOk P w K mg base CX0 k fg dg ["self", "at"] (spGet K C)
  bG : Binds K dg ["self", "at"] []
  sG : PySem.W.findIn K (.ref C) "__getitem__" = some (some (.ref fg))
  nG : PySem.W.fnIn K fg = true
  iG : PySem.W.isFn K (.ref fg) = true
  N : FnOk P w K mg base CX0 k fc dc ["self", "x"] (spCont K C)
  bN : Binds K dc ["self", "x"] []
  sN : PySem.W.findIn K (.ref C) "__contains__" = some (some (.ref fc))
  iN : PySem.W.isFn K (.ref fc) = true
  Q : FnOk P w K mg base CX0 k fe de ["self", "other"] (spEqW K C)
  bQ : Binds K de ["self", "other"] []
  sQ : PySem.W.findIn K (.ref C) "__eq__" = some (some (.ref fe))
  iQ : PySem.W.isFn K (.ref fe) = true
  ne : PySem.W.findIn K (.ref C) "__ne__" = some (some (.builtin "object.__ne__"))
  ob : PySem.W.mroIn K C (.type "object") = some true
/-- three answers as data -/
theorem ans_ok {i : Int} {x y : Bool} (h : Small i) : PyData.showableAll [.int i, .bool x, .bool y] = true ∧ PyData.depthAll [.int i, .bool x, .bool y] ≤ 40 ∧ (listText (PyData.shownAll [.int i, .bool x, .bool y])).length ≤ sizeLine := by
  obtain ⟨a, b⟩ := int_show h
  have bl : ∀ z : Bool, (PyData.bool z).shown.length ≤ 5 := fun z => by cases z <;> decide +kernel
  have b1 := bl x
  have b2 := bl y
  refine ⟨by rw [PyData.showableAll, b]; rfl, by rw [PyData.depthAll, PyData.depthAll, PyData.depthAll, PyData.depthAll, PyData.depth, PyData.depth, PyData.depth]; decide, ?_⟩
  refine Nat.le_trans (listText_le _) ?_
  show 2 + ((PyData.int i).shown.length + 2 + ((PyData.bool x).shown.length + 2 + ((PyData.bool y).shown.length + 2 + 0))) ≤ sizeLine
  rw [sizeLine_eq]
  omega
theorem ans3_ok {x y z : Bool} : PyData.showableAll [.bool x, .bool y, .bool z] = true ∧ PyData.depthAll [.bool x, .bool y, .bool z] ≤ 40 ∧ (listText (PyData.shownAll [.bool x, .bool y, .bool z])).length ≤ sizeLine := by
  refine ⟨rfl, by rw [PyData.depthAll, PyData.depthAll, PyData.depthAll, PyData.depthAll, PyData.depth, PyData.depth, PyData.depth]; decide, ?_⟩
  refine Nat.le_trans (listText_le _) ?_
  have bl : ∀ z : Bool, (PyData.bool z).shown.length ≤ 5 := fun z => by cases z <;> decide +kernel
  have b1 := bl x
  have b2 := bl y
  have b3 := bl z
  show 2 + ((PyData.bool x).shown.length + 2 + ((PyData.bool y).shown.length + 2 + ((PyData.bool z).shown.length + 2 + 0))) ≤ sizeLine
  rw [sizeLine_eq]
  omega
theorem ans2_ok {x y : Bool} : PyData.showableAll [.bool x, .bool y] = true ∧ PyData.depthAll [.bool x, .bool y] ≤ 40 ∧ (listText (PyData.shownAll [.bool x, .bool y])).length ≤ sizeLine := by
  refine ⟨rfl, by rw [PyData.depthAll, PyData.depthAll, PyData.depthAll, PyData.depth, PyData.depth]; decide, ?_⟩
  refine Nat.le_trans (listText_le _) ?_
  have bl : ∀ z : Bool, (PyData.bool z).shown.length ≤ 5 := fun z => by cases z <;> decide +kernel
  have b1 := bl x
  have b2 := bl y
  show 2 + ((PyData.bool x).shown.length + 2 + ((PyData.bool y).shown.length + 2 + 0)) ≤ sizeLine
  rw [sizeLine_eq]
  omega
/-- total and degrees as data -/
theorem td_ok {t : Int} {g : List Int} (ht : Small t) (hg : ∀ i ∈ g, Small i) (hgl : g.length ≤ 100) :
    PyData.showableAll [.int t, .tuple (g.map PyData.int)] = true ∧ PyData.depthAll [.int t, .tuple (g.map PyData.int)] ≤ 40 ∧ (listText (PyData.shownAll [.int t, .tuple (g.map PyData.int)])).length ≤ sizeLine := by
  obtain ⟨b1, b2⟩ := int_show ht
  obtain ⟨d1, d2, d3'⟩ := ints_ok hg
  refine ⟨by rw [PyData.showableAll, PyData.showableAll, PyData.showableAll, b2, PyData.showable, d2]; rfl, by rw [PyData.depthAll, PyData.depthAll, PyData.depthAll, PyData.depth, PyData.depth, d3']; decide, ?_⟩
  refine Nat.le_trans (listText_le _) ?_
  show 2 + ((PyData.int t).shown.length + 2 + ((PyData.tuple (g.map PyData.int)).shown.length + 2 + 0)) ≤ sizeLine
  have e2 := tup_len (ds := g.map PyData.int)
  rw [sizeLine_eq]
  omega
end T27
/-! repr of a list whose items are data (dicts with text keys among them), no repr being under way. -/
namespace Wk
open PySem PySem.Spec PyProof.Rows L2
mutual
/-- the value is such data, all its objects tracked -/
inductive Rp (H : Hp) : V → PyData → Prop
  | non : Rp H .non .none
  | bl (b : Bool) : Rp H (.bl b) (.bool b)
  | int (i : Int) : Rp H (.int i) (.int i)
  | str (x : Str) : Rp H (.str x) (.str x)
  | lst {a : Addr} {vs : List V} {ds : List PyData} : H a = some (.lst vs) → RpAll H vs ds → Rp H (.ref a) (.list ds)
  | tup {a : Addr} {vs : List V} {ds : List PyData} : H a = some (.tup vs) → RpAll H vs ds → Rp H (.ref a) (.tuple ds)
  | dic {a : Addr} {es : List (Key × V)} {ps : List (PyData × PyData)} : H a = some (.dK es) → RpKv H es ps → Rp H (.ref a) (.dict ps)
inductive RpAll (H : Hp) : List V → List PyData → Prop
  | nil : RpAll H [] []
  | cons {v : V} {vs : List V} {d : PyData} {ds : List PyData} : Rp H v d → RpAll H vs ds → RpAll H (v :: vs) (d :: ds)
inductive RpKv (H : Hp) : List (Key × V) → List (PyData × PyData) → Prop
  | nil : RpKv H [] []
  | cons {x : Str} {v : V} {es : List (Key × V)} {d : PyData} {ps : List (PyData × PyData)} : Rp H v d → RpKv H es ps → RpKv H ((Sum.inr x, v) :: es) ((.str x, d) :: ps)
end
theorem entries_more {P : Program} {w : World} {as as' : List Addr} {h : Heap} {d d' : Nat} (hsub : ∀ b ∈ as, b ∈ as') (hd : d ≤ d') : ∀ {l : List DictEntry} {ts : List Str}, ReprEntriesK P w as h d l ts → ReprEntriesK P w as' h d' l ts
  | _, _, .nil => .nil
  | _, _, .cons a b c => .cons ((a.more hsub).level_le hd) ((b.more hsub).level_le hd) (entries_more hsub hd c)
section
variable {X : Cx} {pins : List (Addr × Obj)} {σ : L2.St} {H : Hp} {s : Shared}
mutual
theorem Rp.k (I : Inv X pins σ H s) : ∀ (d : PyData) (v : V) (u : Value), Rp H v d → RelV v u → d.showable = true → d.shown.length ≤ sizeLine →
    (∃ as, Reads s.heap u d as) ∧ ∃ bs, ReadAtMost s.heap d.depth bs ∧ ReprK X.prog X.w bs s.heap d.depth u d.shown
  | .none, v, u, h, r, _, _ => by
    cases h; cases r
    refine ⟨⟨_, Reads.none⟩, [], (fun _ z => nomatch z), ?_⟩
    simp only [PyData.shown]; exact ReprK.of_is ReprIs.none _ _ _
  | .bool b, v, u, h, r, _, _ => by
    cases h; cases r
    refine ⟨⟨_, Reads.bool b⟩, [], (fun _ z => nomatch z), ?_⟩
    simp only [PyData.shown]; exact ReprK.of_is (ReprIs.bool b) _ _ _
  | .int i, v, u, h, r, hs, _ => by
    cases h
    obtain ⟨t, rfl⟩ := r
    refine ⟨⟨_, Reads.int i t⟩, [], (fun _ z => nomatch z), ?_⟩
    simp only [PyData.shown]; exact ReprK.of_is (ReprIs.int t (by simpa [PyData.showable] using hs)) _ _ _
  | .str x, v, u, h, r, _, hz => by
    cases h
    obtain ⟨t, rfl⟩ := r
    refine ⟨⟨_, Reads.str x t⟩, [], (fun _ z => nomatch z), ?_⟩
    simp only [PyData.shown] at hz ⊢; exact ReprK.of_is (ReprIs.str x t hz) _ _ _
  | .list ds, v, u, h, r, hs, hz => by
    cases h with
    | @lst a vs _ ha hall =>
      cases (show u = Value.ref a from r)
      obtain ⟨_, its, n, rv, e⟩ := (show ObjOk X.prog X.w H s.heap a (.lst vs) from I.hok a _ ha)
      simp only [PyData.shown] at hz
      simp only [PyData.showable] at hs
      obtain ⟨⟨as, ra⟩, bs, hb, hk⟩ := RpAll.k I ds vs its hall rv hs (fun t ht => Nat.le_trans (listText_mem_le ht) hz)
      have hr : Reads s.heap (.ref a) (.list ds) (a :: as) := Reads.list (vs := its.toArray) e rfl rfl (by simpa using ra)
      have hna : a ∉ bs := not_mem_of_deeper hr (by simp only [PyData.depth]; omega) hb
      refine ⟨⟨_, hr⟩, a :: bs, ReadAtMost.cons hr (by simp only [PyData.depth]; omega) hb, ?_⟩
      simp only [PyData.depth, PyData.shown]
      cases its with
      | nil =>
        cases ra
        simp only [PyData.shownAll, listText_nil]
        exact ReprK.listEmpty e rfl rfl
      | cons y l => exact ReprK.list e rfl rfl hna (by simpa using hk.length_eq) (fun i z q => hk.item i z (by simpa using q))
  | .tuple ds, v, u, h, r, hs, hz => by
    cases h with
    | @tup a vs _ ha hall =>
      cases (show u = Value.ref a from r)
      obtain ⟨_, its, rv, o, e1, e2, n, e3⟩ := (show ObjOk X.prog X.w H s.heap a (.tup vs) from I.hok a _ ha)
      simp only [PyData.shown] at hz
      simp only [PyData.showable] at hs
      obtain ⟨⟨as, ra⟩, bs, hb, hk⟩ := RpAll.k I ds vs its hall rv hs (fun t ht => Nat.le_trans (tupleText_mem_le ht) hz)
      have hr : Reads s.heap (.ref a) (.tuple ds) as := Reads.tuple (vs := its.toArray) e1 e2 e3 (by simpa using ra)
      have hna : a ∉ bs := not_mem_of_deeper hr (by simp only [PyData.depth]; omega) hb
      refine ⟨⟨_, hr⟩, a :: bs, ReadAtMost.cons hr (by simp only [PyData.depth]; omega) hb, ?_⟩
      simp only [PyData.depth, PyData.shown]
      exact ReprK.tuple e1 e2 e3 hna (by simpa using hk)
  | .dict ps, v, u, h, r, hs, hz => by
    cases h with
    | @dic a es _ ha hall =>
      cases (show u = Value.ref a from r)
      obtain ⟨_, hsys, ws, rv, o, ents, ep, e1, ex, e3, _, hp, _⟩ := (show ObjOk X.prog X.w H s.heap a (.dK es) from I.hok a _ ha)
      simp only [PyData.shown] at hz
      simp only [PyData.showable] at hs
      obtain ⟨⟨as1, as2, ra, rb⟩, bs, hb, hk⟩ := RpKv.k I ps es ws ents.toList hall rv hp hs (fun t ht => Nat.le_trans (dictText_mem_le ht) hz)
      have hr : Reads s.heap (.ref a) (.dict ps) (a :: as1 ++ as2) := Reads.dict e1 ex.1 e3 ra rb
      have hna : a ∉ bs := not_mem_of_deeper hr (by simp only [PyData.depth]; omega) hb
      refine ⟨⟨_, hr⟩, a :: bs, ReadAtMost.cons hr (by simp only [PyData.depth]; omega) hb, ?_⟩
      simp only [PyData.depth, PyData.shown]
      exact ReprK.dict e1 ex.1 e3 hsys hna hk
theorem RpAll.k (I : Inv X pins σ H s) : ∀ (ds : List PyData) (vs : List V) (us : List Value), RpAll H vs ds → Vals vs us → PyData.showableAll ds = true → (∀ t ∈ PyData.shownAll ds, t.length ≤ sizeLine) →
    (∃ as, ReadsAll s.heap us ds as) ∧ ∃ bs, ReadAtMost s.heap (PyData.depthAll ds) bs ∧ ReprAllK X.prog X.w bs s.heap (PyData.depthAll ds) us (PyData.shownAll ds)
  | [], vs, us, h, r, _, _ => by
    cases h; cases r
    refine ⟨⟨_, ReadsAll.nil⟩, [], (fun _ z => nomatch z), ?_⟩
    simp only [PyData.shownAll]; exact ReprAllK.nil
  | d :: ds, vs, us, h, r, hs, hz => by
    cases h with
    | cons h1 h2 =>
      cases r with
      | cons r1 r2 =>
        simp only [PyData.showableAll, Bool.and_eq_true] at hs
        obtain ⟨⟨a1, q1⟩, b1, p1, k1⟩ := Rp.k I d _ _ h1 r1 hs.1 (hz _ (by simp only [PyData.shownAll]; exact List.mem_cons_self))
        obtain ⟨⟨a2, q2⟩, b2, p2, k2⟩ := RpAll.k I ds _ _ h2 r2 hs.2 (fun t ht => hz t (by simp only [PyData.shownAll]; exact List.mem_cons_of_mem _ ht))
        refine ⟨⟨_, ReadsAll.cons q1 q2⟩, b1 ++ b2, (p1.mono (by simp only [PyData.depthAll]; omega)).append (p2.mono (by simp only [PyData.depthAll]; omega)), ?_⟩
        simp only [PyData.depthAll, PyData.shownAll]
        exact ReprAllK.cons ((k1.more (fun b hm => List.mem_append_left _ hm)).level_le (Nat.le_max_left _ _)) (k2.more_le (fun b hm => List.mem_append_right _ hm) (Nat.le_max_right _ _))
theorem RpKv.k (I : Inv X pins σ H s) : ∀ (ps : List (PyData × PyData)) (es : List (Key × V)) (ws : List (Key × Value)) (ents : List DictEntry), RpKv H es ps → KV es ws → Pairs (mixKind X.prog X.w) ents ws →
    PyData.showableKv ps = true → (∀ t ∈ PyData.shownKv ps, t.length ≤ sizeLine) →
    (∃ as bs, ReadsAll s.heap (ents.map (·.key)) (ps.map (·.1)) as ∧ ReadsAll s.heap (ents.map (·.val)) (ps.map (·.2)) bs) ∧
      ∃ bs, ReadAtMost s.heap (PyData.depthKv ps) bs ∧ ReprEntriesK X.prog X.w bs s.heap (PyData.depthKv ps) ents (PyData.shownKv ps)
  | [], es, ws, ents, h, r, hp, _, _ => by
    cases h; cases r; cases hp
    refine ⟨⟨_, _, ReadsAll.nil, ReadsAll.nil⟩, [], (fun _ z => nomatch z), ?_⟩
    simp only [PyData.shownKv]; exact ReprEntriesK.nil
  | (kd, d) :: ps, es, ws, ents, h, r, hp, hs, hz => by
    cases h with
    | @cons x v es' _ _ h1 h2 =>
      cases r with
      | @cons _ w1 _ wr r1 r2 =>
        obtain ⟨wk, wv⟩ := w1
        obtain ⟨ek, rv⟩ := r1
        cases hp with
        | @cons en kv er kvr hk hv hr =>
          have ek' : (Sum.inr x : Key) = wk := ek
          subst ek'
          have hv' : en.val = wv := hv
          obtain ⟨hh0, k0, v0⟩ := en
          have hv'' : v0 = wv := hv'
          subst hv''
          have sh := keyIs_shape (show keyIs (Sum.inr x) k0 = true from hk)
          obtain ⟨t, rfl⟩ : ∃ t, k0 = Value.str x t := by
            rcases sh with ⟨i, t, q, _⟩ | ⟨y, t, q, e⟩
            · exact nomatch q
            · cases q; exact ⟨t, e⟩
          simp only [PyData.showableKv, Bool.and_eq_true] at hs
          have hz1 : ((PyData.str x).shown ++ ": " ++ d.shown).length ≤ sizeLine := hz _ (by simp only [PyData.shownKv]; exact List.mem_cons_self)
          have hzk : (PyData.str x).shown.length ≤ sizeLine := by rw [strLen_append, strLen_append] at hz1; omega
          have hzv : d.shown.length ≤ sizeLine := by rw [strLen_append, strLen_append] at hz1; omega
          obtain ⟨⟨a1, q1⟩, b1, p1, k1⟩ := Rp.k I d _ _ h1 rv hs.1.2 hzv
          obtain ⟨⟨a2, c2, q2, q3⟩, b2, p2, k2⟩ := RpKv.k I ps es' wr er h2 r2 hr hs.2 (fun t ht => hz t (by simp only [PyData.shownKv]; exact List.mem_cons_of_mem _ ht))
          have kk : ReprK X.prog X.w (b1 ++ b2) s.heap (max (max (PyData.str x).depth d.depth) (PyData.depthKv ps)) (.str x t) (PyData.str x).shown := by
            simp only [PyData.shown] at hzk ⊢
            exact ReprK.of_is (ReprIs.str x t hzk) _ _ _
          refine ⟨⟨_, _, ReadsAll.cons (Reads.str x t) q2, ReadsAll.cons q1 q3⟩, b1 ++ b2, (p1.mono (by simp only [PyData.depthKv]; omega)).append (p2.mono (by simp only [PyData.depthKv]; omega)), ?_⟩
          simp only [PyData.depthKv, PyData.shownKv]
          refine ReprEntriesK.cons kk ((k1.more (fun b hm => List.mem_append_left _ hm)).level_le (by omega)) ?_
          exact entries_more (fun b hm => List.mem_append_right _ hm) (by omega) k2
end
end
end Wk
namespace Wk
open PySem PySem.Spec PyProof.Rows L2
/-- repr(xs), xs a list of such data -/
def rReprL : List V → Hp → VK → Prop := fun xs H Q => ∃ (a : Addr) (vs : List V) (ds : List PyData), xs = [.ref a] ∧ H a = some (.lst vs) ∧ RpAll H vs ds ∧ PyData.showableAll ds = true ∧ PyData.depthAll ds ≤ 40 ∧
  (listText (PyData.shownAll ds)).length ≤ sizeLine ∧ Q (.str (listText (PyData.shownAll ds))) H
section
variable {X : Cx}
theorem call_reprL (hg : Gd X.A) (hu : X.A.units + 64 < cLine) : CallR X (.builtin "repr") rReprL := by
  intro pins s σ H xs us Q I r h
  obtain ⟨a, vs, ds, rfl, ha, hall, hs, hd, hz, q⟩ := h
  obtain ⟨u, rfl, e⟩ := vals1 r
  cases (show u = Value.ref a from e)
  obtain ⟨_, its, n, rv, e1⟩ := (show ObjOk X.prog X.w H s.heap a (.lst vs) from I.hok a _ ha)
  obtain ⟨⟨as, ra⟩, bs, hb, hk⟩ := RpAll.k I ds vs its hall rv hs (fun t ht => Nat.le_trans (listText_mem_le ht) hz)
  have hr : Reads s.heap (.ref a) (.list ds) (a :: as) := Reads.list (vs := its.toArray) e1 rfl rfl (by simpa using ra)
  have hna : a ∉ bs := not_mem_of_deeper hr (by simp only [PyData.depth]; omega) hb
  refine call_repr_slot (by omega) ⟨_, e1, rfl⟩ F.slot_list_repr.toG ?_
  cases its with
  | nil =>
    cases ra
    simp only [PyData.shownAll, listText_nil] at q
    exact call_list_repr_empty ⟨_, e1, rfl⟩ e1 rfl ⟨_, _, rfl, .str "[]", H, I.tok _, ⟨_, rfl⟩, q⟩
  | cons y l =>
    refine call_list_reprK e1 rfl rfl hna (by simpa using hk.length_eq) (fun i z w => hk.item i z (by simpa using w)) hg (fun b _ => Clear.nil b) (by show X.A.units + 1 + _ < _; omega) (fun _ _ z => z) (fun h' u tk kp => ?_) hz
    exact ⟨_, _, rfl, .str _, H, I.kept (t' := tk) kp, ⟨_, rfl⟩, q⟩
end
end Wk
/-! Exceptions of own classes: the handled one as an argument (isinstance, its fields), made with fields, made as values. -/
namespace Wk
open PySem PySem.Spec PyProof.Rows L2
/-- the exception's own dict, if it has one, is tracked -/
def DictOk (d : Option Addr) (H : Hp) : Prop := d = none ∨ ∃ (dd : Addr) (fs : List (Str × V)), d = some dd ∧ H dd = some (.xd fs)
section
variable {X : Cx} {a : Addr} {oe : Obj} {cls : Value} {d : Option Addr} {pins : List (Addr × Obj)} {σ : L2.St} {H : Hp} {s : Shared} {D : Addr}
theorem inst_of (I : Inv X pins σ H s) (hg : s.heap.get? a = some oe) (hz : Zc (.ref D) d oe) (hf : ∃ ws, oe.data = .fields ws) (hd : DictOk d H) : ∃ od, PySem.W.InstAt s.heap a oe D od := by
  obtain ⟨ws, hw⟩ := hf
  have hn : PySem.W.notCls oe = true := by unfold PySem.W.notCls; rw [hw] <;> rfl
  rcases hd with rfl | ⟨dd, fs, rfl, ha⟩
  · exact ⟨none, hg, hz.1, hn, by rw [hz.2]; trivial⟩
  · have hx : ObjOk X.prog X.w H s.heap dd (.xd fs) := I.hok dd _ ha
    obtain ⟨mA, ⟨o, es, ep, ho, _⟩, _⟩ := hx
    exact ⟨some o, hg, hz.1, hn, by rw [hz.2]; exact ho⟩
/-- isinstance(e, c) where e is the exception at a -/
def rIsP (K : PySem.W.Frag) (a : Addr) (cls : Value) (d : Option Addr) : List V → Hp → VK → Prop := fun xs H Q => ∃ (c : V) (cv : Value) (b : Bool) (D : Addr), xs = [.ref a, c] ∧ ClsV c cv ∧ cls = .ref D ∧ ExcC K D ∧ DictOk d H ∧
  PySem.W.kitOne K (.ref D) cv = some b ∧ Q (.bl b) H
theorem call_isP (hp : (a, oe) ∈ X.pn) (hz : Zc cls d oe) (hf : ∃ ws, oe.data = .fields ws) : CallR X (.builtin "isinstance") (rIsP X.K a cls d) := by
  intro pins s σ H xs us Q I r h
  obtain ⟨c, cv, b, D, rfl, hc, rfl, T, hd, e, q⟩ := h
  obtain ⟨u1, u2, rfl, r1, r2⟩ := vals2 r
  cases (show u1 = Value.ref a from r1)
  have ec := hc.eq r2
  subst ec
  obtain ⟨od, J⟩ := inst_of I (I.pin (a, oe) (List.mem_append_left _ hp)).1 hz hf hd
  have hcl : (PySem.W.clsIn X.K D).isSome = true := by
    have hh := T.hd
    unfold PySem.W.hasDictIn at hh
    cases e2 : PySem.W.clsIn X.K D with
    | none => rw [e2] at hh; cases hh
    | some _ => rfl
  exact PySem.W.kia_one (PySem.W.kitx_exc hcl T.hg T.hk T.hs T.ha T.hn T.ht T.hm) I.kIn J e (fun z => nomatch z) fun tk => ⟨.bl b, H, I.tok tk, rfl, q⟩
/-- e.f where e is the exception at a -/
def tXfP (K : PySem.W.Frag) (a : Addr) (cls : Value) (d : Option Addr) (f : Str) (te : TE) : TE := fun σ H Q => te σ H fun x H1 => x = .ref a ∧ ∃ (D dd : Addr) (fs : List (Str × V)) (v : V), cls = .ref D ∧ XfC K D ∧
  PySem.W.findIn K (.ref D) f = some none ∧ d = some dd ∧ H1 dd = some (.xd fs) ∧ fs.lookup f = some v ∧ Q v H1
theorem pe_xfP {e : Expr} {te : TE} {pos : Pos} {n : Str} (hp : (a, oe) ∈ X.pn) (hz : Zc cls d oe) (hf : ∃ ws, oe.data = .fields ws) (he : PE X e te) (hb : attributeBase e n X.env (eval e X.env) = eval e X.env := by rfl) :
    PE X (.Attribute e n pos) (tXfP X.K a cls d n te) := by
  refine ⟨fun pins s σ H Q I h => attr_of hb (thn (he.run pins s σ H _ I h) fun u s1 hh => ?_)⟩
  obtain ⟨x, H1, I1, rx, rfl, D, dd, fs, v, rfl, T, hno, rfl, ea, l, q⟩ := hh
  cases (show u = Value.ref a from rx)
  obtain ⟨ha, _⟩ := I1.pin (a, oe) (List.mem_append_left _ hp)
  obtain ⟨ws, hw⟩ := hf
  obtain ⟨mA, hns, hr⟩ := (show ObjOk X.prog X.w H1 s1.heap dd (.xd fs) from I1.hok dd _ ea)
  obtain ⟨od, ho, hl⟩ := lookIn_ns hns
  obtain ⟨u2, hu, ru⟩ := RelO.some_of (v := v) (o := mA n) (by rw [← l]; exact hr n)
  have J : PySem.W.InstAt s1.heap a oe D (some od) := ⟨ha, hz.1, by unfold PySem.W.notCls; rw [hw] <;> rfl, by rw [hz.2]; exact ho⟩
  exact HandSPX.exc_get I1.kIn J T.ga T.gg T.exC (PySem.W.findObj_own T.hdC hno rfl (by rw [hl, hu])) (handed_of ru) ⟨v, H1, I1.tok _, ru, q⟩
end

/-! ### made with fields, its context None -/
section
variable {X : Cx} {e : Expr} {es : List Expr} {ta : TA} {p pos : Pos}
theorem pmkN_oex {CX : CXT} {x : Str} {C fI : Addr} {k : Nat} {fd : FuncData} {ps : List Str} {sp : Sp} (T : OexC X.K C) (iC : PySem.W.findIn X.K (.ref C) "__init__" = some (some (.ref fI))) (tI : PySem.W.typeIn X.K (.ref fI) = some (.type "function"))
    (F1 : FnOk X.prog X.w X.K X.mg X.base CX k fI fd ps sp) (hr : Room (k + 1) X.A) (hb : Binds X.K fd ps []) (hx : Passes CX X (fun _ _ _ => False)) (hg : Gl X x) (hm : X.mg x = some (.ref C)) (ha : PA X (e :: es) ta)
    (hdb : (x == ("__debug__" : Str)) = false := by decide) (he : starEach (e :: es) X.env = (false, eval e X.env) :: starEach es X.env := by rfl) (hpl : (backTo pos (starEach es X.env)).any (·.1) = false := by rfl) :
    L2N.PMk X (.Call (.Name x p) (e :: es) [] pos) (tMkO C sp [] ta) := by
  intro pins s σ H Q I h
  obtain ⟨nm, q, N, bs, bm, sn, sub, ab, col, dd, k0, k1, k2, k3, k5, hC, hbm⟩ := T.cls
  refine wpAny_Call_Name_kw (ld_glob I hg hm ?_ hdb)
  refine PySem.W.callWith_K (h₀ := X.base) I.ok.mod.kin T.kC (thn (ha.run pos pins s σ H _ I h) (fun us s1 hu => ?_)) he hpl
  obtain ⟨vs, H1, I1, r1, hz, q1⟩ := hu
  refine ⟨I1.kIn, ?_⟩
  obtain ⟨hp, g, dr, tk, os⟩ := s1
  have up : hp.objs.size ≤ hp.objs.size + 1 := Nat.le_succ _
  have fresh : H1 (hp.objs.size + 1) = none := I1.hok.fresh up
  have hq := q1 (hp.objs.size + 1) fresh
  rw [List.append_nil] at hq
  have keep : ∀ b o, hp.get? b = some o → ((hp.push (PySem.W.kdv_tup us)).push (PySem.HandSPX.excO C hp.objs.size)).get? b = some o := fun b o z => Heap.get?_push_of_some _ (Heap.get?_push_of_some _ z)
  have here : ((hp.push (PySem.W.kdv_tup us)).push (PySem.HandSPX.excO C hp.objs.size)).get? (hp.objs.size + 1) = some (PySem.HandSPX.excO C hp.objs.size) := by heap_get
  have J : Inv X pins σ (upd H1 (hp.objs.size + 1) (exo (hp.objs.size + 1) C none)) ⟨(hp.push (PySem.W.kdv_tup us)).push (PySem.HandSPX.excO C hp.objs.size), g, dr, tk, os⟩ := I1.laid (t' := tk) keep up (exo_ok here)
  have r2 : Vals (V.ref (hp.objs.size + 1) :: vs) (Value.ref (hp.objs.size + 1) :: us) := .cons rfl r1
  have hl : (Value.ref (hp.objs.size + 1) :: us ++ []).length = ps.length := by
    have z := r2.length
    rw [F1.len _ _ _ _ hq] at z
    rw [List.append_nil]; exact z.symm
  have small : us.length ≤ sizeLine := by rw [← Paired.length r1, sizeLine_eq]; omega
  have b := hb _ (Value.ref (hp.objs.size + 1) :: us) J.kIn hl
  rw [List.append_nil] at b
  refine wpAny_call (PySem.HandSPX.call_own F.excBase_ValueError (fun Y => PySem.HandSPX.refsVE_contains Y bm hbm) (I1.kIn _ _ hC) (PySem.W.looks_findIn I1.kIn iC) (fun self => PySem.W.bind_fn I1.kIn self tI) small
    (codeAny_mono (F1.run _ X.stack _ _ ⟨Value.ref (hp.objs.size + 1) :: us, []⟩ (Value.ref (hp.objs.size + 1) :: us) _ _ (fun _ _ _ => False) (hr.make C us []) (J.env0.make C us []) b r2 hq) (fun r s' hq' => ?_)))
  cases r with
  | error er => exact hx pins σ _ _ er s' J hq'
  | ok fl =>
    match fl, hq' with
    | .ret u, hq' =>
      obtain ⟨v, H2, os2, bare2, un2, hok2, rv, ev, d, fs, ea, ed, hd1, q2⟩ := hq'
      subst ev
      obtain ⟨h2, g2, d2, t2, os'⟩ := s'
      obtain ⟨t0, G, J2, kG, ge, hoe, na⟩ := mk_end0 (d2 := d2) (t2 := t2) I1 up keep un2 hok2 os2 bare2 ea ed hd1
      exact ⟨rv, hp.objs.size + 1, _, _, ⟨G, g2, d2, t2, os'⟩, _, .ref C, some d, rfl, J2, kG, ge, hoe, ⟨rfl, rfl, fun ws hw => by cases hw; rfl⟩, rfl, rfl, na, rfl, bare2, raises_own T.exC T.tyC, q2⟩
end

/-! ### made without fields -/
section
variable {X : Cx} {C : Addr} {bmB : List Value} {B newId initId : String} {x : Str} {p pos : Pos}
/-- X(..) of an own class without own __init__: what is made -/
theorem made_exc {pins : List (Addr × Obj)} {σ : L2.St} {H : Hp} {s : Shared} {us : List Value} {Q : Value → Shared → Prop} {E : Value → Shared → Prop} (F : ExcBaseFacts B newId initId bmB) (q : PySem.W.excIn X.K C bmB newId = true) (I : Inv X pins σ H s) (hz : us.length ≤ sizeLine)
    (h : ∀ h' e, Heap.MadeExcOf s.heap h' e (.ref C) us → Q (.ref e) { s with heap := h' }) : wpAny (model X.prog X.w) X.A (call (.ref C) us) Q E s := by
  obtain ⟨hp, g, d, t, os⟩ := s
  obtain ⟨bm, N, nm, qn, bs, hdct, sn, sub, ab, col, dd, k0, k1, k2, k3, k5, mN, hC, hN, hni, T⟩ := exc_obj I.kIn q
  exact wpAny_call_exc_subT F T hC hN hni (fun h' e hm => h h' e hm) hz
theorem pmkN_own0 (F : ExcBaseFacts B newId initId bmB) (q : PySem.W.excIn X.K C bmB newId = true) (gC : X.mg x = some (.ref C)) (kC : PySem.W.keepIn X.K (.ref C) = true) (r : Raises X (.ref C)) (hg : Gl X x)
    (hdb : (x == ("__debug__" : Str)) = false := by decide) : L2N.PMk X (.Call (.Name x p) [] [] pos) (fun _ H Q => Q (.ref C) none H) := by
  intro pins s σ H Q I h
  refine wpAny_Call_Name_kw (ld_glob I hg gC ?_ hdb)
  refine PySem.W.callWith_K0 I.kIn kC (made_exc F q I (Nat.zero_le _) fun h' e hm => ?_)
  exact L2N.mk_of I hm r h (I.hok.gone hm.new)
theorem pmkN_ownA {e : Expr} {es : List Expr} {t : TA} (F : ExcBaseFacts B newId initId bmB) (q : PySem.W.excIn X.K C bmB newId = true) (gC : X.mg x = some (.ref C)) (kC : PySem.W.keepIn X.K (.ref C) = true) (r : Raises X (.ref C)) (hg : Gl X x) (ha : PA X (e :: es) t)
    (hdb : (x == ("__debug__" : Str)) = false := by decide) (he : starEach (e :: es) X.env = (false, eval e X.env) :: starEach es X.env := by rfl) (hpl : (backTo pos (starEach es X.env)).any (·.1) = false := by rfl) :
    L2N.PMk X (.Call (.Name x p) (e :: es) [] pos) (fun σ H Q => t σ H fun vs H1 => vs.length ≤ sizeLine ∧ Q (.ref C) none H1) := by
  intro pins s σ H Q I h
  refine wpAny_Call_Name_kw (ld_glob I hg gC ?_ hdb)
  refine PySem.W.callWith_K (h₀ := X.base) I.ok.mod.kin kC (thn (ha.run pos pins s σ H _ I h) (fun us s1 hu => ?_)) he hpl
  obtain ⟨vs, H1, I1, r1, hz, q1⟩ := hu
  exact ⟨I1.kIn, made_exc F q I1 (by have z := r1.length; show us.length ≤ sizeLine; omega) fun h' e hm => L2N.mk_of I1 hm r q1 (I1.hok.gone hm.new)⟩
/-- X(..) as a value -/
theorem pe_excV0 (F : ExcBaseFacts B newId initId bmB) (q : PySem.W.excIn X.K C bmB newId = true) (gC : X.mg x = some (.ref C)) (kC : PySem.W.keepIn X.K (.ref C) = true) (hg : Gl X x) (hdb : (x == ("__debug__" : Str)) = false := by decide) :
    PE X (.Call (.Name x p) [] [] pos) (fun _ H Q => ∀ a, H a = none → Q (.ref a) (upd H a (ExO (.ref C) a))) := by
  refine ⟨fun pins s σ H Q I h => wpAny_Call_Name_kw (ld_glob I hg gC ?_ hdb)⟩
  refine PySem.W.callWith_K0 I.kIn kC (made_exc F q I (Nat.zero_le _) fun h' a hm => ?_)
  have hn : H a = none := I.hok.gone hm.new
  obtain ⟨t, ht, _, _⟩ := hm.there
  exact ⟨.ref a, _, I.laidN (t' := s.toks) hm.keeps hm.new hn (exO_ok ht ⟨rfl, rfl⟩ rfl rfl rfl (show 4 < 6 by decide)), rfl, h a hn⟩
theorem pe_excVA {e : Expr} {es : List Expr} {t : TA} (F : ExcBaseFacts B newId initId bmB) (q : PySem.W.excIn X.K C bmB newId = true) (gC : X.mg x = some (.ref C)) (kC : PySem.W.keepIn X.K (.ref C) = true) (hg : Gl X x) (ha : PA X (e :: es) t)
    (hdb : (x == ("__debug__" : Str)) = false := by decide) (he : starEach (e :: es) X.env = (false, eval e X.env) :: starEach es X.env := by rfl) (hpl : (backTo pos (starEach es X.env)).any (·.1) = false := by rfl) :
    PE X (.Call (.Name x p) (e :: es) [] pos) (fun σ H Q => t σ H fun vs H1 => vs.length ≤ sizeLine ∧ ∀ a, H1 a = none → Q (.ref a) (upd H1 a (ExO (.ref C) a))) := by
  refine ⟨fun pins s σ H Q I h => wpAny_Call_Name_kw (ld_glob I hg gC ?_ hdb)⟩
  refine PySem.W.callWith_K (h₀ := X.base) I.ok.mod.kin kC (thn (ha.run pos pins s σ H _ I h) (fun us s1 hu => ?_)) he hpl
  obtain ⟨vs, H1, I1, r1, hz, q1⟩ := hu
  refine ⟨I1.kIn, made_exc F q I1 (by have z := r1.length; show us.length ≤ sizeLine; omega) fun h' a hm => ?_⟩
  have hn : H1 a = none := I1.hok.gone hm.new
  obtain ⟨w, ht, _, _⟩ := hm.there
  exact ⟨.ref a, _, I1.laidN (t' := s1.toks) hm.keeps hm.new hn (exO_ok ht ⟨rfl, rfl⟩ rfl rfl rfl (show 4 < 6 by decide)), rfl, q1 a hn⟩
/-- isinstance(e, c), e such a value -/
def rIsV (K : PySem.W.Frag) : List V → Hp → VK → Prop := fun xs H Q => ∃ (a D : Addr) (c : V) (cv : Value) (b : Bool), xs = [.ref a, c] ∧ H a = some (ExO (.ref D) a) ∧ ClsV c cv ∧ ExcC K D ∧ PySem.W.kitOne K (.ref D) cv = some b ∧ Q (.bl b) H
theorem call_isV : CallR X (.builtin "isinstance") (rIsV X.K) := by
  intro pins s σ H xs us Q I r h
  obtain ⟨a, D, c, cv, b, rfl, hx, hc, T, e, q⟩ := h
  obtain ⟨u1, u2, rfl, r1, r2⟩ := vals2 r
  cases (show u1 = Value.ref a from r1)
  have ec := hc.eq r2
  subst ec
  have hx2 : ObjOk X.prog X.w H s.heap a (ExO (.ref D) a) := I.hok a _ hx
  obtain ⟨⟨oe, ws, hg, hz, hw, _⟩, _, _⟩ := hx2
  obtain ⟨od, J⟩ := inst_of I hg hz ⟨ws, hw⟩ (Or.inl rfl)
  have hcl : (PySem.W.clsIn X.K D).isSome = true := by
    have hh := T.hd
    unfold PySem.W.hasDictIn at hh
    cases e2 : PySem.W.clsIn X.K D with
    | none => rw [e2] at hh; cases hh
    | some _ => rfl
  exact PySem.W.kia_one (PySem.W.kitx_exc hcl T.hg T.hk T.hs T.ha T.hn T.ht T.hm) I.kIn J e (fun z => nomatch z) fun tk => ⟨.bl b, H, I.tok tk, rfl, q⟩
end
end Wk
/-! A list comprehension within an except suite. -/
namespace Wk
open PySem PySem.Spec PyProof.Rows L2
/-- the comprehension's block, the suite's pins borne -/
abbrev blkP (X : Cx) (s : Shared) (H : Hp) (scope : Scope) (cenv : Env) (fp : List Addr) : Cx := { X.blk s H scope cenv fp with pn := X.pn }
section
variable {X : Cx} {s s' : Shared} {H H' : Hp} {scope : Scope} {cenv : Env} {fp : List Addr} {pins : List (Addr × Obj)} {σ : L2.St}
theorem Cx.Ok.toP (o : (X.blk s H scope cenv fp).Ok) : (blkP X s H scope cenv fp).Ok :=
  ⟨o.mod, o.kind, o.glob, o.blt, o.above, o.inj, o.has, o.cab, o.hd, o.frames, o.stk, o.exf, o.bs, o.bsz, o.noex, o.exfs, o.funs, o.frf⟩
theorem Cx.Ok.ofP (o : (blkP X s H scope cenv fp).Ok) : (X.blk s H scope cenv fp).Ok :=
  ⟨o.mod, o.kind, o.glob, o.blt, o.above, o.inj, o.has, o.cab, o.hd, o.frames, o.stk, o.exf, o.bs, o.bsz, o.noex, o.exfs, o.funs, o.frf⟩
theorem toP (I : Inv (X.blk s H scope cenv fp) pins σ H' s') (h : ∀ p ∈ X.pn, s'.heap.get? p.1 = some p.2 ∧ H' p.1 = none ∧ p.1 ≠ cenv.locals ∧ p.1 ∉ frs X.stack ∧ ∀ v, p.2.data ≠ .cell v) :
    Inv (blkP X s H scope cenv fp) pins σ H' s' :=
  ⟨Cx.Ok.toP I.ok, I.os, I.bare, I.base, I.loc, I.cell, I.free, I.freeC, fun p hp => (List.mem_append.mp hp).elim (h p) (fun z => I.pin p (List.mem_append_right _ z)), I.hok, I.len⟩
theorem ofP (I : Inv (blkP X s H scope cenv fp) pins σ H' s') : Inv (X.blk s H scope cenv fp) pins σ H' s' :=
  ⟨Cx.Ok.ofP I.ok, I.os, I.bare, I.base, I.loc, I.cell, I.free, I.freeC, fun p hp => (List.mem_append.mp hp).elim (fun z => nomatch z) (fun z => I.pin p (List.mem_append_right _ z)), I.hok, I.len⟩
end
section
variable {X : Cx}
theorem pe_lcH {elt tg iter : Expr} {ifs : List Expr} {scope : Scope} {own : List (Str × Nat)} {pos : Pos} {wi : TI} {g : TG} {tt : TT} {te : TE} (hc : L2H.HotC X) (hN : X.N.Nodup) (hi : L2H.PIH X tg iter wi) (ok : BlkOk X.N X.env.scope scope own)
    (hg : ∀ (s : Shared) (H : Hp) (C : Addr) (cl : List (Str × Addr)) (fp : List Addr), PG (X.blk s H scope (compEnvC scope cl C X.env) fp) tg g)
    (ht : ∀ (s : Shared) (H : Hp) (C : Addr) (cl : List (Str × Addr)) (fp : List Addr), PTs (X.blk s H scope (compEnvC scope cl C X.env) fp) ifs tt)
    (he : ∀ (s : Shared) (H : Hp) (C : Addr) (cl : List (Str × Addr)) (fp : List Addr), PE (X.blk s H scope (compEnvC scope cl C X.env) fp) elt te)
    (hs : ∀ x, foldedSetIterable iter X.env x = pure x := by intro _; rfl) : PE X (.ListComp elt [⟨tg, iter, ifs, 0⟩] scope pos) (tLc wi g tt te (own.map (·.2))) := by
  refine ⟨fun pins s σ H Q I h => ?_⟩
  rw [eval_ListComp]
  have hfree : ∀ y ∈ scope.names, y.2 = .free → ∃ c, X.env.cells.lookup y.1 = some c := by
    intro y hy z
    exact (ok.free y hy z).elim (fun k => I.ok.has _ (.inl k)) (fun k => I.ok.has _ (.inr k))
  refine wpAny_comprehension_free (use := none) rfl hs (closure_ok hfree) ok.kind (fun y hy z => by rw [ok.uniq y hy, z]) (thn (hi.run pins s σ H _ I h) (fun xv s1 hx => thn hx (fun itv s2 h2 => ?_)))
  obtain ⟨it, fp, tn, J, H2, rfl, I2, T, st2, f2, q⟩ := h2
  refine wpAny_newObj_type (newEnv_comp ?_) (by show 0 ≤ sizeLine; decide)
  generalize hD : s2.heap.objs.size = D
  have nD : H2 D = none := I2.hok.fresh (Nat.le_of_eq hD)
  obtain ⟨W, ⟨m0, w0⟩, turn⟩ := q D nD
  generalize hs3 : ({ s2 with heap := s2.heap.push { cls := .type "list", data := .seq ([] : List Value).toArray } } : Shared) = s3
  have e3 : s3.heap = s2.heap.push { cls := .type "list", data := .seq ([] : List Value).toArray } := by rw [← hs3]
  have I3 : Inv X pins σ (upd H2 D (.lst [])) s3 := by
    rw [← hs3]
    refine I2.laid (t' := s2.toks) (fun b o z => Heap.get?_push_of_some _ z) (Nat.le_of_eq hD) ⟨Nat.zero_le _, [], 0, .nil, ?_⟩
    rw [← hD]; exact Heap.get?_push_size _ rfl
  have lt2 : ∀ b ∈ fp, b < s2.heap.objs.size := fun b hb => (T.obj _ _ st2 b hb).elim fun o z => Heap.lt_size z.1
  have f3 : ∀ b ∈ fp, FpOk X pins (upd H2 D (.lst [])) b ∧ b < s3.heap.objs.size := by
    intro b hb
    refine ⟨⟨?_, (f2 b hb).2⟩, by rw [e3, Heap.size_push]; exact Nat.lt_succ_of_lt (lt2 b hb)⟩
    rw [upd_ne (by rw [← hD]; exact Nat.ne_of_lt (lt2 b hb))]
    exact (f2 b hb).1
  have st3 : tn 0 s3.heap := T.keep _ _ _ st2 (fun b _ o z => by rw [e3]; exact Heap.get?_push_of_some _ z)
  have I4 := block_start I3 ok hN f3
  have pg := hg s3 (upd H2 D (.lst [])) s3.heap.objs.size (cellsFrom (s3.heap.objs.size + 1) scope.names (cloFrom X.env.cells scope.names [])) fp
  have pt := ht s3 (upd H2 D (.lst [])) s3.heap.objs.size (cellsFrom (s3.heap.objs.size + 1) scope.names (cloFrom X.env.cells scope.names [])) fp
  have pe := he s3 (upd H2 D (.lst [])) s3.heap.objs.size (cellsFrom (s3.heap.objs.size + 1) scope.names (cloFrom X.env.cells scope.names [])) fp
  show codeAny _ _ (.compStart (.ListComp elt [⟨tg, iter, ifs, 0⟩] scope pos) 0 (.ref it) (.ref D)
    (compEnvC scope (cellsFrom (s3.heap.objs.size + 1) scope.names (cloFrom X.env.cells scope.names [])) s3.heap.objs.size X.env))
    (compPost (model X.prog X.w) X.A X.xe none (EP X pins σ Q) (.ref D) s3.heap.objs.size) { s3 with heap := pushCells (s3.heap.push { cls := .type "dict", data := .dict #[] }) scope.names }
  have nfp : ∀ b ∈ fp, (upd H2 D (.lst [])) b = none := fun b hb => (f3 b hb).1.1
  generalize hce : compEnvC scope (cellsFrom (s3.heap.objs.size + 1) scope.names (cloFrom X.env.cells scope.names [])) s3.heap.objs.size X.env = ce at I4 pg pt pe ⊢
  have cL : ce.locals = s3.heap.objs.size := by subst hce; rfl
  generalize hH3 : upd H2 D (.lst []) = H3 at I3 I4 pg pt pe w0 nfp f3
  generalize hs4 : ({ s3 with heap := pushCells (s3.heap.push { cls := .type "dict", data := .dict #[] }) scope.names } : Shared) = s4 at I4 ⊢
  have st4 : tn 0 s4.heap := T.keep _ _ _ st3 (fun b _ o z => by rw [← hs4]; exact pushCells_keeps _ _ _ _ (Heap.get?_push_of_some _ z))
  -- the suite's pins stand at every turn
  have pinK : ∀ {σ' : L2.St} {H' : Hp} {s' : Shared}, Inv (X.blk s3 H3 scope ce fp) [] σ' H' s' → ∀ p ∈ X.pn, s'.heap.get? p.1 = some p.2 ∧ H' p.1 = none ∧ p.1 ≠ ce.locals ∧ p.1 ∉ frs X.stack ∧ ∀ v, p.2.data ≠ .cell v := by
    intro σ' H' s' J p hp
    obtain ⟨g1, g2, g3, g4, g5⟩ := I3.pin p (List.mem_append_left _ hp)
    have ns : p.1 ∉ frs X.stack := fun z => (List.mem_cons.mp (I3.stkSub p.1 z)).elim g3 g4
    have nf : p.1 ∉ fp := fun z => (f3 p.1 z).1.2.2.2.2.2 p (List.mem_append_left _ hp) rfl
    exact ⟨J.base.keep p.1 p.2 g1 g2 ns nf, J.base.free p.1 p.2 g1 g2 nf, by rw [cL]; exact Nat.ne_of_lt (Heap.lt_size g1), ns, g5⟩
  have stat : ∀ {σ' : L2.St} {H' : Hp} {s' : Shared}, Inv (X.blk s3 H3 scope ce fp) [] σ' H' s' → (∀ b ∈ fp, H' b = none) → ∀ b ∈ fp, FpOk (blkP X s3 H3 scope ce fp) [] H' b := by
    intro σ' H' s' J hn b hb
    refine ⟨hn b hb, (J.ok.exf b hb).1, J.ok.exfs b hb, .inl hb, fun x c z => (J.ok.exf b hb).2 x c z, fun p hp => ?_⟩
    have hp' : p ∈ X.pn := by simpa using hp
    exact (f3 b hb).1.2.2.2.2.2 p (List.mem_append_left _ hp')
  have stat0 : ∀ {σ' : L2.St} {H' : Hp} {s' : Shared}, Inv (X.blk s3 H3 scope ce fp) [] σ' H' s' → (∀ b ∈ fp, H' b = none) → ∀ b ∈ fp, FpOk (X.blk s3 H3 scope ce fp) [] H' b := by
    intro σ' H' s' J hn b hb
    exact ⟨hn b hb, (J.ok.exf b hb).1, J.ok.exfs b hb, .inl hb, fun x c z => (J.ok.exf b hb).2 x c z, fun p hp => absurd (show p ∈ ([] : List (Addr × Obj)) ++ [] from hp) (by simp)⟩
  have hcb : L2H.HotC (blkP X s3 H3 scope ce fp) := hc
  have loop : codeAny (model X.prog X.w) X.A (.compLoop (.ListComp elt [⟨tg, iter, ifs, 0⟩] scope pos) 0 (.ref it) (.ref D) ce) (compPost (model X.prog X.w) X.A X.xe none (EP X pins σ Q) (.ref D) s3.heap.objs.size) s4 := by
    refine compLoop_any (fun n s' => ∃ i H', Inv (X.blk s3 H3 scope ce fp) [] (wipe σ (own.map (·.2))) H' s' ∧ tn i s'.heap ∧ (∀ b ∈ fp, H' b = none) ∧ W i n H') ?_ m0 ⟨0, H3, I4, st4, nfp, w0⟩
    rintro n s5 ⟨i, H5, I5, st5, n5, w5⟩
    rcases turn i n H5 w5 with ⟨stop, qq⟩ | ⟨go, Nx, hNx, step⟩
    · refine thnF (T.done (blkP X s3 H3 scope ce fp) rfl rfl rfl hcb i [] s5 _ H5 (fun _ _ => False) (toP I5 (pinK I5)) (stat I5 n5) st5 stop) (fun r s6 hr => ?_)
      obtain ⟨rfl, I6p⟩ := hr
      have I6 := ofP I6p
      have I7 : Inv X pins σ H5 s6 := I3.call' (ch := fp) I6.os I6.base I6.hok I6.bare (fun b hb => ⟨(f3 b hb).1.2.2.2.1, (f3 b hb).1.2.1, (f3 b hb).1.2.2.2.2.1, (f3 b hb).1.2.2.2.2.2⟩)
      have nC : H5 s3.heap.objs.size = none := by
        have z : H5 ce.locals = none := I6.free
        rw [cL] at z; exact z
      obtain ⟨m, hn, _⟩ := I6.loc
      have hn : s6.heap.Ns ce.locals m := hn
      rw [cL] at hn
      obtain ⟨k0, k1, k2, k3, k4, k5⟩ := I3.fpOk (Nat.le_refl _) nC
      exact ⟨m, hn, fun h'' sb => ⟨.ref D, H5, I7.turned (t' := s6.toks) (fun b o hb z => (sb.2 b hb).trans z) k0 k1 k3 k4 k5, rfl, qq⟩⟩
    · refine thnF (T.item (blkP X s3 H3 scope ce fp) rfl rfl rfl hcb i [] s5 _ H5 (fun _ _ => False) (toP I5 (pinK I5)) (stat I5 n5) st5 go) (fun r s6 hr => ?_)
      obtain ⟨u, rfl, h6⟩ := hr
      refine thnF h6 (fun _ s7 h7 => ?_)
      obtain ⟨x, H7, I7p, r7, y7, st7, n7⟩ := h7
      have I7 := ofP I7p
      have I7' := I7.pinned (stat0 I7 n7) (T.obj _ _ st7)
      refine thnF (pg.run _ s7 _ H7 x u _ I7' r7 (step x H7 y7)) (fun _ s8 h8 => ?_)
      obtain ⟨σ8, H8, I8, hw8, q8⟩ := h8
      refine thnF (pt.run _ s8 σ8 H8 _ I8 q8) (fun b s9 h9 => ?_)
      obtain ⟨H9, I9, q9⟩ := h9
      have fin : ∀ {s' : Shared} {H' : Hp}, Inv (X.blk s3 H3 scope ce fp) ([] ++ pinsAt fp s7.heap) σ8 H' s' → Nx H' →
          ∃ m, m < n ∧ ∃ i H', Inv (X.blk s3 H3 scope ce fp) [] (wipe σ (own.map (·.2))) H' s' ∧ tn i s'.heap ∧ (∀ b ∈ fp, H' b = none) ∧ W i m H' := by
        intro s' H' J nx
        obtain ⟨m', hm, w'⟩ := hNx H' nx
        have pin' : ∀ b ∈ fp, ∀ o, s7.heap.get? b = some o → s'.heap.get? b = some o ∧ H' b = none := fun b hb o z =>
          let y := J.pin (b, o) (List.mem_append_right _ (List.mem_append_right _ (mem_pinsAt hb z)))
          ⟨y.1, y.2.1⟩
        have hl : (wipe σ (own.map (·.2))).length = σ8.length := by rw [← hw8, wipe_length]
        refine ⟨m', hm, i + 1, H', (J.unpinned (pins := [])).weak hl (fun j v z => ?_), T.keep _ _ _ st7 (fun b hb o z => (pin' b hb o z).1), fun b hb => ?_, w'⟩
        · rw [← hw8] at z
          exact (wipe_some z).1
        · obtain ⟨o, z, _⟩ := T.obj _ _ st7 b hb
          exact (pin' b hb o z).2
      cases b with
      | false =>
        simp only [Bool.false_eq_true, if_false] at q9 ⊢
        exact fin I9 q9
      | true =>
        simp only [if_true] at q9 ⊢
        refine thnF (pe.run _ s9 σ8 H9 _ I9 q9) (fun z s10 h10 => ?_)
        obtain ⟨yv, H10, I10, r10, acc, hD10, hz10, nx⟩ := h10
        exact app_ok (X := X.blk s3 H3 scope ce fp) I10 hD10 hz10 r10 (fun s11 I11 => fin I11 nx)
  exact codeAny_compStart_list loop (T.self X.A 0 _ _ _ st4 loop)
end
end Wk
/-! Own errors of one and two fields: their makers' promises, raised; defs that may let one out. -/
namespace Wk
open PySem PySem.Spec PyProof.Rows L2
/-! ### the makers -/
def spI1 (C : Addr) (f : Str) : Sp := fun vs H Q _ => ∃ (a : Addr) (y : V), vs = [.ref a, y] ∧ H a = some (exo a C none) ∧ ∀ dx, H dx = none → dx ≠ a → Q .non (upd (upd H dx (exd dx [(f, y)])) a (exo a C (some dx)))
def spI2 (C : Addr) (f g : Str) : Sp := fun vs H Q _ => ∃ (a : Addr) (y z : V), vs = [.ref a, y, z] ∧ H a = some (exo a C none) ∧
  ∀ dx, H dx = none → dx ≠ a → Q .non (upd (upd (upd H dx (exd dx [(f, y)])) a (exo a C (some dx))) dx (exd dx [(g, z), (f, y)]))
theorem takes0N {X : Cx} : L2N.Takes X (fun _ _ _ _ => False) := fun _ _ x => by
  obtain ⟨_, _, _, _, _, _, _, _, _, _, _, _, _, _, _, _, z⟩ := x
  exact z.elim
section
variable {P : Program} {w : World} {K : PySem.W.Frag} {mg : Str → Option Value} {base : Heap}
theorem okN {x qual : Str} {st : Stmt} {f : Addr} {fd : FuncData} {N ps : List Str} {k : Nat} {sp : Sp} (F : Fun K x qual st f fd) (S : FnScope N ps (defScope st)) (len : ∀ vs H Q E, sp vs H Q E → vs.length = ps.length)
    (hbody : ∀ (cdv : Value) (A : Around) (outer : List Env) (s : Shared) (H : Hp) (vs : List V) (Q : VK) (E : XK), Room k (A.deeper (envOfC qual (defScope st) s.heap.objs.size f cdv)) → sp vs H Q E →
      ∃ t, PSs (cxOf (L2N.CX P w) P w K mg base N qual (defScope st) f cdv A outer s H E) (defBody st) t ∧ t { nx := fun _ H' => Q .non H', rt := Q } (start N vs) H) :
    FnOk P w K mg base (L2N.CX P w) (k + 1) f fd ps sp := by
  obtain ⟨oc, od, kV, doc, pm, an, cdv, ct, osl, rfl, lk, hcd⟩ := F.ex
  exact fn_of lk hcd S len (fun A outer s H vs Q E hr hsp => hbody cdv A outer s H vs Q E hr hsp)
/-- behind the maker: the object is let go, its dict stands -/
theorem mk1 {H : Hp} {a dx C : Addr} {f : Str} {y : V} (na : H a = none) (hn : upd H a (exo a C none) dx = none) (ne : dx ≠ a) :
    H dx = none ∧ upd (upd (upd H a (exo a C none)) dx (exd dx [(f, y)])) a (exo a C (some dx)) a = some (exo a C (some dx)) ∧
    upd (upd (upd H a (exo a C none)) dx (exd dx [(f, y)])) a (exo a C (some dx)) dx = some (exd dx [(f, y)]) ∧
    upd (del (upd (upd (upd H a (exo a C none)) dx (exd dx [(f, y)])) a (exo a C (some dx))) a) dx (.xd [(f, y)]) = upd H dx (.xd [(f, y)]) := by
  refine ⟨by rw [upd_ne ne] at hn; exact hn, upd_same, by rw [upd_ne ne]; exact upd_same, ?_⟩
  funext c
  by_cases hc : c = dx
  · rw [hc, upd_same, upd_same]
  · rw [upd_ne hc, upd_ne hc]
    by_cases ha : c = a
    · rw [ha, del_same, na]
    · rw [del_ne ha, upd_ne ha, upd_ne hc, upd_ne ha]
theorem mk2 {H : Hp} {a dx C : Addr} {f g : Str} {y z : V} (na : H a = none) (hn : upd H a (exo a C none) dx = none) (ne : dx ≠ a) :
    H dx = none ∧ upd (upd (upd (upd H a (exo a C none)) dx (exd dx [(f, y)])) a (exo a C (some dx))) dx (exd dx [(g, z), (f, y)]) a = some (exo a C (some dx)) ∧
    upd (upd (upd (upd H a (exo a C none)) dx (exd dx [(f, y)])) a (exo a C (some dx))) dx (exd dx [(g, z), (f, y)]) dx = some (exd dx [(g, z), (f, y)]) ∧
    upd (del (upd (upd (upd (upd H a (exo a C none)) dx (exd dx [(f, y)])) a (exo a C (some dx))) dx (exd dx [(g, z), (f, y)])) a) dx (.xd [(g, z), (f, y)]) = upd H dx (.xd [(g, z), (f, y)]) := by
  refine ⟨by rw [upd_ne ne] at hn; exact hn, by rw [upd_ne ne.symm]; exact upd_same, upd_same, ?_⟩
  funext c
  by_cases hc : c = dx
  · rw [hc, upd_same, upd_same]
  · rw [upd_ne hc, upd_ne hc]
    by_cases ha : c = a
    · rw [ha, del_same, na]
    · rw [del_ne ha, upd_ne hc, upd_ne ha, upd_ne hc, upd_ne ha]
/-- what the top has written of an error's class (at c, its maker at fi) -/
structure ErrC (K : PySem.W.Frag) (mg : Str → Option Value) (nm : Str) (c fi : Addr) : Prop where
  g : mg nm = some (.ref c)
  ox : OexC K c
  xi : PySem.W.findIn K (.ref c) "__init__" = some (some (.ref fi))
  ti : PySem.W.typeIn K (.ref fi) = some (.type "function")
/-- the class's maker -/
structure ErrI (P : Program) (w : World) (K : PySem.W.Frag) (mg : Str → Option Value) (base : Heap) (fi : Addr) (fd : FuncData) (ps : List Str) (sp : Sp) : Prop where
  F : FnOk P w K mg base CX0 1 fi fd ps sp
  b : Binds K fd ps []
end
end Wk
/-! The errors' makers; _need_bounds and _need_equal_sizes, raising. -/
namespace T27
open PySem PySem.Spec PyProof.Rows L2 Wk
abbrev sTM : Stmt := inClass (top 4) 0
abbrev sTF : Stmt := inClass (top 6) 0
abbrev sUn : Stmt := inClass (top 7) 0
abbrev sEqS : Stmt := top 19
theorem scTM : FnScope ["self", "limit"] ["self", "limit"] (defScope sTM) := ⟨rfl, rfl, rfl, by decide +kernel, rfl, by decide +kernel, by decide +kernel⟩
theorem scTF : FnScope ["self", "pair"] ["self", "pair"] (defScope sTF) := ⟨rfl, rfl, rfl, by decide +kernel, rfl, by decide +kernel, by decide +kernel⟩
theorem scUn : FnScope ["self", "one", "other"] ["self", "one", "other"] (defScope sUn) := ⟨rfl, rfl, rfl, by decide +kernel, rfl, by decide +kernel, by decide +kernel⟩
theorem scES : FnScope ["one", "other"] ["one", "other"] (defScope sEqS) := ⟨rfl, rfl, rfl, by decide +kernel, rfl, by decide +kernel, by decide +kernel⟩
/-- all numbers within the bound, or the error -/
def spBoundsR (K : PySem.W.Frag) (c : Addr) : Sp := fun vs H Q E => ∃ D bs T, vs = [.ref D] ∧ H D = some (.lst bs) ∧ bs.length ≤ sizeLine ∧ Trs K H bs T ∧
  (((∀ p ∈ T, p.2.2 ≤ 1000000000) ∧ ∀ H', Same H H' → Q .non H') ∨ ((∃ p ∈ T, 1000000000 < p.2.2) ∧ ∀ H' d, Same H H' → H' d = none → E (.ref c) (some d) (upd H' d (.xd [("limit", .int 1000000000)]))))
def spEqS (K : PySem.W.Frag) (C c : Addr) : Sp := fun vs H Q E => ∃ w n T w2 n2 T2, vs = [.ref w, .ref w2] ∧ WebAt K C H w n T ∧ WebAt K C H w2 n2 T2 ∧
  ((n = n2 ∧ Q .non H) ∨ (n ≠ n2 ∧ ∀ d, H d = none → E (.ref c) (some d) (upd H d (.xd [("other", .int (n2 : Int)), ("one", .int (n : Int))]))))
section
variable {P : Program} {w : World} {K : PySem.W.Frag} {mg : Str → Option Value} {base : Heap}
theorem ok_iTM {c f : Addr} {fd : FuncData} (F : Fun K "__init__" "TooMany.__init__" sTM f fd) (ox : OexC K c) (no : PySem.W.findIn K (.ref c) "limit" = some none) : FnOk P w K mg base CX0 1 f fd ["self", "limit"] (spI1 c "limit") := by
  refine F.ok scTM (fun vs H Q E h => ?_) (fun cdv A outer s H vs Q E hr h => ?_)
  · obtain ⟨a, y, rfl, _⟩ := h
    rfl
  · obtain ⟨a, y, rfl, ha, q⟩ := h
    refine ⟨_, pss_one (ps_ost (pv 0) (pv 1)), ?_⟩
    exact ⟨_, rfl, _, rfl, a, c, rfl, ox, no, .inl ⟨ha, fun dx n ne => q dx n ne⟩⟩
theorem ok_iTF {c f : Addr} {fd : FuncData} (F : Fun K "__init__" "TooFew.__init__" sTF f fd) (ox : OexC K c) (no : PySem.W.findIn K (.ref c) "pair" = some none) : FnOk P w K mg base CX0 1 f fd ["self", "pair"] (spI1 c "pair") := by
  refine F.ok scTF (fun vs H Q E h => ?_) (fun cdv A outer s H vs Q E hr h => ?_)
  · obtain ⟨a, y, rfl, _⟩ := h
    rfl
  · obtain ⟨a, y, rfl, ha, q⟩ := h
    refine ⟨_, pss_one (ps_ost (pv 0) (pv 1)), ?_⟩
    exact ⟨_, rfl, _, rfl, a, c, rfl, ox, no, .inl ⟨ha, fun dx n ne => q dx n ne⟩⟩
theorem ok_iUn {c f : Addr} {fd : FuncData} (F : Fun K "__init__" "Unequal.__init__" sUn f fd) (ox : OexC K c) (n1 : PySem.W.findIn K (.ref c) "one" = some none) (n2 : PySem.W.findIn K (.ref c) "other" = some none) : FnOk P w K mg base CX0 1 f fd ["self", "one", "other"] (spI2 c "one" "other") := by
  refine F.ok scUn (fun vs H Q E h => ?_) (fun cdv A outer s H vs Q E hr h => ?_)
  · obtain ⟨a, y, z, rfl, _⟩ := h
    rfl
  · obtain ⟨a, y, z, rfl, ha, q⟩ := h
    refine ⟨_, pss_cons (ps_ost (pv 0) (pv 1)) (pss_one (ps_ost (pv 0) (pv 2))), ?_⟩
    refine ⟨_, rfl, _, rfl, a, c, rfl, ox, n1, .inl ⟨ha, fun dx n ne => ?_⟩⟩
    exact ⟨_, rfl, _, rfl, a, c, rfl, ox, n2, .inr ⟨dx, _, upd_same, by rw [upd_ne ne]; exact upd_same, by show 1 ≤ 900; decide, q dx n ne⟩⟩
theorem ok_boundsR {c fi f : Addr} {fd fdi : FuncData} {k : Nat} (F : Fun K "_need_bounds" "_need_bounds" sBounds f fd) (R : ErrC K mg "TooMany" c fi) (RI : ErrI P w K mg base fi fdi ["self", "limit"] (spI1 c "limit")) (ma : mg "any" = none) (mm : ∃ t, mg "MOST_TIES" = some (.int 1000000000 t)) :
    FnOk P w K mg base (L2N.CX P w) (k + 3) f fd ["bundles"] (spBoundsR K c) := by
  obtain ⟨tm, mm⟩ := mm
  refine okN F scBo (fun vs H Q E h => ?_) (fun cdv A outer s H vs Q E hr h => ?_)
  · obtain ⟨D, bs, T, rfl, _⟩ := h
    rfl
  · obtain ⟨a, bs, T, rfl, ha, hlen, hT, q⟩ := h
    refine ⟨_, pss_one (ps_if (pt_val (pe_callB (cr_any rfl) (by rfl) ma (by decide +kernel) (pa_cons
      (pe_lc (own := [("bundle", 1)]) (g := gName 1) (tt := tYes) rfl scBo.nd (pi_list (pv 0)) (blkOk_by (N := ["bundles", "bundle"]) (sc := defScope sBounds) (by decide +kernel))
        (fun _ _ _ _ _ => pg_name (i := 1) scBo.nd rfl (Or.inl rfl)) (fun _ _ _ _ _ => pts_nil) (fun _ _ _ _ _ => pe_cmpR op_gt (pe_ix (r := rIxT K) ix_tup (pv 1) pe_int (fun _ _ => rfl)) (pe_glob (v := .int 1000000000) rfl mm ⟨_, rfl⟩) (nomark _))) pa_nil)))
      (pss_one (L2N.ps_raise rfl (L2N.takes_of rfl rfl rfl rfl) (pmkN_oex R.ox R.xi R.ti RI.F (hr.mono (by omega)) RI.b pass0 rfl R.g (pa_cons (pe_glob (v := .int 1000000000) rfl mm ⟨_, rfl⟩) pa_nil)))) pss_nil), ?_⟩
    refine ⟨.ref a, rfl, a, rfl, ⟨bs, .inl (.inl ha)⟩, fun D nD => ?_⟩
    have haD : a ≠ D := ne_of_none ha nD
    have hbl : bs.length = T.length := hT.length
    refine lc_list (K := K) (a := a) (xs := bs) (fun i H2 => Ext H H2 ∧ H2 D = some (.lst (((T.take i).map fun p => decide ((1000000000 : Int) < p.2.2)).map V.bl))) ?_ (fun i H2 _ h2 => .inl (.inl (h2.1 _ _ ha))) ?_ ?_
    · exact ⟨fun b o z => by rw [upd_ne (ne_of_none z nD)]; exact z, upd_same⟩
    · rintro i x H2 hx ⟨g1, g2⟩
      obtain ⟨p, hp, t, rfl, hS⟩ := hT.get hx
      have i2 : atI [V.int p.1, V.int p.2.1, V.int p.2.2] 2 = some (.int p.2.2) := atI_nat (xs := [V.int p.1, V.int p.2.1, V.int p.2.2]) (j := 2) rfl
      refine ⟨rfl, .ref t, rfl, t, _, 2, _, rfl, rfl, hS.ext g1, i2, p.2.2, 1000000000, rfl, rfl, _, g2, ?_, ?_, ?_⟩
      · rw [List.length_map, List.length_map, List.length_take]
        have := (List.getElem?_eq_some_iff.mp hx).1
        omega
      · intro b o z
        rw [upd_ne (ne_of_none z nD)]
        exact g1 b o z
      · rw [upd_same, List.take_add_one, hp, List.map_append, List.map_append]
        rfl
    · rintro H2 ⟨g1, g2⟩
      rw [hbl, List.take_length] at g2
      refine ⟨D, _, rfl, .inl (.inl g2), _, rfl, ?_⟩
      rcases q with ⟨h1, q⟩ | ⟨⟨p, hp, h1⟩, q⟩
      · have e : (T.map fun p => decide ((1000000000 : Int) < p.2.2)).any id = false := by
          rw [List.any_map, List.any_eq_false]
          intro p hp
          have := h1 p hp
          simp only [Function.comp_apply, id, decide_eq_true_eq]
          omega
        rw [e]
        exact q H2 g1
      · have e : (T.map fun p => decide ((1000000000 : Int) < p.2.2)).any id = true := by
          rw [List.any_map, List.any_eq_true]
          exact ⟨p, hp, decide_eq_true h1⟩
        rw [e]
        refine ⟨(by show 1 ≤ 1000; decide), fun a na => ⟨a, _, rfl, upd_same, fun dx hn ne => ⟨rfl, ?_⟩⟩⟩
        obtain ⟨z0, z1, z2, z3⟩ := mk1 na hn ne
        exact ⟨dx, _, z1, z2, z0, by rw [z3]; exact q H2 dx g1 z0⟩
theorem ok_eqS {C c fi f : Addr} {fd fdi : FuncData} {k : Nat} (F : Fun K "_need_equal_sizes" "_need_equal_sizes" sEqS f fd) (T : TxtW K mg C) (R : ErrC K mg "Unequal" c fi) (RI : ErrI P w K mg base fi fdi ["self", "one", "other"] (spI2 c "one" "other")) :
    FnOk P w K mg base (L2N.CX P w) (k + 3) f fd ["one", "other"] (spEqS K C c) := by
  refine okN F scES (fun vs H Q E h => ?_) (fun cdv A outer s H vs Q E hr h => ?_)
  · obtain ⟨w, n, T, w2, n2, T2, rfl, _⟩ := h
    rfl
  · obtain ⟨w, n, TT, w2, n2, T2, rfl, hW, hW2, q⟩ := h
    obtain ⟨dx, t, ys, d, g, h1, h2, h3, h4, h5⟩ := hW.ex
    obtain ⟨dx2, t2, ys2, d2, g2, k1, k2, k3, k4, k5⟩ := hW2.ex
    refine ⟨_, pss_one (ps_if (pt_cmpR op_ne (pe_fld (pv 0) rfl) (pe_fld (pv 1) rfl) (nomark _))
      (pss_one (L2N.ps_raise rfl (L2N.takes_of rfl rfl rfl rfl) (pmkN_oex R.ox R.xi R.ti RI.F (hr.mono (by omega)) RI.b pass0 rfl R.g (pa_cons (pe_fld (pv 0) rfl) (pa_cons (pe_fld (pv 1) rfl) pa_nil))))) pss_nil), ?_⟩
    refine ⟨.ref w, rfl, w, C, dx, _, _, rfl, h1, T.cl, T.n1, lk5s _ _ _ _ _, .ref w2, rfl, w2, C, dx2, _, _, rfl, k1, T.cl, T.n1, lk5s _ _ _ _ _, rfl, _, rfl, ?_⟩
    rcases q with ⟨rfl, q⟩ | ⟨hne, q⟩
    · rw [decide_eq_true rfl]
      exact q
    · have e : decide (V.int (n : Int) = V.int (n2 : Int)) = false := decide_eq_false fun z => hne (by injection z with z; omega)
      rw [e]
      refine ⟨.ref w, rfl, w, C, dx, _, _, rfl, h1, T.cl, T.n1, lk5s _ _ _ _ _, .ref w2, rfl, w2, C, dx2, _, _, rfl, k1, T.cl, T.n1, lk5s _ _ _ _ _, (by show 2 ≤ 1000; decide), fun a na => ⟨a, _, _, rfl, upd_same, fun dx hn ne => ⟨rfl, ?_⟩⟩⟩
      obtain ⟨z0, z1, z2, z3⟩ := mk2 na hn ne
      exact ⟨dx, _, z1, z2, z0, by rw [z3]; exact q dx z0⟩
end
end T27
/-! _bundles, raising where a pair's sum is too great. -/
namespace T27
open PySem PySem.Spec PyProof.Rows L2 Wk
def spBundlesR (K : PySem.W.Frag) (c : Addr) : Sp := fun vs H Q E => ∃ n a xs ps, vs = [.ref a] ∧ n ≤ 60 ∧ SqS K H a xs ∧ Trs K H xs ps ∧ ps.length < 4000 ∧ (∀ p ∈ ps, tieB p.1 p.2.1 p.2.2 n = true) ∧
  (((∀ u v, amt (ps.map norm) u v ≤ 1000000000) ∧ ∀ H' t ys T, Same H H' → H t = none → H' t = some (.tup ys) → Trs K H' ys T → TiesOf n (amt (ps.map norm)) T → ys.length < 4000 → Q (.ref t) H') ∨
   ((∃ u v, 1000000000 < amt (ps.map norm) u v) ∧ ∀ H' d, Same H H' → H' d = none → E (.ref c) (some d) (upd H' d (.xd [("limit", .int 1000000000)]))))
section
variable {P : Program} {w : World} {K : PySem.W.Frag} {mg : Str → Option Value} {base : Heap}
theorem ok_bundlesR {c f fb : Addr} {fd fdb : FuncData} {k : Nat} (F : Fun K "_bundles" "_bundles" sBundles f fd) (GB : FnOk P w K mg base (L2N.CX P w) k fb fdb ["bundles"] (spBoundsR K c)) (gB : mg "_need_bounds" = some (.ref fb)) (kB : PySem.W.keepIn K (.ref fb) = true) (bB : Binds K fdb ["bundles"] [])
    (ms : mg "sorted" = none) (mi : mg "min" = none) (mx : mg "max" = none) (mt : mg "tuple" = none) : FnOk P w K mg base (L2N.CX P w) (k + 1) f fd ["ties"] (spBundlesR K c) := by
  refine okN F scBu (fun vs H Q E h => ?_) (fun cdv A outer s H vs Q E hr h => ?_)
  · obtain ⟨n, a, xs, ps, rfl, _⟩ := h
    rfl
  · obtain ⟨n, a, xs, ps, rfl, hn, hS, hT, h64, hv, hq⟩ := h
    have hu := hu_of hr
    refine ⟨_, pss_cons (ps_set (i := 1) scBu.nd rfl (Or.inl rfl) (pe_lst pa_nil))
      (pss_cons (ps_for (passes_of rfl) rfl (pi_list (pe_callB (cr_sortTA (d := 3) (B := 1000000001) (by decide)) (by rfl) ms (by decide +kernel) (pa_cons
          (pe_lc (own := [("u", 2), ("v", 3), ("number", 4)]) (g := gTup K 3 (gCons (gName 2) (gCons (gName 3) (gCons (gName 4) gNil)))) (tt := tYes) rfl scBu.nd (pi_seqW (pv 0)) (blkOk_by (N := ["ties", "bundles", "u", "v", "number", "goes_on", "ahead", "bundle"]) (sc := defScope sBundles) (by decide +kernel))
            (fun _ _ _ _ _ => pg_tup rfl (pgs_cons (pg_name (i := 2) scBu.nd rfl (Or.inl rfl)) (pgs_cons (pg_name (i := 3) scBu.nd rfl (Or.inl rfl)) (pgs_cons (pg_name (i := 4) scBu.nd rfl (Or.inl rfl)) pgs_nil))))
            (fun _ _ _ _ _ => pts_nil) (fun _ _ _ _ _ => pe_tup (pa_cons (pe_callB (call_min2 rfl) (by rfl) mi (by decide +kernel) (pa_cons (pv 2) (pa_cons (pv 3) pa_nil)))
              (pa_cons (pe_callB (call_max2 rfl) (by rfl) mx (by decide +kernel) (pa_cons (pv 2) (pa_cons (pv 3) pa_nil))) (pa_cons (pv 4) pa_nil))))) pa_nil)))
          (pg_tup rfl (pgs_cons (pg_name (i := 2) scBu.nd rfl (Or.inl rfl)) (pgs_cons (pg_name (i := 3) scBu.nd rfl (Or.inl rfl)) (pgs_cons (pg_name (i := 4) scBu.nd rfl (Or.inl rfl)) pgs_nil))))
        (pss_cons (ps_set (i := 5) scBu.nd rfl (Or.inl rfl) (pe_andT (pv 1) (pe_one (pe_cmpR (op_eqD hr.units) (pe_slice sl_tupA (pe_ix ix_list (pv 1) (pe_un un_neg pe_int) (fun _ _ => rfl)) po_none (po_some pe_int)) (pe_tup (pa_cons (pv 2) (pa_cons (pv 3) pa_nil))) (nomark _)))))
        (pss_cons (ps_set (i := 6) scBu.nd rfl (Or.inl rfl) (pe_ifExp (pt_truth (pv 5) (by intro _; rfl)) (pe_ix ix_tup (pe_bm0 PySem.F.plainAttrs_list PySem.F.slot_list_pop PySem.F.type_list_pop mt_pop (pv 1)) pe_int (fun _ _ => rfl)) pe_int))
        (pss_one (ps_expr (pe_bm PySem.F.plainAttrs_list PySem.F.slot_list_append PySem.F.type_list_append mt_append (pv 1) (pa_cons (pe_tup (pa_cons (pv 2) (pa_cons (pv 3) (pa_cons (pe_op op_add (pv 6) (pv 4)) pa_nil)))) pa_nil)))))))
      (pss_cons (ps_expr (pe_call GB hr rfl gB kB bB .nil (L2N.passes_call (L2N.takes_of rfl rfl rfl rfl) (fun _ _ _ _ h => h)) (pa_cons (pv 1) pa_nil)))
      (pss_one (ps_ret (pe_callTy call_tuple_of (by rfl) mt (by decide +kernel) (pa_cons
        (pe_lc (own := [("bundle", 7)]) (g := gName 7) rfl scBu.nd (pi_list (pv 1)) (blkOk_by (N := ["ties", "bundles", "u", "v", "number", "goes_on", "ahead", "bundle"]) (sc := defScope sBundles) (by decide +kernel))
          (fun _ _ _ _ _ => pg_name (i := 7) scBu.nd rfl (Or.inl rfl)) (fun _ _ _ _ _ => pts_one (pt_cmpR op_gt (pe_ix (r := rIxT K) ix_tup (pv 7) pe_int (fun _ _ => rfl)) pe_int (nomark _))) (fun _ _ _ _ _ => pv 7)) pa_nil)))))), ?_⟩
    refine ⟨(by show 0 ≤ sizeLine; decide), fun D nD => ?_⟩
    have e1 : Ext H (upd H D (.lst [])) := same_upd nD
    -- the normal items
    refine ⟨.ref a, rfl, a, xs, rfl, hS.ext e1, fun J G W hG L nL => ?_⟩
    have nL0 : H L = none := Same.free e1 nL
    have hDL : D ≠ L := ne_of_none upd_same nL
    have hlen : xs.length = ps.length := hT.length
    refine lc_it W (fun i H2 => Ext (upd H D (.lst [])) H2 ∧ ∃ ys, H2 L = some (.lst ys) ∧ Trs K H2 ys ((ps.take i).map norm)) ⟨fun b o z => by rw [upd_ne (ne_of_none z nL)]; exact z, [], upd_same, True.intro⟩ (fun i H2 _ p => hG H2 fun o z => p.1 _ _ z) ?_ ?_
    · rintro i x H2 H3 hi ⟨g1, ys, g2, g3⟩ ⟨rfl, hx⟩
      obtain ⟨p, hp, t, rfl, hSt⟩ := hT.get hx
      have hys : ys.length = ((ps.take i).map norm).length := g3.length
      have hsz : ys.length < sizeLine := by rw [hys, List.length_map, List.length_take, sizeLine_eq]; omega
      refine ⟨t, _, rfl, hSt.ext (Ext.trans e1 g1), rfl, _, _, rfl, _, _, rfl, _, _, rfl, rfl, rfl, ?_⟩
      refine ⟨_, rfl, _, rfl, p.1, p.2.1, rfl, _, rfl, _, rfl, p.1, p.2.1, rfl, _, rfl, (by show 3 ≤ sizeLine; decide), fun T nT => ⟨ys, by rw [upd_ne (ne_of_none g2 nT)]; exact g2, hsz, ?_⟩⟩
      have hTL : T ≠ L := Ne.symm (ne_of_none g2 nT)
      have s3 : Same H3 (upd H3 T (.tup [.int (if p.2.1 < p.1 then p.2.1 else p.1), .int (if p.2.1 > p.1 then p.2.1 else p.1), .int p.2.2])) := same_upd nT
      refine ⟨fun b o z => ?_, ys ++ [.ref T], upd_same, ?_⟩
      · rw [upd_ne (ne_of_none z nL)]
        exact s3 _ _ (g1 b o z)
      · rw [List.take_add_one, hp, List.map_append]
        have bt : But L (upd H3 T (.tup [.int (if p.2.1 < p.1 then p.2.1 else p.1), .int (if p.2.1 > p.1 then p.2.1 else p.1), .int p.2.2])) (upd (upd H3 T (.tup [.int (if p.2.1 < p.1 then p.2.1 else p.1), .int (if p.2.1 > p.1 then p.2.1 else p.1), .int p.2.2])) L (.lst (ys ++ [.ref T]))) := But.upd _ _ _
        refine Trs.append (Trs.but (D := L) (bs := ys) (by rw [upd_ne (Ne.symm hTL)]; exact g2) bt (g3.same s3)) ⟨⟨T, rfl, .inl (.inl (by rw [upd_ne hTL]; exact upd_same))⟩, True.intro⟩
    · rintro H2 ⟨g1, ys0, g2, g3⟩
      rw [hlen, List.take_length] at g3
      have hbd : ∀ p ∈ ps.map norm, TS.Bd 1000000001 [p.1, p.2.1, p.2.2] := fun p hp => by
        obtain ⟨p0, h0, rfl⟩ := List.mem_map.mp hp
        have := norm_ok (hv p0 h0)
        intro m hm
        simp only [List.mem_cons, List.not_mem_nil, or_false] at hm
        rcases hm with rfl | rfl | rfl <;> omega
      refine ⟨L, ys0, rfl, .inl (.inl g2), fun x hx => ?_, fun ys p hperm hord np => ?_⟩
      · obtain ⟨i, hi, rfl⟩ := List.mem_iff_getElem.mp hx
        obtain ⟨p, hp, tr⟩ := g3.get (List.getElem?_eq_getElem hi)
        exact ⟨_, tr.tupI, rfl, hbd p (List.mem_of_getElem? hp)⟩
      obtain ⟨qs, hqp, hTq⟩ := g3.perm hperm
      have hord' := hTq.order (fun p hp => hbd p (hqp.mem_iff.mp hp)) hord
      have hqv : ∀ q ∈ qs, 0 ≤ q.1 ∧ q.1 < q.2.1 ∧ q.2.1 < n ∧ 0 ≤ q.2.2 := fun q hq => by
        obtain ⟨p0, h0, rfl⟩ := List.mem_map.mp (hqp.mem_iff.mp hq)
        have := norm_ok (hv p0 h0)
        omega
      have hD2 : H2 D = some (.lst []) := g1 _ _ upd_same
      have hpD : p ≠ D := Ne.symm (ne_of_none hD2 np)
      have hql : qs.length < 4000 := by rw [hqp.length_eq, List.length_map]; exact h64
      have hyl : ys.length = qs.length := hTq.length
      refine ⟨p, rfl, ⟨ys, .inl (.inl upd_same)⟩, ?_⟩
      refine for_list (K := K) (a := p) (xs := ys) (fun i σ H3 => (∃ v2 v3 v4 v5 v6 v7, σ = [some (.ref a), some (.ref D), v2, v3, v4, v5, v6, v7]) ∧ But D (upd H2 p (.lst ys)) H3 ∧
        ∃ bs acc, H3 D = some (.lst bs.reverse) ∧ bs.length ≤ i ∧ Trs K H3 bs acc ∧ BInv n acc (qs.take i)) ?_ (fun i σ H3 _ h => .inl (.inl (h.2.1 p _ hpD upd_same))) ?_ ?_
      · exact ⟨⟨_, _, _, _, _, _, rfl⟩, But.refl _ _, [], [], by rw [upd_ne (Ne.symm hpD)]; exact hD2, Nat.le_refl _, True.intro, BInv.nil⟩
      · rintro i x σ H3 hx ⟨⟨v2, v3, v4, v5, v6, v7, rfl⟩, bt, bs, acc, k1, k2, k3, k4⟩
        have hDp : (upd H2 p (.lst ys)) D = some (.lst []) := by rw [upd_ne (Ne.symm hpD)]; exact hD2
        obtain ⟨q0, hq0, t, rfl, hSt⟩ := (Trs.but hDp bt (hTq.same (same_upd np))).get hx
        have hil : i < 4000 := by have := (List.getElem?_eq_some_iff.mp hq0).1; omega
        have hmem := List.mem_of_getElem? hq0
        have htk : qs.take (i + 1) = qs.take i ++ [q0] := by rw [List.take_add_one, hq0]; rfl
        have hbe : ∀ d ∈ qs.take i, lt2 d q0 ∨ key d q0 := fun d hd => by
          obtain ⟨j, hj, rfl⟩ := List.mem_iff_getElem.mp hd
          rw [List.length_take] at hj
          have hi' := (List.getElem?_eq_some_iff.mp hq0).1
          have e0 : qs[i] = q0 := (List.getElem?_eq_some_iff.mp hq0).2
          have := List.pairwise_iff_getElem.mp hord' j i (by omega) hi' (by omega)
          rw [List.getElem_take]
          rwa [e0] at this
        -- the turn's end: the new bundle at R
        have fin : ∀ (ah : Int) (bs' : List V) (acc' : List T3) (H4 : Hp) (R : Addr), H4 D = some (.lst bs'.reverse) → bs'.length ≤ i → Trs K H4 bs' acc' → But D H3 H4 → putR acc q0 = (q0.1, q0.2.1, ah + q0.2.2) :: acc' → H4 R = none →
            ∃ l xs y, V.ref D = .ref l ∧ [V.ref R] = [y] ∧ (upd H4 R (.tup [.int q0.1, .int q0.2.1, .int (ah + q0.2.2)])) l = some (.lst xs) ∧ xs.length < sizeLine ∧
              (But D (upd H2 p (.lst ys)) (upd (upd H4 R (.tup [.int q0.1, .int q0.2.1, .int (ah + q0.2.2)])) l (.lst (xs ++ [y]))) ∧
                ∃ bs acc, (upd (upd H4 R (.tup [.int q0.1, .int q0.2.1, .int (ah + q0.2.2)])) l (.lst (xs ++ [y]))) D = some (.lst bs.reverse) ∧ bs.length ≤ i + 1 ∧ Trs K (upd (upd H4 R (.tup [.int q0.1, .int q0.2.1, .int (ah + q0.2.2)])) l (.lst (xs ++ [y]))) bs acc ∧ BInv n acc (qs.take (i + 1))) := by
          intro ah bs' acc' H4 R j1 j2 j3 j4 j5 nR
          have hRD : R ≠ D := Ne.symm (ne_of_none j1 nR)
          have j1' : (upd H4 R (.tup [.int q0.1, .int q0.2.1, .int (ah + q0.2.2)])) D = some (.lst bs'.reverse) := by rw [upd_ne (Ne.symm hRD)]; exact j1
          refine ⟨D, _, _, rfl, rfl, j1', by rw [List.length_reverse, sizeLine_eq]; omega, bt.trans (j4.trans ((But.of (same_upd nR)).trans (But.upd _ _ _))), .ref R :: bs', (q0.1, q0.2.1, ah + q0.2.2) :: acc', by rw [upd_same, List.reverse_cons], by rw [List.length_cons]; omega, ?_, ?_⟩
          · exact ⟨⟨R, rfl, .inl (.inl (by rw [upd_ne hRD]; exact upd_same))⟩, Trs.but j1' (But.upd _ _ _) (j3.same (same_upd nR))⟩
          · rw [htk, ← j5]
            exact k4.put (hqv q0 hmem) hbe
        refine ⟨t, _, rfl, hSt, rfl, _, _, rfl, _, _, rfl, _, _, rfl, rfl, ?_⟩
        cases bs with
        | nil =>
          cases acc with
          | cons _ _ => exact k3.elim
          | nil =>
            have em : TruV K (.ref D) H3 false := .inl ⟨[], .inl (.inl k1), rfl⟩
            refine ⟨.ref D, rfl, false, em, ?_⟩
            refine ⟨.ref D, rfl, false, em, ?_⟩
            refine ⟨.ref D, rfl, .inl ⟨rfl, _, .inl (.inl k1)⟩, _, rfl, _, rfl, _, rfl, _, rfl, 0, q0.2.2, rfl, rfl, (by show 3 ≤ sizeLine; decide), fun R nR => ?_⟩
            obtain ⟨l, xs1, y1, z1, z2, z3, z4, z5⟩ := fin 0 [] [] H3 R k1 (Nat.zero_le _) True.intro (But.refl _ _) (by rw [Int.zero_add]; rfl) nR
            exact ⟨l, xs1, y1, z1, z2, z3, z4, ⟨_, _, _, _, _, _, rfl⟩, z5⟩
        | cons b r =>
          cases acc with
          | nil => exact k3.elim
          | cons c ra =>
            have k1' := k1
            rw [List.reverse_cons] at k1'
            obtain ⟨⟨tb, rfl, hSb⟩, k3r⟩ := k3
            have tr : TruV K (.ref D) H3 true := .inl ⟨_, .inl (.inl k1'), by simp⟩
            refine ⟨.ref D, rfl, true, tr, ?_⟩
            refine ⟨.ref D, rfl, 1, rfl, D, _, -1, _, rfl, rfl, .inl (.inl k1'), atI_last _ _, 2, rfl, tb, _, rfl, hSb, fun z => absurd z.2 (show ¬ (HT.sIx 3 3 (some 2) = 3) by decide), fun _ S nS => ?_⟩
            have s1 : Same H3 (upd H3 S (.tup (cutV [V.int c.1, V.int c.2.1, V.int c.2.2] none (some 2)))) := same_upd nS
            refine ⟨_, rfl, _, rfl, (by show 2 ≤ sizeLine; decide), fun S2 nS2 => ?_⟩
            have s2 : Same (upd H3 S (.tup (cutV [V.int c.1, V.int c.2.1, V.int c.2.2] none (some 2)))) (upd (upd H3 S (.tup (cutV [V.int c.1, V.int c.2.1, V.int c.2.2] none (some 2)))) S2 (.tup [.int q0.1, .int q0.2.1])) := same_upd nS2
            refine ⟨.tuple [.int c.1, .int c.2.1], .tuple [.int q0.1, .int q0.2.1], .tup (.inl (.inl (s2 _ _ upd_same))) (.cons (.int _) (.cons (.int _) .nil)), .tup (.inl (.inl upd_same)) (.cons (.int _) (.cons (.int _) .nil)), rfl, rfl, ?_⟩
            rw [eqv2]
            have s12 := s1.trans s2
            generalize upd (upd H3 S (.tup (cutV [V.int c.1, V.int c.2.1, V.int c.2.2] none (some 2)))) S2 (.tup [.int q0.1, .int q0.2.1]) = H4 at s12 ⊢
            by_cases hk : c.1 = q0.1 ∧ c.2.1 = q0.2.1
            · rw [decide_eq_true hk.1, decide_eq_true hk.2]
              refine ⟨.bl true, rfl, true, rfl, ?_⟩
              have i2 : atI [V.int c.1, V.int c.2.1, V.int c.2.2] 2 = some (.int c.2.2) := atI_nat (xs := [V.int c.1, V.int c.2.1, V.int c.2.2]) (j := 2) rfl
              have k1'' := s12 _ _ k1'
              refine ⟨.ref D, rfl, .inl ⟨rfl, _, .inl (.inl k1'')⟩, D, _, .ref tb, rfl, rfl, k1'', by simp, tb, _, 2, _, rfl, rfl, SqT.but k1'' (hSb.ext s12) (But.upd _ _ _), i2, ?_⟩
              have dl : (r.reverse ++ [V.ref tb]).dropLast = r.reverse := List.dropLast_concat
              rw [dl]
              refine ⟨.ref D, rfl, .inl ⟨rfl, _, .inl (.inl upd_same)⟩, _, rfl, _, rfl, _, rfl, _, rfl, c.2.2, q0.2.2, rfl, rfl, (by show 3 ≤ sizeLine; decide), fun R nR => ?_⟩
              obtain ⟨l, xs1, y1, z1, z2, z3, z4, z5⟩ := fin c.2.2 r ra _ R upd_same (by rw [List.length_cons] at k2; omega) (Trs.but k1'' (But.upd _ _ _) (Trs.same s12 k3r)) ((But.of s12).trans (But.upd _ _ _)) (putR_same hk) nR
              exact ⟨l, xs1, y1, z1, z2, z3, z4, ⟨_, _, _, _, _, _, rfl⟩, z5⟩
            · have e : (decide (c.1 = q0.1) && decide (c.2.1 = q0.2.1)) = false := by simpa using hk
              rw [e]
              refine ⟨.bl false, rfl, false, rfl, ?_⟩
              refine ⟨.ref D, rfl, .inl ⟨rfl, _, .inl (.inl (s12 _ _ k1'))⟩, _, rfl, _, rfl, _, rfl, _, rfl, 0, q0.2.2, rfl, rfl, (by show 3 ≤ sizeLine; decide), fun R nR => ?_⟩
              obtain ⟨l, xs1, y1, z1, z2, z3, z4, z5⟩ := fin 0 (.ref tb :: r) (c :: ra) H4 R (s12 _ _ k1) k2 ⟨⟨tb, rfl, hSb.ext s12⟩, Trs.same s12 k3r⟩ (But.of s12) (by rw [Int.zero_add]; exact putR_new hk) nR
              exact ⟨l, xs1, y1, z1, z2, z3, z4, ⟨_, _, _, _, _, _, rfl⟩, z5⟩
      · rintro σ H3 ⟨⟨v2, v3, v4, v5, v6, v7, rfl⟩, bt, bs, acc, k1, k2, k3, k4⟩
        rw [hyl] at k2
        rw [hyl, List.take_length] at k4
        have e3 : Ext H H3 := fun b o z => bt b o (ne_of_none z nD) (by
          rw [upd_ne (ne_of_none (g1 b o (e1 b o z)) np)]
          exact g1 b o (e1 b o z))
        have hbl : bs.length = acc.length := k3.length
        have tot : ∀ u v, amt qs u v = amt (ps.map norm) u v := fun u v => amt_perm hqp
        rcases hq with ⟨ham, q⟩ | ⟨⟨u0, v0, hbig⟩, q⟩
        rotate_left
        · refine ⟨_, rfl, D, bs.reverse, acc.reverse, rfl, k1, by rw [List.length_reverse, sizeLine_eq]; omega, k3.reverse, .inr ⟨?_, fun H4 d s4 nd => q _ d (Ext.trans e3 s4) nd⟩⟩
          rw [← tot, ← k4.am] at hbig
          obtain ⟨r, hr, rfl, rfl⟩ := mem_amt (T := acc) (u := u0) (v := v0) (by omega)
          have h1 := amt_mem (List.pairwise_reverse.mpr k4.desc) (List.mem_reverse.mpr hr)
          rw [amt_perm (List.reverse_perm acc)] at h1
          exact ⟨r, List.mem_reverse.mpr hr, by omega⟩
        refine ⟨_, rfl, D, bs.reverse, acc.reverse, rfl, k1, by rw [List.length_reverse, sizeLine_eq]; omega, k3.reverse, .inl ⟨fun r hr => ?_, fun H4 s4 => ?_⟩⟩
        · have hr := List.mem_reverse.mp hr
          have h1 := amt_mem (List.pairwise_reverse.mpr k4.desc) (List.mem_reverse.mpr hr)
          rw [amt_perm (List.reverse_perm acc), k4.am, tot] at h1
          have := ham r.1 r.2.1
          omega
        · have k3' := k3.reverse.same s4
          refine ⟨_, rfl, D, rfl, ⟨_, .inl (.inl (s4 _ _ k1))⟩, fun L2 nL2 => ?_⟩
          have hDL2 : D ≠ L2 := ne_of_none (s4 _ _ k1) nL2
          refine lc_list (K := K) (a := D) (xs := bs.reverse) (fun j H5 => Ext H4 H5 ∧ ∃ zs, H5 L2 = some (.lst zs) ∧ Trs K H5 zs ((acc.reverse.take j).filter fun p => decide (0 < p.2.2)) ∧ zs.length ≤ j) ?_ (fun j H5 _ h => .inl (.inl (h.1 _ _ (s4 _ _ k1)))) ?_ ?_
          · exact ⟨fun b o z => by rw [upd_ne (ne_of_none z nL2)]; exact z, [], upd_same, True.intro, Nat.le_refl _⟩
          · rintro j x H5 hx ⟨m1, zs, m2, m3, m4⟩
            obtain ⟨r, hr, t, rfl, hSt⟩ := (k3'.same m1).get hx
            have hjl : j < 4000 := by
              have := (List.getElem?_eq_some_iff.mp hx).1
              rw [List.length_reverse] at this
              omega
            have i2 : atI [V.int r.1, V.int r.2.1, V.int r.2.2] 2 = some (.int r.2.2) := atI_nat (xs := [V.int r.1, V.int r.2.1, V.int r.2.2]) (j := 2) rfl
            refine ⟨rfl, .ref t, rfl, t, _, 2, _, rfl, rfl, hSt, i2, r.2.2, 0, rfl, rfl, _, rfl, ?_⟩
            have htk : acc.reverse.take (j + 1) = acc.reverse.take j ++ [r] := by rw [List.take_add_one, hr]; rfl
            by_cases hpos : 0 < r.2.2
            · rw [show decide ((0 : Int) < r.2.2) = true from decide_eq_true hpos]
              refine ⟨.ref t, rfl, zs, m2, by rw [sizeLine_eq]; omega, fun b o z => ?_, zs ++ [.ref t], upd_same, ?_, by rw [List.length_append, List.length_singleton]; omega⟩
              · rw [upd_ne (ne_of_none z nL2)]
                exact m1 b o z
              · rw [htk, List.filter_append, List.filter_cons_of_pos (by simpa using hpos)]
                exact Trs.append (Trs.but m2 (But.upd _ _ _) m3) ⟨⟨t, rfl, SqT.but m2 hSt (But.upd _ _ _)⟩, True.intro⟩
            · rw [show decide ((0 : Int) < r.2.2) = false from decide_eq_false hpos]
              refine ⟨m1, zs, m2, ?_, by omega⟩
              rw [htk, List.filter_append, List.filter_cons_of_neg (by simpa using hpos), List.filter_nil, List.append_nil]
              exact m3
          · rintro H5 ⟨m1, zs, m2, m3, m4⟩
            rw [show bs.reverse.length = acc.reverse.length by rw [List.length_reverse, List.length_reverse, hbl], List.take_length] at m3
            refine ⟨L2, zs, rfl, .inl ⟨.inl (.inl m2), fun t nt => ?_⟩⟩
            have e5 : Ext H H5 := Ext.trans e3 (Ext.trans s4 m1)
            refine q _ t zs _ (fun b o z => ?_) (Same.free e5 nt) upd_same (m3.same (same_upd nt)) ⟨k4.done.asc, k4.done.mem, fun u v => ?_⟩ (by rw [List.length_reverse] at m4; omega)
            · rw [upd_ne (ne_of_none (e5 b o z) nt)]
              exact e5 b o z
            · rw [k4.done.am, tot]
end
end T27
/-! Web.__init__, raising where a pair's sum is too great. -/
namespace T27
open PySem PySem.Spec PyProof.Rows L2 Wk
def spInitR (K : PySem.W.Frag) (C c : Addr) : Sp := fun vs H Q E => ∃ (w : Addr) (n : Nat) (a dx : Addr) (xs : List V) (ps : List T3), vs = [.ref w, .int (n : Int), .ref a] ∧ H w = some (.ins C dx []) ∧ n ≤ 60 ∧ SqS K H a xs ∧ Trs K H xs ps ∧ ps.length < 4000 ∧ (∀ p ∈ ps, tieB p.1 p.2.1 p.2.2 (n : Int) = true) ∧
  (((∀ u v, amt (ps.map norm) u v ≤ 1000000000) ∧ ∀ H' T, But w H H' → TiesOf (n : Int) (amt (ps.map norm)) T → WebAt K C H' w n T → Q .non H') ∨
   ((∃ u v, 1000000000 < amt (ps.map norm) u v) ∧ ∀ H' d, But w H H' → H' d = none → E (.ref c) (some d) (upd H' d (.xd [("limit", .int 1000000000)]))))
section
variable {P : Program} {w : World} {K : PySem.W.Frag} {mg : Str → Option Value} {base : Heap}
theorem okDN {x qual : Str} {params : Arguments} {body : List Stmt} {scope : Scope} {dvs : List V} {kws : List (Str × V)} {f : Addr} {fd : FuncData} {N ps : List Str} {k : Nat} {sp : Sp} (F : FunD K x qual params body scope dvs kws f fd) (S : FnScope N ps scope)
    (len : ∀ vs H Q E, sp vs H Q E → vs.length = ps.length) (hb : ∀ (cdv : Value) (A : Around) (outer : List Env) (s : Shared) (H : Hp) (vs : List V) (Q : VK) (E : XK), Room k (A.deeper (envOfC qual scope s.heap.objs.size f cdv)) → sp vs H Q E →
      ∃ t, PSs (cxOf (L2N.CX P w) P w K mg base N qual scope f cdv A outer s H E) body t ∧ t { nx := fun _ H' => Q .non H', rt := Q } (start N vs) H) : FnOk P w K mg base (L2N.CX P w) (k + 1) f fd ps sp :=
  FunD.ok F S len fun cdv A outer s H vs Q E hr h => hb cdv A outer s H vs Q E hr h
theorem ok_initR {c C f fn fb fg aE : Addr} {fd fdn fdb fdg : FuncData} {k : Nat} (F : FunD K "__init__" "Web.__init__" (defArgs sInit) (defBody sInit) (defScope sInit) [.ref aE] [] f fd) (T : TxtW K mg C) (GN : FnOk P w K mg base CX0 k fn fdn ["size", "ties"] (spNeed K)) (gN : mg "_need_arguments" = some (.ref fn)) (kN : PySem.W.keepIn K (.ref fn) = true) (bN : Binds K fdn ["size", "ties"] [])
    (GB : FnOk P w K mg base (L2N.CX P w) k fb fdb ["ties"] (spBundlesR K c)) (gB : mg "_bundles" = some (.ref fb)) (kB : PySem.W.keepIn K (.ref fb) = true) (bB : Binds K fdb ["ties"] [])
    (GD : FnOk P w K mg base CX0 k fg fdg ["size", "numbers"] spDegrees) (gD : mg "_degrees" = some (.ref fg)) (kD : PySem.W.keepIn K (.ref fg) = true) (bD : Binds K fdg ["size", "numbers"] []) :
    FnOk P w K mg base (L2N.CX P w) (k + 1) f fd ["self", "size", "ties"] (spInitR K C c) := by
  refine okDN F scIn (fun vs H Q E h => ?_) (fun cdv A outer s H vs Q E hr h => ?_)
  · obtain ⟨w, n, a, dx, xs, ps, rfl, _⟩ := h
    rfl
  · obtain ⟨w, n, a, dx, xs, ps, rfl, hw, hn, hS, hT, h64, hv, hq⟩ := h
    have hu := hu_of hr
    refine ⟨_, pss_cons (ps_expr (pe_call GN hr rfl gN kN bN .nil pass0 (pa_cons (pv 1) (pa_cons (pv 2) pa_nil))))
      (pss_cons (ps_fld (pv 0) (pv 1) rfl)
      (pss_cons (ps_fld (pv 0) (pe_call GB hr rfl gB kB bB .nil (L2N.passes_call (L2N.takes_of rfl rfl rfl rfl) (fun _ _ _ _ h => h)) (pa_cons (pv 2) pa_nil)) rfl)
      (pss_cons (ps_fld (pv 0) (pe_callB (r := rSum K) (cr_sum rfl) (by rfl) T.msum (by decide +kernel) (pa_cons
        (pe_lc (own := [("tie", 3)]) (g := gName 3) (tt := tYes) rfl scIn.nd (pi_tup (pe_fld (pv 0) rfl)) (blkOk_by (N := ["self", "size", "ties", "tie", "u", "v", "number", "pair"]) (sc := defScope sInit) (by decide +kernel))
          (fun _ _ _ _ _ => pg_name (i := 3) scIn.nd rfl (Or.inl rfl)) (fun _ _ _ _ _ => pts_nil) (fun _ _ _ _ _ => pe_ix (r := rIxT K) ix_tup (pv 3) pe_int (fun _ _ => rfl))) pa_nil)) rfl)
      (pss_cons (ps_fld (pv 0) (pe_dc2 (own := [("u", 4), ("v", 5), ("number", 6), ("pair", 7)]) (vs1 := [7]) (g := gTup K 3 (gCons (gName 4) (gCons (gName 5) (gCons (gName 6) gNil)))) (g1 := gName 7) (wi1 := iTup K (tTup (tCons (tTup (tCons (tVar 4) (tCons (tVar 5) tNil))) (tCons (tTup (tCons (tVar 5) (tCons (tVar 4) tNil))) tNil))))
          rfl (Nat.lt_of_succ_lt hu) scIn.nd (pi_tup (pe_fld (pv 0) rfl)) (blkOk_by (N := ["self", "size", "ties", "tie", "u", "v", "number", "pair"]) (sc := defScope sInit) (by decide +kernel)) (by decide)
          (fun _ _ _ _ _ => pg_tup rfl (pgs_cons (pg_name (i := 4) scIn.nd rfl (Or.inl rfl)) (pgs_cons (pg_name (i := 5) scIn.nd rfl (Or.inl rfl)) (pgs_cons (pg_name (i := 6) scIn.nd rfl (Or.inl rfl)) pgs_nil))))
          (fun _ _ _ _ _ => pi_tup (pe_tup (pa_cons (pe_tup (pa_cons (pv 4) (pa_cons (pv 5) pa_nil))) (pa_cons (pe_tup (pa_cons (pv 5) (pa_cons (pv 4) pa_nil))) pa_nil))))
          (fun _ _ _ _ _ => pg_name (i := 7) scIn.nd rfl (Or.inl rfl)) (fun _ _ _ _ _ => pv 7) (fun _ _ _ _ _ => pv 6)) rfl)
      (pss_one (ps_fld (pv 0) (pe_call GD hr rfl gD kD bD .nil pass0 (pa_cons (pv 1) (pa_cons (pe_fld (pv 0) rfl) pa_nil))) rfl)))))), ?_⟩
    refine ⟨_, rfl, _, rfl, (n : Int), a, xs, ps, rfl, by omega, by omega, hS, hT, hv, fun H1 s1 => ?_⟩
    have hw1 := s1 _ _ hw
    refine ⟨_, rfl, .ref w, rfl, w, C, dx, [], rfl, hw1, T.cl, T.n1, (by show 0 < 1000; decide), ?_⟩
    rw [pf1]
    have b2 : But w H1 (upd H1 w (.ins C dx (F1 (.int (n : Int))))) := But.upd _ _ _
    have hS2 : SqS K (upd H1 w (.ins C dx (F1 (.int (n : Int))))) a xs := (hS.ext s1).elim (fun h => .inl (SqL.butW hw1 h b2)) fun h => .inr (SqT.butW hw1 h b2)
    rcases hq with ⟨ham, q⟩ | ⟨hbig, q⟩
    rotate_left
    · exact ⟨_, rfl, (n : Int), a, xs, ps, rfl, by omega, hS2, Trs.butW hw1 b2 (hT.same s1), h64, hv, .inr ⟨hbig, fun H3 d s3 nd => q _ d ((But.of s1).trans (b2.trans (But.of s3))) nd⟩⟩
    refine ⟨_, rfl, (n : Int), a, xs, ps, rfl, by omega, hS2, Trs.butW hw1 b2 (hT.same s1), h64, hv, .inl ⟨ham, fun H3 t ys TT s3 nt ht hTr hTi hy64 => ?_⟩⟩
    have hw3 := s3 _ _ upd_same
    have hwt : w ≠ t := ne_of_none upd_same nt
    refine ⟨.ref w, rfl, w, C, dx, _, rfl, hw3, T.cl, T.n2, (by show 1 < 1000; decide), ?_⟩
    rw [pf2]
    have b4 : But w H3 (upd H3 w (.ins C dx (F2 (.int (n : Int)) (.ref t)))) := But.upd _ _ _
    have hTr4 := Trs.butW hw3 b4 hTr
    have ht4 : (upd H3 w (.ins C dx (F2 (.int (n : Int)) (.ref t)))) t = some (.tup ys) := b4 _ _ (Ne.symm hwt) ht
    have b04 : But w H (upd H3 w (.ins C dx (F2 (.int (n : Int)) (.ref t)))) := (But.of s1).trans (b2.trans ((But.of s3).trans b4))
    have hw4 : (upd H3 w (.ins C dx (F2 (.int (n : Int)) (.ref t)))) w = some (.ins C dx (F2 (.int (n : Int)) (.ref t))) := upd_same
    generalize upd H3 w (.ins C dx (F2 (.int (n : Int)) (.ref t))) = H4 at hTr4 ht4 b04 hw4 ⊢
    -- the total
    have hyl : ys.length = TT.length := hTr4.length
    have hTl : ys.length < sizeLine := by rw [sizeLine_eq]; omega
    refine ⟨.ref w, rfl, w, C, dx, _, _, rfl, hw4, T.cl, T.n2, lk2 _ _, t, rfl, ⟨ys, .inl (.inl ht4)⟩, fun D nD => ?_⟩
    have hDt : t ≠ D := ne_of_none ht4 nD
    refine lc_tup (K := K) (a := t) (xs := ys) (fun i H5 => Ext H4 H5 ∧ H5 D = some (.lst (((TT.take i).map fun p => p.2.2).map V.int))) ⟨fun b o z => by rw [upd_ne (ne_of_none z nD)]; exact z, upd_same⟩ (fun i H5 _ h => .inl (.inl (h.1 _ _ ht4))) ?_ ?_
    · rintro i x H5 hx ⟨m1, m2⟩
      obtain ⟨p, hp, t', rfl, hSt⟩ := (hTr4.same m1).get hx
      have hi := (List.getElem?_eq_some_iff.mp hx).1
      have i2 : atI [V.int p.1, V.int p.2.1, V.int p.2.2] 2 = some (.int p.2.2) := atI_nat (xs := [V.int p.1, V.int p.2.1, V.int p.2.2]) (j := 2) rfl
      refine ⟨rfl, _, rfl, t', _, 2, _, rfl, rfl, hSt, i2, _, m2, ?_, fun b o z => ?_, ?_⟩
      · rw [List.length_map, List.length_map, List.length_take]
        omega
      · rw [upd_ne (ne_of_none z nD)]
        exact m1 b o z
      · rw [upd_same, List.take_add_one, hp, List.map_append, List.map_append]
        rfl
    rintro H5 ⟨m1, m2⟩
    rw [hyl, List.take_length] at m2
    refine ⟨D, _, rfl, .inl (.inl m2), .ref w, rfl, w, C, dx, _, rfl, m1 _ _ hw4, T.cl, T.n3, (by show 2 < 1000; decide), ?_⟩
    rw [pf3]
    have b6 : But w H5 (upd H5 w (.ins C dx (F3 (.int (n : Int)) (.ref t) (.int (TT.map fun p => p.2.2).sum)))) := But.upd _ _ _
    have hw5 := m1 _ _ hw4
    have hTr6 := Trs.butW hw5 b6 (hTr4.same m1)
    have hwt' : t ≠ w := Ne.symm hwt
    have ht6 := b6 _ _ hwt' (m1 _ _ ht4)
    have b06 := b04.trans ((But.of m1).trans b6)
    have hw6 : (upd H5 w (.ins C dx (F3 (.int (n : Int)) (.ref t) (.int (TT.map fun p => p.2.2).sum)))) w = some (.ins C dx (F3 (.int (n : Int)) (.ref t) (.int (TT.map fun p => p.2.2).sum))) := upd_same
    generalize upd H5 w (.ins C dx (F3 (.int (n : Int)) (.ref t) (.int (TT.map fun p => p.2.2).sum))) = H6 at hTr6 ht6 b06 hw6 ⊢
    -- the numbers by their pairs
    refine ⟨.ref w, rfl, w, C, dx, _, _, rfl, hw6, T.cl, T.n2, lk3 _ _ _, t, rfl, ⟨ys, .inl (.inl ht6)⟩, fun D2 nD2 => ?_⟩
    refine dc2_tup (K := K) (a := t) (xs := ys) (fun i H => Ext H6 H ∧ H D2 = some (.dT (both (TT.take i)))) ⟨fun b o z => by rw [upd_ne (ne_of_none z nD2)]; exact z, upd_same⟩ (fun i H _ h => .inl (.inl (h.1 _ _ ht6))) ?_ ?_
    · rintro i x H7 hx ⟨r1, r2⟩
      obtain ⟨p, hp, t', rfl, hSt⟩ := (hTr6.same r1).get hx
      have hi : i < TT.length := (List.getElem?_eq_some_iff.mp hp).1
      have hpe : TT[i] = p := (List.getElem?_eq_some_iff.mp hp).2
      have hpm := hTi.mem p (List.mem_of_getElem? hp)
      have hlt : ∀ q ∈ TT.take i, lt2 q p := fun q hq => by
        obtain ⟨j, hj, rfl⟩ := List.mem_iff_getElem.mp hq
        rw [List.length_take] at hj
        have := List.pairwise_iff_getElem.mp hTi.asc j i (by omega) hi (by omega)
        rw [List.getElem_take]
        rwa [hpe] at this
      have hq : ∀ q ∈ TT.take i, q.1 < q.2.1 := fun q hq => (hTi.mem q (List.mem_of_mem_take hq)).2.1
      have htk : TT.take (i + 1) = TT.take i ++ [p] := by rw [List.take_add_one, hp]; rfl
      have hbl : (both (TT.take i)).length < 8200 := by rw [both_length, List.length_take]; omega
      have hbig : 100000 < sizeLine := by rw [sizeLine_eq]; decide
      refine ⟨t', _, rfl, hSt, rfl, _, _, rfl, _, _, rfl, _, _, rfl, rfl, rfl, ?_⟩
      refine ⟨_, rfl, _, rfl, (by show 2 ≤ sizeLine; decide), fun A1 n1 => ?_⟩
      refine ⟨_, rfl, _, rfl, (by show 2 ≤ sizeLine; decide), fun A2 n2 => ⟨(by show 2 ≤ sizeLine; decide), fun A3 n3 => ?_⟩⟩
      have q1 := same_upd (o := .tup [.int p.1, .int p.2.1]) n1
      have q2 := same_upd (o := .tup [.int p.2.1, .int p.1]) n2
      have q3 := same_upd (o := .tup [.ref A1, .ref A2]) n3
      have a1 := q3 _ _ (q2 _ _ (upd_same (H := H7) (a := A1) (o := .tup [.int p.1, .int p.2.1])))
      have a2 := q3 _ _ (upd_same (H := upd H7 A1 (.tup [.int p.1, .int p.2.1])) (a := A2) (o := .tup [.int p.2.1, .int p.1]))
      have d3 := q3 _ _ (q2 _ _ (q1 _ _ r2))
      have e13 : Ext H7 (upd (upd (upd H7 A1 (.tup [.int p.1, .int p.2.1])) A2 (.tup [.int p.2.1, .int p.1])) A3 (.tup [.ref A1, .ref A2])) := Ext.trans q1 (Ext.trans q2 q3)
      have a3 : (upd (upd (upd H7 A1 (.tup [.int p.1, .int p.2.1])) A2 (.tup [.int p.2.1, .int p.1])) A3 (.tup [.ref A1, .ref A2])) A3 = some (.tup [.ref A1, .ref A2]) := upd_same
      generalize upd (upd (upd H7 A1 (.tup [.int p.1, .int p.2.1])) A2 (.tup [.int p.2.1, .int p.1])) A3 (.tup [.ref A1, .ref A2]) = H8 at a1 a2 a3 d3 e13 ⊢
      have hA1 : A1 ≠ D2 := fun e => by rw [e, d3] at a1; cases a1
      have hA2 : A2 ≠ D2 := fun e => by rw [e, d3] at a2; cases a2
      have hA3 : A3 ≠ D2 := fun e => by rw [e, d3] at a3; cases a3
      refine ⟨A3, rfl, ⟨_, .inl (.inl a3)⟩, ?_⟩
      refine dc2_in (K := K) (a := A3) (xs := [.ref A1, .ref A2]) (fun j H => But D2 H8 H ∧ H D2 = some (.dT (both (TT.take i) ++ (both [p]).take j))) ⟨But.refl _ _, by rw [List.take_zero, List.append_nil]; exact d3⟩ (fun j H _ h => .inl (.inl (h.1 _ _ hA3 a3))) ?_ ?_
      · rintro j x H9 hx ⟨u1, u2⟩
        match j, hx, u2 with
        | 0, hx, u2 =>
          cases hx
          rw [List.take_zero, List.append_nil] at u2
          refine ⟨rfl, _, rfl, _, rfl, _, [.inl p.1, .inl p.2.1], A1, rfl, u1 _ _ hA1 a1, u2, by omega, u1.trans (But.upd _ _ _), ?_⟩
          rw [upd_same, putK_new (both_any fun q hm => by have := hlt q hm; have := hq q hm; unfold lt2 at *; omega)]
          rfl
        | 1, hx, u2 =>
          cases hx
          refine ⟨rfl, _, rfl, _, rfl, _, [.inl p.2.1, .inl p.1], A2, rfl, u1 _ _ hA2 a2, u2, ?_, u1.trans (But.upd _ _ _), ?_⟩
          · rw [List.length_append]
            have : ((both [p]).take 1).length ≤ 1 := List.length_take_le _ _
            omega
          · have e1 : ¬ (([.inl p.1, .inl p.2.1] : List Key) = [.inl p.2.1, .inl p.1]) := fun e => by
              injection e with e1 _
              injection e1 with e1
              omega
            rw [upd_same, putK_new (by
              rw [List.any_append, both_any fun q hm => by have := hlt q hm; have := hq q hm; unfold lt2 at *; omega]
              show (false || (decide (([.inl p.1, .inl p.2.1] : List Key) = [.inl p.2.1, .inl p.1]) || false)) = false
              rw [decide_eq_false e1]
              rfl), List.append_assoc]
            rfl
        | j + 2, hx, _ => cases hx
      · rintro H9 ⟨u1, u2⟩
        refine ⟨fun b o z => u1 b o (fun e => by rw [e, nD2] at z; cases z) (e13 _ _ (r1 b o z)), ?_⟩
        rw [htk, both_append]
        exact u2
    rintro H7 ⟨r1, r2⟩
    rw [hyl, List.take_length] at r2
    refine ⟨.ref w, rfl, w, C, dx, _, rfl, r1 _ _ hw6, T.cl, T.n4, (by show 3 < 1000; decide), ?_⟩
    rw [pf4]
    have b8 : But w H7 (upd H7 w (.ins C dx (F4 (.int (n : Int)) (.ref t) (.int (TT.map fun p => p.2.2).sum) (.ref D2)))) := But.upd _ _ _
    have hw7 := r1 _ _ hw6
    have hwD2 : D2 ≠ w := fun e => by rw [e, hw7] at r2; cases r2
    have hTr8 := Trs.butW hw7 b8 (hTr6.same r1)
    have ht8 := b8 _ _ hwt' (r1 _ _ ht6)
    have hd8 := b8 _ _ hwD2 r2
    have b08 := b06.trans ((But.of r1).trans b8)
    have hw8 : (upd H7 w (.ins C dx (F4 (.int (n : Int)) (.ref t) (.int (TT.map fun p => p.2.2).sum) (.ref D2)))) w = some (.ins C dx (F4 (.int (n : Int)) (.ref t) (.int (TT.map fun p => p.2.2).sum) (.ref D2))) := upd_same
    generalize upd H7 w (.ins C dx (F4 (.int (n : Int)) (.ref t) (.int (TT.map fun p => p.2.2).sum) (.ref D2))) = H8 at hTr8 ht8 hd8 b08 hw8 ⊢
    -- the degrees
    refine ⟨_, rfl, .ref w, rfl, w, C, dx, _, _, rfl, hw8, T.cl, T.n4, lk4 _ _ _ _, n, D2, TT, rfl, hn, hd8, fun H9 g s9 ng hg => ?_⟩
    have hw9 := s9 _ _ hw8
    have hwg : g ≠ w := fun e => by rw [e, hw9] at hg; cases hg
    refine ⟨.ref w, rfl, w, C, dx, _, rfl, hw9, T.cl, T.n5, (by show 4 < 1000; decide), ?_⟩
    rw [pf5]
    have b10 : But w H9 (upd H9 w (.ins C dx (F5 (.int (n : Int)) (.ref t) (.int (TT.map fun p => p.2.2).sum) (.ref D2) (.ref g)))) := But.upd _ _ _
    exact q _ TT (b08.trans ((But.of s9).trans b10)) hTi ⟨dx, t, ys, D2, g, upd_same, b10 _ _ hwt' (s9 _ _ ht8), Trs.butW hw9 b10 (hTr8.same s9), b10 _ _ hwD2 (s9 _ _ hd8), b10 _ _ hwg hg⟩
end
end T27
/-! +, -, * of webs. -/
namespace T27
open PySem PySem.Spec PyProof.Rows L2 Wk
abbrev sAdd : Stmt := inClass (top 15) 5
abbrev sSub : Stmt := inClass (top 15) 6
abbrev sMul : Stmt := inClass (top 15) 7
abbrev sRMul : Stmt := inClass (top 15) 8
abbrev sTimes : Stmt := top 23
/-- a web with its amounts -/
structure WA (K : PySem.W.Frag) (C : Addr) (H : Hp) (w : Addr) (n : Nat) (am : Int → Int → Int) (T : List T3) : Prop where
  web : WebAt K C H w n T
  ties : TiesOf (n : Int) am T
  n60 : n ≤ 60
  len : T.length ≤ 1900
  bd : ∀ a b, am a b ≤ 1000000000
theorem WA.same {K : PySem.W.Frag} {C : Addr} {H H' : Hp} {w : Addr} {n : Nat} {am : Int → Int → Int} {T : List T3} (h : WA K C H w n am T) (s : Same H H') : WA K C H' w n am T := ⟨h.web.same s, h.ties, h.n60, h.len, h.bd⟩
theorem norm_id {p : T3} (h : p.1 < p.2.1) : norm p = p := by
  unfold norm
  rw [if_neg (by omega), if_pos (by omega)]
theorem ties_norm {T : List T3} (h : ∀ p ∈ T, p.1 < p.2.1) : T.map norm = T := by
  have := List.map_congr_left (f := norm) (g := id) (l := T) fun p hp => norm_id (h p hp)
  rw [this, List.map_id]
theorem ties_ok {T : List T3} {n : Int} {am : Int → Int → Int} (h : TiesOf n am T) (hb : ∀ a b, am a b ≤ 1000000000) : ∀ p ∈ T, tieB p.1 p.2.1 p.2.2 n = true := fun p hp => by
  have a1 := h.mem p hp
  have a2 := amt_mem h.asc hp
  rw [h.am] at a2
  have a3 := hb p.1 p.2.1
  exact tieB_iff.mpr ⟨by omega, by omega, by omega, by omega, by omega, by omega, by omega⟩
theorem ties_pos {T : List T3} {n : Int} {am : Int → Int → Int} (h : TiesOf n am T) (u v : Int) : 0 ≤ am u v := by
  rw [← h.am]
  exact amt_nonneg fun p hp => Int.le_of_lt (h.mem p hp).2.2.2
theorem ties_num {T : List T3} {n : Int} {am : Int → Int → Int} (h : TiesOf n am T) {p : T3} (hp : p ∈ T) : am p.1 p.2.1 = p.2.2 := by rw [← h.am]; exact amt_mem h.asc hp
/-- webs can be made, or a sum is too great -/
structure MakR (P : Program) (w : World) (K : PySem.W.Frag) (mg : Str → Option Value) (base : Heap) (C c : Addr) (k : Nat) (fi : Addr) (di : FuncData) : Prop where
  M : Mk K C fi
  F : FnOk P w K mg base (L2N.CX P w) k fi di ["self", "size", "ties"] (spInitR K C c)
  b0 : Binds K di ["self", "size", "ties"] []
theorem init_ofR {K : PySem.W.Frag} {C c x dx a : Addr} {H : Hp} {n : Nat} {xs : List V} {ps : List T3} {E : XK} {R : Hp → Prop} (hx : H x = none) (hdx : H dx = none) (hne : dx ≠ x) (hn : n ≤ 60) (hS : SqS K H a xs) (hT : Trs K H xs ps) (h64 : ps.length < 4000)
    (hv : ∀ p ∈ ps, tieB p.1 p.2.1 p.2.2 (n : Int) = true)
    (q : ((∀ u v, amt (ps.map norm) u v ≤ 1000000000) ∧ ∀ H' T, Same H H' → TiesOf (n : Int) (amt (ps.map norm)) T → WebAt K C H' x n T → R H') ∨
      ((∃ u v, 1000000000 < amt (ps.map norm) u v) ∧ ∀ H' d, Same H H' → H' d = none → E (.ref c) (some d) (upd H' d (.xd [("limit", .int 1000000000)])))) :
    spInitR K C c [.ref x, .int (n : Int), .ref a] (upd (upd H dx (.own x)) x (.ins C dx [])) (fun v H2 => v = .non ∧ R H2) E := by
  have s1 : Same H (upd (upd H dx (.own x)) x (.ins C dx [])) := (same_upd hdx).trans (same_upd (by rw [upd_ne (Ne.symm hne)]; exact hx))
  refine ⟨x, n, a, dx, xs, ps, rfl, upd_same, hn, hS.ext s1, hT.same s1, h64, hv, ?_⟩
  rcases q with ⟨ham, q⟩ | ⟨hb, q⟩
  · exact .inl ⟨ham, fun H' T b t w => ⟨rfl, q H' T (fun z o hz => b z o (ne_of_none hz hx) (s1 _ _ hz)) t w⟩⟩
  · exact .inr ⟨hb, fun H' d b nd => q H' d (fun z o hz => b z o (ne_of_none hz hx) (s1 _ _ hz)) nd⟩
def tooMany (c : Addr) (E : XK) (H : Hp) : Prop := ∀ H' d, Same H H' → H' d = none → E (.ref c) (some d) (upd H' d (.xd [("limit", .int 1000000000)]))
def unequal (c : Addr) (E : XK) (H : Hp) (n n2 : Nat) : Prop := ∀ d, H d = none → E (.ref c) (some d) (upd H d (.xd [("other", .int (n2 : Int)), ("one", .int (n : Int))]))
def webOut (K : PySem.W.Frag) (C : Addr) (n : Nat) (am : Int → Int → Int) (Q : VK) (H : Hp) : Prop := ∀ H' x T, Same H H' → TiesOf (n : Int) am T → WebAt K C H' x n T → Q (.ref x) H'
def spAdd (K : PySem.W.Frag) (C cU cT : Addr) : Sp := fun vs H Q E => ∃ w n am T w2 n2 am2 T2, vs = [.ref w, .ref w2] ∧ WA K C H w n am T ∧ WA K C H w2 n2 am2 T2 ∧
  ((n ≠ n2 ∧ unequal cU E H n n2) ∨ (n = n2 ∧ ((∀ u v, am u v + am2 u v ≤ 1000000000) ∧ webOut K C n (fun u v => am u v + am2 u v) Q H ∨ (∃ u v, 1000000000 < am u v + am2 u v) ∧ tooMany cT E H)))
theorem scAd : FnScope ["self", "other"] ["self", "other"] (defScope sAdd) := ⟨rfl, rfl, rfl, by decide +kernel, rfl, by decide +kernel, by decide +kernel⟩
theorem scSb : FnScope ["self", "other", "u", "v", "number"] ["self", "other"] (defScope sSub) := ⟨rfl, rfl, rfl, by decide +kernel, rfl, by decide +kernel, by decide +kernel⟩
theorem scMu : FnScope ["self", "other"] ["self", "other"] (defScope sMul) := ⟨rfl, rfl, rfl, by decide +kernel, rfl, by decide +kernel, by decide +kernel⟩
theorem scRM : FnScope ["self", "other"] ["self", "other"] (defScope sRMul) := ⟨rfl, rfl, rfl, by decide +kernel, rfl, by decide +kernel, by decide +kernel⟩
theorem scTm : FnScope ["web", "k", "ties", "u", "v", "number"] ["web", "k"] (defScope sTimes) := ⟨rfl, rfl, rfl, by decide +kernel, rfl, by decide +kernel, by decide +kernel⟩
section
variable {P : Program} {w : World} {K : PySem.W.Frag} {mg : Str → Option Value} {base : Heap}
theorem ok_add {C cU cT fi fE f : Addr} {fd fdE di : FuncData} {k : Nat} (F : Fun K "__add__" "Web.__add__" sAdd f fd) (T : TxtW K mg C) (G : KindW K mg C) (MR : MakR P w K mg base C cT k fi di)
    (GE : FnOk P w K mg base (L2N.CX P w) (k + 1) fE fdE ["one", "other"] (spEqS K C cU)) (gE : mg "_need_equal_sizes" = some (.ref fE)) (kE : PySem.W.keepIn K (.ref fE) = true) (bE : Binds K fdE ["one", "other"] []) :
    FnOk P w K mg base (L2N.CX P w) (k + 2) f fd ["self", "other"] (spAdd K C cU cT) := by
  refine okN F scAd (fun vs H Q E h => ?_) (fun cdv A outer s H vs Q E hr h => ?_)
  · obtain ⟨w, n, am, T, w2, n2, am2, T2, rfl, _⟩ := h
    rfl
  · obtain ⟨w, n, am, TT, w2, n2, am2, T2, rfl, W, W2, q⟩ := h
    obtain ⟨dx, t, ys, d, g, h1, h2, h3, h4, h5⟩ := W.web.ex
    obtain ⟨dx2, t2, ys2, d2, g2, k1, k2, k3, k4, k5⟩ := W2.web.ex
    refine ⟨_, pss_cons (ps_if (pt_not (pt_val (pe_callB call_isi (by rfl) G.mi (by decide +kernel) (pa_cons (pv 1) (pa_cons (pe_glob (v := .ref C) rfl G.gW rfl) pa_nil))))) (pss_one ps_never) pss_nil)
      (pss_cons (ps_expr (pe_call GE hr rfl gE kE bE .nil (L2N.passes_call (L2N.takes_of rfl rfl rfl rfl) (fun _ _ _ _ h => h)) (pa_cons (pv 0) (pa_cons (pv 1) pa_nil))))
      (pss_one (ps_ret (pe_make MR.M MR.F hr rfl G.gW MR.b0 .nil (L2N.passes_call (L2N.takes_of rfl rfl rfl rfl) (fun _ _ _ _ h => h)) (pa_cons (pe_fld (pv 0) rfl) (pa_cons (pe_op op_catA (pe_fld (pv 0) rfl) (pe_fld (pv 1) rfl)) pa_nil)))))), ?_⟩
    refine ⟨_, rfl, _, _, _, _, _, rfl, .own C, G.ty _ _ _ _ k1, G.own, true, rfl, ?_⟩
    refine ⟨_, rfl, _, rfl, w, n, TT, w2, n2, T2, rfl, W.web, W2.web, ?_⟩
    rcases q with ⟨hne, q⟩ | ⟨rfl, q⟩
    · exact .inr ⟨hne, q⟩
    · refine .inl ⟨rfl, ?_⟩
      have hyl : ys.length = TT.length := h3.length
      have hyl2 : ys2.length = T2.length := k3.length
      have hl1 := W.len
      have hl2 := W2.len
      have hps : (TT ++ T2).map norm = TT ++ T2 := ties_norm fun p hp => (List.mem_append.mp hp).elim (fun hp => (W.ties.mem p hp).2.1) fun hp => (W2.ties.mem p hp).2.1
      have hA : amt ((TT ++ T2).map norm) = fun u v => am u v + am2 u v := by
        funext u v
        rw [hps, amt_append, W.ties.am, W2.ties.am]
      have hv : ∀ p ∈ TT ++ T2, tieB p.1 p.2.1 p.2.2 (n : Int) = true := fun p hp => (List.mem_append.mp hp).elim (ties_ok W.ties W.bd p) (ties_ok W2.ties W2.bd p)
      have fin : ∀ (a : Addr) (xs : List V) (H2 : Hp), Same H H2 → SqS K H2 a xs → Trs K H2 xs (TT ++ T2) → ∀ x dx', H2 x = none → H2 dx' = none → dx' ≠ x → spInitR K C cT [.ref x, .int (n : Int), .ref a] (upd (upd H2 dx' (.own x)) x (.ins C dx' [])) (fun v H3 => v = .non ∧ Q (.ref x) H3) E := by
        intro a xs H2 s2 hS hT x dx' hx hdx hne
        refine init_ofR hx hdx hne W.n60 hS hT (by rw [List.length_append]; omega) hv ?_
        rw [hA]
        rcases q with ⟨hb, q⟩ | ⟨hb, q⟩
        · exact .inl ⟨hb, fun H' T' s t w' => q H' x T' (s2.trans s) t w'⟩
        · exact .inr ⟨hb, fun H' d s nd => q H' d (s2.trans s) nd⟩
      refine ⟨.ref w, rfl, w, C, dx, _, _, rfl, h1, T.cl, T.n1, lk5s _ _ _ _ _, .ref w, rfl, w, C, dx, _, _, rfl, h1, T.cl, T.n2, lk5t _ _ _ _ _, .ref w2, rfl, w2, C, dx2, _, _, rfl, k1, T.cl, T.n2, lk5t _ _ _ _ _, t, t2, ys, ys2, rfl, rfl, .inl (.inl h2), .inl (.inl k2), by rw [sizeLine_eq]; omega, fun he => ?_, fun hne he => ?_, fun hne hne2 p np => ?_⟩
      · subst he
        have e0 : TT = [] := List.length_eq_zero_iff.mp (by rw [← hyl]; rfl)
        exact fin t2 ys2 H (Same.refl _) (.inr (.inl (.inl k2))) (by rw [e0]; exact k3)
      · subst he
        have e0 : T2 = [] := List.length_eq_zero_iff.mp (by rw [← hyl2]; rfl)
        exact fin t ys H (Same.refl _) (.inr (.inl (.inl h2))) (by rw [e0, List.append_nil]; exact h3)
      · have sp := same_upd (o := .tup (ys ++ ys2)) np
        exact fin p (ys ++ ys2) _ sp (.inr (.inl (.inl upd_same))) (Trs.append (h3.same sp) (k3.same sp))
end
end T27
/-! k times a web. -/
namespace T27
open PySem PySem.Spec PyProof.Rows L2 Wk
def scale (k : Int) (T : List T3) : List T3 := T.map fun p => (p.1, p.2.1, k * p.2.2)
theorem scale_amt (k : Int) : ∀ (T : List T3) (u v : Int), amt (scale k T) u v = k * amt T u v
  | [], u, v => by unfold scale; rw [List.map_nil, amt_nil, Int.mul_zero]
  | p :: T, u, v => by
    have ih := scale_amt k T u v
    unfold scale at *
    rw [List.map_cons, amt_cons, amt_cons, ih, Int.mul_add]
    dsimp only
    split
    · rfl
    · rw [Int.mul_zero]
def spTimes (K : PySem.W.Frag) (C cT : Addr) : Sp := fun vs H Q E => ∃ w n am T k, vs = [.ref w, .int k] ∧ WA K C H w n am T ∧ 0 ≤ k ∧ k ≤ 1000000000 ∧
  ((∀ u v, k * am u v ≤ 1000000000) ∧ webOut K C n (fun u v => k * am u v) Q H ∨ (∃ u v, 1000000000 < k * am u v) ∧ tooMany cT E H)
section
variable {P : Program} {w : World} {K : PySem.W.Frag} {mg : Str → Option Value} {base : Heap}
theorem ok_times {C cT fi fB f : Addr} {fd fdB di : FuncData} {k : Nat} (F : Fun K "_times" "_times" sTimes f fd) (T : TxtW K mg C) (G : KindW K mg C) (MR : MakR P w K mg base C cT k fi di)
    (GB : FnOk P w K mg base (L2N.CX P w) (k + 1) fB fdB ["bundles"] (spBoundsR K cT)) (gB : mg "_need_bounds" = some (.ref fB)) (kB : PySem.W.keepIn K (.ref fB) = true) (bB : Binds K fdB ["bundles"] []) :
    FnOk P w K mg base (L2N.CX P w) (k + 2) f fd ["web", "k"] (spTimes K C cT) := by
  refine okN F scTm (fun vs H Q E h => ?_) (fun cdv A outer s H vs Q E hr h => ?_)
  · obtain ⟨w, n, am, T, c, rfl, _⟩ := h
    rfl
  · obtain ⟨w, n, am, TT, c, rfl, W, hc0, hc1, q⟩ := h
    obtain ⟨dx, t, ys, d, g, h1, h2, h3, h4, h5⟩ := W.web.ex
    refine ⟨_, pss_cons (ps_setLc (i := 2) (own := [("u", 3), ("v", 4), ("number", 5)]) (g := gTup K 3 (gCons (gName 3) (gCons (gName 4) (gCons (gName 5) gNil)))) (tt := tYes) rfl scTm.nd rfl rfl (by rfl) (pi_tup (pe_fld (pv 0) rfl)) (blkOk_by (N := ["web", "k", "ties", "u", "v", "number"]) (sc := defScope sTimes) (by decide +kernel))
        (fun _ _ _ _ _ => pg_tup rfl (pgs_cons (pg_name (i := 3) scTm.nd rfl (Or.inl rfl)) (pgs_cons (pg_name (i := 4) scTm.nd rfl (Or.inl rfl)) (pgs_cons (pg_name (i := 5) scTm.nd rfl (Or.inl rfl)) pgs_nil))))
        (fun _ _ _ _ _ => pts_nil) (fun _ _ _ _ _ => pe_tup (pa_cons (pv 3) (pa_cons (pv 4) (pa_cons (pe_op op_mul (pv 1) (pv 5)) pa_nil)))))
      (pss_cons (ps_expr (pe_call GB hr rfl gB kB bB .nil (L2N.passes_call (L2N.takes_of rfl rfl rfl rfl) (fun _ _ _ _ h => h)) (pa_cons (pv 2) pa_nil)))
      (pss_one (ps_ret (pe_make MR.M MR.F hr rfl G.gW MR.b0 .nil (L2N.passes_call (L2N.takes_of rfl rfl rfl rfl) (fun _ _ _ _ h => h)) (pa_cons (pe_fld (pv 0) rfl) (pa_cons (pv 2) pa_nil)))))), ?_⟩
    have hyl : ys.length = TT.length := h3.length
    have hl := W.len
    have hsl : (scale c TT).length = TT.length := by unfold scale; rw [List.length_map]
    refine ⟨.ref w, rfl, w, C, dx, _, _, rfl, h1, T.cl, T.n2, lk5t _ _ _ _ _, t, rfl, ⟨ys, .inl (.inl h2)⟩, fun D nD => ?_⟩
    refine lc_tup (K := K) (a := t) (xs := ys) (fun i H5 => Ext H H5 ∧ ∃ zs, H5 D = some (.lst zs) ∧ Trs K H5 zs (scale c (TT.take i)) ∧ zs.length ≤ i) ⟨fun b o z => by rw [upd_ne (ne_of_none z nD)]; exact z, [], upd_same, True.intro, Nat.le_refl _⟩ (fun i H5 _ h => .inl (.inl (h.1 _ _ h2))) ?_ ?_
    · rintro i x H5 hx ⟨m1, zs, m2, m3, m4⟩
      obtain ⟨p, hp, t', rfl, hSt⟩ := (h3.same m1).get hx
      have hi := (List.getElem?_eq_some_iff.mp hx).1
      have hm := W.ties.mem p (List.mem_of_getElem? hp)
      have hnum := ties_num W.ties (List.mem_of_getElem? hp)
      have hbd := W.bd p.1 p.2.1
      refine ⟨t', _, rfl, hSt, rfl, _, _, rfl, _, _, rfl, _, _, rfl, rfl, rfl, _, rfl, _, rfl, _, rfl, _, rfl, c, p.2.2, rfl, rfl, .inl ⟨by omega, by omega⟩, (by show 3 ≤ sizeLine; decide), fun R nR => ?_⟩
      have sR := same_upd (o := .tup [.int p.1, .int p.2.1, .int (c * p.2.2)]) nR
      have m2' := sR _ _ m2
      have hRD : R ≠ D := Ne.symm (ne_of_none m2 nR)
      refine ⟨zs, m2', by rw [sizeLine_eq]; omega, fun b o z => ?_, zs ++ [.ref R], upd_same, ?_, by rw [List.length_append, List.length_singleton]; omega⟩
      · rw [upd_ne (ne_of_none z nD)]
        exact sR _ _ (m1 b o z)
      · have htk : scale c (TT.take (i + 1)) = scale c (TT.take i) ++ [(p.1, p.2.1, c * p.2.2)] := by
          unfold scale
          rw [List.take_add_one, hp, List.map_append]
          rfl
        rw [htk]
        exact Trs.append (Trs.but m2' (But.upd _ _ _) (m3.same sR)) ⟨⟨R, rfl, .inl (.inl (by rw [upd_ne hRD]; exact upd_same))⟩, True.intro⟩
    rintro H5 ⟨m1, zs, m2, m3, m4⟩
    rw [hyl, List.take_length] at m3
    have hz : zs.length = TT.length := by rw [m3.length, hsl]
    have hA : amt ((scale c TT).map norm) = fun u v => c * am u v := by
      funext u v
      rw [ties_norm (fun p hp => by obtain ⟨p0, h0, rfl⟩ := List.mem_map.mp hp; exact (W.ties.mem p0 h0).2.1), scale_amt, W.ties.am]
    refine ⟨_, rfl, D, zs, scale c TT, rfl, m2, by rw [sizeLine_eq]; omega, m3, ?_⟩
    rcases q with ⟨hb, q⟩ | ⟨⟨u, v, hb⟩, q⟩
    · refine .inl ⟨fun p hp => ?_, fun H6 s6 => ?_⟩
      · obtain ⟨p0, h0, rfl⟩ := List.mem_map.mp hp
        have := hb p0.1 p0.2.1
        rw [ties_num W.ties h0] at this
        exact this
      · have sH : Same H H6 := Ext.trans m1 s6
        refine ⟨.ref w, rfl, w, C, dx, _, _, rfl, sH _ _ h1, T.cl, T.n1, lk5s _ _ _ _ _, _, rfl, ?_⟩
        intro x dx' hx hdx hne
        refine init_ofR (ps := scale c TT) hx hdx hne W.n60 (.inl (.inl (.inl (s6 _ _ m2)))) (m3.same s6) (by rw [hsl]; omega) (fun p hp => ?_) (.inl ⟨fun u v => by rw [hA]; exact hb u v, fun H' T' s t w' => ?_⟩)
        · obtain ⟨p0, h0, rfl⟩ := List.mem_map.mp hp
          have a1 := W.ties.mem p0 h0
          have a2 := hb p0.1 p0.2.1
          rw [ties_num W.ties h0] at a2
          have a3 : 0 ≤ c * p0.2.2 := Int.mul_nonneg hc0 (by omega)
          exact tieB_iff.mpr ⟨by dsimp only; omega, by dsimp only; omega, by dsimp only; omega, by dsimp only; omega, by dsimp only; omega, a3, a2⟩
        · rw [hA] at t
          exact q H' x T' (sH.trans s) t w'
    · refine .inr ⟨?_, fun H' d s nd => q H' d (Ext.trans m1 s) nd⟩
      have hne : amt TT u v ≠ 0 := fun e => by rw [W.ties.am] at e; rw [e, Int.mul_zero] at hb; omega
      obtain ⟨p, hp, rfl, rfl⟩ := mem_amt hne
      refine ⟨_, List.mem_map.mpr ⟨p, hp, rfl⟩, ?_⟩
      rw [ties_num W.ties hp] at hb
      exact hb
end
end T27
/-! web * k, k * web; one web less another. -/
namespace T27
open PySem PySem.Spec PyProof.Rows L2 Wk
/-- web[u, v], as it stands for an index -/
structure GetW (P : Program) (w : World) (K : PySem.W.Frag) (mg : Str → Option Value) (base : Heap) (C : Addr) (k : Nat) (fg : Addr) (dg : FuncData) : Prop where
  G : FnOk P w K mg base CX0 k fg dg ["self", "at"] (spGet K C)
  bG : Binds K dg ["self", "at"] []
  sG : PySem.W.findIn K (.ref C) "__getitem__" = some (some (.ref fg))
  nG : PySem.W.fnIn K fg = true
  iG : PySem.W.isFn K (.ref fg) = true
/-- T, each number less by am2's -/
def less (am2 : Int → Int → Int) (T : List T3) : List T3 := T.map fun p => (p.1, p.2.1, p.2.2 - am2 p.1 p.2.1)
theorem less_amt (am2 : Int → Int → Int) : ∀ (T : List T3) (u v : Int), T.Pairwise lt2 → amt (less am2 T) u v = amt T u v - (if ∃ p ∈ T, p.1 = u ∧ p.2.1 = v then am2 u v else 0)
  | [], u, v, _ => by unfold less; rw [List.map_nil, amt_nil, if_neg (fun ⟨p, hp, _⟩ => by cases hp)]; rfl
  | p :: T, u, v, h => by
    obtain ⟨h1, h2⟩ := List.pairwise_cons.mp h
    have ih := less_amt am2 T u v h2
    unfold less at *
    rw [List.map_cons, amt_cons, amt_cons, ih]
    dsimp only
    by_cases k : p.1 = u ∧ p.2.1 = v
    · have hno : ¬ ∃ q ∈ T, q.1 = u ∧ q.2.1 = v := fun ⟨q, hq, e⟩ => by
        have := h1 q hq
        unfold lt2 at this
        omega
      rw [if_pos k, if_pos k, if_neg hno, if_pos ⟨p, List.mem_cons_self, k⟩, k.1, k.2]
      omega
    · rw [if_neg k, if_neg k]
      by_cases e : ∃ q ∈ T, q.1 = u ∧ q.2.1 = v
      · rw [if_pos e, if_pos (let ⟨q, hq, z⟩ := e; ⟨q, List.mem_cons_of_mem _ hq, z⟩)]
        omega
      · rw [if_neg e, if_neg (fun ⟨q, hq, z⟩ => (List.mem_cons.mp hq).elim (fun y => k (y ▸ z)) fun y => e ⟨q, y, z⟩)]
        omega
/-- the least pair of which there are too few -/
def tooFew (c : Addr) (E : XK) (H : Hp) (p : T3) : Prop := ∀ H' R d, Same H H' → H' R = some (.tup [.int p.1, .int p.2.1]) → H' d = none → E (.ref c) (some d) (upd H' d (.xd [("pair", .ref R)]))
def spSub (K : PySem.W.Frag) (C cU cF : Addr) : Sp := fun vs H Q E => ∃ w n am T w2 n2 am2 T2, vs = [.ref w, .ref w2] ∧ WA K C H w n am T ∧ WA K C H w2 n2 am2 T2 ∧
  ((n ≠ n2 ∧ unequal cU E H n n2) ∨ (n = n2 ∧ ((∀ u v, am2 u v ≤ am u v) → webOut K C n (fun u v => am u v - am2 u v) Q H) ∧ (∀ p ∈ T2, am p.1 p.2.1 < p.2.2 → (∀ q ∈ T2, lt2 q p → q.2.2 ≤ am q.1 q.2.1) → tooFew cF E H p)))
section
variable {P : Program} {w : World} {K : PySem.W.Frag} {mg : Str → Option Value} {base : Heap}
theorem ok_mul {C cT fT fW f : Addr} {fd fdT fdW : FuncData} {k : Nat} (F : Fun K "__mul__" "Web.__mul__" sMul f fd)
    (GT : FnOk P w K mg base (L2N.CX P w) (k + 1) fT fdT ["web", "k"] (spTimes K C cT)) (gT : mg "_times" = some (.ref fT)) (kT : PySem.W.keepIn K (.ref fT) = true) (bT : Binds K fdT ["web", "k"] [])
    (GW : FnOk P w K mg base CX0 (k + 1) fW fdW ["thing"] (spWhole K)) (gW : mg "is_whole" = some (.ref fW)) (kW : PySem.W.keepIn K (.ref fW) = true) (bW : Binds K fdW ["thing"] []) :
    FnOk P w K mg base (L2N.CX P w) (k + 2) f fd ["self", "other"] (spTimes K C cT) := by
  refine okN F scMu (fun vs H Q E h => ?_) (fun cdv A outer s H vs Q E hr h => ?_)
  · obtain ⟨w, n, am, T, c, rfl, _⟩ := h
    rfl
  · obtain ⟨w, n, am, TT, c, rfl, h⟩ := h
    refine ⟨_, pss_cons (ps_if (pt_not (pt_val (pe_call GW hr rfl gW kW bW .nil pass0 (pa_cons (pv 1) pa_nil)))) (pss_one ps_never) pss_nil)
      (pss_one (ps_ret (pe_call GT hr rfl gT kT bT .nil (L2N.passes_call (L2N.takes_of rfl rfl rfl rfl) (fun _ _ _ _ h => h)) (pa_cons (pv 0) (pa_cons (pv 1) pa_nil))))), ?_⟩
    exact ⟨_, rfl, _, _, rfl, any_int _, true, rfl, _, rfl, _, rfl, w, n, am, TT, c, rfl, h⟩
theorem ok_rmul {C cT fT fW f : Addr} {fd fdT fdW : FuncData} {k : Nat} (F : Fun K "__rmul__" "Web.__rmul__" sRMul f fd)
    (GT : FnOk P w K mg base (L2N.CX P w) (k + 1) fT fdT ["web", "k"] (spTimes K C cT)) (gT : mg "_times" = some (.ref fT)) (kT : PySem.W.keepIn K (.ref fT) = true) (bT : Binds K fdT ["web", "k"] [])
    (GW : FnOk P w K mg base CX0 (k + 1) fW fdW ["thing"] (spWhole K)) (gW : mg "is_whole" = some (.ref fW)) (kW : PySem.W.keepIn K (.ref fW) = true) (bW : Binds K fdW ["thing"] []) :
    FnOk P w K mg base (L2N.CX P w) (k + 2) f fd ["self", "other"] (spTimes K C cT) := by
  refine okN F scRM (fun vs H Q E h => ?_) (fun cdv A outer s H vs Q E hr h => ?_)
  · obtain ⟨w, n, am, T, c, rfl, _⟩ := h
    rfl
  · obtain ⟨w, n, am, TT, c, rfl, h⟩ := h
    refine ⟨_, pss_cons (ps_if (pt_not (pt_val (pe_call GW hr rfl gW kW bW .nil pass0 (pa_cons (pv 1) pa_nil)))) (pss_one ps_never) pss_nil)
      (pss_one (ps_ret (pe_call GT hr rfl gT kT bT .nil (L2N.passes_call (L2N.takes_of rfl rfl rfl rfl) (fun _ _ _ _ h => h)) (pa_cons (pv 0) (pa_cons (pv 1) pa_nil))))), ?_⟩
    exact ⟨_, rfl, _, _, rfl, any_int _, true, rfl, _, rfl, _, rfl, w, n, am, TT, c, rfl, h⟩
theorem ok_sub {C cU cT cF fi fE fF fg f : Addr} {fd fdE di dF dg : FuncData} {k : Nat} (F : Fun K "__sub__" "Web.__sub__" sSub f fd) (T : TxtW K mg C) (G : KindW K mg C) (MR : MakR P w K mg base C cT (k + 1) fi di)
    (GE : FnOk P w K mg base (L2N.CX P w) (k + 2) fE fdE ["one", "other"] (spEqS K C cU)) (gE : mg "_need_equal_sizes" = some (.ref fE)) (kE : PySem.W.keepIn K (.ref fE) = true) (bE : Binds K fdE ["one", "other"] [])
    (R : ErrC K mg "TooFew" cF fF) (RI : ErrI P w K mg base fF dF ["self", "pair"] (spI1 cF "pair")) (GG : GetW P w K mg base C (k + 1) fg dg) :
    FnOk P w K mg base (L2N.CX P w) (k + 3) f fd ["self", "other"] (spSub K C cU cF) := by
  refine okN F scSb (fun vs H Q E h => ?_) (fun cdv A outer s H vs Q E hr h => ?_)
  · obtain ⟨w, n, am, T, w2, n2, am2, T2, rfl, _⟩ := h
    rfl
  · obtain ⟨w, n, am, TT, w2, n2, am2, T2, rfl, W, W2, q⟩ := h
    obtain ⟨dx, t, ys, d, g, h1, h2, h3, h4, h5⟩ := W.web.ex
    obtain ⟨dx2, t2, ys2, d2, g2, k1, k2, k3, k4, k5⟩ := W2.web.ex
    refine ⟨_, pss_cons (ps_if (pt_not (pt_val (pe_callB call_isi (by rfl) G.mi (by decide +kernel) (pa_cons (pv 1) (pa_cons (pe_glob (v := .ref C) rfl G.gW rfl) pa_nil))))) (pss_one ps_never) pss_nil)
      (pss_cons (ps_expr (pe_call GE hr rfl gE kE bE .nil (L2N.passes_call (L2N.takes_of rfl rfl rfl rfl) (fun _ _ _ _ h => h)) (pa_cons (pv 0) (pa_cons (pv 1) pa_nil))))
      (pss_cons (ps_for (passes_of rfl) rfl (pi_tup (pe_fld (pv 1) rfl)) (pg_tup rfl (pgs_cons (pg_name (i := 2) scSb.nd rfl (Or.inl rfl)) (pgs_cons (pg_name (i := 3) scSb.nd rfl (Or.inl rfl)) (pgs_cons (pg_name (i := 4) scSb.nd rfl (Or.inl rfl)) pgs_nil))))
        (pss_one (ps_if (pt_cmpR op_gt (pv 4) (pe_ixO GG.G hr GG.bG pass0 GG.sG GG.nG GG.iG (pv 0) (pe_tup (pa_cons (pv 2) (pa_cons (pv 3) pa_nil))) (fun _ _ => rfl)) (nomark _))
          (pss_one (L2N.ps_raise rfl (L2N.takes_of rfl rfl rfl rfl) (pmkN_oex R.ox R.xi R.ti RI.F (hr.mono (by omega)) RI.b pass0 rfl R.g (pa_cons (pe_tup (pa_cons (pv 2) (pa_cons (pv 3) pa_nil))) pa_nil)))) pss_nil)))
      (pss_one (ps_ret (pe_make MR.M MR.F hr rfl G.gW MR.b0 .nil (L2N.passes_call (L2N.takes_of rfl rfl rfl rfl) (fun _ _ _ _ h => h)) (pa_cons (pe_fld (pv 0) rfl) (pa_cons
        (pe_lc (own := [("u", 2), ("v", 3), ("number", 4)]) (g := gTup K 3 (gCons (gName 2) (gCons (gName 3) (gCons (gName 4) gNil)))) (tt := tYes) rfl scSb.nd (pi_tup (pe_fld (pv 0) rfl)) (blkOk_by (N := ["self", "other", "u", "v", "number"]) (sc := defScope sSub) (by decide +kernel))
          (fun _ _ _ _ _ => pg_tup rfl (pgs_cons (pg_name (i := 2) scSb.nd rfl (Or.inl rfl)) (pgs_cons (pg_name (i := 3) scSb.nd rfl (Or.inl rfl)) (pgs_cons (pg_name (i := 4) scSb.nd rfl (Or.inl rfl)) pgs_nil))))
          (fun _ _ _ _ _ => pts_nil) (fun _ _ _ _ _ => pe_tup (pa_cons (pv 2) (pa_cons (pv 3) (pa_cons (pe_op op_sub (pv 4) (pe_ixO GG.G hr GG.bG pass0 GG.sG GG.nG GG.iG (pv 1) (pe_tup (pa_cons (pv 2) (pa_cons (pv 3) pa_nil))) (fun _ _ => rfl))) pa_nil))))) pa_nil))))))), ?_⟩
    refine ⟨_, rfl, _, _, _, _, _, rfl, .own C, G.ty _ _ _ _ k1, G.own, true, rfl, ?_⟩
    refine ⟨_, rfl, _, rfl, w, n, TT, w2, n2, T2, rfl, W.web, W2.web, ?_⟩
    rcases q with ⟨hne, q⟩ | ⟨rfl, q1, q2⟩
    · exact .inr ⟨hne, q⟩
    refine .inl ⟨rfl, ?_⟩
    have hyl : ys.length = TT.length := h3.length
    have hyl2 : ys2.length = T2.length := k3.length
    have hl := W.len
    refine ⟨.ref w2, rfl, w2, C, dx2, _, _, rfl, k1, T.cl, T.n2, lk5t _ _ _ _ _, t2, rfl, ⟨ys2, .inl (.inl k2)⟩, ?_⟩
    refine for_tup (K := K) (a := t2) (xs := ys2) (fun i σ H2 => (∃ v2 v3 v4, σ = [some (.ref w), some (.ref w2), v2, v3, v4]) ∧ Same H H2 ∧ ∀ q ∈ T2.take i, q.2.2 ≤ am q.1 q.2.1) ⟨⟨_, _, _, rfl⟩, Same.refl _, fun q hq => by rw [List.take_zero] at hq; cases hq⟩ (fun i σ H2 _ h => .inl (.inl (h.2.1 _ _ k2))) ?_ ?_
    · rintro i x σ H2 hx ⟨⟨v2, v3, v4, rfl⟩, s2, hq⟩
      obtain ⟨p, hp, t', rfl, hSt⟩ := (k3.same s2).get hx
      have hpm := List.mem_of_getElem? hp
      have el : (look TT p.1 p.2.1).getD 0 = am p.1 p.2.1 := (look_amt W.ties (W2.ties.mem p hpm).2.1).1
      refine ⟨t', _, rfl, hSt, rfl, _, _, rfl, _, _, rfl, _, _, rfl, rfl, _, rfl, _, rfl, _, rfl, _, rfl, (by show 2 ≤ sizeLine; decide), fun R0 nR0 => ?_⟩
      have s3 := s2.trans (same_upd (o := .tup [.int p.1, .int p.2.1]) nR0)
      refine ⟨w, dx, _, rfl, s3 _ _ h1, w, R0, n, TT, p.1, p.2.1, rfl, W.web.same s3, .inl (.inl upd_same), fun H4 s4 => ⟨p.2.2, _, rfl, rfl, _, rfl, ?_⟩⟩
      have s4 := s3.trans s4
      rw [el]
      by_cases hb : am p.1 p.2.1 < p.2.2
      · rw [decide_eq_true hb]
        refine ⟨_, rfl, _, rfl, (by show 2 ≤ sizeLine; decide), fun R1 nR1 => ⟨(by show 1 ≤ 1000; decide), fun a na => ⟨a, _, rfl, upd_same, fun dx3 hn ne => ⟨rfl, ?_⟩⟩⟩⟩
        obtain ⟨z0, z1, z2, z3⟩ := mk1 na hn ne
        refine ⟨dx3, _, z1, z2, z0, ?_⟩
        rw [z3]
        refine q2 p hpm hb (fun q hqm hlt => hq q ?_) _ R1 dx3 (s4.trans (same_upd nR1)) upd_same z0
        obtain ⟨j, hj, rfl⟩ := List.mem_iff_getElem.mp hqm
        have hi := (List.getElem?_eq_some_iff.mp hp).1
        have ei : T2[i] = p := (List.getElem?_eq_some_iff.mp hp).2
        have hji : j < i := by
          rcases Nat.lt_trichotomy j i with h | h | h
          · exact h
          · subst h
            rw [ei] at hlt
            exact absurd hlt (fun z => lt2_irrefl z ⟨rfl, rfl⟩)
          · have := List.pairwise_iff_getElem.mp W2.ties.asc i j hi hj h
            rw [ei] at this
            exact absurd (lt2.trans hlt this) (fun z => lt2_irrefl z ⟨rfl, rfl⟩)
        exact List.mem_iff_getElem.mpr ⟨j, by rw [List.length_take]; omega, List.getElem_take⟩
      · rw [decide_eq_false hb]
        refine ⟨⟨_, _, _, rfl⟩, s4, fun q hqm => ?_⟩
        rw [List.take_add_one, hp] at hqm
        rcases List.mem_append.mp hqm with hqm | hqm
        · exact hq q hqm
        · cases List.mem_singleton.mp hqm
          omega
    · rintro σ H2 ⟨⟨v2, v3, v4, rfl⟩, s2, hq⟩
      rw [hyl2, List.take_length] at hq
      have hle : ∀ u v, am2 u v ≤ am u v := fun u v => by
        by_cases h0 : am2 u v = 0
        · rw [h0]; exact ties_pos W.ties u v
        · rw [← W2.ties.am] at h0
          obtain ⟨p, hp, rfl, rfl⟩ := mem_amt h0
          rw [ties_num W2.ties hp]
          exact hq p hp
      have hA : amt ((less am2 TT).map norm) = fun u v => am u v - am2 u v := by
        funext u v
        rw [ties_norm (fun p hp => by obtain ⟨p0, h0, rfl⟩ := List.mem_map.mp hp; exact (W.ties.mem p0 h0).2.1), less_amt am2 TT u v W.ties.asc, W.ties.am]
        by_cases e : ∃ p ∈ TT, p.1 = u ∧ p.2.1 = v
        · rw [if_pos e]
        · rw [if_neg e]
          have a0 : am u v = 0 := by rw [← W.ties.am]; exact amt_zero fun p hp k => e ⟨p, hp, k⟩
          have := hle u v
          have := ties_pos W2.ties u v
          omega
      have hsl : (less am2 TT).length = TT.length := by unfold less; rw [List.length_map]
      have h1' := s2 _ _ h1
      have h2' := s2 _ _ h2
      have h3' := h3.same s2
      refine ⟨.ref w, rfl, w, C, dx, _, _, rfl, h1', T.cl, T.n1, lk5s _ _ _ _ _, .ref w, rfl, w, C, dx, _, _, rfl, h1', T.cl, T.n2, lk5t _ _ _ _ _, t, rfl, ⟨ys, .inl (.inl h2')⟩, fun D nD => ?_⟩
      refine lc_tup (K := K) (a := t) (xs := ys) (fun i H5 => Ext H2 H5 ∧ ∃ zs, H5 D = some (.lst zs) ∧ Trs K H5 zs (less am2 (TT.take i)) ∧ zs.length ≤ i) ⟨fun b o z => by rw [upd_ne (ne_of_none z nD)]; exact z, [], upd_same, True.intro, Nat.le_refl _⟩ (fun i H5 _ h => .inl (.inl (h.1 _ _ h2'))) ?_ ?_
      · rintro i x H5 hx ⟨m1, zs, m2, m3, m4⟩
        obtain ⟨p, hp, t', rfl, hSt⟩ := (h3'.same m1).get hx
        have hi := (List.getElem?_eq_some_iff.mp hx).1
        have hpm := List.mem_of_getElem? hp
        have el : (look T2 p.1 p.2.1).getD 0 = am2 p.1 p.2.1 := (look_amt W2.ties (W.ties.mem p hpm).2.1).1
        refine ⟨t', _, rfl, hSt, rfl, _, _, rfl, _, _, rfl, _, _, rfl, rfl, rfl, _, rfl, _, rfl, _, rfl, _, rfl, _, rfl, _, rfl, (by show 2 ≤ sizeLine; decide), fun R0 nR0 => ?_⟩
        have s3 : Same H5 (upd H5 R0 (.tup [.int p.1, .int p.2.1])) := same_upd nR0
        have sH : Same H (upd H5 R0 (.tup [.int p.1, .int p.2.1])) := s2.trans (Ext.trans m1 s3)
        refine ⟨w2, dx2, _, rfl, sH _ _ k1, w2, R0, n, T2, p.1, p.2.1, rfl, W2.web.same sH, .inl (.inl upd_same), fun H6 s6 => ⟨p.2.2, _, rfl, rfl, (by show 3 ≤ sizeLine; decide), fun R nR => ?_⟩⟩
        rw [el]
        have s36 := s3.trans s6
        have sR := same_upd (o := .tup [.int p.1, .int p.2.1, .int (p.2.2 - am2 p.1 p.2.1)]) nR
        have m2' := sR _ _ (s36 _ _ m2)
        have hRD : R ≠ D := Ne.symm (ne_of_none (s36 _ _ m2) nR)
        refine ⟨zs, m2', by rw [sizeLine_eq]; omega, fun b o z => ?_, zs ++ [.ref R], upd_same, ?_, by rw [List.length_append, List.length_singleton]; omega⟩
        · rw [upd_ne (ne_of_none z nD)]
          exact sR _ _ (s36 _ _ (m1 b o z))
        · have htk : less am2 (TT.take (i + 1)) = less am2 (TT.take i) ++ [(p.1, p.2.1, p.2.2 - am2 p.1 p.2.1)] := by
            unfold less
            rw [List.take_add_one, hp, List.map_append]
            rfl
          rw [htk]
          exact Trs.append (Trs.but m2' (But.upd _ _ _) ((m3.same s36).same sR)) ⟨⟨R, rfl, .inl (.inl (by rw [upd_ne hRD]; exact upd_same))⟩, True.intro⟩
      rintro H5 ⟨m1, zs, m2, m3, m4⟩
      rw [hyl, List.take_length] at m3
      intro x dx' hx hdx hne
      refine init_ofR (ps := less am2 TT) hx hdx hne W.n60 (.inl (.inl (.inl m2))) m3 (by rw [hsl]; omega) (fun p hp => ?_) (.inl ⟨fun u v => ?_, fun H' T' s t w' => ?_⟩)
      · obtain ⟨p0, h0, rfl⟩ := List.mem_map.mp hp
        have a1 := W.ties.mem p0 h0
        have a2 := hle p0.1 p0.2.1
        have a3 := ties_num W.ties h0
        have a4 := W.bd p0.1 p0.2.1
        have a5 := ties_pos W2.ties p0.1 p0.2.1
        exact tieB_iff.mpr ⟨by dsimp only; omega, by dsimp only; omega, by dsimp only; omega, by dsimp only; omega, by dsimp only; omega, by dsimp only; omega, by dsimp only; omega⟩
      · rw [hA]
        have a4 := W.bd u v
        have a5 := ties_pos W2.ties u v
        show am u v - am2 u v ≤ _
        omega
      · rw [hA] at t
        exact q1 hle H' x T' ((s2.trans m1).trans s) t w'
end
end T27
/-! within: a web's ties against another's. -/
namespace T27
open PySem PySem.Spec PyProof.Rows L2 Wk
abbrev sWithin : Stmt := inClass (top 15) 9
/-- each tie of T stands in T2, too -/
def leT (T T2 : List T3) : Bool := T.all fun p => decide (p.2.2 ≤ (look T2 p.1 p.2.1).getD 0)
def spWithin (K : PySem.W.Frag) (C : Addr) : Sp := fun vs H Q _ => ∃ w n T w2 n2 T2, vs = [.ref w, .ref w2] ∧ WebAt K C H w n T ∧ WebAt K C H w2 n2 T2 ∧ T.length ≤ 2000 ∧ ∀ H', Same H H' → Q (.bl (decide (n = n2) && leT T T2)) H'
theorem scWn : FnScope ["self", "other", "u", "v", "number"] ["self", "other"] (defScope sWithin) := ⟨rfl, rfl, rfl, by decide +kernel, rfl, by decide +kernel, by decide +kernel⟩
theorem decN {n n2 : Nat} : decide (V.int (n : Int) = V.int (n2 : Int)) = decide (n = n2) := by
  rw [Bool.eq_iff_iff]
  simp only [decide_eq_true_eq]
  constructor
  · intro z; injection z with z; omega
  · rintro rfl; rfl
section
variable {P : Program} {w : World} {K : PySem.W.Frag} {mg : Str → Option Value} {base : Heap}
theorem ok_within {C f fg : Addr} {fd dg : FuncData} {k : Nat} (F : Fun K "within" "Web.within" sWithin f fd) (T : TxtW K mg C) (GG : GetW P w K mg base C k fg dg) (ma : mg "all" = none) : FnOk P w K mg base CX0 (k + 2) f fd ["self", "other"] (spWithin K C) := by
  refine F.ok scWn (fun vs H Q E h => ?_) (fun cdv A outer s H vs Q E hr h => ?_)
  · obtain ⟨w, n, T, w2, n2, T2, rfl, _⟩ := h
    rfl
  · obtain ⟨w, n, TT, w2, n2, T2, rfl, hW, hW2, hl, q⟩ := h
    obtain ⟨dx, t, ys, d, g, h1, h2, h3, h4, h5⟩ := hW.ex
    obtain ⟨dx2, t2, ys2, d2, g2, k1, k2, k3, k4, k5⟩ := hW2.ex
    refine ⟨_, pss_one (ps_ret (pe_and (pe_cmpR op_eq (pe_fld (pv 0) rfl) (pe_fld (pv 1) rfl) (nomark _)) (pe_one (pe_callB (r := rAll K) (cr_all rfl) (by rfl) ma (by decide +kernel) (pa_cons
      (pe_lc (own := [("u", 2), ("v", 3), ("number", 4)]) (g := gTup K 3 (gCons (gName 2) (gCons (gName 3) (gCons (gName 4) gNil)))) (tt := tYes) rfl scWn.nd (pi_tup (pe_fld (pv 0) rfl)) (blkOk_by (N := ["self", "other", "u", "v", "number"]) (sc := defScope sWithin) (by decide +kernel))
        (fun _ _ _ _ _ => pg_tup rfl (pgs_cons (pg_name (i := 2) scWn.nd rfl (Or.inl rfl)) (pgs_cons (pg_name (i := 3) scWn.nd rfl (Or.inl rfl)) (pgs_cons (pg_name (i := 4) scWn.nd rfl (Or.inl rfl)) pgs_nil))))
        (fun _ _ _ _ _ => pts_nil) (fun _ _ _ _ _ => pe_cmpR op_le (pv 4) (pe_ixO GG.G hr GG.bG pass0 GG.sG GG.nG GG.iG (pv 1) (pe_tup (pa_cons (pv 2) (pa_cons (pv 3) pa_nil))) (fun _ _ => rfl)) (nomark _))) pa_nil))))), ?_⟩
    refine ⟨.ref w, rfl, w, C, dx, _, _, rfl, h1, T.cl, T.n1, lk5s _ _ _ _ _, .ref w2, rfl, w2, C, dx2, _, _, rfl, k1, T.cl, T.n1, lk5s _ _ _ _ _, rfl, decide (n = n2), ?_⟩
    refine ⟨by rw [decN], ?_⟩
    by_cases hn : n = n2
    · rw [decide_eq_true hn]
      rw [decide_eq_true hn, Bool.true_and] at q
      have hyl : ys.length = TT.length := h3.length
      refine ⟨.ref w, rfl, w, C, dx, _, _, rfl, h1, T.cl, T.n2, lk5t _ _ _ _ _, t, rfl, ⟨ys, .inl (.inl h2)⟩, fun D nD => ?_⟩
      refine lc_tup (K := K) (a := t) (xs := ys) (fun i H5 => Ext H H5 ∧ H5 D = some (.lst (((TT.take i).map fun p => decide (p.2.2 ≤ (look T2 p.1 p.2.1).getD 0)).map V.bl))) ⟨fun b o z => by rw [upd_ne (ne_of_none z nD)]; exact z, upd_same⟩ (fun i H5 _ h => .inl (.inl (h.1 _ _ h2))) ?_ ?_
      · rintro i x H5 hx ⟨m1, m2⟩
        obtain ⟨p, hp, t', rfl, hSt⟩ := (h3.same m1).get hx
        have hi := (List.getElem?_eq_some_iff.mp hx).1
        refine ⟨t', _, rfl, hSt, rfl, _, _, rfl, _, _, rfl, _, _, rfl, rfl, rfl, _, rfl, _, rfl, _, rfl, _, rfl, (by show 2 ≤ sizeLine; decide), fun R nR => ?_⟩
        have sR : Same H5 (upd H5 R (.tup [.int p.1, .int p.2.1])) := same_upd nR
        refine ⟨w2, dx2, _, rfl, sR _ _ (m1 _ _ k1), w2, R, n2, T2, p.1, p.2.1, rfl, (hW2.same (m1.trans sR)), .inl (.inl upd_same), fun H6 s6 => ⟨p.2.2, _, rfl, rfl, _, s6 _ _ (sR _ _ m2), ?_, fun b o z => ?_, ?_⟩⟩
        · rw [List.length_map, List.length_map, List.length_take, sizeLine_eq]
          omega
        · rw [upd_ne (ne_of_none z nD)]
          exact s6 _ _ (sR _ _ (m1 b o z))
        · rw [upd_same, List.take_add_one, hp, List.map_append, List.map_append]
          rfl
      rintro H5 ⟨m1, m2⟩
      rw [hyl, List.take_length] at m2
      refine ⟨D, _, rfl, .inl (.inl m2), ?_⟩
      have e : ((TT.map fun p => decide (p.2.2 ≤ (look T2 p.1 p.2.1).getD 0)).all id) = leT TT T2 := by
        unfold leT
        rw [List.all_map]
        rfl
      rw [e]
      exact q _ m1
    · rw [decide_eq_false hn]
      rw [decide_eq_false hn, Bool.false_and] at q
      exact q _ (Same.refl _)
end
end T27
/-! The readings of a list comprehension with two clauses, over any walks. -/
namespace Wk
open PySem PySem.Spec PyProof.Rows L2
section
variable {J J1 : It} {n n1 : Nat} {G G1 : Hp → Prop} {Y Y1 : Nat → Hp → V → Hp → Prop}
theorem lc2_it (w : Walk J n G Y) {g : TG} {tt : TT} {wi1 : TI} {g1 : TG} {tt1 : TT} {te : TE} {vs vs1 : List Nat} {σ : L2.St} {H1 : Hp} {D : Addr} {Qd : Hp → Prop} (Pv : Nat → Hp → Prop) (h0 : Pv 0 (upd H1 D (.lst []))) (hG : ∀ i H, i ≤ n → Pv i H → G H)
    (hs : ∀ i x H H', i < n → Pv i H → Y i H x H' → g x (wipe σ vs) H' fun σ2 H2 => wipe σ2 vs = wipe σ vs ∧ tt σ2 H2 fun b H3 => if b = true then wi1 σ2 H3 fun J1 H4 => ∃ W1 : Nat → Nat → Hp → Prop, (∃ m, W1 0 m H4) ∧ ∀ j k H, W1 j k H →
  (J1.stop j H ∧ Pv (i + 1) H) ∨ (J1.go j H ∧ ∃ Nx1 : Hp → Prop, (∀ H', Nx1 H' → ∃ k', k' < k ∧ W1 (j + 1) k' H') ∧ ∀ x H', J1.yld j H x H' → g1 x (wipe σ2 vs1) H' fun σ3 H5 => wipe σ3 vs1 = wipe σ2 vs1 ∧ tt1 σ3 H5 fun b H6 =>
    if b = true then te σ3 H6 fun y H7 => ∃ acc, H7 D = some (.lst acc) ∧ acc.length < sizeLine ∧ Nx1 (upd H7 D (.lst (acc ++ [y]))) else Nx1 H6) else Pv (i + 1) H3) (hd : ∀ H, Pv n H → Qd H) :
    ∃ W : Nat → Nat → Hp → Prop, (∃ m, W 0 m (upd H1 D (.lst []))) ∧ ∀ i m H, W i m H →
      (J.stop i H ∧ Qd H) ∨ (J.go i H ∧ ∃ Nx : Hp → Prop, (∀ H', Nx H' → ∃ m', m' < m ∧ W (i + 1) m' H') ∧ ∀ x H', J.yld i H x H' → g x (wipe σ vs) H' fun σ2 H2 => wipe σ2 vs = wipe σ vs ∧ tt σ2 H2 fun b H3 =>
        if b = true then wi1 σ2 H3 fun J1 H4 => ∃ W1 : Nat → Nat → Hp → Prop, (∃ m, W1 0 m H4) ∧ ∀ j k H, W1 j k H →
  (J1.stop j H ∧ Nx H) ∨ (J1.go j H ∧ ∃ Nx1 : Hp → Prop, (∀ H', Nx1 H' → ∃ k', k' < k ∧ W1 (j + 1) k' H') ∧ ∀ x H', J1.yld j H x H' → g1 x (wipe σ2 vs1) H' fun σ3 H5 => wipe σ3 vs1 = wipe σ2 vs1 ∧ tt1 σ3 H5 fun b H6 =>
    if b = true then te σ3 H6 fun y H7 => ∃ acc, H7 D = some (.lst acc) ∧ acc.length < sizeLine ∧ Nx1 (upd H7 D (.lst (acc ++ [y]))) else Nx1 H6) else Nx H3) := by
  refine ⟨fun i m H => m = n - i ∧ i ≤ n ∧ Pv i H, ⟨n, by simp, Nat.zero_le _, h0⟩, ?_⟩
  rintro i m H ⟨rfl, hi, p⟩
  have q := hG i H hi p
  by_cases hlt : i < n
  · refine .inr ⟨w.goes i H hlt q, Pv (i + 1), fun H' p' => ⟨n - (i + 1), by omega, rfl, hlt, p'⟩, fun x H' y => hs i x H H' hlt p (w.yields i H x H' hlt q y)⟩
  · have e : i = n := by omega
    subst e
    exact .inl ⟨w.stops H q, hd H p⟩
theorem lc2_in (w : Walk J1 n1 G1 Y1) {g1 : TG} {tt1 : TT} {te : TE} {vs1 : List Nat} {σ2 : L2.St} {H4 : Hp} {D : Addr} {Nx : Hp → Prop} (Pv : Nat → Hp → Prop) (h0 : Pv 0 H4) (hG : ∀ i H, i ≤ n1 → Pv i H → G1 H)
    (hs : ∀ i x H H', i < n1 → Pv i H → Y1 i H x H' → g1 x (wipe σ2 vs1) H' fun σ3 H5 => wipe σ3 vs1 = wipe σ2 vs1 ∧ tt1 σ3 H5 fun b H6 =>
      if b = true then te σ3 H6 fun y H7 => ∃ acc, H7 D = some (.lst acc) ∧ acc.length < sizeLine ∧ Pv (i + 1) (upd H7 D (.lst (acc ++ [y]))) else Pv (i + 1) H6) (hd : ∀ H, Pv n1 H → Nx H) :
    ∃ W1 : Nat → Nat → Hp → Prop, (∃ m, W1 0 m H4) ∧ ∀ j k H, W1 j k H →
      (J1.stop j H ∧ Nx H) ∨ (J1.go j H ∧ ∃ Nx1 : Hp → Prop, (∀ H', Nx1 H' → ∃ k', k' < k ∧ W1 (j + 1) k' H') ∧ ∀ x H', J1.yld j H x H' → g1 x (wipe σ2 vs1) H' fun σ3 H5 => wipe σ3 vs1 = wipe σ2 vs1 ∧ tt1 σ3 H5 fun b H6 =>
        if b = true then te σ3 H6 fun y H7 => ∃ acc, H7 D = some (.lst acc) ∧ acc.length < sizeLine ∧ Nx1 (upd H7 D (.lst (acc ++ [y]))) else Nx1 H6) := by
  refine ⟨fun i m H => m = n1 - i ∧ i ≤ n1 ∧ Pv i H, ⟨n1, by simp, Nat.zero_le _, h0⟩, ?_⟩
  rintro i m H ⟨rfl, hi, p⟩
  have q := hG i H hi p
  by_cases hlt : i < n1
  · refine .inr ⟨w.goes i H hlt q, Pv (i + 1), fun H' p' => ⟨n1 - (i + 1), by omega, rfl, hlt, p'⟩, fun x H' y => hs i x H H' hlt p (w.yields i H x H' hlt q y)⟩
  · have e : i = n1 := by omega
    subst e
    exact .inl ⟨w.stops H q, hd H p⟩
end
end Wk
/-! crossing: the ties between two sets of places. -/
namespace T27
open PySem PySem.Spec PyProof.Rows L2 Wk
abbrev sCrossing : Stmt := inClass (top 15) 11
/-- the sum over all pairs -/
def crossL (f : Int → Int → Int) (us vs : List Int) : List Int := us.flatMap fun u => vs.map fun v => f u v
def spCrossing (K : PySem.W.Frag) (C : Addr) : Sp := fun vs' H Q _ => ∃ w n T a b us vs, vs' = [.ref w, .ref a, .ref b] ∧ WebAt K C H w n T ∧ SqS K H a (us.map V.int) ∧ (H b = some (.lst (vs.map V.int)) ∨ H b = some (.tup (vs.map V.int))) ∧ us.length ≤ 100 ∧ vs.length ≤ 100 ∧
  ∀ H', Same H H' → Q (.int (crossL (fun u v => (look T u v).getD 0) us vs).sum) H'
theorem scCr : FnScope ["self", "ones", "others", "u", "v"] ["self", "ones", "others"] (defScope sCrossing) := ⟨rfl, rfl, rfl, by decide +kernel, rfl, by decide +kernel, by decide +kernel⟩
theorem crossL_len {f : Int → Int → Int} {us vs : List Int} : (crossL f us vs).length = us.length * vs.length := by
  unfold crossL
  rw [List.length_flatMap]
  induction us with
  | nil => simp
  | cons u us ih => rw [List.map_cons, List.sum_cons, ih, List.length_map, List.length_cons, Nat.succ_mul, Nat.add_comm]
theorem crossL_take {f : Int → Int → Int} {us vs : List Int} {i : Nat} {u : Int} (h : us[i]? = some u) : crossL f (us.take (i + 1)) vs = crossL f (us.take i) vs ++ vs.map fun v => f u v := by
  unfold crossL
  rw [List.take_add_one, h]
  simp
section
variable {P : Program} {w : World} {K : PySem.W.Frag} {mg : Str → Option Value} {base : Heap}
theorem ok_crossing {C f fg : Addr} {fd dg : FuncData} {k : Nat} (F : Fun K "crossing" "Web.crossing" sCrossing f fd) (T : TxtW K mg C) (GG : GetW P w K mg base C k fg dg) : FnOk P w K mg base CX0 (k + 2) f fd ["self", "ones", "others"] (spCrossing K C) := by
  refine F.ok scCr (fun vs H Q E h => ?_) (fun cdv A outer s H vs Q E hr h => ?_)
  · obtain ⟨w, n, T, a, b, us, vs, rfl, _⟩ := h
    rfl
  · obtain ⟨w, n, TT, a, b, us, vs, rfl, hW, ha, hb, hla, hlb, q⟩ := h
    obtain ⟨dx, t, ys, d, g, h1, h2, h3, h4, h5⟩ := hW.ex
    refine ⟨_, pss_one (ps_ret (pe_callB (r := rSum K) (cr_sum rfl) (by rfl) T.msum (by decide +kernel) (pa_cons
      (pe_lc2 (own := [("u", 3), ("v", 4)]) (vs1 := [4]) (g := gName 3) (g1 := gName 4) (tt := tYes) (tt1 := tYes) (wi1 := iSeqW K (tVar 2)) rfl scCr.nd (pi_seqW (pv 1)) (blkOk_by (N := ["self", "ones", "others", "u", "v"]) (sc := defScope sCrossing) (by decide +kernel)) (by decide)
        (fun _ _ _ _ _ => pg_name (i := 3) scCr.nd rfl (Or.inl rfl)) (fun _ _ _ _ _ => pts_nil) (fun _ _ _ _ _ => pi_seqW (pv 2)) (fun _ _ _ _ _ => pg_name (i := 4) scCr.nd rfl (Or.inl rfl)) (fun _ _ _ _ _ => pts_nil)
        (fun _ _ _ _ _ => pe_ixO GG.G hr GG.bG pass0 GG.sG GG.nG GG.iG (pv 0) (pe_tup (pa_cons (pv 3) (pa_cons (pv 4) pa_nil))) (fun _ _ => rfl))) pa_nil))), ?_⟩
    obtain ⟨ob, hob⟩ : ∃ o, H b = some o := hb.elim (fun h => ⟨_, h⟩) fun h => ⟨_, h⟩
    have hbS : SqS K H b (vs.map V.int) := hb.elim (fun h => .inl (.inl (.inl h))) fun h => .inr (.inl (.inl h))
    refine ⟨.ref a, rfl, a, us.map V.int, rfl, ha, fun J G W hG D nD => ?_⟩
    refine lc2_it W (fun i H5 => Ext H H5 ∧ H5 D = some (.lst ((crossL (fun u v => (look TT u v).getD 0) (us.take i) vs).map V.int))) ⟨fun b o z => by rw [upd_ne (ne_of_none z nD)]; exact z, upd_same⟩ (fun i H5 _ p => hG H5 fun o z => p.1 _ _ z) ?_ ?_
    · rintro i x H5 H6 hi ⟨m1, m2⟩ ⟨rfl, hx⟩
      rw [List.getElem?_map] at hx
      obtain ⟨u, hu, rfl⟩ := Option.map_eq_some_iff.mp hx
      refine ⟨rfl, .ref b, rfl, b, vs.map V.int, rfl, hbS.ext m1, fun J1 G1 W1 hG1 => ?_⟩
      have hil : i < us.length := (List.getElem?_eq_some_iff.mp hu).1
      refine lc2_in W1 (fun j H7 => Ext H H7 ∧ H7 D = some (.lst ((crossL (fun u v => (look TT u v).getD 0) (us.take i) vs ++ (vs.take j).map fun v => (look TT u v).getD 0).map V.int))) ⟨m1, ?_⟩ (fun j H7 _ p => hG1 H7 fun o z => by rw [m1 _ _ hob] at z; cases z; exact p.1 _ _ hob) ?_ ?_
      · rw [List.take_zero, List.map_nil, List.append_nil]
        exact m2
      · rintro j y H7 H8 hj ⟨r1, r2⟩ ⟨rfl, hy⟩
        rw [List.getElem?_map] at hy
        obtain ⟨v, hv, rfl⟩ := Option.map_eq_some_iff.mp hy
        have hjl : j < vs.length := (List.getElem?_eq_some_iff.mp hv).1
        refine ⟨rfl, .ref w, rfl, _, rfl, _, rfl, (by show 2 ≤ sizeLine; decide), fun R nR => ?_⟩
        have sR : Same H8 (upd H8 R (.tup [.int u, .int v])) := same_upd nR
        have sA : Same H (upd H8 R (.tup [.int u, .int v])) := Ext.trans r1 sR
        refine ⟨w, dx, _, rfl, sA _ _ h1, w, R, n, TT, u, v, rfl, hW.same sA, .inl (.inl upd_same), fun H9 s9 => ⟨_, s9 _ _ (sR _ _ r2), ?_, fun b o z => ?_, ?_⟩⟩
        · rw [List.length_map, List.length_append, crossL_len, List.length_map, List.length_take, List.length_take, sizeLine_eq]
          have : min i us.length * vs.length ≤ 100 * 100 := Nat.mul_le_mul (by omega) hlb
          omega
        · rw [upd_ne (ne_of_none z nD)]
          exact s9 _ _ (sR _ _ (r1 b o z))
        · rw [upd_same, List.take_add_one, hv, List.map_append, List.map_append, List.map_append, List.map_append]
          simp
      · rintro H7 ⟨r1, r2⟩
        rw [List.length_map, List.take_length] at r2
        exact ⟨r1, by rw [crossL_take hu]; exact r2⟩
    · rintro H5 ⟨m1, m2⟩
      rw [List.length_map, List.take_length] at m2
      exact ⟨D, _, rfl, .inl (.inl m2), q _ m1⟩
end
end T27
/-! The reading of a dict comprehension over any walk. -/
namespace Wk
open PySem PySem.Spec PyProof.Rows L2
section
variable {J : It} {n : Nat} {G : Hp → Prop} {Y : Nat → Hp → V → Hp → Prop}
theorem dc_it (w : Walk J n G Y) {g : TG} {tt : TT} {tk tv : TE} {vs : List Nat} {σ : L2.St} {H1 : Hp} {D : Addr} {Qd : Hp → Prop} (Pv : Nat → Hp → Prop) (h0 : Pv 0 (upd H1 D (.dK []))) (hG : ∀ i H, i ≤ n → Pv i H → G H)
    (hs : ∀ i x H H', i < n → Pv i H → Y i H x H' → g x (wipe σ vs) H' fun σ2 H2 => wipe σ2 vs = wipe σ vs ∧ tt σ2 H2 fun b H3 =>
      if b = true then tk σ2 H3 fun y H4 => tv σ2 H4 fun z H5 => ∃ kvs k, y = kV k ∧ H5 D = some (.dK kvs) ∧ kvs.length < sizeLine ∧ Pv (i + 1) (upd H5 D (.dK (putK kvs k z))) else Pv (i + 1) H3) (hd : ∀ H, Pv n H → Qd H) :
    ∃ W : Nat → Nat → Hp → Prop, (∃ m, W 0 m (upd H1 D (.dK []))) ∧ ∀ i m H, W i m H →
      (J.stop i H ∧ Qd H) ∨ (J.go i H ∧ ∃ Nx : Hp → Prop, (∀ H', Nx H' → ∃ m', m' < m ∧ W (i + 1) m' H') ∧ ∀ x H', J.yld i H x H' → g x (wipe σ vs) H' fun σ2 H2 => wipe σ2 vs = wipe σ vs ∧ tt σ2 H2 fun b H3 =>
        if b = true then tk σ2 H3 fun y H4 => tv σ2 H4 fun z H5 => ∃ kvs k, y = kV k ∧ H5 D = some (.dK kvs) ∧ kvs.length < sizeLine ∧ Nx (upd H5 D (.dK (putK kvs k z))) else Nx H3) := by
  refine ⟨fun i m H => m = n - i ∧ i ≤ n ∧ Pv i H, ⟨n, by simp, Nat.zero_le _, h0⟩, ?_⟩
  rintro i m H ⟨rfl, hi, p⟩
  have q := hG i H hi p
  by_cases hlt : i < n
  · refine .inr ⟨w.goes i H hlt q, Pv (i + 1), fun H' p' => ⟨n - (i + 1), by omega, rfl, hlt, p'⟩, fun x H' y => hs i x H H' hlt p (w.yields i H x H' hlt q y)⟩
  · have e : i = n := by omega
    subst e
    exact .inl ⟨w.stops H q, hd H p⟩
end
end Wk
/-! Rules whose reading names K by a parameter: for what stands within comprehensions. -/
namespace Wk
open PySem PySem.Spec PyProof.Rows L2
theorem pe_fldK {X : Cx} {K : PySem.W.Frag} {e : Expr} {f : Str} {pos : Pos} {ta : TE} (hK : X.K = K) (he : PE X e ta) (hb : attributeBase e f X.env (eval e X.env) = eval e X.env) : PE X (.Attribute e f pos) (tFld K ta f) := by
  subst hK
  exact pe_fld he hb
def rLenK (K : PySem.W.Frag) : List V → Hp → VK → Prop := fun xs H Q => ∃ p ys, xs = [V.ref p] ∧ (SqL K H p ys ∨ SqT K H p ys) ∧ Q (.int ys.length) H
theorem call_lenK {X : Cx} {K : PySem.W.Frag} (h : X.K = K) : CallR X (.builtin "len") (rLenK K) := by
  subst h
  exact call_len_seq
theorem call_isiK {X : Cx} {K : PySem.W.Frag} (h : X.K = K) : CallR X (.builtin "isinstance") (rIsi K) := by
  subst h
  exact call_isi
theorem pe_andTK {X : Cx} {K : PySem.W.Frag} {a b : Expr} {rest : List Expr} {ta tb : TE} {pos : Pos} (hK : X.K = K) (ha : PE X a ta) (hb : PE X (.BoolOp .And (b :: rest) pos) tb) : PE X (.BoolOp .And (a :: b :: rest) pos) (tAndT K ta tb) := by
  subst hK
  exact pe_andT ha hb
end Wk
/-! t.index(i) of a tuple of ints. -/
namespace Wk
open PySem PySem.Spec PyProof.Rows L2
theorem flat_intsV (ys : List Int) : (ys.map V.int).all flatV = true := by
  rw [List.all_map]
  exact List.all_eq_true.mpr fun _ _ => rfl
def rTupIx (K : PySem.W.Frag) : V → List V → Hp → VK → Prop := fun x xs H Q => ∃ p, ∃ ys : List Int, ∃ z j, x = .ref p ∧ xs = [.int z] ∧ SqT K H p (ys.map V.int) ∧ ys[j]? = some z ∧ (∀ m, m < j → ys[m]? ≠ some z) ∧ Q (.int (j : Nat)) H
theorem mt_tup_indexI {X : Cx} {K : PySem.W.Frag} (hK : X.K = K) : MtR X "tuple.index" (rTupIx K) := by
  subst hK
  intro pins s σ H x xs v us Q I rx rs h
  obtain ⟨p, ys, z, j, rfl, rfl, hq, hy, hno, q⟩ := h
  cases rx
  obtain ⟨u, rfl, t, rfl⟩ := vals1 rs
  obtain ⟨its, r, pl, hz⟩ := I.tuple hq
  obtain ⟨⟨cls, dd, dt, sl⟩, ho, hc, n, hd⟩ := pl
  simp only at hc hd
  subst hc
  subst hd
  have hl : its.toArray.size = ys.length := by rw [List.size_toArray, ← r.length, List.length_map]
  have hj : j < its.toArray.size := by rw [hl]; exact (List.getElem?_eq_some_iff.mp hy).1
  have at' : ∀ (m : Nat) (hm : m < its.toArray.size), ∃ y t', ys[m]? = some y ∧ its.toArray[m] = Value.int y t' := fun m hm => by
    have hm' : m < ys.length := by rw [← hl]; exact hm
    obtain ⟨w, hw, t', hw'⟩ := r.get (i := m) (x := .int ys[m]) (by simp [hm'])
    refine ⟨ys[m], t', List.getElem?_eq_getElem hm', ?_⟩
    have e := (List.getElem?_eq_some_iff.mp hw).2
    rw [← hw', ← e]
    simp
  refine call_meets PySem.F.slot_tuple_index ⟨_, ho, rfl⟩ PySem.F.entry_tuple_index (PySem.F.args_tuple_index_2 _ _) (TI.tuple_indexAt p its.toArray n dd sl (.int z t) (eqU (.int z)) j hj ?_ ?_)
    ⟨ho, fun w hw => mem_eqAt (x := .int z) ⟨t, rfl⟩ rfl r (flat_intsV ys) w (by simpa using hw), ⟨.int (j : Nat), H, I.tok _, ⟨_, rfl⟩, q⟩⟩
  · obtain ⟨y, t', h1, h2⟩ := at' j hj
    rw [hy] at h1
    cases h1
    rw [h2]
    show (z == z) = true
    exact beq_self_eq_true z
  · intro m hm hmj
    obtain ⟨y, t', h1, h2⟩ := at' m hm
    rw [h2]
    show (y == z) = false
    refine beq_eq_false_iff_ne.mpr fun e => hno m hmj (by rw [h1, e])
/-- a tuple as an object without a dict of its own -/
structure TupF (H : Hp) (p : Addr) (ys : List V) : Prop where
  ex : ∃ o : Obj, H p = some (.frz o (.tup ys)) ∧ o.dict = none
theorem TupF.sqT {K : PySem.W.Frag} {H : Hp} {p : Addr} {ys : List V} (h : TupF H p ys) : SqT K H p ys := by
  obtain ⟨o, h, _⟩ := h.ex
  exact .inl (.inr ⟨o, h⟩)
theorem TupF.to {H H' : Hp} {p : Addr} {ys : List V} (h : TupF H p ys) (s : ∀ o, H p = some o → H' p = some o) : TupF H' p ys := by
  obtain ⟨o, h, d⟩ := h.ex
  exact ⟨o, s _ h, d⟩
def rTupF (K : PySem.W.Frag) : List V → Hp → VK → Prop := fun xs H Q => ∃ p ys, xs = [.ref p] ∧ SqL K H p ys ∧ ∀ l H', H l = none → (∀ o, H' = upd H l o → TupF H' l ys → Q (.ref l) H')
theorem call_tupleF {X : Cx} : CallR X (.type "tuple") (fun xs H Q => ∃ p ys, xs = [.ref p] ∧ SqL X.K H p ys ∧ ∀ l o, H l = none → TupF (upd H l o) l ys → Q (.ref l) (upd H l o)) := by
  intro pins s σ H xs us Q I r h
  obtain ⟨p, ys, rfl, hq, q⟩ := h
  obtain ⟨u, rfl, rx⟩ := vals1 r
  cases rx
  obtain ⟨its, r', pl, hz⟩ := I.list hq
  have hlen := r'.length
  refine call_tuple_list pl.isList (fun h' kp => ?_) (by simp only [List.size_toArray] <;> omega)
  have I1 : Inv X pins σ H { s with heap := h' } := I.kept (t' := s.toks) kp
  have I2 : Inv X pins σ (upd H h'.objs.size (.frz { cls := .type "tuple", data := .seq its.toArray } (.tup ys))) { s with heap := h'.push { cls := .type "tuple", data := .seq its.toArray } } :=
    I1.laid (t' := s.toks) (fun b o e => Heap.get?_push_of_some _ e) (Nat.le_refl _) (show ObjOk X.prog X.w _ _ _ (.frz _ (.tup ys)) from ⟨Heap.get?_push_size _ rfl, hz, its, r', IsTup.new _ _⟩)
  exact ⟨.ref h'.objs.size, _, I2, rfl, q _ _ (I1.hok.fresh (Nat.le_refl _)) ⟨_, upd_same, rfl⟩⟩
def tTupIx (K : PySem.W.Frag) (to : TE) (ta : TA) : TE := fun σ H Q => to σ H fun x H1 => ∃ p ys, x = .ref p ∧ TupF H1 p ys ∧ ta σ H1 fun xs H2 => rTupIx K x xs H2 Q
theorem pe_tupIx {X : Cx} {K : PySem.W.Frag} {o e : Expr} {to : TE} {ta : TA} {apos cpos : Pos} (hK : X.K = K) (ho : PE X o to) (ha : PA X [e] ta)
    (hbase : attributeBase o "index" X.env (eval o X.env) = eval o X.env := by rfl)
    (hfew : ((backTo cpos (starEach [e] X.env)).all (fun x => !x.1) && (backToKw cpos (keywordEach [] X.env)).all (fun x => x.1.isSome)
      && decide (([e] : List Expr).length + ([] : List Keyword).length + (if ([] : List Keyword).isEmpty then 0 else 1) < 30)) = true := by rfl)
    (hline : (apos.endLine == cpos.line) = true := by rfl) (hs : starEach [e] X.env = (false, eval e X.env) :: starEach [] X.env := by rfl) (hplain : (backTo cpos (starEach [] X.env)).any (·.1) = false := by rfl) :
    PE X (.Call (.Attribute o "index" apos) [e] [] cpos) (tTupIx K to ta) := by
  subst hK
  refine ⟨fun pins s σ H Q I h => ?_⟩
  refine wpAny_Call_method_late hbase hfew hline rfl (thn (ho.run pins s σ H _ I h) fun v s1 ⟨x, H1, I1, r1, p, ys, ex, tf, q1⟩ => ?_)
  subst ex
  cases (show v = Value.ref p from r1)
  obtain ⟨ob, hp, hd⟩ := tf.ex
  obtain ⟨hob, _, its, _, it⟩ := (show ObjOk X.prog X.w H1 s1.heap p (.frz ob (.tup ys)) from I1.hok p _ hp)
  have h1 : s1.TypeIs (.ref p) "tuple" := by
    obtain ⟨o', ho', hc', _⟩ := it
    exact ⟨o', ho', hc'⟩
  refine ⟨"tuple", "tuple.index", PySem.F.plainAttrs_tuple, PySem.F.slot_tuple_index, PySem.F.type_tuple_index, h1, fun a e => by cases e; exact ⟨ob, hob, hd⟩, ?_⟩
  have hA := ha.run cpos pins s1 σ H1 _ I1 q1
  rw [hs] at hA ⊢
  refine Calls.callWith_builtin (by show (false || (backTo cpos (starEach [] X.env)).any (·.1)) = false; rw [hplain] <;> rfl) (Calls.evalArgs_plain ?_)
  exact thn hA fun us s2 ⟨vs, H2, I2, r2, q2⟩ => mt_tup_indexI rfl pins s2 σ H2 (.ref p) vs _ us Q I2 rfl r2 q2
end Wk
/-! +, - of two objects of one own class, and *, by the class's own methods. -/
namespace Wk
open PySem PySem.Spec PyProof.Rows L2
theorem int_mul_obj (a : Int) (t : Tok) (x C dx : Addr) :
    Meets (Builtin.«int.__mul__» ⟨[.int a t, .ref x], []⟩) (fun _ R s => s.heap.get? x = some (PySem.W.instObj C dx) ∧ R (.ok (.ret Value.notImplemented)) s) :=
  .of_wp fun prog w A R s h => by obtain ⟨hp, g, d, tk, os⟩ := s; obtain ⟨hl, h⟩ := h; wp_walk; exact ⟨_, rfl, h⟩
section
variable {X : Cx} {CX : CXT} {k : Nat} {C f : Addr} {fd : FuncData} {ps : List Str} {sp : Sp} {E : XK}
/-- o + y and the like: the method's answer is no NotImplemented -/
def rBinO (C : Addr) (sp : Sp) (E : XK) : R2 := fun x y H Q => ∃ a b dx dy fs gs, x = .ref a ∧ y = .ref b ∧ H a = some (.ins C dx fs) ∧ H b = some (.ins C dy gs) ∧ sp [.ref a, .ref b] H (fun v H' => ∃ c, v = .ref c ∧ Q (.ref c) H') E
theorem op_binO {op : Operator} (F : FnOk X.prog X.w X.K X.mg X.base CX k f fd ps sp) (hr : Room k X.A) (hb : Binds X.K fd ps []) (hx : Passes CX X E) (hc : PySem.W.selfFirst X.K C = true)
    (hs : PySem.W.findIn X.K (.ref C) (PySem.dunder op.info.2) = some (some (.ref f))) (hf : PySem.W.isFn X.K (.ref f) = true) : OpR X (binaryOp op) (rBinO C sp E) := by
  intro pins s σ H x y v u Q I rx ry h
  obtain ⟨a, b, dx, dy, fs, gs, rfl, rfl, ha, hb2, h⟩ := h
  cases (show v = Value.ref a from rx)
  cases (show u = Value.ref b from ry)
  obtain ⟨mA, J, _⟩ := ins_get I.hok ha
  obtain ⟨od, J, _⟩ := J.look
  obtain ⟨mB, J2, _⟩ := ins_get I.hok hb2
  obtain ⟨od2, J2, _⟩ := J2.look
  obtain ⟨m, hF⟩ := I.fr
  refine PySem.W.binop_K hF I.ok.mod.kin J J2.type hc hs hf (wpAny_mono (dun_call F rfl hr hb hx I (.cons (show RelV (.ref a) (.ref a) from rfl) (.cons (show RelV (.ref b) (.ref b) from rfl) .nil)) h) (fun r s' z => ?_) fun _ _ e => e)
  obtain ⟨z, H', I', rz, c, ez, q⟩ := z
  subst ez
  cases (show r = Value.ref c from rz)
  exact ⟨.ref c, H', I', rfl, q⟩
/-- o * k -/
def rBinI (C : Addr) (sp : Sp) (E : XK) : R2 := fun x y H Q => ∃ a i dx fs, x = .ref a ∧ y = .int i ∧ H a = some (.ins C dx fs) ∧ sp [.ref a, .int i] H (fun v H' => ∃ c, v = .ref c ∧ Q (.ref c) H') E
theorem op_binI {op : Operator} {fo ro rc : Option Value} (F : FnOk X.prog X.w X.K X.mg X.base CX k f fd ps sp) (hr : Room k X.A) (hb : Binds X.K fd ps []) (hx : Passes CX X E) (hc : PySem.W.selfFirst X.K C = true)
    (hs : PySem.W.findIn X.K (.ref C) (PySem.dunder op.info.2) = some (some (.ref f))) (hf : PySem.W.isFn X.K (.ref f) = true) (hr' : PySem.W.findIn X.K (.ref C) (dunderR op.info.2) = some rc) (hp : rc = none ∨ ∃ g : Addr, rc = some (.ref g))
    (h1 : PySem.W.findIn X.K (.type "int") (PySem.dunder op.info.2) = some fo) (h2 : PySem.W.findIn X.K (.type "int") (dunderR op.info.2) = some ro) (hsub : PySem.W.subIn X.K (.type "int") (.ref C) = some false) : OpR X (binaryOp op) (rBinI C sp E) := by
  intro pins s σ H x y v u Q I rx ry h
  obtain ⟨a, i, dx, fs, rfl, rfl, ha, h⟩ := h
  cases (show v = Value.ref a from rx)
  obtain ⟨t, rfl⟩ := (show ∃ t, u = Value.int i t from ry)
  obtain ⟨mA, J, _⟩ := ins_get I.hok ha
  obtain ⟨od, J, _⟩ := J.look
  obtain ⟨m, hF⟩ := I.fr
  refine PySem.W.ksp_binT (T := "int") hF I.ok.mod.kin J rfl hc hs hf hr' hp h1 h2 hsub (wpAny_mono (dun_call F rfl hr hb hx I (.cons (show RelV (.ref a) (.ref a) from rfl) (.cons ry .nil)) h) (fun r s' z => ?_) fun _ _ e => e)
  obtain ⟨z, H', I', rz, c, ez, q⟩ := z
  subst ez
  cases (show r = Value.ref c from rz)
  exact ⟨.ref c, H', I', rfl, q⟩
/-- k * o: the int declines, then the class's own method -/
theorem rmul_own {prog : Program} {w : World} {A : Around} {E : Value → Shared → Prop} {s : Shared} {K : PySem.W.Frag} {x C f dx : Addr} {od : Option Obj} {i : Int} {t : Tok} {Q : Value → Shared → Prop}
    (Xk : K.In s.heap) (I : PySem.W.InstAt s.heap x (PySem.W.instObj C dx) C od) (hc : PySem.W.selfFirst K C = true) (hm : PySem.W.findIn K (.ref C) "__mul__" = some (some (.ref f))) {g : Addr}
    (hs : PySem.W.findIn K (.ref C) "__rmul__" = some (some (.ref g))) (hf : PySem.W.isFn K (.ref g) = true) (hsub : PySem.W.subIn K (.ref C) (.type "int") = some false)
    (h : wpAny (model prog w) A (call (.ref g) [.ref x, .int i t]) (PySem.W.CmpBack Q) E s) : wpAny (model prog w) A (binaryOp .Mult (.int i t) (.ref x)) Q E s := by
  obtain ⟨cd, rest, hcd, hmm⟩ := PySem.W.ksp_first hc
  have one := PySem.W.ksp_try Xk I hs hf h
  have hat := I.at_
  obtain ⟨hh, gg, d, tt, os⟩ := s
  have L1 : PySem.W.Looks (model prog w) hh (typeOf (.ref x)) (.ref C) := I.type
  have L2 : PySem.W.Looks (model prog w) hh (typeOf (.int i t)) (.type "int") := PySem.W.Looks.of_pure rfl
  have L3 : PySem.W.Looks (model prog w) hh (fillsNumberSlot (.ref C) "mul") true := PySem.W.fills_K Xk hcd hmm hm
  have L4 : PySem.W.Looks (model prog w) hh (fillsNumberSlot (.type "int") "mul") true := PySem.W.Looks.of_pure F.fills_int_mul
  have L5 : PySem.W.Looks (model prog w) hh (isSubtype (.ref C) (.type "int")) false := PySem.W.looks_subIn Xk hsub
  have L7 : PySem.W.Looks (model prog w) hh (numberSlotInPython (.type "int") "mul") false := PySem.W.Looks.of_pure rfl
  have hne : (Value.type "int" == Value.ref C) = false := Bool.eq_false_iff.mpr fun q => by cases beq_iff_eq.mp q
  show wpAny _ _ (binaryOp .Mult (.int i t) (.ref x)) _ _ _
  unfold binaryOp
  refine wpAny_holding (wpAny_bind ?_)
  unfold binaryOp1
  refine wpAny_bind (L2.at (wpAny_bind (L1.at (wpAny_bind (L4.at ?_)))))
  simp only [hne, Bool.false_eq_true, if_false]
  ksp_lk
  refine wpAny_tryMethod_declines (typeIs_int _ i t) F.slot_int_mul (call_meets F.slot_int_mul (typeIs_int _ i t) F.entry_int_mul (F.args_int_mul_2 _ _) (int_mul_obj i t x C dx) ⟨hat, rfl, ?_⟩)
  ksp_lk
  refine wpAny_mono one (fun r s' hr' => ?_) fun _ _ e => e
  obtain ⟨v, rfl, hq⟩ := hr'
  ksp_lk
  exact hq
end
section
variable {X : Cx} {CX : CXT} {k : Nat} {C f : Addr} {fd : FuncData} {ps : List Str} {sp : Sp} {E : L2.St → XK}
/-- a dunder called where what may fly is told by the state -/
theorem dun_callS {A : Around} {pins : List (Addr × Obj)} {σ : L2.St} {H : Hp} {s : Shared} {vs : List V} {us : List Value} {Q : VK} {E : XK} (F : FnOk X.prog X.w X.K X.mg X.base CX k f fd ps sp)
    (hA : A.frames = X.A.frames) (hr : Room k A) (hb : Binds X.K fd ps []) (hx : PassesAt CX X σ E) (I : Inv X pins σ H s) (rv : Vals vs us) (h : sp vs H Q E) :
    wpAny (model X.prog X.w) A (call (.ref f) us) (EP X pins σ Q) X.xe s := by
  have e0 : Env0 X.prog X.w X.K X.mg X.base A X.stack s H := by
    have e := I.env0
    exact ⟨by rw [hA]; exact e.frames, e.mod, e.bs, e.bsz, e.funs, e.frf, e.hok, e.bare⟩
  have hl := F.len _ _ _ _ h
  refine wpAny_call (codeAny_mono (F.run A X.stack s H ⟨us, []⟩ us vs _ E hr e0 (by
    have := hb s us I.kIn (by rw [List.append_nil, ← rv.length]; exact hl)
    simpa using this) rv h) fun r s' hq => ?_)
  cases r with
  | error e => exact hx pins H s e s' I hq
  | ok fl =>
    cases fl with
    | ret w =>
      obtain ⟨z, H', I', rz, q⟩ := I.after hq
      exact ⟨z, H', I', rz, q⟩
    | next => exact False.elim hq
    | brk => exact False.elim hq
    | cont => exact False.elim hq
theorem pe_binO {op : Operator} {a b : Expr} {ta tb : TE} {pos : Pos} (F : FnOk X.prog X.w X.K X.mg X.base CX k f fd ps sp) (hr : Room k X.A) (hb : Binds X.K fd ps []) (hx : ∀ σ, PassesAt CX X σ (E σ)) (hc : PySem.W.selfFirst X.K C = true)
    (hs : PySem.W.findIn X.K (.ref C) (PySem.dunder op.info.2) = some (some (.ref f))) (hf : PySem.W.isFn X.K (.ref f) = true) (ha : PE X a ta) (hb' : PE X b tb) : PE X (.BinOp a op b pos) (fun σ H Q => tOp (rBinO C sp (E σ)) ta tb σ H Q) := by
  refine ⟨fun pins s σ H Q I h => ?_⟩
  refine wpAny_BinOp (binT ha hb' I h fun v u s2 x y H2 I2 rx ry h => ?_)
  obtain ⟨a, b, dx, dy, fs, gs, rfl, rfl, ha, hb2, h⟩ := h
  cases (show v = Value.ref a from rx)
  cases (show u = Value.ref b from ry)
  obtain ⟨mA, J, _⟩ := ins_get I2.hok ha
  obtain ⟨od, J, _⟩ := J.look
  obtain ⟨mB, J2, _⟩ := ins_get I2.hok hb2
  obtain ⟨od2, J2, _⟩ := J2.look
  obtain ⟨m, hF⟩ := I2.fr
  refine PySem.W.binop_K hF I2.ok.mod.kin J J2.type hc hs hf (wpAny_mono (dun_callS F rfl hr hb (hx σ) I2 (.cons (show RelV (.ref a) (.ref a) from rfl) (.cons (show RelV (.ref b) (.ref b) from rfl) .nil)) h) (fun r s' z => ?_) fun _ _ e => e)
  obtain ⟨z, H', I', rz, c, ez, q⟩ := z
  subst ez
  cases (show r = Value.ref c from rz)
  exact ⟨.ref c, H', I', rfl, q⟩
theorem pe_binI {op : Operator} {fo ro rc : Option Value} {a b : Expr} {ta tb : TE} {pos : Pos} (F : FnOk X.prog X.w X.K X.mg X.base CX k f fd ps sp) (hr : Room k X.A) (hb : Binds X.K fd ps []) (hx : ∀ σ, PassesAt CX X σ (E σ)) (hc : PySem.W.selfFirst X.K C = true)
    (hs : PySem.W.findIn X.K (.ref C) (PySem.dunder op.info.2) = some (some (.ref f))) (hf : PySem.W.isFn X.K (.ref f) = true) (hr' : PySem.W.findIn X.K (.ref C) (dunderR op.info.2) = some rc) (hp : rc = none ∨ ∃ g : Addr, rc = some (.ref g))
    (h1 : PySem.W.findIn X.K (.type "int") (PySem.dunder op.info.2) = some fo) (h2 : PySem.W.findIn X.K (.type "int") (dunderR op.info.2) = some ro) (hsub : PySem.W.subIn X.K (.type "int") (.ref C) = some false) (ha : PE X a ta) (hb' : PE X b tb) :
    PE X (.BinOp a op b pos) (fun σ H Q => tOp (rBinI C sp (E σ)) ta tb σ H Q) := by
  refine ⟨fun pins s σ H Q I h => ?_⟩
  refine wpAny_BinOp (binT ha hb' I h fun v u s2 x y H2 I2 rx ry h => ?_)
  obtain ⟨a, i, dx, fs, rfl, rfl, ha, h⟩ := h
  cases (show v = Value.ref a from rx)
  obtain ⟨t, rfl⟩ := (show ∃ t, u = Value.int i t from ry)
  obtain ⟨mA, J, _⟩ := ins_get I2.hok ha
  obtain ⟨od, J, _⟩ := J.look
  obtain ⟨m, hF⟩ := I2.fr
  refine PySem.W.ksp_binT (T := "int") hF I2.ok.mod.kin J rfl hc hs hf hr' hp h1 h2 hsub (wpAny_mono (dun_callS F rfl hr hb (hx σ) I2 (.cons (show RelV (.ref a) (.ref a) from rfl) (.cons ry .nil)) h) (fun r s' z => ?_) fun _ _ e => e)
  obtain ⟨z, H', I', rz, c, ez, q⟩ := z
  subst ez
  cases (show r = Value.ref c from rz)
  exact ⟨.ref c, H', I', rfl, q⟩
/-- k * o -/
def rBinR (C : Addr) (sp : Sp) (E : XK) : R2 := fun x y H Q => ∃ a i dx fs, x = .int i ∧ y = .ref a ∧ H a = some (.ins C dx fs) ∧ sp [.ref a, .int i] H (fun v H' => ∃ c, v = .ref c ∧ Q (.ref c) H') E
theorem pe_binR {g : Addr} {a b : Expr} {ta tb : TE} {pos : Pos} (F : FnOk X.prog X.w X.K X.mg X.base CX k f fd ps sp) (hr : Room k X.A) (hb : Binds X.K fd ps []) (hx : ∀ σ, PassesAt CX X σ (E σ)) (hc : PySem.W.selfFirst X.K C = true)
    (hm : PySem.W.findIn X.K (.ref C) "__mul__" = some (some (.ref g))) (hs : PySem.W.findIn X.K (.ref C) "__rmul__" = some (some (.ref f))) (hf : PySem.W.isFn X.K (.ref f) = true) (hsub : PySem.W.subIn X.K (.ref C) (.type "int") = some false)
    (ha : PE X a ta) (hb' : PE X b tb) : PE X (.BinOp a .Mult b pos) (fun σ H Q => tOp (rBinR C sp (E σ)) ta tb σ H Q) := by
  refine ⟨fun pins s σ H Q I h => ?_⟩
  refine wpAny_BinOp (binT ha hb' I h fun v u s2 x y H2 I2 rx ry h => ?_)
  obtain ⟨a, i, dx, fs, rfl, rfl, ha, h⟩ := h
  cases (show u = Value.ref a from ry)
  obtain ⟨t, rfl⟩ := (show ∃ t, v = Value.int i t from rx)
  obtain ⟨mA, J, _⟩ := ins_get I2.hok ha
  obtain ⟨od, J, _⟩ := J.look
  refine rmul_own I2.kIn J hc hm hs hf hsub (wpAny_mono (dun_callS F rfl hr hb (hx σ) I2 (.cons (show RelV (.ref a) (.ref a) from rfl) (.cons rx .nil)) h) (fun r s' z => ?_) fun _ _ e => e)
  obtain ⟨z, H', I', rz, c, ez, q⟩ := z
  subst ez
  cases (show r = Value.ref c from rz)
  exact ⟨.ref c, H', I', rfl, q⟩
end
end Wk
/-! An own class made within a try-suite: what its maker lets out is caught there. -/
namespace Wk
open PySem PySem.Spec PyProof.Rows L2
section
variable {X : Cx} {CX : CXT} {k : Nat} {f C : Addr} {fd : FuncData} {ps : List Str} {sp : Sp} {E : L2.St → XK} {x : Str} {p pos : Pos} {e : Expr} {es : List Expr} {t : TA}
/-- C(e, ..), at the slots σ -/
def tMakeS (C : Addr) (sp : Sp) (E : L2.St → XK) (t : TA) : TE := fun σ H Q => t σ H fun vs H1 => ∀ x dx, H1 x = none → H1 dx = none → dx ≠ x →
  sp (.ref x :: vs) (upd (upd H1 dx (.own x)) x (.ins C dx [])) (fun v H2 => v = .non ∧ Q (.ref x) H2) (E σ)
theorem makeS_run {pins : List (Addr × Obj)} {σ : L2.St} {H : Hp} {s : Shared} {Q : VK} {us : List Value} {vs : List V} {Y : XK} (M : Mk X.K C f) (F : FnOk X.prog X.w X.K X.mg X.base CX k f fd ps sp) (hr : Room (k + 1) X.A) (hb : Binds X.K fd ps []) (hx : PassesAt CX X σ Y)
    (I : Inv X pins σ H s) (r : Vals vs us) (h : ∀ x dx, H x = none → H dx = none → dx ≠ x → sp (.ref x :: vs) (upd (upd H dx (.own x)) x (.ins C dx [])) (fun v H2 => v = .non ∧ Q (.ref x) H2) Y) :
    wpAny (model X.prog X.w) X.A (call (.ref C) us) (EP X pins σ Q) X.xe s := by
  have q0 := h _ _ (I.hok.fresh (Nat.le_succ s.heap.objs.size)) (I.hok.fresh (Nat.le_refl s.heap.objs.size)) (Nat.ne_of_lt (Nat.lt_succ_self _))
  have J := Inv.made (C := C) I
  have rv : Vals (V.ref (s.heap.objs.size + 1) :: vs) (Value.ref (s.heap.objs.size + 1) :: us) := .cons rfl r
  have b := hb _ (Value.ref (s.heap.objs.size + 1) :: us) J.kIn (by rw [List.append_nil, ← rv.length]; exact F.len _ _ _ _ q0)
  rw [List.append_nil] at b
  refine wpAny_call (make_map (f := f) I.kIn M.makes M.init (beq_iff_eq.mp M.fn) (codeAny_mono (F.run _ X.stack _ _ _ _ _ _ Y (hr.make C us []) (J.env0.make C us []) b rv q0) ?_))
  rintro (e | fl) s' hq
  · exact hx pins _ _ e s' J hq
  · cases fl with
    | ret u =>
      obtain ⟨v, H', J', rv', ev, q⟩ := J.after hq
      subst ev
      exact ⟨rv', V.ref (s.heap.objs.size + 1), H', J', rfl, q⟩
    | next => exact False.elim hq
    | brk => exact False.elim hq
    | cont => exact False.elim hq
theorem pe_makeS (M : Mk X.K C f) (F : FnOk X.prog X.w X.K X.mg X.base CX k f fd ps sp) (hr : Room (k + 1) X.A) (hg : Gl X x) (hm : X.mg x = some (.ref C)) (hb : Binds X.K fd ps []) (hx : ∀ σ, PassesAt CX X σ (E σ))
    (ha : PA X (e :: es) t) (hdb : (x == ("__debug__" : Str)) = false := by decide) (he : starEach (e :: es) X.env = (false, eval e X.env) :: starEach es X.env := by rfl) (hpl : (backTo pos (starEach es X.env)).any (·.1) = false := by rfl) :
    PE X (.Call (.Name x p) (e :: es) [] pos) (tMakeS C sp E t) :=
  ⟨fun pins s σ H Q I h => wpAny_Call_Name_kw (ld_glob I hg hm (PySem.W.callWith_K (h₀ := X.base) I.ok.mod.kin M.kp (thn (ha.run pos pins s σ H _ I h) fun us s1 ⟨vs, H1, I1, r, q⟩ => ⟨I1.kIn, makeS_run M F hr hb (hx σ) I1 r q⟩) he hpl) hdb)⟩
end
end Wk
/-! A call with keywords within a try's body: what is raised is wished for at the caller's slots. -/
namespace Wk
open PySem PySem.Spec PyProof.Rows L2
/-- the reading: the values in their places, the keywords' values, then the promise -/
def tKwS (n m : Nat) (sp : Sp) (put : List V → List V → List V) (E : L2.St → XK) (ta tb : TA) : TE := fun σ H Q =>
  ta σ H fun xs H1 => tb σ H1 fun ys H2 => xs.length = n ∧ ys.length = m ∧ sp (put xs ys) H2 Q (E σ)
section
variable {X : Cx} {cx : CXT} {lv n : Nat} {fa : Addr} {dd : FuncData} {pn names : List Str} {pr : Sp} {Er : L2.St → XK} {nm : Str} {q1 q2 : Pos} {a0 : Expr} {as : List Expr} {kw : List Keyword} {ta tb : TA} {gg : List Value → List Value → List Value} {put : List V → List V → List V}
theorem pe_kwS (F : FnOk X.prog X.w X.K X.mg X.base cx lv fa dd pn pr) (room : Room lv X.A) (gl : Gl X nm) (at' : X.mg nm = some (.ref fa)) (keep : PySem.W.keepIn X.K (.ref fa) = true) (bn : KBn X.K dd pn n names gg put)
    (out : ∀ σ, PassesAt cx X σ (Er σ)) (pa : PA X (a0 :: as) ta) (pk : PK X kw tb) (named : (backToKw q2 (keywordEach kw X.env)).all (·.1.isSome) = true := by rfl)
    (which : (backToKw q2 (keywordEach kw X.env)).filterMap (·.1) = names := by rfl) (nodebug : (nm == ("__debug__" : Str)) = false := by decide)
    (first : starEach (a0 :: as) X.env = (false, eval a0 X.env) :: starEach as X.env := by rfl) (nostar : ((backTo q2 (starEach (a0 :: as) X.env)).any (·.1) || (backToKw q2 (keywordEach kw X.env)).any (·.1.isNone)) = false := by rfl) :
    PE X (.Call (.Name nm q1) (a0 :: as) kw q2) (tKwS n names.length pr put Er ta tb) := by
  constructor
  intro pins s σ H Q I h
  apply wpAny_Call_Name_kw
  refine ld_glob I gl at' ?_ nodebug
  apply PySem.W.callWith_KW (h₀ := X.base) I.ok.mod.kin keep named _ nostar first
  refine thn (pa.run q2 pins s σ H _ I h) ?_
  rintro us s1 ⟨xs, H1, I1, r1, h1⟩
  refine thn (pk.run q2 pins s1 σ H1 _ I1 h1) ?_
  rintro vs s2 ⟨ys, H2, I2, r2, l1, l2, h2⟩
  refine ⟨I2.kIn, ?_⟩
  rw [which]
  have both := bn.rel r1 r2
  have bt := bn.to s2 us vs I2.kIn (r1.length.symm.trans l1) (r2.length.symm.trans l2)
  refine wpAny_call (codeAny_mono (F.run X.A X.stack s2 H2 ⟨us, names.zip vs⟩ (gg us vs) (put xs ys) Q (Er σ) room I2.env0 bt both h2) ?_)
  rintro (e | fl) s3 hq
  · exact out σ pins H2 s2 e s3 I2 hq
  · match fl, hq with
    | .ret u, hq => exact I2.after hq
end
end Wk
/-! dict(d): a copy of a dict whose keys are tuples, no two of one hash. -/
namespace Wk
open PySem PySem.Spec PyProof.Rows L2
section
variable {prog : Program} {w : World} {K : Type} [DecidableEq K] {knd : HeapKind prog w K} {A : Around} {E : Value → Shared → Prop} {s : Shared}
theorem make_dictH {o : Addr} {more : List (K × Addr × Value)} {Q : Value → Shared → Prop} (hu : ∀ B : Around, B.units ≤ A.units + 2 → knd.room B) (hoS : (o == sysModules) = false) (hdo : s.heap.objs.size ≠ o)
    (ho : (s.heap.push { cls := .type "dict", data := .dict #[] }).DictOfH knd o more) (hsz : more.length ≤ sizeLine) (hty : ∀ x ∈ more, ({ s with heap := s.heap.push { cls := .type "dict", data := .dict #[] } } : Shared).TypeIs (.ref x.2.1) "tuple")
    (hap : (more.map fun x => knd.hash x.1).Nodup)
    (h : ∀ h', h'.DictOfH knd s.heap.objs.size more → Heap.SameBut s.heap.objs.size (s.heap.push { cls := .type "dict", data := .dict #[] }) h' → Q (.ref s.heap.objs.size) { s with heap := h' }) :
    wpAny (model prog w) A (call (.type "dict") [.ref o]) Q E s := by
  refine callType_codes (Q₁ := fun obj s₁ => obj = .ref s.heap.objs.size ∧ s₁ = { s with heap := s.heap.push { cls := .type "dict", data := .dict #[] } }) F.kt_called_dict (F.kt_typeCall_dict_1 _) F.entry_dict_init (kt_code_dict_new _ ⟨rfl, rfl⟩) ?_
  rintro obj s₁ ⟨rfl, rfl⟩
  have hnew : (s.heap.push { cls := .type "dict", data := .dict #[] }).DictOfH knd s.heap.objs.size [] := Heap.DictOfH.new s.heap
  have hn : (more.map (·.1)).Nodup := ho.nodup
  have hT : ({ s with heap := s.heap.push { cls := .type "dict", data := .dict #[] } } : Shared).TypeIs (.ref s.heap.objs.size) "dict" := Heap.DictOfH.typeIs (s := { s with heap := s.heap.push { cls := .type "dict", data := .dict #[] } }) hnew
  have hO : ({ s with heap := s.heap.push { cls := .type "dict", data := .dict #[] } } : Shared).TypeIs (.ref o) "dict" := Heap.DictOfH.typeIs (s := { s with heap := s.heap.push { cls := .type "dict", data := .dict #[] } }) ho
  refine ⟨hT, F.args_dict_init_2 _ _, ?_⟩
  unfold Builtin.«dict.__init__»
  refine wpAny_bind ?_
  unfold Builtin.Dict.selfAndRest
  refine wpAny_bind (wpAny_notOrdered_dict hT ?_)
  show wpAny _ _ (pure (s.heap.objs.size, [Value.ref o])) _ _ _
  refine wpAny_pure ?_
  show wpAny _ _ (Builtin.Dict.updateFrom "dict.__init__" s.heap.objs.size (.ref o) [] .none) _ _ _
  unfold Builtin.Dict.updateFrom
  refine wpAny_bind (wpAny_typeOf hO ?_)
  rw [if_neg (by decide)]
  refine wpAny_bind ?_
  unfold Builtin.Dict.merge
  refine wpAny_bind ?_
  unfold Builtin.Dict.readDirectly
  refine wpAny_bind (wpAny_isInstance hO isSubtype_dict_dict ?_)
  simp only [Bool.not_true, Bool.false_eq_true, if_false]
  refine wpAny_bind (wpAny_specialOf hO F.slot_dict_iter.lookup (wpAny_pure ?_))
  simp only [beq_self_eq_true, if_true]
  refine wpAny_bind (wpAny_pure ?_)
  refine wpAny_mergeDict_heap (hsz := by simpa using hsz) (hu _ ?_) hdo hoS hnew ho (.inr ⟨hty, hap⟩) fun h' hd' _ hs' => ?_
  · exact Nat.le_refl _
  show wpAny _ _ (Builtin.Dict.addKeywords s.heap.objs.size [] >>= _) _ _ _
  rw [storedAllH_nil_of_nodup more hn] at hd'
  exact wpAny_bind (wpAny_pure (wpAny_pure ⟨rfl, h h' hd' hs'⟩))
end
/-- what dict(d) asks and gives -/
def rDictD (P : Program) (w : World) : List V → Hp → VK → Prop := fun xs H Q => ∃ (a : Addr) (kvs : List (List Key × V)), xs = [.ref a] ∧ H a = some (.dT kvs) ∧ (kvs.map fun kv => tupleKeyHash (mixKind P w) kv.1).Nodup ∧ ∀ p, H p = none → Q (.ref p) (upd H p (.dT kvs))
theorem call_dictDT {X : Cx} (hu : X.A.units + 64 < cLine) : CallR X (.type "dict") (rDictD X.prog X.w) := by
  intro pins s σ H xs us Q I r q
  obtain ⟨a, kvs, rfl, ha, hap, q⟩ := q
  obtain ⟨u, rfl, rx⟩ := r.one
  cases rx
  have I0 : Inv X pins σ H { s with heap := s.heap.push { cls := .type "dict", data := .dict #[] } } := I.kept (t' := s.toks) fun b o e => Heap.get?_push_of_some _ e
  obtain ⟨z, hoS, xs, r1, ho⟩ := dt_of I0.hok ha
  have hal : a < s.heap.objs.size := (I.hok a _ ha).lt
  have hk : xs.map (·.1) = kvs.map (·.1) := by
    clear ho hap q z ha
    induction r1 with
    | nil => rfl
    | cons h t ih => rw [List.map_cons, List.map_cons, ih, h.1]
  have hl : xs.length = kvs.length := by have := congrArg List.length hk; rwa [List.length_map, List.length_map] at this
  have hm : (s.heap.objs.size == sysModules) = false := beq_eq_false_iff_ne.mpr (Nat.ne_of_gt I.big)
  refine make_dictH (knd := tupleKind (mixKind X.prog X.w)) (more := xs) (fun B hB => ?_) hoS (Ne.symm (Nat.ne_of_lt hal)) ho (by rw [hl]; exact z) (fun x hx => ?_) ?_ fun h' hd hs => ?_
  · show B.units < cLine
    omega
  · obtain ⟨_, _, _, _, _, _, _, his, _⟩ := ho
    obtain ⟨o, its, n, h1, h2, _⟩ := his x hx
    exact ⟨o, h1, h2⟩
  · have e : (xs.map fun x => (tupleKind (mixKind X.prog X.w)).hash x.1) = (xs.map (·.1)).map (tupleKeyHash (mixKind X.prog X.w)) := by rw [List.map_map]; rfl
    rw [e, hk, List.map_map]
    exact hap
  · obtain ⟨o, es, ep, g1, g2, g3, g4, _, g6⟩ := hd
    have hf : H s.heap.objs.size = none := I.hok.fresh (Nat.le_refl _)
    exact ⟨.ref s.heap.objs.size, upd H s.heap.objs.size (.dT kvs), I.laid (t' := s.toks) (fun b u e => (hs.2 b (Nat.ne_of_lt (Heap.lt_size e))).trans (Heap.get?_push_of_some _ e)) (Nat.le_refl _)
      (show ObjOk X.prog X.w _ _ _ (.dT kvs) from ⟨z, hm, xs, r1.keeps (fun b ys e => by rw [upd_ne (ne_of_none e hf)]; exact e), o, es, ep, g1, g2, g3, g4, g6⟩), rfl, q _ hf⟩
/-! ### hashes of pairs of small numbers -/
def hp (p : Nat × Nat) : Int := reduceHash (Builtin.Tuple.tupleHashOf [hashInt (p.1 : Int), hashInt (p.2 : Int)])
def res (p : Nat × Nat) : Nat := (hp p % 65536).toNat
def seenAll : List (Nat × Nat) → Nat → Bool
  | [], _ => true
  | p :: l, m => !(m.testBit (res p)) && seenAll l (m ||| (1 <<< res p))
def pairs60 : List (Nat × Nat) := (List.range 60).flatMap fun v => (List.range v).map fun u => (u, v)
theorem seen_pairs : seenAll pairs60 0 = true := by decide +kernel
theorem bit_or {m i j : Nat} (h : m.testBit i = true ∨ i = j) : (m ||| (1 <<< j)).testBit i = true := by
  rw [Nat.testBit_or, Bool.or_eq_true]
  rcases h with h | rfl
  · exact .inl h
  · right
    rw [Nat.testBit_shiftLeft]
    simp
theorem seen_ok : ∀ {l : List (Nat × Nat)} {m : Nat}, seenAll l m = true → (∀ p ∈ l, m.testBit (res p) = false) ∧ l.Pairwise fun p q => res p ≠ res q
  | [], _, _ => ⟨fun p h => (by cases h), .nil⟩
  | p :: l, m, h => by
    unfold seenAll at h
    obtain ⟨h1, h2⟩ := Bool.and_eq_true_iff.mp h
    have h1 : m.testBit (res p) = false := by simpa using h1
    obtain ⟨i1, i2⟩ := seen_ok h2
    refine ⟨fun q hq => ?_, List.pairwise_cons.mpr ⟨fun q hq e => ?_, i2⟩⟩
    · rcases List.mem_cons.mp hq with rfl | hq
      · exact h1
      · cases hb : m.testBit (res q) with
        | false => rfl
        | true =>
          have := i1 q hq
          rw [bit_or (.inl hb)] at this
          cases this
    · have := i1 q hq
      rw [bit_or (.inr e.symm)] at this
      cases this
theorem pairwise_mem {α : Type} {R : α → α → Prop} : ∀ {l : List α}, l.Pairwise R → ∀ {p q : α}, p ∈ l → q ∈ l → p = q ∨ R p q ∨ R q p
  | a :: l, h, p, q, hp, hq => by
    obtain ⟨h1, h2⟩ := List.pairwise_cons.mp h
    rcases List.mem_cons.mp hp with e | hp'
    · rcases List.mem_cons.mp hq with e' | hq'
      · exact .inl (e.trans e'.symm)
      · rw [e]; exact .inr (.inl (h1 q hq'))
    · rcases List.mem_cons.mp hq with e' | hq'
      · rw [e']; exact .inr (.inr (h1 p hp'))
      · exact pairwise_mem h2 hp' hq'
theorem in_pairs {a b : Nat} (h1 : a < b) (h2 : b < 60) : (a, b) ∈ pairs60 := List.mem_flatMap.mpr ⟨b, List.mem_range.mpr h2, List.mem_map.mpr ⟨a, List.mem_range.mpr h1, rfl⟩⟩
/-- no two pairs of places of one hash -/
theorem hash_pair {P : Program} {w : World} {a b c d : Int} (h1 : 0 ≤ a) (h2 : a < b) (h3 : b < 60) (k1 : 0 ≤ c) (k2 : c < d) (k3 : d < 60)
    (e : tupleKeyHash (mixKind P w) [.inl a, .inl b] = tupleKeyHash (mixKind P w) [.inl c, .inl d]) : a = c ∧ b = d := by
  have ea : a = (a.toNat : Int) := (Int.toNat_of_nonneg h1).symm
  have eb : b = (b.toNat : Int) := (Int.toNat_of_nonneg (by omega)).symm
  have ec : c = (c.toNat : Int) := (Int.toNat_of_nonneg k1).symm
  have ed : d = (d.toNat : Int) := (Int.toNat_of_nonneg (by omega)).symm
  have e' : hp (a.toNat, b.toNat) = hp (c.toNat, d.toNat) := by
    rw [ea, eb, ec, ed] at e
    exact e
  have hr : res (a.toNat, b.toNat) = res (c.toNat, d.toNat) := by unfold res; rw [e']
  rcases pairwise_mem (seen_ok seen_pairs).2 (in_pairs (a := a.toNat) (b := b.toNat) (by omega) (by omega)) (in_pairs (a := c.toNat) (b := d.toNat) (by omega) (by omega)) with z | z | z
  · obtain ⟨z1, z2⟩ := Prod.mk.inj z
    omega
  · exact absurd hr z
  · exact absurd hr.symm z
end Wk
/-! o[i] = v and o += y by a class's own methods; o[i] as the first step of o[i] += y. -/
namespace Wk
open PySem PySem.Spec PyProof.Rows L2
section
variable {X : Cx} {CX : CXT} {k : Nat} {C f : Addr} {fd : FuncData} {ps : List Str} {sp : Sp} {E : XK}
/-- o[i], as PGet -/
theorem get_own (F : FnOk X.prog X.w X.K X.mg X.base CX k f fd ps sp) (hr : Room k X.A) (hb : Binds X.K fd ps []) (hx : Passes CX X E) (hq : PySem.W.noSeq X.K C = true)
    (hs : PySem.W.findIn X.K (.ref C) "__getitem__" = some (some (.ref f))) (hf : PySem.W.isFn X.K (.ref f) = true) : PGet X (rIxO C sp E) := by
  intro pins s σ H o i ov iv Q I ro ri h
  obtain ⟨a, dx, fs, rfl, ha, h⟩ := h
  cases (show ov = Value.ref a from ro)
  obtain ⟨mA, J, _⟩ := ins_get I.hok ha
  obtain ⟨od, J, _⟩ := J.look
  obtain ⟨m, hF⟩ := I.fr
  exact PySem.W.getItem_K hF I.ok.mod.kin J hq hs hf (dun_call F rfl hr hb hx I (.cons (show RelV (.ref a) (.ref a) from rfl) (.cons ri .nil)) h)
/-- o[i] = v -/
def rSetO (C : Addr) (sp : Sp) (E : XK) : TSet := fun o i v H Q => ∃ a dx fs, o = .ref a ∧ H a = some (.ins C dx fs) ∧ sp [.ref a, i, v] H (fun _ H' => Q H') E
theorem set_own (F : FnOk X.prog X.w X.K X.mg X.base CX k f fd ps sp) (hr : Room k X.A) (hb : Binds X.K fd ps []) (hx : Passes CX X E) (hq : PySem.W.noSeq X.K C = true)
    (hs : PySem.W.findIn X.K (.ref C) "__setitem__" = some (some (.ref f))) (hf : PySem.W.isFn X.K (.ref f) = true) : PSet X (rSetO C sp E) := by
  intro pins s σ H o i v ov iv u Q I ro ri rv h
  obtain ⟨a, dx, fs, rfl, ha, h⟩ := h
  cases (show ov = Value.ref a from ro)
  obtain ⟨mA, J, _⟩ := ins_get I.hok ha
  obtain ⟨od, J, _⟩ := J.look
  obtain ⟨m, hF⟩ := I.fr
  refine PySem.W.ksp_setItem hF I.ok.mod.kin J hq hs hf (wpAny_mono (dun_call F rfl hr hb hx I (.cons (show RelV (.ref a) (.ref a) from rfl) (.cons ri (.cons rv .nil))) h) (fun r s' z => ?_) fun _ _ e => e)
  obtain ⟨z, H', I', rz, q⟩ := z
  exact ⟨H', I', q⟩
end
section
variable {X : Cx} {CX : CXT} {k : Nat} {C f : Addr} {fd : FuncData} {ps : List Str} {sp : Sp} {E : L2.St → XK}
/-- name += y, the class's own method, which tells an object -/
def tAugO (i : Nat) (C : Addr) (sp : Sp) (E : L2.St → XK) (te : TE) : TS := fun D σ H => ∃ a, σ[i]? = some (some (.ref a)) ∧ te σ H fun y H1 => ∃ dx fs, H1 a = some (.ins C dx fs) ∧ sp [.ref a, y] H1 (fun v H2 => ∃ c, v = .ref c ∧ D.nx (σ.set i (some (.ref c))) H2) (E σ)
theorem ps_augO {i : Nat} {x : Str} {e : Expr} {te : TE} {op : Operator} {pos pos' : Pos} (F : FnOk X.prog X.w X.K X.mg X.base CX k f fd ps sp) (hr : Room k X.A) (hb : Binds X.K fd ps []) (hxx : ∀ σ, PassesAt CX X σ (E σ)) (hc : PySem.W.selfFirst X.K C = true)
    (hs : PySem.W.findIn X.K (.ref C) (dunderI op.info.2) = some (some (.ref f))) (hff : PySem.W.isFn X.K (.ref f) = true)
    (hN : X.N.Nodup) (hi : X.N[i]? = some x) (hx : Loc X.env.scope x) (he : PE X e te) (hf : X.fn x = true ∨ X.env.scope.names.lookup x = some .local := by first | exact .inl rfl | exact .inr rfl | assumption) :
    PS X (.AugAssign (.Name x pos') op e pos) (tAugO i C sp E te) := by
  refine ⟨fun pins s σ H D I h => ?_⟩
  obtain ⟨a, e1, h⟩ := h
  obtain ⟨m, hn, hl⟩ := I.loc
  have vis : Vis X.env.scope x := by rcases hx with k | k; exact .inl k; exact .inr (.inl k)
  obtain ⟨u, r, l⟩ := hl i x (.ref a) hi e1 vis
  cases (show u = Value.ref a from r)
  refine wpAny_AugAssign_Name ?_
  have go : wpAny (model X.prog X.w) X.A (eval e X.env) (fun w s₂ => wpAny (model X.prog X.w) X.A (inplaceOp op (.ref a) w) (fun r s₃ => wpAny (model X.prog X.w) X.A (storeName X.env x r) (fun _ => SP X pins D .next) X.xe s₃) X.xe s₂) X.xe s := by
    refine thn (he.run pins s σ H _ I h) fun w s1 ⟨y, H1, I1, r1, dx, fs, ha, q1⟩ => ?_
    obtain ⟨mA, J, _⟩ := ins_get I1.hok ha
    obtain ⟨od, J, _⟩ := J.look
    obtain ⟨m, hF⟩ := I1.fr
    refine PySem.W.ksp_inplace hF I1.ok.mod.kin J hc hs hff (wpAny_mono (dun_callS F rfl hr hb (hxx σ) I1 (.cons (show RelV (.ref a) (.ref a) from rfl) (.cons r1 .nil)) q1) (fun r s' z => ?_) fun _ _ e => e)
    obtain ⟨z, H', I', rz, c, ez, q⟩ := z
    subst ez
    cases (show r = Value.ref c from rz)
    exact store_ok I' hN hi hx (show RelV (.ref c) (.ref c) from rfl) (fun s3 I3 => ⟨_, H', I3, q⟩) hf
  rcases l with ⟨hk, hm⟩ | ⟨hk, c, hc, hcell⟩
  · exact wpAny_loadName_local I.ok.kind hk hn hm go
  · rcases hk with hk | hk
    · exact wpAny_loadName_cell I.ok.kind hk hc hcell go
    · rcases hx with k | k
      · have : X.env.scope.names.lookup x = some .free := hk
        rw [k] at this; cases this
      · have : X.env.scope.names.lookup x = some .free := hk
        rw [k] at this; cases this
/-- o.m(e, ..) where what may fly is told by the state -/
theorem pe_methT {pl : Sem Bool} {o e : Expr} {es : List Expr} {m : Str} {apos pos : Pos} {ta : TE} {t : TA} (he : PE X o ta) (c : Cls X.K C) (hm : Meth X.K C m f) (F : FnOk X.prog X.w X.K X.mg X.base CX k f fd ps sp) (hr : Room k X.A) (hb : Binds X.K fd ps []) (hx : ∀ σ, PassesAt CX X σ (E σ)) (ha : PA X (e :: es) t)
    (hst : starEach (e :: es) X.env = (false, eval e X.env) :: starEach es X.env := by rfl) (hpl : (backTo pos (starEach es X.env)).any (·.1) = false := by rfl)
    (ht : eval (.Call (.Attribute o m apos) (e :: es) [] pos) X.env = (do
      let ov ← eval o X.env
      standAt apos.atName
      let (f, first) ← holding [ov] (getMethod ov m pl)
      callWith pos f first (backTo pos (starEach (e :: es) X.env)) (backToKw pos (keywordEach [] X.env))) := by rfl) :
    PE X (.Call (.Attribute o m apos) (e :: es) [] pos) (fun σ H Q => tMeth C m sp [] (E σ) ta t σ H Q) := by
  refine ⟨fun pins s σ H Q I h => ?_⟩
  refine PySem.W.methodCall_KW (pl := pl) (thn (he.run pins s σ H _ I h) fun u s1 ⟨x, H1, I1, rx, a, dx, fs, ex, ea, l, q⟩ => ?_) ht
  subst ex
  obtain rfl : u = Value.ref a := rx
  refine getmeth_ok I1 ea c hm l ?_
  refine PySem.W.callWith_K (first := [.ref a]) (h₀ := X.base) I.ok.mod.kin hm.kp (thn (ha.run pos pins s1 σ H1 _ I1 q) fun us s2 ⟨vs, H2, I2, r, q2⟩ => ⟨I2.kIn, ?_⟩) hst hpl
  have q2 : sp (.ref a :: (vs ++ [])) H2 Q (E σ) := q2
  rw [List.append_nil] at q2
  exact dun_callS (vs := .ref a :: vs) (us := .ref a :: us) F rfl hr hb (hx σ) I2 (.cons rfl r) q2
end
end Wk
/-! zip of two tuples, as a walk -/
namespace Wk
open PySem PySem.Spec PyProof.Rows L2 RZ
theorem walk_zipT {K : PySem.W.Frag} {a b : Addr} {xs ys : List V} {n : Nat} (e1 : xs.length = n) (e2 : ys.length = n) : Walk (ItzT K a b) n (fun H => SqT K H a xs ∧ SqT K H b ys) (YPair (fun i => xs[i]?) (fun i => ys[i]?)) := by
  refine ⟨fun i H hi q => ?_, fun H q => ?_, fun i H x H' hi q y => ?_⟩
  · have h1 : i < xs.length := by omega
    have h2 : i < ys.length := by omega
    exact ⟨xs, ys, _, _, q.1, q.2, List.getElem?_eq_getElem h1, List.getElem?_eq_getElem h2⟩
  · exact ⟨xs, ys, q.1, q.2, Or.inl (by omega)⟩
  · obtain ⟨T, x', y', rfl, hT, rfl, f1, f2⟩ := y
    exact ⟨T, x', y', rfl, hT, rfl, f1 xs q.1, f2 ys q.2⟩
end Wk
/-! Reading by itself: what stands where, new addresses, defs of the module. -/
namespace Vb
open PySem PySem.Spec PyProof.Rows L2 Wk
/-- an address that is not yet in use -/
def New (H : Hp) (p : Addr) : Prop := H p = none
theorem same_new {H : Hp} {p : Addr} {o : HO} (h : New H p) : Same H (upd H p o) := fun b x e => by
  rw [upd_ne (ne_of_none e h)]
  exact e
theorem hp_new {H : Hp} {p a : Addr} {u o : HO} (h : New H p) (e : H a = some o) : upd H p u a = some o := same_new h _ _ e
theorem hp_same {H H' : Hp} {a : Addr} {o : HO} (s : Same H H') (e : H a = some o) : H' a = some o := s _ _ e
theorem hp_ne {H : Hp} {p a : Addr} {u o : HO} (n : a ≠ p) (e : H a = some o) : upd H p u a = some o := by rw [upd_ne n]; exact e
theorem ne_new {H : Hp} {a b : Addr} {o : HO} (h : New H b) (e : H a = some o) : a ≠ b := ne_of_none e h
theorem to_new {H0 H : Hp} {p : Addr} {u : HO} (h : New H p) (s : Same H0 H) : Same H0 (upd H p u) := s.trans (same_new h)
theorem over {H0 H : Hp} {p : Addr} {u : HO} (h : New H0 p) (s : Same H0 H) : Same H0 (upd H p u) := fun b x e => by
  rw [upd_ne (ne_of_none e h)]
  exact s _ _ e
theorem new_back {H H' : Hp} {p : Addr} (h : New H' p) (s : Same H H') : New H p := s.free h
theorem sqL_same {K : PySem.W.Frag} {H H' : Hp} {a : Addr} {xs : List V} (s : Same H H') (h : SqL K H a xs) : SqL K H' a xs := h.ext s
theorem sqL_new {K : PySem.W.Frag} {H : Hp} {a p : Addr} {u : HO} {xs : List V} (n : New H p) (h : SqL K H a xs) : SqL K (upd H p u) a xs := h.ext (same_new n)
theorem sqT_same {K : PySem.W.Frag} {H H' : Hp} {a : Addr} {xs : List V} (s : Same H H') (h : SqT K H a xs) : SqT K H' a xs := h.ext s
theorem sqT_new {K : PySem.W.Frag} {H : Hp} {a p : Addr} {u : HO} {xs : List V} (n : New H p) (h : SqT K H a xs) : SqT K (upd H p u) a xs := h.ext (same_new n)
/-- a list that is tracked is changed: tuples stay -/
theorem sqT_set {K : PySem.W.Frag} {H : Hp} {a p : Addr} {ys zs xs : List V} (e : H p = some (.lst ys)) (h : SqT K H a xs) : SqT K (upd H p (.lst zs)) a xs := by
  rcases h with (h | ⟨o, h⟩) | h
  · exact .inl (.inl (by rw [upd_ne (fun z => by rw [z, e] at h; cases h)]; exact h))
  · exact .inl (.inr ⟨o, by rw [upd_ne (fun z => by rw [z, e] at h; cases h)]; exact h⟩)
  · exact .inr h
theorem map_get {ns : List Int} {i : Nat} {x : V} (h : (ns.map V.int)[i]? = some x) : ∃ z, ns[i]? = some z ∧ x = V.int z := by
  rw [List.getElem?_map] at h
  cases e : ns[i]? with
  | none => rw [e] at h; cases h
  | some z => rw [e] at h; exact ⟨z, rfl, (Option.some.inj h).symm⟩
theorem take_snoc {α : Type} {xs : List α} {i : Nat} {z : α} (h : xs[i]? = some z) : xs.take (i + 1) = xs.take i ++ [z] := by rw [List.take_add_one, h]; rfl
/-- tuples stay -/
def TS (H H' : Hp) : Prop := ∀ t xs, H t = some (.tup xs) → H' t = some (.tup xs)
theorem TS.refl (H : Hp) : TS H H := fun _ _ h => h
theorem TS.of {H H' : Hp} (s : Same H H') : TS H H' := fun t xs h => s t _ h
theorem TS.trans {H H1 H2 : Hp} (a : TS H H1) (b : TS H1 H2) : TS H H2 := fun t xs h => b t xs (a t xs h)
theorem TS.ins {H : Hp} {w C dx : Addr} {fs : List (Str × V)} {o : HO} (h : H w = some (.ins C dx fs)) : TS H (upd H w o) := fun t xs e => by
  rw [upd_ne (fun z => by rw [z, h] at e; cases e)]; exact e
theorem TS.lst {H : Hp} {w : Addr} {ys : List V} {o : HO} (h : H w = some (.lst ys)) : TS H (upd H w o) := fun t xs e => by
  rw [upd_ne (fun z => by rw [z, h] at e; cases e)]; exact e
/-- a def of the module, its promise kept -/
structure Own (P : Program) (w : World) (K : PySem.W.Frag) (mg : Str → Option Value) (base : Heap) (CX : CXT) (k : Nat) (x : Str) (ps : List Str) (sp : Sp) : Prop where
  ex : ∃ f fd, FnOk P w K mg base CX k f fd ps sp ∧ mg x = some (.ref f) ∧ PySem.W.keepIn K (.ref f) = true ∧ Binds K fd ps []
section
variable {X : Cx} {CX : CXT} {k : Nat} {ps : List Str} {sp : Sp} {x : Str} {p pos : Pos} {e : Expr} {es : List Expr} {t : TA} {E : XK}
theorem pe_own (o : Own X.prog X.w X.K X.mg X.base CX k x ps sp) (hr : Room k X.A) (hx : Passes CX X E) (ha : PA X (e :: es) t) (hg : Gl X x := by rfl) (hdb : (x == ("__debug__" : Str)) = false := by decide)
    (he : starEach (e :: es) X.env = (false, eval e X.env) :: starEach es X.env := by rfl) (hpl : (backTo pos (starEach es X.env)).any (·.1) = false := by rfl) : PE X (.Call (.Name x p) (e :: es) [] pos) (tCall sp [] E t) := by
  obtain ⟨f, fd, F, m, kp, b⟩ := o.ex
  exact pe_call F hr hg m kp b .nil hx ha hdb he hpl
end
end Vb
/-! A new object: what stands then. -/
namespace Vb
open PySem PySem.Spec PyProof.Rows L2 Wk
theorem al_s {H H' : Hp} {p : Addr} {o : HO} (n : New H p) (hh : upd H p o = H') : Same H H' := hh ▸ same_new n
theorem al_e {H H' : Hp} {p : Addr} {o : HO} (hh : upd H p o = H') : H' p = some o := hh ▸ upd_same
theorem st {H H1 H' : Hp} (b : Same H1 H') (a : Same H H1) : Same H H' := a.trans b
theorem sl {K : PySem.W.Frag} {H : Hp} {a : Addr} {xs : List V} (h : H a = some (.lst xs)) : SqL K H a xs := .inl (.inl h)
theorem stu {K : PySem.W.Frag} {H : Hp} {a : Addr} {xs : List V} (h : H a = some (.tup xs)) : SqT K H a xs := .inl (.inl h)
theorem ne_s {H H' : Hp} {a b : Addr} {o : HO} (h : New H' b) (e : H a = some o) (s : Same H H') : a ≠ b := ne_new h (s _ _ e)
theorem cutN (xs : List V) (n : Nat) : cutV xs none (some (n : Int)) = xs.take n := by
  unfold cutV
  rw [HT.sIx_none, show HT.sIx xs.length xs.length (some (n : Int)) = min n xs.length from HT.sIx_nat xs.length xs.length n]
  rw [List.drop_zero, Nat.sub_zero]
  by_cases h : xs.length ≤ n
  · rw [Nat.min_eq_right h, List.take_of_length_le (Nat.le_refl _), List.take_of_length_le h]
  · rw [Nat.min_eq_left (by omega)]
theorem ty_lst {K : PySem.W.Frag} {H : Hp} {a : Addr} {xs : List V} (h : H a = some (.lst xs)) : tyV K "list" (.ref a) H := .inl ⟨rfl, _, .inl (.inl h)⟩
theorem atI_nat {xs : List V} {n : Nat} {i : Int} {x : V} (e : i = (n : Int)) (h : xs[n]? = some x) : atI xs i = some x := by
  have hn := (List.getElem?_eq_some_iff.mp h).1
  subst e
  unfold atI ixN
  rw [if_pos (by omega), if_pos (by omega)]
  exact h
end Vb
/-! What a caller says of an own error, told of a heap to which objects were added. -/
namespace Wk
open PySem PySem.Spec PyProof.Rows L2 StX
theorem cxUpN {P : Program} {w : World} : CXUp (L2N.CX P w) := by
  rintro outer s H s2 H2 E e s' un kp ho ⟨a, B, H', cls, d, ea, fl, hok, ub, na, os, ag, he⟩
  refine ⟨a, B, H', cls, d, ea, fl, hok, ⟨fun b o q n hb => ub.keep b o (kp b o q) (un.free b o q n (by simp)) hb, fun b o q hb => ub.slot b o (kp b o q) hb, fun b o q n => ub.free b o (kp b o q) (un.free b o q n (by simp)),
    fun b o q hb => ub.there b o (kp b o q) hb, fun b xs q => ub.tups b xs (un.tups b xs q), fun b o xs q => ub.frzs b o xs (un.frzs b o xs q), fun b ps q => ?_⟩, na, os.trans ho, ag, he⟩
  obtain ⟨m1, e1⟩ := un.tbls b ps q
  obtain ⟨m2, e2⟩ := ub.tbls b _ e1
  exact ⟨m1 ++ m2, by rw [e2, Array.append_assoc]⟩
end Wk
/-! bool(o), str(o) by a class's own methods. -/
namespace Wk
open PySem PySem.Spec PyProof.Rows L2 PySem.W
section
variable {prog : Program} {w : World} {A : Around} {E : Value → Shared → Prop} {s : Shared} {K : PySem.W.Frag} {x C f : Addr} {ox : Obj} {od : Option Obj} {h₀ : Heap} {L : List (Addr × List (Str × Value))}
open Builtin in
theorem bool_own {Q : Value → Shared → Prop} (ht : wpAny (model prog w) A.in1.in1 (truthy (.ref x)) (fun b s₁ => Q (.bool b) s₁) E s) : wpAny (model prog w) A (call (.type "bool") [.ref x]) Q E s := by
  refine callType_codes (T := "bool") (Bi := Builtin.«object.__init__») (Q₁ := fun r s₁ => ∃ b, r = .bool b ∧ Q r s₁) PySem.F.called_bool (PySem.F.typeCall_bool_1 _) PySem.F.entry_object_init ?_ ?_
  · refine codeAny_of_tree ?_
    show wpAny _ A.in1.in1 (do checkBuiltinCall "bool.__new__" ⟨[.type "bool", .ref x], []⟩; again (.builtin "bool.__new__" ⟨[.type "bool", .ref x], []⟩)) _ _ s
    refine wpAny_bind (wpAny_of_eq (PySem.F.newCall_bool_1 _) (wpAny_pure ⟨plainId_quiet (by decide +kernel) _, codeAny_builtin PySem.F.entry_bool_new ?_⟩))
    rw [Around.under_plainId (by decide +kernel) _]
    have f1 := F.conv_sub_bool
    unfold Builtin.«bool.__new__»
    repeat (any_goals (first | assumption | (with_reducible refine wpAny_bind (wpAny_mono ht (fun b s₁ hq => ?_) fun _ _ y => y)) | wp_step))
    exact ⟨_, rfl, hq⟩
  · rintro obj s₁ ⟨b, rfl, hq⟩
    exact ⟨rfl, PySem.F.args_object_init_2 _ _, object_init_meets PySem.F.called_bool.init.lookup PySem.F.called_bool.made (by decide) prog w A.in1 _ s₁ ⟨rfl, rfl, hq⟩⟩
end
section
variable {X : Cx} {CX : CXT} {k : Nat} {C f : Addr} {fd : FuncData} {ps : List Str} {sp : Sp} {E : XK}
def rBoolO (C : Addr) (sp : Sp) (E : XK) : List V → Hp → VK → Prop := fun xs H Q => ∃ a dx fs, xs = [.ref a] ∧ H a = some (.ins C dx fs) ∧ sp [.ref a] H (fun v H' => ∃ b, v = .bl b ∧ Q (.bl b) H') E
theorem call_boolO (F : FnOk X.prog X.w X.K X.mg X.base CX k f fd ps sp) (hr : Room (k + 2) X.A) (hb : Binds X.K fd ps []) (hx : Passes CX X E)
    (hs : PySem.W.findIn X.K (.ref C) "__bool__" = some (some (.ref f))) (hf : PySem.W.isFn X.K (.ref f) = true) : CallR X (.type "bool") (rBoolO C sp E) := by
  intro pins s σ H xs us Q I rv h
  obtain ⟨a, dx, fs, rfl, ha, h⟩ := h
  rw [Vals.ref1 rv]
  obtain ⟨mA, J, _⟩ := ins_get I.hok ha
  obtain ⟨od, J, _⟩ := J.look
  obtain ⟨m, hF⟩ := I.fr
  have hr2 : Room k X.A.in1.in1 := (show Room (k + 1) X.A.in1 from Room.in1 hr).in1
  refine bool_own (PySem.W.truthy_K hF I.ok.mod.kin J hs hf (wpAny_mono (dun_call (A := X.A.in1.in1) F rfl hr2 hb hx I (.cons (show RelV (.ref a) (.ref a) from rfl) .nil) h) (fun r s' z => ?_) fun _ _ e => e))
  obtain ⟨z, H', I', rz, b, ez, q⟩ := z
  subst ez
  cases rz
  exact ⟨.bl b, H', I', rfl, q⟩
def rStrO (C : Addr) (sp : Sp) (E : XK) : List V → Hp → VK → Prop := fun xs H Q => ∃ a dx fs, xs = [.ref a] ∧ H a = some (.ins C dx fs) ∧ sp [.ref a] H (fun v H' => ∃ z, v = .str z ∧ Q (.str z) H') E
theorem call_strO (F : FnOk X.prog X.w X.K X.mg X.base CX k f fd ps sp) (hr : Room (k + 2) X.A) (hb : Binds X.K fd ps []) (hx : Passes CX X E)
    (hs : PySem.W.findIn X.K (.ref C) "__str__" = some (some (.ref f))) (hf : PySem.W.isFn X.K (.ref f) = true) : CallR X (.type "str") (rStrO C sp E) := by
  intro pins s σ H xs us Q I rv h
  obtain ⟨a, dx, fs, rfl, ha, h⟩ := h
  rw [Vals.ref1 rv]
  obtain ⟨mA, J, _⟩ := ins_get I.hok ha
  obtain ⟨od, J, _⟩ := J.look
  have hr2 : Room k X.A.in1.in1 := (show Room (k + 1) X.A.in1 from Room.in1 hr).in1
  refine PySem.W.kso_call hr2.units0 I.kIn J hs hf (wpAny_mono (dun_call (A := X.A.in1.in1) F rfl hr2 hb hx I (.cons (show RelV (.ref a) (.ref a) from rfl) .nil) h) (fun r s' z => ?_) fun _ _ e => e)
  obtain ⟨z, H', I', rz, b, ez, q⟩ := z
  subst ez
  obtain ⟨tk, rfl⟩ := rz
  exact ⟨.str b, H', I', ⟨tk, rfl⟩, q⟩
end
end Wk
/-! any(xs), xs a list of tuples -/
namespace Wk
open PySem PySem.Spec PyProof.Rows L2
section
variable {P : Program} {w : World} {A : Around} {R : Result → Shared → Prop} {it : Addr} {fp wr : List Addr} {n : Nat} {Pv : Nat → Value → Prop} {St : Nat → Heap → Prop}
/-- what is asked of the truths: at any heap that holds what stood at first -/
def TruthsAt (P : Program) (w : World) (A : Around) (h0 : Heap) (wr : List Addr) (Pv : Nat → Value → Prop) (tr : Nat → Bool) : Prop :=
  ∀ i v (s : Shared) (Q : Bool → Shared → Prop) (E : Value → Shared → Prop), Pv i v → (∀ b o, b ∉ wr → h0.get? b = some o → s.heap.get? b = some o) → (∀ tk, Q (tr i) { s with toks := tk }) → wpAny (model P w) A (truthy v) Q E s
theorem any_goes (W : Walks P w A.in1 it fp wr n Pv St) (tr : Nat → Bool) {h0 : Heap} (T : TruthsAt P w A.in1 h0 wr Pv tr) : ∀ (left i : Nat) (s : Shared), n - i = left → i ≤ n → St i s.heap → (∀ b o, b ∉ wr → h0.get? b = some o → s.heap.get? b = some o) →
    (∀ h' tk, (∀ b o, b ∉ wr → s.heap.get? b = some o → h'.get? b = some o) → R (.ok (.ret (.bool (((List.range n).drop i).any tr)))) { s with heap := h', toks := tk }) → codeAny (model P w) A (.builtin "any.loop" ⟨[.ref it], []⟩) R s
  | 0, i, s, el, hi, st, hk, fin => by
    obtain rfl : i = n := by omega
    refine codeAny_builtin F.entry_any_loop ?_
    rw [Around.under_plainId F.plain_any_loop _]
    show wpAny _ A.in1 (pyNext (.ref it) >>= _) _ _ s
    refine wpAny_bind (W.done s _ _ st fun h' tk kk => wpAny_bind (wpAny_rule (wpAny_pure ?_)))
    have z := fin h' tk kk
    rwa [List.drop_of_length_le (by simp)] at z
  | left + 1, i, s, el, hi, st, hk, fin => by
    have lt : i < n := by omega
    have dr : (List.range n).drop i = i :: (List.range n).drop (i + 1) := by rw [List.drop_eq_getElem_cons (by simpa using lt)]; simp
    refine codeAny_builtin F.entry_any_loop ?_
    rw [Around.under_plainId F.plain_any_loop _]
    show wpAny _ A.in1 (pyNext (.ref it) >>= _) _ _ s
    refine wpAny_bind (W.item i s _ _ lt st fun v h' tk hp st' kk => ?_)
    have hk' : ∀ b o, b ∉ wr → h0.get? b = some o → h'.get? b = some o := fun b o hb e => kk b o hb (hk b o hb e)
    refine wpAny_bind (wpAny_holding (T i v _ _ _ hp hk' fun tk2 => wpAny_bind (wpAny_letGo ?_)))
    cases ht : tr i with
    | true =>
      rw [if_pos rfl]
      refine wpAny_bind (wpAny_rule (wpAny_pure ?_))
      have z := fin h' tk2 kk
      rwa [dr, List.any_cons, ht, Bool.true_or] at z
    | false =>
      rw [if_neg Bool.false_ne_true]
      refine wpAny_pure ⟨plainId_quiet F.plain_any_loop _, any_goes W tr T left (i + 1) _ (by omega) lt st' hk' fun h'' tk' k' => ?_⟩
      have z := fin h'' tk' fun b o hb e => k' b o hb (kk b o hb e)
      rwa [dr, List.any_cons, ht, Bool.false_or] at z
theorem any_of {E : Value → Shared → Prop} {s : Shared} {x : Value} {Q : Value → Shared → Prop}
    (h : wpAny (model P w) A.in1 (pyIter x) (fun v s2 => ∃ it fp wr n Pv St tr, v = .ref it ∧ Walks P w A.in1 it fp wr n Pv St ∧ St 0 s2.heap ∧ TruthsAt P w A.in1 s2.heap wr Pv tr ∧
      ∀ h' tk, (∀ b o, b ∉ wr → s2.heap.get? b = some o → h'.get? b = some o) → Q (.bool ((List.range n).any tr)) { s2 with heap := h', toks := tk }) E s) : wpAny (model P w) A (call (.builtin "any") [x]) Q E s := by
  refine call_function_tree F.kind_any F.plain_any F.entry_any (F.args_any1 _) ?_
  unfold Builtin.«any»
  refine wpAny_bind (m := oneArg "any" _) (wpAny_pure (wpAny_bind (wpAny_mono h ?_ fun _ _ e => e)))
  rintro v s2 ⟨it, fp, wr, n, Pv, St, tr, rfl, W, st, T, q⟩
  exact wpAny_pure ⟨plainId_quiet F.plain_any_loop _, any_goes W tr T n 0 s2 rfl (Nat.zero_le _) st (fun _ _ _ e => e) fun h' tk hk => by simpa using q h' tk hk⟩
end
/-- any(xs): the items are tuples, bs tells which are not empty -/
def rAnyTs (K : PySem.W.Frag) : List V → Hp → VK → Prop := fun vs H Q => ∃ (a : Addr) (xs : List V) (bs : List Bool), vs = [V.ref a] ∧ SqL K H a xs ∧ xs.length = bs.length ∧
  (∀ (i : Nat) (x : V), xs[i]? = some x → ∃ t ys, x = .ref t ∧ SqT K H t ys ∧ bs[i]? = some (!ys.isEmpty)) ∧ Q (.bl (bs.any id)) H
theorem cr_anyTs {X : Cx} {K : PySem.W.Frag} (hK : X.K = K) (hc : X.calm = true) : CallR X (.builtin "any") (rAnyTs K) := by
  subst hK
  intro pins s σ H vs us Q I r h
  obtain ⟨a, xs, bs, rfl, hs, len, all, q⟩ := h
  obtain ⟨its, rv, hl, _⟩ := I.list hs
  rw [Vals.ref1 r]
  refine any_of (iter_any hl.isList fun s2 e2 st hne => ?_)
  subst e2
  refine ⟨_, _, _, _, _, _, fun i => bs.getD i false, rfl, Walks.list (A := X.A.in1) (I.ok.hd hc) _ a hne its.toArray, st, fun i v s3 Q3 E3 hv hk hq => ?_, fun h' tk hk => ?_⟩
  · have hv' : its[i]? = some v := by simpa using hv
    have hi : i < xs.length := by rw [rv.length]; exact (List.getElem?_eq_some_iff.mp hv').1
    obtain ⟨t, ys, e1, hT, hb⟩ := all i xs[i] (List.getElem?_eq_getElem hi)
    obtain ⟨u, hu, ru⟩ := rv.get (List.getElem?_eq_getElem hi)
    rw [hv'] at hu
    cases hu
    rw [e1] at ru
    cases ru
    have I3 : Inv X pins σ H { s with heap := s3.heap } := I.kept (t' := s.toks) fun b o eo => hk b o (fun m => ?_) (Heap.get?_push_of_some _ eo)
    · obtain ⟨jts, jv, jt, jz⟩ := I3.tuple hT
      refine truthy_tuple (s := s3) jt ?_ ?_
      · have := line63
        rw [List.size_toArray, ← jv.length]; omega
      · have e : bs.getD i false = !ys.isEmpty := by rw [List.getD_eq_getElem?_getD, hb]; rfl
        have hq' := hq (s3.toks + 1 + 1)
        replace hq' : Q3 (bs.getD i false) { s3 with toks := s3.toks + 1 + 1 } := hq'
        rw [e, ← isEmpty_of jv] at hq'
        exact hq'
    · rcases List.mem_cons.mp m with e | m
      · exact absurd (e ▸ Heap.lt_size eo) (Nat.lt_irrefl _)
      · cases m
  · refine ⟨.bl _, H, I.kept fun b o eo => hk b o (fun m => ?_) (Heap.get?_push_of_some _ eo), ?_, q⟩
    · rcases List.mem_cons.mp m with e | m
      · exact absurd (e ▸ Heap.lt_size eo) (Nat.lt_irrefl _)
      · cases m
    · show Value.bool _ = Value.bool _
      rw [← L2.any_range, List.size_toArray, ← rv.length, len]
end Wk
/-! t + u of two tuples, read in one way whatever is empty -/
namespace Wk
open PySem PySem.Spec PyProof.Rows L2
def rCatW : R2 := fun x y H Q => ∃ a b xs ys, x = .ref a ∧ y = .ref b ∧ H a = some (.tup xs) ∧ H b = some (.tup ys) ∧ xs.length + ys.length ≤ sizeLine ∧ ∀ H' r, Same H H' → H' r = some (.tup (xs ++ ys)) → Q (.ref r) H'
theorem op_catW {X : Cx} : OpR X (binaryOp .Add) rCatW := by
  intro pins s σ H x y v u Q I rx ry h
  obtain ⟨a, b, xs, ys, rfl, rfl, ha, hb, hz, q⟩ := h
  refine op_catA pins s σ H _ _ v u Q I rx ry ⟨a, b, xs, ys, rfl, rfl, .inl (.inl ha), .inl (.inl hb), hz, fun e => ?_, fun _ e => ?_, fun _ _ p n => ?_⟩
  · exact q H b (Same.refl _) (by rw [e]; exact hb)
  · exact q H a (Same.refl _) (by rw [e, List.append_nil]; exact ha)
  · exact q _ p (fun o u e => by rw [upd_ne (ne_of_none e n)]; exact e) upd_same
end Wk
/-! Webs with their amounts; dicts of sums; how a Web is made. -/
namespace T27
open PySem PySem.Spec PyProof.Rows L2 Wk Vb
def lo (u v : Int) : Int := if v < u then v else u
def hi (u v : Int) : Int := if v > u then v else u
theorem nodup_le {α : Type} [DecidableEq α] : ∀ {l m : List α}, l.Nodup → (∀ x ∈ l, x ∈ m) → l.length ≤ m.length
  | [], _, _, _ => Nat.zero_le _
  | a :: l, m, h, hs => by
    obtain ⟨h1, h2⟩ := List.pairwise_cons.mp h
    have hm := hs a List.mem_cons_self
    have ih := nodup_le (m := m.erase a) h2 fun x hx => (List.mem_erase_of_ne (Ne.symm (h1 x hx))).mpr (hs x (List.mem_cons_of_mem _ hx))
    rw [List.length_erase_of_mem hm] at ih
    have : 0 < m.length := List.length_pos_of_mem hm
    rw [List.length_cons]
    omega
theorem kk_nodup {S : List T3} (hd : Dif S) : (S.map kk).Nodup := by
  show List.Pairwise _ _
  rw [List.pairwise_map]
  exact hd.imp fun {p q} k (e : kk p = kk q) => k (by
    unfold kk at e
    injection e with e1 e2
    injection e2 with e2 _
    exact ⟨e1, e2⟩)
theorem lt2_dif {T : List T3} (h : T.Pairwise lt2) : Dif T := h.imp fun {p q} a b => lt2_irrefl a b
theorem rg_ints (n : Nat) : rgV 0 (n : Int) = ((List.range n).map fun (i : Nat) => (i : Int)).map V.int := by
  unfold rgV
  rw [Int.sub_zero, Int.toNat_natCast, List.map_map]
  refine List.map_congr_left fun i _ => ?_
  show V.int (0 + (i : Int)) = V.int (i : Int)
  rw [Int.zero_add]
theorem ties_lenL {l T : List T3} {n : Int} (h : TiesOf n (amt l) T) : T.length ≤ l.length := by
  have h1 : (T.map kk).Nodup := by
    show List.Pairwise _ _
    rw [List.pairwise_map]
    exact h.asc.imp fun {p q} k (e : kk p = kk q) => lt2_irrefl k (by
      unfold kk at e
      injection e with e1 e2
      injection e2 with e2 _
      exact ⟨e1, e2⟩)
  have h2 := nodup_le (m := l.map kk) h1 fun x hx => by
    obtain ⟨p, hp, rfl⟩ := List.mem_map.mp hx
    have a := amt_mem h.asc hp
    have b := (h.mem p hp).2.2.2
    rw [h.am] at a
    obtain ⟨q, hq, e1, e2⟩ := mem_amt (T := l) (u := p.1) (v := p.2.1) (by omega)
    exact List.mem_map.mpr ⟨q, hq, by unfold kk; rw [e1, e2]⟩
  rwa [List.length_map, List.length_map] at h2
theorem init_of {K : PySem.W.Frag} {C x dx a : Addr} {H : Hp} {n : Nat} {xs : List V} {ps : List T3} {E : XK} {R : Hp → Prop} (hx : H x = none) (hdx : H dx = none) (hne : dx ≠ x) (hn : n ≤ 60) (hS : SqS K H a xs) (hT : Trs K H xs ps) (h64 : ps.length < 4000)
    (hv : ∀ p ∈ ps, tieB p.1 p.2.1 p.2.2 (n : Int) = true) (ham : ∀ u v, amt (ps.map norm) u v ≤ 1000000000) (q : ∀ H' T, Same H H' → TiesOf (n : Int) (amt (ps.map norm)) T → WebAt K C H' x n T → R H') :
    spInit K C [.ref x, .int (n : Int), .ref a] (upd (upd H dx (.own x)) x (.ins C dx [])) (fun v H2 => v = .non ∧ R H2) E := by
  have s1 : Same H (upd (upd H dx (.own x)) x (.ins C dx [])) := (same_upd hdx).trans (same_upd (by rw [upd_ne (Ne.symm hne)]; exact hx))
  refine ⟨x, n, a, dx, xs, ps, rfl, upd_same, hn, hS.ext s1, hT.same s1, h64, hv, ham, fun H' T b t w => ⟨rfl, q H' T (fun z o hz => b z o (ne_of_none hz hx) (s1 _ _ hz)) t w⟩⟩
/-- how a Web is made -/
structure MkWeb (P : Program) (w : World) (K : PySem.W.Frag) (mg : Str → Option Value) (base : Heap) (CW : Addr) : Prop where
  ex : ∃ f fd aE, Mk K CW f ∧ FnOk P w K mg base CX0 7 f fd ["self", "size", "ties"] (spInit K CW) ∧ mg "Web" = some (.ref CW) ∧ Binds K fd ["self", "size", "ties"] [] ∧ Binds K fd ["self", "size", "ties"] [.ref aE] ∧ ∀ H, SqT K H aE []
def WebOf (K : PySem.W.Frag) (CW : Addr) (n : Nat) (ps : List T3) (H1 : Hp) (Q : VK) : Prop := n ≤ 60 ∧ ps.length < 4000 ∧ (∀ p ∈ ps, tieB p.1 p.2.1 p.2.2 (n : Int) = true) ∧ (∀ u v, amt (ps.map norm) u v ≤ 1000000000) ∧
  ∀ H2 w T, Same H1 H2 → New H1 w → TiesOf (n : Int) (amt (ps.map norm)) T → WebAt K CW H2 w n T → Q (.ref w) H2
def tWeb (K : PySem.W.Frag) (CW : Addr) (t : TA) : TE := fun σ H Q => t σ H fun vs H1 => ∃ n a xs ps, vs = [.int (n : Nat), .ref a] ∧ SqS K H1 a xs ∧ Trs K H1 xs ps ∧ WebOf K CW n ps H1 Q
def tWeb1 (K : PySem.W.Frag) (CW : Addr) (t : TA) : TE := fun σ H Q => t σ H fun vs H1 => ∃ n, vs = [.int (n : Nat)] ∧ WebOf K CW n [] H1 Q
section
variable {X : Cx} {CW : Addr} {e : Expr} {es : List Expr} {t : TA} {p pos : Pos}
theorem pe_Web (M : MkWeb X.prog X.w X.K X.mg X.base CW) (hr : Room 8 X.A) (ha : PA X (e :: es) t) (hg : Gl X "Web" := by rfl)
    (he : starEach (e :: es) X.env = (false, eval e X.env) :: starEach es X.env := by rfl) (hpl : (backTo pos (starEach es X.env)).any (·.1) = false := by rfl) : PE X (.Call (.Name "Web" p) (e :: es) [] pos) (tWeb X.K CW t) := by
  obtain ⟨f, fd, aE, M, F, m, b, _, _⟩ := M.ex
  refine ⟨fun pins s σ H Q I h => ?_⟩
  refine wpAny_Call_Name_kw (ld_glob I hg m ?_ (by decide))
  refine PySem.W.callWith_K (h₀ := X.base) I.ok.mod.kin M.kp (thn (ha.run pos pins s σ H _ I h) fun us s1 ⟨vs, H1, I1, r, q⟩ => ⟨I1.kIn, ?_⟩) he hpl
  obtain ⟨n, a, xs, ps, rfl, hS, hT, hn, h64, hv, ham, q⟩ := q
  refine run_make M F hr b .nil pass0 I1 r fun x dx nx nd ne => ?_
  exact init_of nx nd ne hn hS hT h64 hv ham fun H' T s' ht hw => q H' x T s' nx ht hw
theorem pe_Web1 (M : MkWeb X.prog X.w X.K X.mg X.base CW) (hr : Room 8 X.A) (ha : PA X (e :: es) t) (hg : Gl X "Web" := by rfl)
    (he : starEach (e :: es) X.env = (false, eval e X.env) :: starEach es X.env := by rfl) (hpl : (backTo pos (starEach es X.env)).any (·.1) = false := by rfl) : PE X (.Call (.Name "Web" p) (e :: es) [] pos) (tWeb1 X.K CW t) := by
  obtain ⟨f, fd, aE, M, F, m, _, b, hE⟩ := M.ex
  refine ⟨fun pins s σ H Q I h => ?_⟩
  refine wpAny_Call_Name_kw (ld_glob I hg m ?_ (by decide))
  refine PySem.W.callWith_K (h₀ := X.base) I.ok.mod.kin M.kp (thn (ha.run pos pins s σ H _ I h) fun us s1 ⟨vs, H1, I1, r, q⟩ => ⟨I1.kIn, ?_⟩) he hpl
  obtain ⟨n, rfl, hn, h64, hv, ham, q⟩ := q
  refine run_make M F hr b (dvs := [.ref aE]) (.cons rfl .nil) pass0 I1 r fun x dx nx nd ne => ?_
  exact init_of (ps := []) nx nd ne hn (.inr (hE _)) True.intro h64 hv ham fun H' T s' ht hw => q H' x T s' nx ht hw
end
/-- a web of this size -/
def WSz (CW : Addr) (H : Hp) (w : Addr) (n : Nat) : Prop := ∃ dx fs, H w = some (.ins CW dx fs) ∧ fs.lookup ("size" : Str) = some (.int (n : Int))
theorem WSz.same {CW : Addr} {H H' : Hp} {w : Addr} {n : Nat} (h : WSz CW H w n) (s : Same H H') : WSz CW H' w n := let ⟨dx, fs, h1, h2⟩ := h; ⟨dx, fs, s _ _ h1, h2⟩
theorem WSz.of {K : PySem.W.Frag} {CW : Addr} {H : Hp} {w : Addr} {n : Nat} {T : List T3} (h : WebAt K CW H w n T) : WSz CW H w n := by
  obtain ⟨dx, t, ys, d, g, h1, _⟩ := h.ex
  exact ⟨dx, _, h1, by kernel_rfl⟩
/-- the names that a text reads and that are the built-in ones -/
structure Bl (mg : Str → Option Value) : Prop where
  m_isinstance : mg "isinstance" = none
  m_int : mg "int" = none
  m_bool : mg "bool" = none
  m_str : mg "str" = none
  m_tuple : mg "tuple" = none
  m_list : mg "list" = none
  m_dict : mg "dict" = none
  m_len : mg "len" = none
  m_enumerate : mg "enumerate" = none
  m_sorted : mg "sorted" = none
  m_min : mg "min" = none
  m_max : mg "max" = none
  m_sum : mg "sum" = none
  m_range : mg "range" = none
  m_any : mg "any" = none
  m_repr : mg "repr" = none
  m_abs : mg "abs" = none
  m_set : mg "set" = none
  m_zip : mg "zip" = none
end T27
/-! Webs side by side, webs renamed, rows moved. -/
namespace T27
open PySem PySem.Spec PyProof.Rows L2 Wk Vb StX RZ
abbrev sBeside : Stmt := top 25
abbrev sRenamed : Stmt := top 26
abbrev sMoved : Stmt := top 27
theorem scBs : FnScope ["one", "other", "size", "behind", "u", "v", "number"] ["one", "other"] (defScope sBeside) := ⟨rfl, rfl, rfl, by decide +kernel, rfl, by decide +kernel, by decide +kernel⟩
theorem scRn : FnScope ["web", "order", "u", "v", "number"] ["web", "order"] (defScope sRenamed) := ⟨rfl, rfl, rfl, by decide +kernel, rfl, by decide +kernel, by decide +kernel⟩
theorem scMv : FnScope ["row", "order", "item_at", "place", "item"] ["row", "order"] (defScope sMoved) := ⟨rfl, rfl, rfl, by decide +kernel, rfl, by decide +kernel, by decide +kernel⟩
def shift (k : Int) (T : List T3) : List T3 := T.map fun p => (p.1 + k, p.2.1 + k, p.2.2)
def ren (f : Int → Int) (T : List T3) : List T3 := T.map fun p => (f p.1, f p.2.1, p.2.2)
theorem shift_amt (k : Int) : ∀ (T : List T3) (u v : Int), amt (shift k T) u v = amt T (u - k) (v - k)
  | [], u, v => rfl
  | p :: T, u, v => by
    have ih := shift_amt k T u v
    unfold shift at *
    rw [List.map_cons, amt_cons, amt_cons, ih]
    dsimp only
    by_cases h : p.1 + k = u ∧ p.2.1 + k = v
    · rw [if_pos h, if_pos (by omega)]
    · rw [if_neg h, if_neg (by omega)]
theorem putI_new {kvs : List (Key × V)} {k : Key} {v : V} (h : (kvs.any fun kv => decide (kv.1 = k)) = false) : putK kvs k v = kvs ++ [(k, v)] := by unfold putK; rw [h]; rfl
theorem valV_left {kvs : List (Key × V)} {k k' : Key} {v x : V} (h : valV kvs k' = some x) : valV (kvs ++ [(k, v)]) k' = some x := by
  unfold valV at h ⊢
  obtain ⟨p, h1, h2⟩ := Option.map_eq_some_iff.mp h
  rw [List.find?_append, h1]
  exact congrArg some h2
theorem valV_right {kvs : List (Key × V)} {k : Key} {v : V} (h : (kvs.any fun kv => decide (kv.1 = k)) = false) : valV (kvs ++ [(k, v)]) k = some v := by
  unfold valV
  have : kvs.find? (fun kv => decide (kv.1 = k)) = none := by
    rw [List.find?_eq_none]
    intro x hx
    have := List.any_eq_false.mp h x hx
    exact this
  rw [List.find?_append, this]
  simp
def spBeside (K : PySem.W.Frag) (C : Addr) : Sp := fun vs H Q _ => ∃ w n am T w2 n2 am2 T2, vs = [.ref w, .ref w2] ∧ WA K C H w n am T ∧ WA K C H w2 n2 am2 T2 ∧ n + n2 ≤ 60 ∧
  ∀ H' x T', Same H H' → TiesOf ((n + n2 : Nat) : Int) (amt (T ++ shift (n : Int) T2)) T' → WebAt K C H' x (n + n2) T' → Q (.ref x) H'
def spRen (K : PySem.W.Frag) (C : Addr) : Sp := fun vs H Q _ => ∃ w n am T o xs f, vs = [.ref w, .ref o] ∧ WA K C H w n am T ∧ SqT K H o xs ∧ (∀ u, 0 ≤ u → u < (n : Int) → atI xs u = some (.int (f u)) ∧ 0 ≤ f u ∧ f u < (n : Int)) ∧ (∀ u v, 0 ≤ u → u < (n : Int) → 0 ≤ v → v < (n : Int) → f u = f v → u = v) ∧
  (∀ u v, amt ((ren f T).map norm) u v ≤ 1000000000) ∧ ∀ H' x T', Same H H' → TiesOf (n : Int) (amt ((ren f T).map norm)) T' → WebAt K C H' x n T' → Q (.ref x) H'
/-- each item at its new place -/
def spMoved (K : PySem.W.Frag) : Sp := fun vs H Q _ => ∃ (r o : Addr) (xs : List V) (os : List Nat), vs = [.ref r, .ref o] ∧ SqT K H r xs ∧ SqT K H o (os.map fun (k : Nat) => V.int (k : Int)) ∧ os.Perm (List.range xs.length) ∧ xs.length ≤ 1000 ∧
  ∀ H' p ys, Same H H' → H' p = some (.tup ys) → ys.length = xs.length → (∀ (i k : Nat), os[i]? = some k → ys[k]? = xs[i]?) → Q (.ref p) H'
section
variable {P : Program} {w : World} {K : PySem.W.Frag} {mg : Str → Option Value} {base : Heap} {C c fi f : Addr} {fd fdi : FuncData}
theorem ok_beside0 (F : Fun K "beside" "beside" sBeside f fd) (T : TxtW K mg C) (MWeb : MkWeb P w K mg base C) (mP : ∃ t, mg "MOST_PLACES" = some (.int 60 t)) : FnOk P w K mg base CX0 9 f fd ["one", "other"] (spBeside K C) := by
  obtain ⟨tm, m_MOST_PLACES⟩ := mP
  refine F.ok scBs (fun vs H Q E h => ?_) (fun cdv A outer s H vs Q E hr h => ?_)
  · obtain ⟨w, n, am, T, w2, n2, am2, T2, rfl, _⟩ := h
    rfl
  · obtain ⟨w, n, am, TT, w2, n2, am2, T2, rfl, V1, V2, hn, q⟩ := h
    obtain ⟨dx, t, ys, d, g, h1, h2, h3, h4, h5⟩ := V1.web.ex
    obtain ⟨dx2, t2, ys2, d2, g2, k1, k2, k3, k4, k5⟩ := V2.web.ex
    refine ⟨_, (pss_cons (ps_set (i := 2) scBs.nd rfl (Or.inl rfl) (pe_op op_add (pe_fld (pv 0) rfl) (pe_fld (pv 1) rfl)))
    (pss_cons (ps_if (pt_cmpR op_gt (pv 2) (pe_glob (v := .int 60) rfl m_MOST_PLACES ⟨_, rfl⟩) (nomark _))
      (pss_one ps_never)
      pss_nil)
    (pss_cons (ps_setLc (i := 3) (own := [("u", 4), ("v", 5), ("number", 6)]) (g := (gTup K 3 (gCons (gName 4) (gCons (gName 5) (gCons (gName 6) gNil))))) (tt := tYes) rfl scBs.nd rfl rfl (sw_true rfl rfl rfl (by decide +kernel)) (pi_tup (pe_fld (pv 1) rfl)) (blkOk_by (N := ["one", "other", "size", "behind", "u", "v", "number"]) (sc := defScope sBeside) (by decide +kernel)) (fun _ _ _ _ _ => pg_tup (by rfl) (pgs_cons (pg_name (i := 4) scBs.nd rfl (Or.inl rfl)) (pgs_cons (pg_name (i := 5) scBs.nd rfl (Or.inl rfl)) (pgs_cons (pg_name (i := 6) scBs.nd rfl (Or.inl rfl)) pgs_nil)))) (fun _ _ _ _ _ => pts_nil) (fun _ _ _ _ _ => (pe_tup (pa_cons (pe_op op_add (pv 4) (pe_fldK (K := K) rfl (pv 0) rfl)) (pa_cons (pe_op op_add (pv 5) (pe_fldK (K := K) rfl (pv 0) rfl)) (pa_cons (pv 6) pa_nil))))))
    (pss_one (ps_ret (pe_Web MWeb (hr.mono (by decide)) (pa_cons (pv 2) (pa_cons (pe_lst (pa_star (pe_fld (pv 0) rfl) (pa_star (pv 3) pa_nil))) pa_nil)))))))), ?_⟩
    have hyl : ys.length = TT.length := h3.length
    have hyl2 : ys2.length = T2.length := k3.length
    have hl := V1.len
    have hl2 := V2.len
    have hsl : (shift (n : Int) T2).length = T2.length := by unfold shift; rw [List.length_map]
    have en : (fun (i j : Int) => V.int (i + j)) (n : Int) (n2 : Int) = V.int ((n + n2 : Nat) : Int) := by
      show V.int _ = V.int _
      rw [Int.natCast_add]
    refine ⟨.ref w, rfl, w, C, dx, _, _, rfl, h1, T.cl, T.n1, lk5s _ _ _ _ _, .ref w2, rfl, w2, C, dx2, _, _, rfl, k1, T.cl, T.n1, lk5s _ _ _ _ _, (n : Int), (n2 : Int), rfl, rfl, ?_⟩
    rw [en]
    refine ⟨_, rfl, ((n + n2 : Nat) : Int), 60, rfl, rfl, _, rfl, ?_⟩
    rw [decide_eq_false (show ¬ (60 : Int) < ((n + n2 : Nat) : Int) by omega)]
    refine iteF ?_
    refine ⟨.ref w2, rfl, w2, C, dx2, _, _, rfl, k1, T.cl, T.n2, lk5t _ _ _ _ _, t2, rfl, ⟨ys2, .inl (.inl k2)⟩, fun D nD => ?_⟩
    refine lc_tup (K := K) (a := t2) (xs := ys2) (fun i H5 => Ext H H5 ∧ ∃ zs, H5 D = some (.lst zs) ∧ Trs K H5 zs (shift (n : Int) (T2.take i)) ∧ zs.length ≤ i) ⟨fun b o z => by rw [upd_ne (ne_of_none z nD)]; exact z, [], upd_same, True.intro, Nat.le_refl _⟩ (fun i H5 _ h => .inl (.inl (h.1 _ _ k2))) ?_ ?_
    · rintro i x H5 hx ⟨m1, zs, m2, m3, m4⟩
      obtain ⟨p, hp, t', rfl, hSt⟩ := (k3.same m1).get hx
      have hi := (List.getElem?_eq_some_iff.mp hx).1
      refine ⟨t', _, rfl, hSt, rfl, _, _, rfl, _, _, rfl, _, _, rfl, rfl, rfl, ?_⟩
      refine ⟨_, rfl, .ref w, rfl, w, C, dx, _, _, rfl, m1 _ _ h1, T.cl, T.n1, lk5s _ _ _ _ _, p.1, (n : Int), rfl, rfl, _, rfl, .ref w, rfl, w, C, dx, _, _, rfl, m1 _ _ h1, T.cl, T.n1, lk5s _ _ _ _ _, p.2.1, (n : Int), rfl, rfl, _, rfl, (by show 3 ≤ sizeLine; decide), fun R nR => ?_⟩
      have sR := same_upd (o := .tup [.int (p.1 + (n : Int)), .int (p.2.1 + (n : Int)), .int p.2.2]) nR
      have m2' := sR _ _ m2
      have hRD : R ≠ D := Ne.symm (ne_of_none m2 nR)
      refine ⟨zs, m2', by rw [sizeLine_eq]; omega, fun b o z => ?_, zs ++ [.ref R], upd_same, ?_, by rw [List.length_append, List.length_singleton]; omega⟩
      · rw [upd_ne (ne_of_none z nD)]
        exact sR _ _ (m1 b o z)
      · have htk : shift (n : Int) (T2.take (i + 1)) = shift (n : Int) (T2.take i) ++ [(p.1 + (n : Int), p.2.1 + (n : Int), p.2.2)] := by
          unfold shift
          rw [List.take_add_one, hp, List.map_append]
          rfl
        rw [htk]
        exact Trs.append (Trs.but m2' (But.upd _ _ _) (m3.same sR)) ⟨⟨R, rfl, .inl (.inl (by rw [upd_ne hRD]; exact upd_same))⟩, True.intro⟩
    rintro H5 ⟨m1, zs, m2, m3, m4⟩
    rw [hyl2, List.take_length] at m3
    have hz : zs.length = T2.length := by rw [m3.length, hsl]
    have hord : ∀ p ∈ TT ++ shift (n : Int) T2, 0 ≤ p.1 ∧ p.1 < p.2.1 ∧ p.2.1 < ((n + n2 : Nat) : Int) ∧ 0 < p.2.2 ∧ p.2.2 ≤ 1000000000 := fun p hp => by
      rcases List.mem_append.mp hp with hp | hp
      · have a1 := V1.ties.mem p hp
        have a2 := V1.bd p.1 p.2.1
        rw [ties_num V1.ties hp] at a2
        omega
      · obtain ⟨p0, h0, rfl⟩ := List.mem_map.mp hp
        have a1 := V2.ties.mem p0 h0
        have a2 := V2.bd p0.1 p0.2.1
        rw [ties_num V2.ties h0] at a2
        dsimp only
        omega
    have hnm : (TT ++ shift (n : Int) T2).map norm = TT ++ shift (n : Int) T2 := ties_norm fun p hp => (hord p hp).2.1
    refine ⟨_, rfl, .ref w, rfl, w, C, dx, _, _, rfl, m1 _ _ h1, T.cl, T.n2, lk5t _ _ _ _ _, t, ys, rfl, .inl (.inl (.inl (m1 _ _ h2))), _, rfl, D, zs, rfl, .inr (.inl (.inl m2)), by rw [sizeLine_eq]; show (ys ++ (zs ++ [])).length ≤ _; rw [List.append_nil, List.length_append]; omega, fun L nL => ?_⟩
    have sL := same_upd (o := .lst (ys ++ (zs ++ []))) nL
    refine ⟨n + n2, L, ys ++ (zs ++ []), TT ++ shift (n : Int) T2, rfl, .inl (.inl (.inl upd_same)), Trs.append ((h3.same m1).same sL) (by have h := m3.same sL; generalize upd H5 L _ = HH at h ⊢; rw [List.append_nil]; exact h), hn, by rw [List.length_append, hsl]; omega, (fun p hp => ?_), (fun u v => ?_), (fun H' x T' s nx t' w' => ?_)⟩
    · have := hord p hp
      exact tieB_iff.mpr ⟨by omega, by omega, by omega, by omega, by omega, by omega, by omega⟩
    · rw [hnm, amt_append, shift_amt, V1.ties.am, V2.ties.am]
      by_cases h0 : am u v = 0
      · rw [h0, Int.zero_add]
        exact V2.bd _ _
      · have h0' : amt TT u v ≠ 0 := by rw [V1.ties.am]; exact h0
        obtain ⟨p, hp, e1, e2⟩ := mem_amt h0'
        have a1 := V1.ties.mem p hp
        by_cases h1 : am2 (u - (n : Int)) (v - (n : Int)) = 0
        · rw [h1, Int.add_zero]
          exact V1.bd _ _
        · have h1' : amt T2 (u - (n : Int)) (v - (n : Int)) ≠ 0 := by rw [V2.ties.am]; exact h1
          obtain ⟨p', hp', e3, e4⟩ := mem_amt h1'
          have a2 := V2.ties.mem p' hp'
          omega
    · rw [hnm] at t'
      exact q H' x T' ((Ext.trans m1 sL : Same H _).trans s) t' w'
theorem ok_renamed (F : Fun K "renamed" "renamed" sRenamed f fd) (T : TxtW K mg C) (MWeb : MkWeb P w K mg base C) : FnOk P w K mg base CX0 9 f fd ["web", "order"] (spRen K C) := by
  refine F.ok scRn (fun vs H Q E h => ?_) (fun cdv A outer s H vs Q E hr h => ?_)
  · obtain ⟨w, n, am, T, o, xs, f, rfl, _⟩ := h
    rfl
  · obtain ⟨w, n, am, TT, o, xs, f, rfl, V1, ho, hf, hinj, ham, q⟩ := h
    obtain ⟨dx, t, ys, d, g, h1, h2, h3, h4, h5⟩ := V1.web.ex
    refine ⟨_, (pss_one (ps_ret (pe_Web MWeb (hr.mono (by decide)) (pa_cons (pe_fld (pv 0) rfl) (pa_cons (pe_lc (own := [("u", 2), ("v", 3), ("number", 4)]) (g := (gTup K 3 (gCons (gName 2) (gCons (gName 3) (gCons (gName 4) gNil))))) (tt := tYes) rfl scRn.nd (pi_tup (pe_fld (pv 0) rfl)) (blkOk_by (N := ["web", "order", "u", "v", "number"]) (sc := defScope sRenamed) (by decide +kernel)) (fun _ _ _ _ _ => pg_tup (by rfl) (pgs_cons (pg_name (i := 2) scRn.nd rfl (Or.inl rfl)) (pgs_cons (pg_name (i := 3) scRn.nd rfl (Or.inl rfl)) (pgs_cons (pg_name (i := 4) scRn.nd rfl (Or.inl rfl)) pgs_nil)))) (fun _ _ _ _ _ => pts_nil) (fun _ _ _ _ _ => (pe_tup (pa_cons (pe_ix (r := rIxT K) ix_tup (pv 1) (pv 2) (fun _ _ => rfl)) (pa_cons (pe_ix (r := rIxT K) ix_tup (pv 1) (pv 3) (fun _ _ => rfl)) (pa_cons (pv 4) pa_nil)))))) pa_nil))))), ?_⟩
    have hyl : ys.length = TT.length := h3.length
    have hl := V1.len
    have hsl : (ren f TT).length = TT.length := by unfold ren; rw [List.length_map]
    refine ⟨.ref w, rfl, w, C, dx, _, _, rfl, h1, T.cl, T.n1, lk5s _ _ _ _ _, ?_⟩
    refine ⟨.ref w, rfl, w, C, dx, _, _, rfl, h1, T.cl, T.n2, lk5t _ _ _ _ _, t, rfl, ⟨ys, .inl (.inl h2)⟩, fun D nD => ?_⟩
    refine lc_tup (K := K) (a := t) (xs := ys) (fun i H5 => Ext H H5 ∧ ∃ zs, H5 D = some (.lst zs) ∧ Trs K H5 zs (ren f (TT.take i)) ∧ zs.length ≤ i) ⟨fun b o z => by rw [upd_ne (ne_of_none z nD)]; exact z, [], upd_same, True.intro, Nat.le_refl _⟩ (fun i H5 _ h => .inl (.inl (h.1 _ _ h2))) ?_ ?_
    · rintro i x H5 hx ⟨m1, zs, m2, m3, m4⟩
      obtain ⟨p, hp, t', rfl, hSt⟩ := (h3.same m1).get hx
      have hi := (List.getElem?_eq_some_iff.mp hx).1
      have hm := V1.ties.mem p (List.mem_of_getElem? hp)
      have f1 := hf p.1 hm.1 (by omega)
      have f2 := hf p.2.1 (by omega) hm.2.2.1
      refine ⟨t', _, rfl, hSt, rfl, _, _, rfl, _, _, rfl, _, _, rfl, rfl, rfl, ?_⟩
      refine ⟨_, rfl, _, rfl, o, xs, p.1, _, rfl, rfl, ho.ext m1, f1.1, _, rfl, _, rfl, o, xs, p.2.1, _, rfl, rfl, ho.ext m1, f2.1, _, rfl, (by show 3 ≤ sizeLine; decide), fun R nR => ?_⟩
      have sR := same_upd (o := .tup [.int (f p.1), .int (f p.2.1), .int p.2.2]) nR
      have m2' := sR _ _ m2
      have hRD : R ≠ D := Ne.symm (ne_of_none m2 nR)
      refine ⟨zs, m2', by rw [sizeLine_eq]; omega, fun b o z => ?_, zs ++ [.ref R], upd_same, ?_, by rw [List.length_append, List.length_singleton]; omega⟩
      · rw [upd_ne (ne_of_none z nD)]
        exact sR _ _ (m1 b o z)
      · have htk : ren f (TT.take (i + 1)) = ren f (TT.take i) ++ [(f p.1, f p.2.1, p.2.2)] := by
          unfold ren
          rw [List.take_add_one, hp, List.map_append]
          rfl
        rw [htk]
        exact Trs.append (Trs.but m2' (But.upd _ _ _) (m3.same sR)) ⟨⟨R, rfl, .inl (.inl (by rw [upd_ne hRD]; exact upd_same))⟩, True.intro⟩
    rintro H5 ⟨m1, zs, m2, m3, m4⟩
    rw [hyl, List.take_length] at m3
    refine ⟨n, D, zs, ren f TT, rfl, .inl (.inl (.inl m2)), m3, V1.n60, by rw [hsl]; omega, (fun p hp => ?_), ham, (fun H' x T' s nx t' w' => q H' x T' ((m1 : Same H H5).trans s) t' w')⟩
    obtain ⟨p0, h0, rfl⟩ := List.mem_map.mp hp
    have a1 := V1.ties.mem p0 h0
    have a2 := V1.bd p0.1 p0.2.1
    rw [ties_num V1.ties h0] at a2
    have f1 := hf p0.1 a1.1 (by omega)
    have f2 := hf p0.2.1 (by omega) a1.2.2.1
    have f3 : f p0.1 ≠ f p0.2.1 := fun e => by have := hinj _ _ a1.1 (by omega) (by omega) a1.2.2.1 e; omega
    exact tieB_iff.mpr ⟨f1.2.1, f1.2.2, f2.2.1, f2.2.2, f3, by dsimp only; omega, a2⟩
theorem ok_moved (F : Fun K "moved" "moved" sMoved f fd) (B : Bl mg) : FnOk P w K mg base CX0 1 f fd ["row", "order"] (spMoved K) := by
  refine F.ok scMv (fun vs H Q E h => ?_) (fun cdv A outer s H vs Q E hr h => ?_)
  · obtain ⟨r, o, xs, os, rfl, _⟩ := h
    rfl
  · obtain ⟨r, o, xs, os, rfl, hx, ho, hp, hl, q⟩ := h
    have hu := hu_of hr
    have hol : os.length = xs.length := by rw [hp.length_eq, List.length_range]
    refine ⟨_, (pss_cons (ps_set (i := 2) scMv.nd rfl (Or.inr rfl) (pe_dc (own := [("place", 3), ("item", 4)]) (g := (gTup K 2 (gCons (gName 3) (gCons (gName 4) gNil)))) (tt := tYes) rfl scMv.nd (pi_zipA (by rfl) B.m_zip (pa_cons (pv 1) (pa_cons (pv 0) pa_nil))) (blkOk_by (N := ["row", "order", "item_at", "place", "item"]) (sc := defScope sMoved) (by decide +kernel)) (fun _ _ _ _ _ => pg_tup (by rfl) (pgs_cons (pg_name (i := 3) scMv.nd rfl (Or.inl rfl)) (pgs_cons (pg_name (i := 4) scMv.nd rfl (Or.inl rfl)) pgs_nil))) (fun _ _ _ _ _ => pts_nil) (fun _ _ _ _ _ => (pv 3)) (fun _ _ _ _ _ => (pv 4))))
    (pss_one (ps_ret (pe_callTy call_tuple_of (by rfl) B.m_tuple (by decide +kernel) (pa_cons (pe_lc (own := [("place", 3)]) (g := (gName 3)) (tt := tYes) rfl scMv.nd (pi_range1 rfl B.m_range (pa_cons (pe_callB call_len_seq (by rfl) B.m_len PySem.boot_len (pa_cons (pv 0) pa_nil)) pa_nil)) (blkOk_by (N := ["row", "order", "item_at", "place", "item"]) (sc := defScope sMoved) (by decide +kernel)) (fun _ _ _ _ _ => pg_name (i := 3) scMv.nd rfl (Or.inl rfl)) (fun _ _ _ _ _ => pts_nil) (fun _ _ _ _ _ => (pe_dget hu (pv 2) (pv 3) (fun _ _ => rfl)))) pa_nil))))), ?_⟩
    refine ⟨_, rfl, _, rfl, o, r, _, xs, rfl, .inr ⟨ho, hx, fun D nD => ?_⟩⟩
    replace nD : New H D := nD
    have s1 := same_new (o := .dK []) nD
    have ond : os.Nodup := hp.nodup_iff.mpr List.nodup_range
    refine dc_it (walk_zipT (n := xs.length) (by rw [List.length_map]; exact hol) rfl) (fun i H5 => Same H H5 ∧ ∃ kvs : List (Key × V), H5 D = some (.dK kvs) ∧ kvs.length = i ∧ (∀ k ∈ os.drop i, (kvs.any fun kv => decide (kv.1 = Sum.inl (k : Int))) = false) ∧ ∀ (j k : Nat) x, j < i → os[j]? = some k → xs[j]? = some x → valV kvs (Sum.inl (k : Int)) = some x)
      ⟨s1, [], upd_same, rfl, fun _ _ => rfl, fun j k x h => absurd h (Nat.not_lt_zero _)⟩ (fun i H5 _ z => ⟨ho.ext fun o u e => z.1 _ _ e, hx.ext fun o u e => z.1 _ _ e⟩) ?_ ?_
    · rintro i x H5 H6 hi ⟨m1, kvs, m2, m3, m4, m5⟩ ⟨T2, x', y, rfl, nT2, rfl, hxi, hyi⟩
      replace hxi : (os.map fun (k : Nat) => V.int (k : Int))[i]? = some x' := hxi
      replace hyi : xs[i]? = some y := hyi
      rw [List.getElem?_map] at hxi
      obtain ⟨k, hk, rfl⟩ := Option.map_eq_some_iff.mp hxi
      replace nT2 : New H5 T2 := nT2
      have s6 := same_new (o := .tup [.int (k : Int), y]) nT2
      have m26 := s6 _ _ m2
      have hf := m4
      have hil : i < os.length := by omega
      have hdr : os.drop i = k :: os.drop (i + 1) := by
        rw [List.drop_eq_getElem_cons hil]
        rw [List.getElem?_eq_getElem hil] at hk
        rw [Option.some.inj hk]
      have hdk : k ∈ os.drop i := by rw [hdr]; exact List.mem_cons_self
      refine ⟨T2, _, rfl, .inl (.inl upd_same), rfl, _, _, rfl, _, _, rfl, rfl, rfl, ?_⟩
      refine ⟨_, rfl, _, rfl, kvs, Sum.inl (k : Int), rfl, m26, by rw [m3, sizeLine_eq]; omega, over nD (m1.trans s6), _, upd_same, ?_, ?_, ?_⟩
      · rw [putI_new (by exact hf k hdk), List.length_append, m3]; rfl
      · intro k' hk'
        have h1 : k' ∈ os.drop i := by rw [hdr]; exact List.mem_cons_of_mem _ hk'
        rw [putI_new (by exact hf k hdk), List.any_append, hf k' h1]
        have hnd := List.Nodup.sublist (List.drop_sublist i os) ond
        rw [hdr] at hnd
        have := (List.nodup_cons.mp hnd).1
        show (false || (decide (Sum.inl (k : Int) = (Sum.inl (k' : Int) : Key)) || false)) = false
        rw [decide_eq_false (fun e => this (by injection e with e; rw [show k = k' by omega]; exact hk'))]; rfl
      · intro j k' x hj e1 e2
        rw [putI_new (by exact hf k hdk)]
        by_cases c : j < i
        · exact valV_left (m5 j k' x c e1 e2)
        · obtain rfl : j = i := by omega
          rw [hk] at e1
          cases e1
          rw [hyi] at e2
          cases e2
          exact valV_right (hf k hdk)
    · rintro H5 ⟨m1, kvs, m2, m3, m4, m5⟩
      refine ⟨_, rfl, r, xs, rfl, .inr (hx.ext m1), (xs.length : Int), rfl, by omega, by omega, fun D2 nD2 => ?_⟩
      replace nD2 : New H5 D2 := nD2
      rw [Int.toNat_natCast]
      refine lc_range (lo := 0) (n := xs.length) (fun j H6 => Same H5 H6 ∧ ∃ zs, H6 D2 = some (.lst zs) ∧ zs.length = j ∧ ∀ (i k : Nat), k < j → os[i]? = some k → zs[k]? = xs[i]?) ⟨same_new nD2, [], upd_same, rfl, fun i k h => absurd h (Nat.not_lt_zero _)⟩ ?_ ?_
      · rintro j H6 hj ⟨n1, zs, n2, n3, n4⟩
        obtain ⟨i, hi⟩ := List.mem_iff_getElem?.mp (hp.mem_iff.mpr (List.mem_range.mpr hj))
        have hil : i < xs.length := by rw [← hol]; exact (List.getElem?_eq_some_iff.mp hi).1
        have hv := m5 i j _ hil hi (List.getElem?_eq_getElem hil)
        have hd := DGet.k (k := Sum.inl ((0 : Int) + (j : Int))) (n1 _ _ m2)
        rw [Int.zero_add, hv] at hd
        rw [Int.zero_add]
        refine ⟨rfl, _, rfl, _, rfl, D, _, rfl, hd, zs, n2, by rw [n3, sizeLine_eq]; omega, over nD2 n1, _, upd_same, by rw [List.length_append, n3]; rfl, fun i' k hk hi' => ?_⟩
        by_cases c : k < j
        · rw [List.getElem?_append_left (by omega)]
          exact n4 i' k c hi'
        · obtain rfl : k = j := by omega
          have : i' = i := (List.getElem?_inj (List.getElem?_eq_some_iff.mp hi').1 ond).mp (hi'.trans hi.symm)
          rw [this, List.getElem?_append_right (by omega), n3, Nat.sub_self, List.getElem?_eq_getElem hil]; rfl
      · rintro H6 ⟨n1, zs, n2, n3, n4⟩
        refine ⟨D2, zs, rfl, .inl ⟨.inl (.inl n2), fun t nt => ?_⟩⟩
        refine q _ t zs ((m1.trans n1).trans (same_new nt)) upd_same n3 fun i k hi => n4 i k ?_ hi
        have := hp.mem_iff.mp (List.mem_of_getElem? hi)
        exact List.mem_range.mp this
end
end T27
/-! The mathematics of sums of webs. -/
namespace T27
open PySem PySem.Spec PyProof.Rows L2 Wk Vb StX RZ
theorem but_over {b D : Addr} {H0 H : Hp} {o : HO} (n : New H0 D) (h : But b H0 H) : But b H0 (upd H D o) := fun c u hc e => by
  rw [upd_ne (ne_of_none e n)]
  exact h c u hc e
/-! ### how many bundles there are -/
def row0 (u : Nat) : Nat → List T3
  | 0 => []
  | j + 1 => row0 u j ++ [((u : Int), (u : Int) + 1 + j, 0)]
def all0 (n : Nat) : Nat → List T3
  | 0 => []
  | i + 1 => all0 n i ++ row0 i (n - (i + 1))
theorem mem_row0 {u : Nat} : ∀ {j k : Nat}, k < j → ((u : Int), (u : Int) + 1 + k, (0 : Int)) ∈ row0 u j
  | j + 1, k, h => by
    by_cases c : k = j
    · subst c; exact List.mem_append_right _ List.mem_cons_self
    · exact List.mem_append_left _ (mem_row0 (by omega))
theorem mem_all0 {n : Nat} : ∀ {i u v : Nat}, u < i → u < v → v < n → ((u : Int), (v : Int), (0 : Int)) ∈ all0 n i
  | i + 1, u, v, h1, h2, h3 => by
    by_cases c : u = i
    · subst c
      have := mem_row0 (u := u) (j := n - (u + 1)) (k := v - (u + 1)) (by omega)
      rw [show (u : Int) + 1 + ((v - (u + 1) : Nat) : Int) = (v : Int) by omega] at this
      exact List.mem_append_right _ this
    · exact List.mem_append_left _ (mem_all0 (by omega) h2 h3)
theorem all0_len : (all0 60 60).length = 1770 := by decide +kernel
theorem ties_len60 {n : Nat} {am : Int → Int → Int} {T : List T3} (h : TiesOf (n : Int) am T) (hn : n ≤ 60) : T.length ≤ 1770 := by
  have h1 : (T.map kk).Nodup := kk_nodup (lt2_dif h.asc)
  have h2 := nodup_le (m := (all0 60 60).map kk) h1 fun x hx => by
    obtain ⟨p, hp, rfl⟩ := List.mem_map.mp hx
    have := h.mem p hp
    have hm := mem_all0 (n := 60) (i := 60) (u := p.1.toNat) (v := p.2.1.toNat) (by omega) (by omega) (by omega)
    rw [Int.toNat_of_nonneg (by omega), Int.toNat_of_nonneg (by omega)] at hm
    exact List.mem_map.mpr ⟨_, hm, rfl⟩
  rw [List.length_map, List.length_map, all0_len] at h2
  exact h2
theorem mkWA {K : PySem.W.Frag} {C : Addr} {H : Hp} {w n : Nat} {am : Int → Int → Int} {T : List T3} (hw : WebAt K C H w n T) (ht : TiesOf (n : Int) am T) (hn : n ≤ 60) (hb : ∀ u v, am u v ≤ 1000000000) : WA K C H w n am T :=
  ⟨hw, ht, hn, by have := ties_len60 ht hn; omega, hb⟩
theorem WA.but {K : PySem.W.Frag} {C b : Addr} {H H' : Hp} {w : Addr} {n : Nat} {am : Int → Int → Int} {T : List T3} {xb : List V} (h : WA K C H w n am T) (hb : H b = some (.lst xb)) (s : But b H H') : WA K C H' w n am T := ⟨h.web.butL hb s, h.ties, h.n60, h.len, h.bd⟩
/-! ### degrees, by the amounts alone -/
def dg (f : Int → Int → Int) (n : Nat) (u : Int) : Int := ((List.range n).map fun (v : Nat) => if (v : Int) = u then 0 else f (lo u v) (hi u v)).sum
theorem sum_zero {α : Type} (l : List α) : (l.map fun _ => (0 : Int)).sum = 0 := by
  induction l with
  | nil => rfl
  | cons a l ih => rw [List.map_cons, List.sum_cons, ih]; rfl
theorem inc_dg {n : Nat} {u : Int} (h0 : 0 ≤ u) (h1 : u < (n : Int)) : ∀ {L : List T3}, (∀ p ∈ L, 0 ≤ p.1 ∧ p.1 < p.2.1 ∧ p.2.1 < (n : Int)) → inc L u = dg (amt L) n u
  | [], _ => by
    unfold dg inc
    rw [show ((List.range n).map fun (v : Nat) => if (v : Int) = u then (0 : Int) else amt [] (lo u v) (hi u v)) = (List.range n).map fun _ => (0 : Int) from List.map_congr_left fun v _ => by rw [amt_nil, ite_self], sum_zero]
    rfl
  | p :: L, h => by
    have ih := inc_dg h0 h1 (L := L) fun q hq => h q (List.mem_cons_of_mem _ hq)
    obtain ⟨p1, p2, p3⟩ := h p List.mem_cons_self
    rw [inc_cons, ih]
    unfold dg
    have e : ((List.range n).map fun (v : Nat) => if (v : Int) = u then (0 : Int) else amt (p :: L) (lo u v) (hi u v)) = (List.range n).map fun (v : Nat) => ((if p.1 = u then (if p.2.1 = (v : Int) then p.2.2 else 0) else 0) + (if p.2.1 = u then (if p.1 = (v : Int) then p.2.2 else 0) else 0)) + (if (v : Int) = u then (0 : Int) else amt L (lo u v) (hi u v)) := by
      refine List.map_congr_left fun v _ => ?_
      by_cases c : (v : Int) = u
      · rw [if_pos c, if_pos c]
        by_cases c1 : p.1 = u <;> by_cases c2 : p.2.1 = u <;> by_cases c3 : p.1 = (v : Int) <;> by_cases c4 : p.2.1 = (v : Int) <;> simp only [c1, c2, c3, c4, if_true, if_false] <;> first | rfl | omega | (simp_all; done) | (exfalso; omega)
      · rw [if_neg c, if_neg c, amt_cons]
        by_cases d : (v : Int) < u
        · rw [show lo u (v : Int) = v from if_pos d, show hi u (v : Int) = u from if_neg (by omega)]
          congr 1
          by_cases c1 : p.1 = u
          · rw [if_neg (by omega), if_pos c1, if_neg (by omega), if_neg (by omega)]; rfl
          · rw [if_neg c1]
            by_cases c2 : p.2.1 = u
            · rw [if_pos c2]
              by_cases c3 : p.1 = (v : Int)
              · rw [if_pos ⟨c3, c2⟩, if_pos c3]; omega
              · rw [if_neg (fun z => c3 z.1), if_neg c3]; rfl
            · rw [if_neg (fun z => c2 z.2), if_neg c2]; rfl
        · rw [show lo u (v : Int) = u from if_neg d, show hi u (v : Int) = v from if_pos (by omega)]
          congr 1
          by_cases c2 : p.2.1 = u
          · rw [if_neg (by omega), if_neg (by omega), if_pos c2, if_neg (by omega)]; rfl
          · rw [if_neg c2]
            by_cases c1 : p.1 = u
            · rw [if_pos c1]
              by_cases c3 : p.2.1 = (v : Int)
              · rw [if_pos ⟨c1, c3⟩, if_pos c3]; omega
              · rw [if_neg (fun z => c3 z.2), if_neg c3]; rfl
            · rw [if_neg (fun z => c1 z.1), if_neg c1]; rfl
    rw [e, sum_add, sum_add]
    have s1 : ((List.range n).map fun (v : Nat) => if p.1 = u then (if p.2.1 = (v : Int) then p.2.2 else 0) else 0).sum = if p.1 = u then p.2.2 else 0 := by
      by_cases c : p.1 = u
      · simp only [if_pos c]
        rw [sum_ind, if_pos ⟨by omega, p3⟩]
      · simp only [if_neg c]
        exact sum_zero _
    have s2 : ((List.range n).map fun (v : Nat) => if p.2.1 = u then (if p.1 = (v : Int) then p.2.2 else 0) else 0).sum = if p.2.1 = u then p.2.2 else 0 := by
      by_cases c : p.2.1 = u
      · simp only [if_pos c]
        rw [sum_ind, if_pos ⟨p1, by omega⟩]
      · simp only [if_neg c]
        exact sum_zero _
    rw [s1, s2]
theorem inc_same {n : Nat} {u : Int} (h0 : 0 ≤ u) (h1 : u < (n : Int)) {L M : List T3} (hL : ∀ p ∈ L, 0 ≤ p.1 ∧ p.1 < p.2.1 ∧ p.2.1 < (n : Int)) (hM : ∀ p ∈ M, 0 ≤ p.1 ∧ p.1 < p.2.1 ∧ p.2.1 < (n : Int)) (e : ∀ u v, amt L u v = amt M u v) : inc L u = inc M u := by
  rw [inc_dg h0 h1 hL, inc_dg h0 h1 hM, show amt L = amt M from funext fun u => funext fun v => e u v]
theorem TiesOf.nb {n : Nat} {am : Int → Int → Int} {T : List T3} (h : TiesOf (n : Int) am T) : ∀ p ∈ T, 0 ≤ p.1 ∧ p.1 < p.2.1 ∧ p.2.1 < (n : Int) := fun p hp => by have := h.mem p hp; omega
theorem inc_scale (k : Int) (u : Int) : ∀ (T : List T3), inc (scale k T) u = k * inc T u
  | [] => by show (0 : Int) = k * 0; rw [Int.mul_zero]
  | p :: T => by
    have ih := inc_scale k u T
    have e : scale k (p :: T) = (p.1, p.2.1, k * p.2.2) :: scale k T := rfl
    rw [e, inc_cons, inc_cons, ih, Int.mul_add, Int.mul_add]
    dsimp only
    congr 1
    congr 1 <;> split <;> first | rfl | rw [Int.mul_zero]
theorem inc_shift_lo {k u : Int} (hu : u < k) : ∀ {T : List T3}, (∀ p ∈ T, 0 ≤ p.1 ∧ p.1 < p.2.1) → inc (shift k T) u = 0
  | [], _ => rfl
  | p :: T, h => by
    have ih := inc_shift_lo hu (T := T) fun q hq => h q (List.mem_cons_of_mem _ hq)
    have := h p List.mem_cons_self
    have e : shift k (p :: T) = (p.1 + k, p.2.1 + k, p.2.2) :: shift k T := rfl
    rw [e, inc_cons, ih, if_neg (by dsimp only; omega), if_neg (by dsimp only; omega)]
    rfl
theorem inc_shift_hi {k u : Int} : ∀ {T : List T3}, inc (shift k T) (u + k) = inc T u
  | [] => rfl
  | p :: T => by
    have ih := inc_shift_hi (k := k) (u := u) (T := T)
    have e : shift k (p :: T) = (p.1 + k, p.2.1 + k, p.2.2) :: shift k T := rfl
    rw [e, inc_cons, inc_cons, ih]
    dsimp only
    congr 1
    congr 1 <;> (split <;> split <;> first | rfl | omega)
theorem inc_out {n : Nat} {u : Int} (hu : (n : Int) ≤ u) : ∀ {T : List T3}, (∀ p ∈ T, 0 ≤ p.1 ∧ p.1 < p.2.1 ∧ p.2.1 < (n : Int)) → inc T u = 0
  | [], _ => rfl
  | p :: T, h => by
    have ih := inc_out hu (T := T) fun q hq => h q (List.mem_cons_of_mem _ hq)
    have := h p List.mem_cons_self
    rw [inc_cons, ih, if_neg (by omega), if_neg (by omega)]
    rfl
theorem inc_ren {g : Int → Int} {N u : Int} (hinj : ∀ u v, 0 ≤ u → u < N → 0 ≤ v → v < N → g u = g v → u = v) (h0 : 0 ≤ u) (h1 : u < N) : ∀ {T : List T3}, (∀ p ∈ T, 0 ≤ p.1 ∧ p.1 < p.2.1 ∧ p.2.1 < N) → inc ((ren g T).map norm) (g u) = inc T u
  | [], _ => rfl
  | p :: T, h => by
    have ih := inc_ren hinj h0 h1 (T := T) fun q hq => h q (List.mem_cons_of_mem _ hq)
    obtain ⟨p1, p2, p3⟩ := h p List.mem_cons_self
    have e : (ren g (p :: T)).map norm = norm (g p.1, g p.2.1, p.2.2) :: (ren g T).map norm := rfl
    have a1 := hinj p.1 u p1 (by omega) h0 h1
    have a2 := hinj p.2.1 u (by omega) p3 h0 h1
    have a3 : p.1 = u → g p.1 = g u := fun z => by rw [z]
    have a4 : p.2.1 = u → g p.2.1 = g u := fun z => by rw [z]
    rw [e, inc_cons, inc_cons, ih]
    unfold norm
    dsimp only
    congr 1
    by_cases c1 : p.1 = u <;> by_cases c2 : p.2.1 = u <;> by_cases c3 : g p.2.1 < g p.1 <;> by_cases c4 : g p.2.1 > g p.1 <;> simp only [c1, c2, c3, c4, if_true, if_false] <;> (try split) <;> (try split) <;> omega
theorem degs_add {n : Nat} {am am2 : Int → Int → Int} {k : Int} {T T2 T3' : List T3} (h : TiesOf (n : Int) am T) (h2 : TiesOf (n : Int) am2 T2) (h3 : TiesOf (n : Int) (fun u v => am u v + k * am2 u v) T3') {u : Nat} (hu : u < n) : inc T3' (u : Int) = inc T u + k * inc T2 u := by
  rw [← inc_scale, ← inc_append]
  refine inc_same (n := n) (by omega) (by omega) h3.nb (fun p hp => ?_) fun u v => ?_
  · rcases List.mem_append.mp hp with hp | hp
    · exact h.nb p hp
    · obtain ⟨q, hq, rfl⟩ := List.mem_map.mp hp
      exact h2.nb q hq
  · rw [h3.am, amt_append, scale_amt, h.am, h2.am]
/-! ### between two halves -/
theorem sum_split {n h : Nat} (hh : h ≤ n) {x m : Int} : ((List.range (n - h)).map fun (j : Nat) => if x = (h : Int) + (j : Int) then m else 0).sum = if (h : Int) ≤ x ∧ x < n then m else 0 := by
  have := sum_ind (n - h) (x - h) m
  rw [← show ((List.range (n - h)).map fun (v : Nat) => if x - (h : Int) = (v : Int) then m else 0) = (List.range (n - h)).map fun (j : Nat) => if x = (h : Int) + (j : Int) then m else 0 from List.map_congr_left fun v _ => by
    by_cases c : x - (h : Int) = (v : Int)
    · rw [if_pos c, if_pos (by omega)]
    · rw [if_neg c, if_neg (by omega)], this]
  by_cases c : 0 ≤ x - (h : Int) ∧ x - (h : Int) < ((n - h : Nat) : Int)
  · rw [if_pos c, if_pos (by omega)]
  · rw [if_neg c, if_neg (by omega)]
end T27
/-! Within an except suite: a, b = t of a tuple; o[i] by an own method. -/
namespace Wk
open PySem PySem.Spec PyProof.Rows L2 L2H HotX
section
variable {prog : Program} {w : World} {A : Around} {E : Value → Shared → Prop} {s : Shared}
theorem next_tuple_end_hot {x1 it t : Addr} {i : Nat} {items} {Q : Option Value → Shared → Prop} (hot : HotAt A x1 s.heap) (hne : x1 ≠ it)
    (hit : IsTupIter s.heap it t i) (ht : IsTup s.heap t items) (hx : items[i]? = none)
    (hQ : ∀ h', Heap.ExtBut it s.heap h' → Q none { s with heap := h' }) : wpAny (model prog w) A (pyNext (.ref it)) Q E s := by
  obtain ⟨o, ho, hc, hd⟩ := id hit
  obtain ⟨ol, hol, _, nl, hdl⟩ := ht
  obtain ⟨hh, o1, vs1, h1, d1, c1⟩ := hot
  unfold pyNext
  refine wpAny_bind (wpAny_attempt (wpAny_callSpecial?_slot (name := Str.ofString "__next__") hit.typeIs slot_tupleiter_next
    (wpAny_call_entry slot_tupleiter_next hit.typeIs entry_tupleiter_next ?_ (args_tupleiter_next _))))
  show wpAny _ _ (field (.ref it) 0 >>= _) _ _ s
  refine wpAny_bind (wpAny_field ho hd (x := .ref t) rfl ?_)
  show wpAny _ _ (if (Value.ref t == Value.none) = true then _ else _) _ _ s
  rw [if_neg (show ¬ ((Value.ref t == Value.none) = true) from Bool.false_ne_true)]
  show wpAny _ _ (field (.ref it) 1 >>= _) _ _ s
  refine wpAny_bind (wpAny_field ho hd (x := .int i 0) rfl ?_)
  show wpAny _ _ (seqItems? (.ref t) >>= _) _ _ s
  refine wpAny_bind (wpAny_seqItems hol hdl ?_)
  simp only [Int.toNat_natCast, hx]
  refine wpAny_bind (wpAny_rule (wpAny_bind (wpAny_setField ho hd (by simp) ?_)))
  show wpAny _ _ (newExc (.type "StopIteration") [] >>= _) _ _ _
  refine wpAny_bind ?_
  simp only [newExc, newTuple]
  refine wpAny_bind (wpAny_newObj_type ?_ (by size_fits))
  refine wpAny_bind (m := firstArgMember _ _) (wpAny_of_eq (a := Value.none) (by first | rfl | (simp only [firstArgMember]; rfl)) ?_)
  refine wpAny_newObj_type ?_ (by size_fits)
  have h1' : ∀ {d : Obj → Obj}, (s.heap.update it d).get? x1 = some o1 := fun {d} => by rw [Heap.get?_update_other _ _ (Ne.symm hne)]; exact h1
  refine raiseNew_hot ⟨hh, o1, vs1, Heap.get?_push_of_some _ (Heap.get?_push_of_some _ h1'), d1, c1⟩ (Nat.ne_of_lt (Heap.lt_size (Heap.get?_push_of_some _ h1'))) (Heap.get?_push_size _ rfl) rfl (by first | (simp; done) | (simp; omega) | (simp only [Array.size_append]; simp; omega)) ?_
  refine wpAny_bind (wpAny_isInstance (T := "StopIteration") (b := true) ⟨_, Heap.get?_update_self _ (Heap.get?_push_size _ rfl) rfl, rfl⟩ isSubtype_stop ?_)
  refine wpAny_pure (hQ _ fun b o hb e => ?_)
  have e1 : ∀ {d : Obj → Obj}, (s.heap.update it d).get? b = some o := fun {d} => by rw [Heap.get?_update_other _ _ (Ne.symm hb)]; exact e
  rw [Heap.get?_update_other _ _ (Nat.ne_of_gt (Heap.lt_size (Heap.get?_push_of_some _ e1)))]
  exact Heap.get?_push_of_some _ (Heap.get?_push_of_some _ e1)
theorem unpackItems_tuple_hot {x1 t : Addr} {items : Array Value} {Q : List Value → Shared → Prop} (hot : HotAt A x1 s.heap) (ht : IsTup s.heap t items)
    (hQ : ∀ h', Heap.ExtBut s.heap.objs.size s.heap h' → Q items.toList { s with heap := h' }) : wpAny (model prog w) A (unpackItems (.ref t) items.size none) Q E s := by
  have hlt : t ≠ s.heap.objs.size := by obtain ⟨o, ho, _⟩ := ht; exact Nat.ne_of_lt (Heap.lt_size ho)
  unfold unpackItems
  refine wpAny_bind ?_
  · unfold notIterableAtAll
    refine wpAny_bind (wpAny_specialOf ht.typeIs slot_tuple_iter.lookup ?_)
    refine wpAny_pure ?_
    simp only [Bool.false_eq_true, if_false]
    refine wpAny_bind (wpAny_holding (iter_tuple ht ?_))
    refine wpAny_bind (wpAny_holding (draw_tuple hlt items.size 0 _ _ ⟨_, Heap.get?_push_size _ rfl, rfl, rfl⟩ (ht.push _) (by omega) fun h₁ hit₁ hs₁ => ?_))
    have hall : List.take items.size (List.drop 0 items.toList) = items.toList := by
      rw [List.drop_zero]; exact List.take_of_length_le (by simp)
    rw [hall]
    rw [if_neg (by simp)]
    have ht₁ : IsTup h₁ t items := (ht.push _).extBut hs₁.extBut hlt
    obtain ⟨hh, o1, vs1, h1, d1, c1⟩ := hot
    have hx1 : x1 ≠ s.heap.objs.size := Nat.ne_of_lt (Heap.lt_size h1)
    have h1' : h₁.get? x1 = some o1 := hs₁.extBut x1 o1 hx1 (Heap.get?_push_of_some _ h1)
    refine wpAny_bind (wpAny_holding (next_tuple_end_hot (x1 := x1) ⟨hh, o1, vs1, h1', d1, c1⟩ hx1 hit₁ ht₁ (by simp) fun h₂ he₂ => ?_))
    simp only [Option.isSome_none, Bool.false_eq_true, if_false]
    refine wpAny_pure (hQ h₂ fun b o hb e => he₂ b o hb (hs₁.extBut b o hb (Heap.get?_push_of_some _ e)))
theorem unpack_tuple_hot {x1 t : Addr} {items : Array Value} {targets : List (Bool × (Value → Sem Unit))} {Q : Unit → Shared → Prop} (hot : HotAt A x1 s.heap) (ht : IsTup s.heap t items)
    (hn : targets.length = items.size) (hstar : targets.findIdx? (·.1) = none)
    (h : ∀ h', Heap.ExtBut s.heap.objs.size s.heap h' → wpAny (model prog w) A (assignInOrder (targets.map (·.2)) items.toList) Q E { s with heap := h' }) :
    wpAny (model prog w) A (unpack (.ref t) targets) Q E s := by
  unfold unpack
  rw [hn, hstar]
  exact wpAny_bind (wpAny_holding (unpackItems_tuple_hot hot ht h))
theorem assign_Tuple_tuple_hot {x1 : Addr} {env : Env} {elts : List Expr} {x2} {pos : Pos} {t : Addr} {items : Array Value} {Q : Unit → Shared → Prop} (hot : HotAt A x1 s.heap) (ht : IsTup s.heap t items)
    (hn : (assignEach elts env).length = items.size) (hstar : (assignEach elts env).findIdx? (·.1) = none)
    (h : ∀ h', Heap.ExtBut s.heap.objs.size s.heap h' → wpAny (model prog w) A (assignInOrder ((assignEach elts env).map (·.2)) items.toList) Q E { s with heap := h' }) :
    wpAny (model prog w) A (assign (.Tuple elts x2 pos) env (.ref t)) Q E s := by
  rw [assign_Tuple]
  exact wpAny_bind (wpAny_standAt (unpack_tuple_hot hot ht hn hstar h))
end
section
variable {X : Cx} {pos : Pos}
theorem pg_tupH {es : List Expr} {k : Nat} {t : TGs} {n : Nat} (hc : HotC X) (h : PGs X es t)
    (hn : (assignEach es X.env).length = n := by rfl) (hst : (assignEach es X.env).findIdx? (·.1) = none := by rfl) : PG X (.Tuple es k pos) (gTup X.K n t) := by
  refine ⟨fun pins s σ H v u Q I r hw => ?_⟩
  obtain ⟨a, xs, e1, hq, hl, hw⟩ := hw
  subst e1
  cases r
  obtain ⟨its, rv, ht, hz⟩ := I.tuple hq
  obtain ⟨x1, hot⟩ := hc.at I
  refine assign_Tuple_tuple_hot hot ht (by simp [hn, ← hl, rv.length]) hst fun h' hx => ?_
  have I1 : Inv X pins σ H { s with heap := h' } := I.kept (t' := s.toks) fun b o e => hx b o (Nat.ne_of_lt (Heap.lt_size e)) e
  exact h.run pins _ σ H xs _ Q I1 (by simpa using rv) hw
theorem pg_tupHK {K : PySem.W.Frag} {es : List Expr} {k : Nat} {t : TGs} {n : Nat} (hK : X.K = K) (hc : HotC X) (h : PGs X es t)
    (hn : (assignEach es X.env).length = n := by rfl) (hst : (assignEach es X.env).findIdx? (·.1) = none := by rfl) : PG X (.Tuple es k pos) (gTup K n t) := by
  subst hK
  exact pg_tupH hc h hn hst
end
section
variable {X : Cx} {CX : CXT} {k : Nat} {C f : Addr} {fd : FuncData} {ps : List Str} {sp : Sp} {E : L2.St → XK}
theorem dun_callH {A : Around} {pins : List (Addr × Obj)} {σ : L2.St} {H : Hp} {s : Shared} {vs : List V} {us : List Value} {Q : VK} (F : FnH X.prog X.w X.K X.mg X.base CX k f fd ps sp)
    (hA : A.frames = X.A.frames) (hh : A.handled = X.A.handled) (hr : RoomH k A) (hc : HotC X) (hb : Binds X.K fd ps []) (hx : PassesAt CX X σ (E σ)) (I : Inv X pins σ H s) (rv : Vals vs us) (h : sp vs H Q (E σ)) :
    wpAny (model X.prog X.w) A (call (.ref f) us) (EP X pins σ Q) X.xe s := by
  obtain ⟨p, hot, hp⟩ := hc
  have hl : us.length = ps.length := by rw [← rv.length]; exact F.len _ _ _ _ h
  have b := hb s us I.kIn (by rw [List.append_nil]; exact hl)
  rw [List.append_nil] at b
  have P1 := I.pin p (List.mem_append_left _ hp)
  have hpin : PinOk X.stack H s p := ⟨P1.1, P1.2.1, fun hm => (List.mem_cons.mp (I.stkSub p.1 hm)).elim P1.2.2.1 P1.2.2.2.1, P1.2.2.2.2⟩
  have e0 : Env0 X.prog X.w X.K X.mg X.base A X.stack s H := by
    have e := I.env0
    exact ⟨by rw [hA]; exact e.frames, e.mod, e.bs, e.bsz, e.funs, e.frf, e.hok, e.bare⟩
  refine wpAny_call (codeAny_mono (F.run A X.stack s H ⟨us, []⟩ us vs Q (E σ) p hr ⟨by rw [hh]; exact hot.1, hot.2⟩ hpin e0 b rv h) fun r s' hq => ?_)
  cases r with
  | error e => exact hx pins H s e s' I hq
  | ok fl =>
    cases fl with
    | ret u => exact I.after hq
    | next => exact False.elim hq
    | brk => exact False.elim hq
    | cont => exact False.elim hq
theorem pe_ixOH {a b : Expr} {ta tb : TE} {pos : Pos} (F : FnH X.prog X.w X.K X.mg X.base CX k f fd ps sp) (hr : RoomH (k + 1) X.A) (hc : HotC X) (hb : Binds X.K fd ps []) (hx : ∀ σ, PassesAt CX X σ (E σ))
    (hs : PySem.W.findIn X.K (.ref C) "__getitem__" = some (some (.ref f))) (hfn : PySem.W.fnIn X.K f = true) (hf : PySem.W.isFn X.K (.ref f) = true) (ha : PE X a ta) (hb' : PE X b tb)
    (hsl : ∀ o i, subscripted b true o i = runValue (.builtin "lifetime.subscript" ⟨[o, i], []⟩)) : PE X (.Subscript a b pos) (fun σ H Q => tOp (rIxO C sp (E σ)) ta tb σ H Q) := by
  refine ⟨fun pins s σ H Q I h => ?_⟩
  refine Subscript_ (binT ha hb' I h fun v u s2 x y H2 I2 rx ry q => ?_)
  obtain ⟨p, dx, fs, rfl, hp, q⟩ := q
  cases (show v = Value.ref p from rx)
  obtain ⟨mA, J, _⟩ := ins_get I2.hok hp
  obtain ⟨od, J, _⟩ := J.look
  obtain ⟨m, hF⟩ := I2.fr
  exact PySem.W.sub_K hF I2.ok.mod.kin J hs hfn hf (dun_callH F rfl rfl ⟨by have := hr.dp; show X.A.depth + 3 * k + 5 < _; omega, by have := hr.un; show X.A.units + 1 + 16 * k + 200 < _; omega⟩ hc hb (hx _) I2 (.cons (show RelV (.ref p) (.ref p) from rfl) (.cons ry .nil)) q) (hsl _ _)
end
section
variable {X : Cx} {a b c : Expr} {ta tb tc : TT} {pos : Pos}
/-- the test a if c else b -/
def tIfT (tc ta tb : TT) : TT := fun σ H Q => tc σ H fun d H1 => if d = true then ta σ H1 Q else tb σ H1 Q
theorem pt_ifExp (hc : PT X c tc) (ha : PT X a ta) (hb : PT X b tb) : PT X (.IfExp c a b pos) (tIfT tc ta tb) := by
  refine ⟨fun pins s σ H Q I h => ?_⟩
  refine isTrue_IfExp (thn (hc.run pins s σ H _ I h) fun d s1 ⟨H1, I1, q1⟩ => ?_)
  cases d with
  | true => exact ha.run pins s1 σ H1 Q I1 q1
  | false => exact hb.run pins s1 σ H1 Q I1 q1
end
end Wk
/-! The law's webs, and sums of rows. -/
namespace T27
open PySem PySem.Spec PyProof.Rows L2 Wk Vb StX RZ
abbrev sLWeb : Stmt := top 32
abbrev sLSum : Stmt := top 33
theorem scLW : FnScope ["_law_bag_here", "_law_size", "_law_found", "_law_k", "_law_u", "_law_v"] ["_law_bag_here", "_law_size"] (defScope sLWeb) := ⟨rfl, rfl, rfl, by decide +kernel, rfl, by decide +kernel, by decide +kernel⟩
theorem scLS : FnScope ["_law_one", "_law_other", "_law_times", "_law_x", "_law_y"] ["_law_one", "_law_other", "_law_times"] (defScope sLSum) := ⟨rfl, rfl, rfl, by decide +kernel, rfl, by decide +kernel, by decide +kernel⟩
def spLWeb (K : PySem.W.Frag) (C : Addr) : Sp := fun vs H Q _ => ∃ (b l : Addr) (c n : Nat), vs = [.ref b, .int (n : Int)] ∧ BagAt H b l c ∧ c + 130 ≤ 999000 ∧ n ≤ 60 ∧
  ∀ H' w am T, BagAt H' b l (c + 130) → But b H H' → WA K C H' w n am T → (∀ u v, am u v ≤ 100000) → Q (.ref w) H'
def spLSum (K : PySem.W.Frag) : Sp := fun vs H Q _ => ∃ (a b : Addr) (xs ys : List Int) (k : Int), vs = [.ref a, .ref b, .int k] ∧ SqT K H a (xs.map V.int) ∧ SqT K H b (ys.map V.int) ∧ xs.length = ys.length ∧ xs.length ≤ 1000 ∧ 0 ≤ k ∧ k ≤ 1000 ∧
  ∀ H' p, Same H H' → H' p = some (.tup ((List.zipWith (fun x y => x + k * y) xs ys).map V.int)) → Q (.ref p) H'
theorem amt_bd {B : Int} (h0 : 0 ≤ B) : ∀ {L : List T3}, (∀ p ∈ L, p.2.2 ≤ B) → ∀ u v, amt L u v ≤ B * L.length
  | [], _, u, v => by show (0 : Int) ≤ _; simp
  | p :: L, h, u, v => by
    have ih := amt_bd h0 (L := L) (fun q hq => h q (List.mem_cons_of_mem _ hq)) u v
    have := h p List.mem_cons_self
    rw [amt_cons, List.length_cons, Int.natCast_add, Int.mul_add]
    split <;> omega
section
variable {P : Program} {w : World} {K : PySem.W.Frag} {mg : Str → Option Value} {base : Heap} {C f : Addr} {fd : FuncData}
theorem ok_lweb (F : Fun K "_law_web" "_law_web" sLWeb f fd) (B : Bl mg) (MWeb : MkWeb P w K mg base C) (o__law_take : Own P w K mg base CX0 1 "_law_take" ["_law_bag_here", "_law_many"] spTake) :
    FnOk P w K mg base CX0 9 f fd ["_law_bag_here", "_law_size"] (spLWeb K C) := by
  refine F.ok scLW (fun vs H Q E h => ?_) (fun cdv A outer s H vs Q E hr h => ?_)
  · obtain ⟨b, l, c, n, rfl, _⟩ := h
    rfl
  · obtain ⟨b, l, c, n, rfl, Bg, hc, hn, q⟩ := h
    have hu := hu_of hr
    refine ⟨_, (pss_cons (ps_set (i := 2) scLW.nd rfl (Or.inl rfl) (pe_lst pa_nil))
    (pss_cons (ps_for PassesOwn.never rfl (pi_range1 rfl B.m_range (pa_cons (pe_ifExp (pt_cmpR op_gt (pv 1) pe_int (nomark _)) (pe_own o__law_take (hr.mono (by decide)) pass0 (pa_cons (pv 0) (pa_cons pe_int pa_nil))) pe_int) pa_nil)) (pg_name (i := 3) scLW.nd rfl (Or.inl rfl))
      (pss_cons (ps_set (i := 4) scLW.nd rfl (Or.inl rfl) (pe_own o__law_take (hr.mono (by decide)) pass0 (pa_cons (pv 0) (pa_cons (pv 1) pa_nil))))
      (pss_cons (ps_set (i := 5) scLW.nd rfl (Or.inl rfl) (pe_op op_modN (pe_callTy call_int1 (by rfl) B.m_int (by decide +kernel) (pa_cons (pe_op op_add (pe_op op_add (pv 4) pe_int) (pe_own o__law_take (hr.mono (by decide)) pass0 (pa_cons (pv 0) (pa_cons (pe_op op_sub (pv 1) pe_int) pa_nil)))) pa_nil)) (pv 1)))
      (pss_one (ps_expr (pe_bm PySem.F.plainAttrs_list PySem.F.slot_list_append PySem.F.type_list_append mt_append (pv 2) (pa_cons (pe_tup (pa_cons (pv 4) (pa_cons (pv 5) (pa_cons (pe_ix ix_list (pe_lst (pa_cons pe_int (pa_cons pe_int (pa_cons (pe_own o__law_take (hr.mono (by decide)) pass0 (pa_cons (pv 0) (pa_cons pe_int pa_nil))) (pa_cons (pe_own o__law_take (hr.mono (by decide)) pass0 (pa_cons (pv 0) (pa_cons pe_int pa_nil))) pa_nil))))) (pe_own o__law_take (hr.mono (by decide)) pass0 (pa_cons (pv 0) (pa_cons pe_int pa_nil))) (fun _ _ => rfl)) pa_nil)))) pa_nil)))))))
    (pss_one (ps_ret (pe_Web MWeb (hr.mono (by decide)) (pa_cons (pv 1) (pa_cons (pv 2) pa_nil))))))), ?_⟩
    obtain ⟨⟨xb, hb⟩, xl, hlb⟩ := Bg.in'
    refine ⟨(by show 0 ≤ sizeLine; decide), fun F nF => ?_⟩
    have s1 := same_new (o := .lst []) nF
    have B1 := Bg.same s1
    have hFb : F ≠ b := Ne.symm (ne_of_none hb nF)
    have hFl : F ≠ l := Ne.symm (ne_of_none hlb nF)
    have hF0 := upd_same (H := H) (a := F) (o := .lst [])
    have b1 : But b H (upd H F (.lst [])) := But.of s1
    generalize upd H F (.lst []) = H1 at B1 hF0 b1 ⊢
    clear s1
    have fin : ∀ (H2 : Hp) (xs : List V) (ps : List T3), BagAt H2 b l (c + 130) → But b H H2 → H2 F = some (.lst xs) → Trs K H2 xs ps → ps.length ≤ 25 → (∀ p ∈ ps, tieB p.1 p.2.1 p.2.2 (n : Int) = true ∧ p.2.2 ≤ 4000) →
        ∃ n' a xs ps, [V.int (n : Int), .ref F] = [V.int (n' : Nat), .ref a] ∧ SqS K H2 a xs ∧ Trs K H2 xs ps ∧ WebOf K C n' ps H2 Q := fun H2 xs ps B2 b2 hF hT hl hv => by
      have ha : ∀ u v, amt (ps.map norm) u v ≤ 100000 := fun u v => by
        have := amt_bd (B := 4000) (by decide) (L := ps.map norm) (fun p hp => by
          obtain ⟨p0, h0, rfl⟩ := List.mem_map.mp hp
          exact (hv p0 h0).2) u v
        rw [List.length_map] at this
        omega
      exact ⟨n, F, xs, ps, rfl, .inl (.inl (.inl hF)), hT, hn, by omega, fun p hp => (hv p hp).1, fun u v => by have := ha u v; omega, fun H' x T s nx ht hw => q H' x _ T (B2.same s) (b2.trans (But.of s)) (mkWA hw ht hn fun u v => by have := ha u v; omega) ha⟩
    refine ⟨_, rfl, _, _, rfl, rfl, _, rfl, ?_⟩
    refine ite2 (fun hcn => ?_) (fun hcn => ?_)
    · have hn1 : (1 : Int) < n := by simpa using hcn
      refine ⟨_, rfl, b, l, 26, _, rfl, by decide, by decide, B1, by omega, fun r H2 r0 r1 B2 b2 => ?_⟩
      obtain ⟨m, rfl⟩ := Int.eq_ofNat_of_zero_le r0
      refine ⟨(m : Int), rfl, by omega, by omega, ?_⟩
      rw [Int.toNat_natCast]
      have hF2 := b2 _ _ hFb hF0
      refine for_it walk_range (fun i σ H3 => (∃ v3 v4 v5, σ = [some (.ref b), some (.int (n : Int)), some (.ref F), v3, v4, v5]) ∧ BagAt H3 b l (c + 1 + 5 * i) ∧ But b H H3 ∧
        ∃ xs ps, H3 F = some (.lst xs) ∧ Trs K H3 xs ps ∧ ps.length = i ∧ ∀ p ∈ ps, tieB p.1 p.2.1 p.2.2 (n : Int) = true ∧ p.2.2 ≤ 4000) ⟨⟨_, _, _, rfl⟩, B2, b1.trans b2, [], [], hF2, True.intro, rfl, fun p hp => (by cases hp)⟩ (fun _ _ _ _ _ => True.intro) ?_ ?_
      · rintro i x σ H3 H4 hi ⟨⟨v3, v4, v5, rfl⟩, B3, b3, xs, ps, hF, hT, hpl, hv⟩ ⟨rfl, rfl⟩
        obtain ⟨⟨xb2, hb2⟩, _⟩ := B3.in'
        refine ⟨_, rfl, _, rfl, b, l, (n : Int), _, rfl, by omega, by omega, B3, by omega, fun u H5 u0 u1 B5 b5 => ?_⟩
        refine ⟨_, rfl, u, 1, rfl, rfl, _, rfl, _, rfl, (n : Int), 1, rfl, rfl, b, l, (n : Int) - 1, _, rfl, by omega, by omega, B5, by omega, fun st H6 st0 st1 B6 b6 => ⟨u + 1, st, rfl, rfl, .inl ⟨_, rfl, _, rfl, _, _, rfl, rfl, (by omega), ?_⟩⟩⟩
        obtain ⟨v, hvv, v0, v1, uv⟩ : ∃ v : Int, (u + 1 + st).fmod (n : Int) = v ∧ 0 ≤ v ∧ v < n ∧ u ≠ v := by
          refine ⟨_, rfl, ?_⟩
          rw [Int.fmod_eq_emod_of_nonneg _ (by omega)]
          refine ⟨Int.emod_nonneg _ (by omega), Int.emod_lt_of_pos _ (by omega), fun e => ?_⟩
          have h1 := Int.emod_add_mul_ediv (u + 1 + st) (n : Int)
          rw [← e] at h1
          generalize (u + 1 + st) / (n : Int) = qq at h1
          have h2 : (n : Int) * qq = 1 + st := by omega
          have : qq ≤ 0 ∨ 1 ≤ qq := by omega
          rcases this with h | h
          · have := Int.mul_nonpos_of_nonneg_of_nonpos (show (0 : Int) ≤ n by omega) h
            omega
          · have := Int.mul_le_mul_of_nonneg_left h (show (0 : Int) ≤ n by omega)
            omega
        dsimp only
        rw [hvv]
        refine ⟨_, rfl, .inl ⟨rfl, _, .inl (.inl ((b5.trans b6) _ _ hFb hF))⟩, _, rfl, _, rfl, ?_⟩
        refine ⟨_, rfl, b, l, 4, _, rfl, by decide, by decide, B6, by omega, fun x2 H7 x20 x21 B7 b7 => ?_⟩
        refine ⟨_, rfl, b, l, 4001, _, rfl, by decide, by decide, B7, by omega, fun x3 H8 x30 x31 B8 b8 => ⟨(by show 4 ≤ sizeLine; decide), fun L nL => ?_⟩⟩
        have sL := same_new (o := .lst [V.int 1, V.int 2, V.int x2, V.int x3]) nL
        have B8' := B8.same sL
        refine ⟨_, rfl, b, l, 4, _, rfl, by decide, by decide, B8', by omega, fun md H9 m0 m1 B9 b9 => ?_⟩
        have hLb : L ≠ b := Ne.symm (ne_new nL B8.in'.1.choose_spec)
        have hnum : ∃ z : Int, 0 ≤ z ∧ z ≤ 4000 ∧ atI [V.int 1, V.int 2, V.int x2, V.int x3] md = some (.int z) := by
          have : md = 0 ∨ md = 1 ∨ md = 2 ∨ md = 3 := by omega
          rcases this with rfl | rfl | rfl | rfl
          · exact ⟨1, by omega, by omega, atI_nat (j := 0) rfl⟩
          · exact ⟨2, by omega, by omega, atI_nat (j := 1) rfl⟩
          · exact ⟨x2, by omega, by omega, atI_nat (j := 2) rfl⟩
          · exact ⟨x3, by omega, by omega, atI_nat (j := 3) rfl⟩
        obtain ⟨z, z0, z1, hz⟩ := hnum
        refine ⟨L, _, md, _, rfl, rfl, .inl (.inl (b9 _ _ hLb upd_same)), hz, (by show 3 ≤ sizeLine; decide), fun R nR => ?_⟩
        replace nR : New H9 R := nR
        have bb : But b H4 H9 := b5.trans (b6.trans (b7.trans (b8.trans ((But.of sL).trans b9))))
        have sR := same_new (o := .tup [.int u, .int v, .int z]) nR
        have bR := bb.trans (But.of sR)
        have hF10 := bR _ _ hFb hF
        have hT10 := Trs.but hb2 bR hT
        have hRF : R ≠ F := Ne.symm (ne_new nR (bb _ _ hFb hF))
        refine ⟨F, xs, _, rfl, rfl, hF10, by rw [hT.length, hpl, sizeLine_eq]; omega, ⟨_, _, _, rfl⟩, ((B9.same sR).put hFb hFl).mono (by omega), fun c' o hc' ho => ?_, xs ++ [.ref R], ps ++ [(u, v, z)], upd_same, ?_, by rw [List.length_append, hpl]; rfl, ?_⟩
        · rw [upd_ne (ne_of_none ho nF)]
          exact bR c' o hc' (b3 c' o hc' ho)
        · exact Trs.append (Trs.but hF10 (But.upd _ _ _) hT10) ⟨⟨R, rfl, .inl (.inl (by rw [upd_ne hRF]; exact upd_same))⟩, True.intro⟩
        · intro p hp
          rcases List.mem_append.mp hp with hp | hp
          · exact hv p hp
          · cases List.mem_singleton.mp hp
            exact ⟨tieB_iff.mpr ⟨u0, u1, v0, v1, uv, by dsimp only; omega, by dsimp only; omega⟩, z1⟩
      · rintro σ H3 ⟨⟨v3, v4, v5, rfl⟩, B3, b3, xs, ps, hF, hT, hpl, hv⟩
        exact ⟨_, rfl, _, rfl, fin H3 xs ps (B3.mono (by omega)) b3 hF hT (by omega) hv⟩
    · refine ⟨_, rfl, by decide, by decide, ?_⟩
      refine for_it walk_range (fun i σ H3 => (∃ v3 v4 v5, σ = [some (.ref b), some (.int (n : Int)), some (.ref F), v3, v4, v5]) ∧ H3 = H1) ⟨⟨_, _, _, rfl⟩, rfl⟩ (fun _ _ _ _ _ => True.intro) (fun i x σ H3 H4 hi _ _ => absurd hi (Nat.not_lt_zero _)) ?_
      rintro σ H3 ⟨⟨v3, v4, v5, rfl⟩, rfl⟩
      exact ⟨_, rfl, _, rfl, fin H3 [] [] (B1.mono (by omega)) b1 hF0 True.intro (by decide) fun p hp => (by cases hp)⟩
theorem ok_lsum (F : Fun K "_law_sum" "_law_sum" sLSum f fd) (B : Bl mg) : FnOk P w K mg base CX0 1 f fd ["_law_one", "_law_other", "_law_times"] (spLSum K) := by
  refine F.ok scLS (fun vs H Q E h => ?_) (fun cdv A outer s H vs Q E hr h => ?_)
  · obtain ⟨a, b, xs, ys, k, rfl, _⟩ := h
    rfl
  · obtain ⟨a, b, xs, ys, k, rfl, ha, hb, hl, h1, k0, k1, q⟩ := h
    have hu := hu_of hr
    refine ⟨_, (pss_one (ps_ret (pe_callTy call_tuple_of (by rfl) B.m_tuple (by decide +kernel) (pa_cons (pe_lc (own := [("_law_x", 3), ("_law_y", 4)]) (g := (gTup K 2 (gCons (gName 3) (gCons (gName 4) gNil)))) (tt := tYes) rfl scLS.nd (pi_zipA (by rfl) B.m_zip (pa_cons (pv 0) (pa_cons (pv 1) pa_nil))) (blkOk_by (N := ["_law_one", "_law_other", "_law_times", "_law_x", "_law_y"]) (sc := defScope sLSum) (by decide +kernel)) (fun _ _ _ _ _ => pg_tup (by rfl) (pgs_cons (pg_name (i := 3) scLS.nd rfl (Or.inl rfl)) (pgs_cons (pg_name (i := 4) scLS.nd rfl (Or.inl rfl)) pgs_nil))) (fun _ _ _ _ _ => pts_nil) (fun _ _ _ _ _ => (pe_op op_add (pv 3) (pe_op op_mul (pv 2) (pv 4))))) pa_nil)))), ?_⟩
    refine ⟨_, rfl, _, rfl, a, b, _, _, rfl, .inr ⟨ha, hb, fun D nD => ?_⟩⟩
    replace nD : New H D := nD
    have hlz : (List.zipWith (fun x y => x + k * y) xs ys).length = xs.length := by rw [List.length_zipWith]; omega
    refine lc_it (walk_zipT (n := xs.length) (List.length_map _) (by rw [List.length_map]; exact hl.symm)) (fun i H5 => Same H H5 ∧ H5 D = some (.lst (((List.zipWith (fun x y => x + k * y) xs ys).take i).map V.int)))
      ⟨same_new nD, upd_same⟩ (fun i H5 _ z => ⟨ha.ext fun o u e => z.1 _ _ e, hb.ext fun o u e => z.1 _ _ e⟩) ?_ ?_
    · rintro i x H5 H6 hi ⟨m1, m2⟩ ⟨T2, x', y, rfl, nT2, rfl, hxi, hyi⟩
      replace hxi : (xs.map V.int)[i]? = some x' := hxi
      replace hyi : (ys.map V.int)[i]? = some y := hyi
      rw [List.getElem?_map] at hxi hyi
      obtain ⟨u, hu', rfl⟩ := Option.map_eq_some_iff.mp hxi
      obtain ⟨v, hv', rfl⟩ := Option.map_eq_some_iff.mp hyi
      replace nT2 : New H5 T2 := nT2
      have s6 := same_new (o := .tup [.int u, .int v]) nT2
      refine ⟨T2, _, rfl, .inl (.inl upd_same), rfl, _, _, rfl, _, _, rfl, rfl, rfl, ?_⟩
      refine ⟨_, rfl, _, rfl, _, rfl, k, v, rfl, rfl, .inl (by omega), u, k * v, rfl, rfl, _, s6 _ _ m2, by rw [List.length_map, List.length_take, sizeLine_eq]; omega, over nD (m1.trans s6), ?_⟩
      rw [upd_same, List.take_add_one, List.getElem?_zipWith, hu', hv', List.map_append]
      rfl
    · rintro H5 ⟨m1, m2⟩
      refine ⟨D, _, rfl, .inl ⟨.inl (.inl m2), fun t nt => ?_⟩⟩
      rw [← hlz, List.take_length] at m2 ⊢
      exact q _ t (m1.trans (same_new nt)) upd_same
end
end T27
/-! web[u, v] within an except suite; the law's fits. -/
namespace T27
open PySem PySem.Spec PyProof.Rows L2 L2H Wk Vb StX RZ
section
variable {P : Program} {w : World} {K : PySem.W.Frag} {mg : Str → Option Value} {base : Heap} {C f : Addr} {fd : FuncData}
theorem okH {CX : CXT} {x qual : Str} {st : Stmt} {N ps : List Str} {k : Nat} {sp : Sp} (F : Fun K x qual st f fd) (S : FnScope N ps (defScope st)) (len : ∀ vs H Q E, sp vs H Q E → vs.length = ps.length)
    (hbody : ∀ (cdv : Value) (A : Around) (outer : List Env) (s : Shared) (H : Hp) (vs : List V) (Q : VK) (E : XK) (p : Addr × Obj), HotC (cxH CX P w K mg base N qual (defScope st) f cdv A outer s H E p) → RoomH k (A.deeper (envOfC qual (defScope st) s.heap.objs.size f cdv)) → sp vs H Q E →
      ∃ t, PSs (cxH CX P w K mg base N qual (defScope st) f cdv A outer s H E p) (defBody st) t ∧ t { nx := fun _ H' => Q .non H', rt := Q } (L2.start N vs) H) :
    FnH P w K mg base CX (k + 1) f fd ps sp := by
  obtain ⟨oc, od, kV, doc, pm, an, cdv, ct, osl, rfl, lk, hcd⟩ := F.ex
  exact fn_ofH lk hcd S len fun A outer s H vs Q E p hot hr hsp => hbody cdv A outer s H vs Q E p ⟨p, hot, List.mem_singleton.mpr rfl⟩ hr hsp
theorem ok_getH {k : Nat} (F : Fun K "__getitem__" "Web.__getitem__" sGet f fd) (T : TxtW K mg C) : FnH P w K mg base CX0 (k + 1) f fd ["self", "at"] (spGet K C) := by
  refine okH F scGe (fun vs H Q E h => ?_) (fun cdv A outer s H vs Q E p hc hr h => ?_)
  · obtain ⟨w, p, n, T, u, v, rfl, _⟩ := h
    rfl
  · obtain ⟨w, p, n, TT, u, v, rfl, hW, hp, q⟩ := h
    have hu : (A.deeper (envOfC "Web.__getitem__" (defScope sGet) s.heap.objs.size f cdv)).units + 1 < cLine := by have := hr.un; omega
    obtain ⟨dx, t, ys, d, g, h1, h2, h3, h4, h5⟩ := hW.ex
    refine ⟨_, pss_cons (ps_asg (pv 1) (pg_tupH hc (pgs_cons (pg_name (i := 2) scGe.nd rfl (Or.inl rfl)) (pgs_cons (pg_name (i := 3) scGe.nd rfl (Or.inl rfl)) pgs_nil))))
      (pss_cons (ps_if (pt_cmp (pc_din hu (pe_tup (pa_cons (pv 2) (pa_cons (pv 3) pa_nil))) (pe_fld (pv 0) rfl))) (pss_one (ps_ret (pe_dget hu (pe_fld (pv 0) rfl) (pe_tup (pa_cons (pv 2) (pa_cons (pv 3) pa_nil))) (fun _ _ => rfl)))) pss_nil)
      (pss_one (ps_ret pe_int))), ?_⟩
    refine ⟨.ref p, rfl, p, _, rfl, hp, rfl, _, _, rfl, _, _, rfl, rfl, ?_⟩
    refine ⟨_, rfl, _, rfl, (by show 2 ≤ sizeLine; decide), fun R nR => ?_⟩
    have s1 : Same H (upd H R (.tup [.int u, .int v])) := same_upd nR
    refine ⟨.ref w, rfl, w, C, dx, _, _, rfl, s1 _ _ h1, T.cl, T.n4, lk5n _ _ _ _ _, d, _, rfl, DGet.t (k := [.inl u, .inl v]) (s1 _ _ h4) upd_same, ?_⟩
    rw [valV_both]
    cases hl : look TT u v with
    | none =>
      rw [hl] at q
      exact ⟨_, rfl, q _ s1⟩
    | some m =>
      rw [hl] at q
      refine ⟨_, rfl, .ref w, rfl, w, C, dx, _, _, rfl, s1 _ _ h1, T.cl, T.n4, lk5n _ _ _ _ _, _, rfl, _, rfl, (by show 2 ≤ sizeLine; decide), fun R2 nR2 => ?_⟩
      have s2 : Same (upd H R (.tup [.int u, .int v])) (upd (upd H R (.tup [.int u, .int v])) R2 (.tup [.int u, .int v])) := same_upd nR2
      have e2 := DGet.t (k := [.inl u, .inl v]) (s2 _ _ (s1 _ _ h4)) (upd_same (H := upd H R (.tup [.int u, .int v])) (a := R2) (o := .tup [.int u, .int v]))
      rw [valV_both, hl] at e2
      exact ⟨d, _, rfl, e2, q _ (s1.trans s2)⟩
end
end T27
/-! The law's fits. -/
namespace T27
open PySem PySem.Spec PyProof.Rows L2 L2H Wk Vb StX RZ
abbrev sFits : Stmt := top 34
theorem scFi : FnScope ["_law_one", "_law_other", "e", "_law_u", "_law_v"] ["_law_one", "_law_other"] (defScope sFits) := ⟨rfl, rfl, rfl, by decide +kernel, rfl, by decide +kernel, by decide +kernel⟩
/-- what is seen of an error's class where it is caught -/
structure ErrX (K : PySem.W.Frag) (c : Addr) : Prop where
  xf : XfC K c
  exm : PySem.W.exmOne K (.ref c) (.ref c) = some true
/-- the class's operators -/
structure OpsW (P : Program) (w : World) (K : PySem.W.Frag) (mg : Str → Option Value) (base : Heap) (C cU cT cF : Addr) (k : Nat) (fa fs fm fr : Addr) (da ds dm dr : FuncData) : Prop where
  A : FnOk P w K mg base (L2N.CX P w) k fa da ["self", "other"] (spAdd K C cU cT)
  S : FnOk P w K mg base (L2N.CX P w) k fs ds ["self", "other"] (spSub K C cU cF)
  M : FnOk P w K mg base (L2N.CX P w) k fm dm ["self", "other"] (spTimes K C cT)
  R : FnOk P w K mg base (L2N.CX P w) k fr dr ["self", "other"] (spTimes K C cT)
  bA : Binds K da ["self", "other"] []
  bS : Binds K ds ["self", "other"] []
  bM : Binds K dm ["self", "other"] []
  bR : Binds K dr ["self", "other"] []
  sA : PySem.W.findIn K (.ref C) "__add__" = some (some (.ref fa))
  sS : PySem.W.findIn K (.ref C) "__sub__" = some (some (.ref fs))
  sM : PySem.W.findIn K (.ref C) "__mul__" = some (some (.ref fm))
  sR : PySem.W.findIn K (.ref C) "__rmul__" = some (some (.ref fr))
  iA : PySem.W.isFn K (.ref fa) = true
  iS : PySem.W.isFn K (.ref fs) = true
  iM : PySem.W.isFn K (.ref fm) = true
  iR : PySem.W.isFn K (.ref fr) = true
  self : PySem.W.selfFirst K C = true
  i1 : ∃ fo, PySem.W.findIn K (.type "int") "__mul__" = some fo
  i2 : ∃ ro, PySem.W.findIn K (.type "int") "__rmul__" = some ro
  sub1 : PySem.W.subIn K (.type "int") (.ref C) = some false
  sub2 : PySem.W.subIn K (.ref C) (.type "int") = some false
/-- == and != of webs -/
structure EqW (P : Program) (w : World) (K : PySem.W.Frag) (mg : Str → Option Value) (base : Heap) (C : Addr) (k : Nat) (fe : Addr) (de : FuncData) : Prop where
  Q : FnOk P w K mg base CX0 k fe de ["self", "other"] (spEqW K C)
  bQ : Binds K de ["self", "other"] []
  ty : ∀ (H : Hp) (a dx : Addr) (fs : List (Str × V)), H a = some (.ins C dx fs) → TyX K H (.ref a) (.ref C)
  nf : PySem.W.notFirst K C (.ref C) = true
  ne : PySem.W.findIn K (.ref C) "__ne__" = some (some (.builtin "object.__ne__"))
  ob : PySem.W.mroIn K C (.type "object") = some true
  sQ : PySem.W.findIn K (.ref C) "__eq__" = some (some (.ref fe))
  iQ : PySem.W.isFn K (.ref fe) = true
/-- web[u, v], calm and in an except suite -/
structure GetH (P : Program) (w : World) (K : PySem.W.Frag) (mg : Str → Option Value) (base : Heap) (C : Addr) (k : Nat) (fg : Addr) (dg : FuncData) : Prop where
  G : GetW P w K mg base C k fg dg
  H : FnH P w K mg base CX0 k fg dg ["self", "at"] (spGet K C)
theorem few_first {am2 : Int → Int → Int} : ∀ {T : List T3}, T.Pairwise lt2 → (∃ p ∈ T, am2 p.1 p.2.1 < p.2.2) → ∃ p ∈ T, am2 p.1 p.2.1 < p.2.2 ∧ ∀ q ∈ T, lt2 q p → q.2.2 ≤ am2 q.1 q.2.1
  | [], _, ⟨p, hp, _⟩ => by cases hp
  | a :: T, hs, h => by
    obtain ⟨h1, h2⟩ := List.pairwise_cons.mp hs
    by_cases c : am2 a.1 a.2.1 < a.2.2
    · refine ⟨a, List.mem_cons_self, c, fun q hq k => ?_⟩
      rcases List.mem_cons.mp hq with rfl | hq
      · exact (lt2_irrefl k ⟨rfl, rfl⟩).elim
      · exact (lt2_irrefl (lt2.trans k (h1 q hq)) ⟨rfl, rfl⟩).elim
    · obtain ⟨p, hp, e⟩ := h
      have hp' : p ∈ T := by
        rcases List.mem_cons.mp hp with rfl | hp
        · exact (c e).elim
        · exact hp
      obtain ⟨p', m1, m2, m3⟩ := few_first h2 ⟨p, hp', e⟩
      refine ⟨p', List.mem_cons_of_mem _ m1, m2, fun q hq k => ?_⟩
      rcases List.mem_cons.mp hq with rfl | hq
      · omega
      · exact m3 q hq k
/-- == of two webs with their amounts -/
theorem eq_web {K : PySem.W.Frag} {C w1 w2 : Addr} {H : Hp} {n n2 : Nat} {am am2 : Int → Int → Int} {T T2 : List T3} {Q : V → Hp → Prop} {E : XK} (ty : ∀ (H : Hp) (a dx : Addr) (fs : List (Str × V)), H a = some (.ins C dx fs) → TyX K H (.ref a) (.ref C)) (nf : PySem.W.notFirst K C (.ref C) = true)
    (V1 : WA K C H w1 n am T) (V2 : WA K C H w2 n2 am2 T2) (hn : n = n2) (h : ∀ u v, am u v = am2 u v) (q : Q (.bl true) H) : rEqO K C (spEqW K C) E (.ref w1) (.ref w2) H Q := by
  obtain ⟨dx, t, ys, d, g, h1, _⟩ := V1.web.ex
  obtain ⟨dx2, t2, ys2, d2, g2, k1, _⟩ := V2.web.ex
  refine ⟨w1, dx, _, .ref C, rfl, h1, ty _ _ _ _ k1, nf, w1, n, T, .ref w2, rfl, V1.web, .inr ⟨w2, n2, T2, rfl, V2.web, true, ?_, q⟩⟩
  rw [decide_eq_true hn, decide_eq_true (V1.ties.eq V2.ties h)]
  rfl
def spFits (K : PySem.W.Frag) (C : Addr) : Sp := fun vs H Q _ => ∃ w n am T w2 am2 T2, vs = [.ref w, .ref w2] ∧ WA K C H w n am T ∧ WA K C H w2 n am2 T2 ∧
  (((∀ u v, am u v ≤ am2 u v) ∧ ∀ H', Same H H' → Q (.bl true) H') ∨ ((∃ u v, am2 u v < am u v) ∧ ∀ H', Same H H' → Q (.bl false) H'))
section
variable {P : Program} {w : World} {K : PySem.W.Frag} {mg : Str → Option Value} {base : Heap} {C f : Addr} {fd : FuncData}
theorem pe_xfPK {X : Cx} {K : PySem.W.Frag} {a : Addr} {oe : Obj} {cls : Value} {d : Option Addr} {e : Expr} {te : TE} {pos : Pos} {n : Str} (hK : X.K = K) (hp : (a, oe) ∈ X.pn) (hz : Zc cls d oe) (hf : ∃ ws, oe.data = .fields ws) (he : PE X e te)
    (hb : attributeBase e n X.env (eval e X.env) = eval e X.env := by rfl) : PE X (.Attribute e n pos) (tXfP K a cls d n te) := by
  subst hK
  exact pe_xfP hp hz hf he hb
theorem hot_suite {X : Cx} {a : Addr} {oe : Obj} {cls : Value} {d : Option Addr} {pn : List (Addr × Obj)} (hz : L2N.Zn cls d oe) (hf : ∃ ws, oe.data = .fields ws) : HotC (X.suite a ((a, oe) :: pn)) := by
  obtain ⟨ws, hw⟩ := hf
  exact ⟨(a, oe), ⟨rfl, ws, hw, hz.2.2 ws hw⟩, List.mem_cons_self⟩
theorem ok_fits {cU cT cF fa fs fm fr fe fg : Addr} {da ds dm dr de dg : FuncData} (F : Fun K "_law_fits" "_law_fits" sFits f fd) (Tw : TxtW K mg C) (OP : OpsW P w K mg base C cU cT cF 10 fa fs fm fr da ds dm dr) (EQ : EqW P w K mg base C 10 fe de) (GG : GetH P w K mg base C 9 fg dg)
    (X : ErrX K cF) (gF : mg "TooFew" = some (.ref cF)) (nF : PySem.W.findIn K (.ref cF) "pair" = some none) : FnOk P w K mg base CX0 11 f fd ["_law_one", "_law_other"] (spFits K C) := by
  refine F.ok scFi (fun vs H Q E h => ?_) (fun cdv A outer s H vs Q E hr h => ?_)
  · obtain ⟨w, n, am, T, w2, am2, T2, rfl, _⟩ := h
    rfl
  · obtain ⟨w1, n, am, TT, w2, am2, T2, rfl, V1, V2, q⟩ := h
    have hu := hu_of hr
    refine ⟨_, pss_one (L2N.ps_try_as (i := 2) (Wout := fun _ _ _ _ => False) rfl rfl scFi.nd rfl rfl ⟨rfl, by decide, Or.inl gF⟩ takes0N
      (fun WW pn xe tk _ => pss_one (ps_ret (by exact (pe_cmpR (r := rEqO K C (spEqW K C) E0) (op_eqO EQ.Q hr EQ.bQ pass0 EQ.sQ EQ.iQ) (pv 1) (pe_binO (op := .Add) OP.A hr OP.bA (fun σ => L2N.passAt tk σ) OP.self OP.sA OP.iA (pe_binO (op := .Sub) OP.S hr OP.bS (fun σ => L2N.passAt tk σ) OP.self OP.sS OP.iS (pv 1) (pv 0)) (pv 0)) (nomark _)))))
      (fun a oe cls d pn hz hf => pss_cons (ps_asg (by exact (pe_xfPK (K := K) rfl List.mem_cons_self (L2N.Zn.zc hz) hf (pv 2))) (by exact (pg_tupHK (K := K) (n := 2) (X := (cxOf CX0 P w K mg base ["_law_one", "_law_other", "e", "_law_u", "_law_v"] "_law_fits" (defScope sFits) f cdv A outer s H E).suite a ((a, oe) :: pn)) rfl (hot_suite hz hf) (pgs_cons (pg_name (i := 3) scFi.nd rfl (Or.inl rfl)) (pgs_cons (pg_name (i := 4) scFi.nd rfl (Or.inl rfl)) pgs_nil)))))
        (pss_one (ps_ret (by exact (pe_ifExp (PW.pt (pw_and (pt_cmpR op_lt (pv 3) (pv 4) (nomark _)) (pw_and1 (pt_cmpR op_gt (pe_ixOH (E := fun _ => E0) GG.H ⟨hr.dp, hr.un⟩ (by exact hot_suite hz hf) GG.G.bG (fun σ _ _ _ _ _ _ h => h.elim) GG.G.sG GG.G.nG GG.G.iG (pv 0) (pe_tup (pa_cons (pv 3) (pa_cons (pv 4) pa_nil))) (fun _ _ => rfl)) (pe_ixOH (E := fun _ => E0) GG.H ⟨hr.dp, hr.un⟩ (by exact hot_suite hz hf) GG.G.bG (fun σ _ _ _ _ _ _ h => h.elim) GG.G.sG GG.G.nG GG.G.iG (pv 1) (pe_tup (pa_cons (pv 3) (pa_cons (pv 4) pa_nil))) (fun _ _ => rfl)) (nomark _))))) pe_bl pe_non)))))), ?_⟩
    obtain ⟨dx, t, ys, d0, g, h1, _⟩ := V1.web.ex
    obtain ⟨dx2, t2, ys2, d2, g2, k1, _⟩ := V2.web.ex
    refine ⟨_, rfl, _, rfl, _, rfl, w2, w1, dx2, dx, _, _, rfl, rfl, k1, h1, w2, n, am2, T2, w1, n, am, TT, rfl, V2, V1, .inr ⟨rfl, fun hle H' x T' s' ht hw => ?_, fun p hp hlt hfst H' R d sH hR nd => ?_⟩⟩
    · rcases q with ⟨_, q⟩ | ⟨⟨u, v, hx⟩, _⟩
      · have VX : WA K C H' x n (fun u v => am2 u v - am u v) T' := ⟨hw, ht, V1.n60, by have := ties_len60 ht V1.n60; omega, fun u v => by have := V2.bd u v; have := ties_pos V1.ties u v; omega⟩
        obtain ⟨dx3, t3, ys3, d3, g3, j1, _⟩ := hw.ex
        refine ⟨x, rfl, _, rfl, x, w1, dx3, dx, _, _, rfl, rfl, j1, s' _ _ h1, x, n, _, T', w1, n, am, TT, rfl, VX, V1.same s', .inr ⟨rfl, .inl ⟨fun u v => by have := V2.bd u v; omega, fun H'' y T'' s'' ht' hw' => ?_⟩⟩⟩
        refine ⟨y, rfl, eq_web EQ.ty EQ.nf (V2.same (s'.trans s'')) (mkWA hw' ht' V1.n60 fun u v => by have := V2.bd u v; omega) rfl (fun u v => by omega) (q _ (s'.trans s''))⟩
      · have := hle u v
        omega
    · rcases q with ⟨hle, _⟩ | ⟨_, q⟩
      · have := hle p.1 p.2.1
        rw [ties_num V1.ties hp] at this
        omega
      · refine ⟨true, X.exm, fun _ ax na => ?_, fun z => Bool.noConfusion z⟩
        have sd := same_new (o := .xd [("pair", .ref R)]) nd
        have hpm := V1.ties.mem p hp
        refine ⟨_, rfl, rfl, cF, d, _, _, rfl, X.xf, nF, rfl, upd_same, rfl, ?_⟩
        refine ⟨R, _, rfl, .inl (.inl (sd _ _ hR)), rfl, _, _, rfl, _, _, rfl, rfl, ?_⟩
        refine ⟨_, rfl, _, rfl, p.1, p.2.1, rfl, rfl, decide (p.1 < p.2.1), rfl, ?_⟩
        rw [decide_eq_true hpm.2.1]
        have s1 := sH.trans sd
        refine ⟨_, rfl, _, rfl, _, rfl, (by show 2 ≤ sizeLine; decide), fun R2 nR2 => ?_⟩
        have sR := same_new (o := .tup [.int p.1, .int p.2.1]) nR2
        have s2 := s1.trans sR
        refine ⟨w1, dx, _, rfl, s2 _ _ h1, w1, R2, n, TT, p.1, p.2.1, rfl, V1.web.same s2, .inl (.inl upd_same), fun H6 s6 => ?_⟩
        have s3 := s2.trans s6
        refine ⟨_, rfl, _, rfl, _, rfl, (by show 2 ≤ sizeLine; decide), fun R3 nR3 => ?_⟩
        have sR3 := same_new (o := .tup [.int p.1, .int p.2.1]) nR3
        have s4 := s3.trans sR3
        refine ⟨w2, dx2, _, rfl, s4 _ _ k1, w2, R3, n, T2, p.1, p.2.1, rfl, V2.web.same s4, .inl (.inl upd_same), fun H7 s7 => ?_⟩
        refine ⟨_, _, rfl, rfl, _, rfl, ?_⟩
        rw [(look_amt V1.ties hpm.2.1).1, (look_amt V2.ties hpm.2.1).1, decide_eq_true (by rw [ties_num V1.ties hp]; exact hlt)]
        exact q _ (s4.trans s7)
end
end T27
/-! The law's counts. -/
namespace T27
open PySem PySem.Spec PyProof.Rows L2 Wk Vb StX RZ
abbrev sCnt : Stmt := top 35
theorem scCn : FnScope ["_law_web_here", "_law_size", "_law_u", "_law_v", "_law_number"] ["_law_web_here", "_law_size"] (defScope sCnt) := ⟨rfl, rfl, rfl, by decide +kernel, rfl, by decide +kernel, by decide +kernel⟩
theorem look_comm : ∀ (T : List T3) (u v : Int), look T u v = look T v u
  | [], _, _ => rfl
  | p :: r, u, v => by
    unfold look
    rw [look_comm r u v]
    by_cases c : (p.1 = u ∧ p.2.1 = v) ∨ (p.2.1 = u ∧ p.1 = v)
    · rw [if_pos c, if_pos (by omega)]
    · rw [if_neg c, if_neg (by omega)]
theorem look_self {T : List T3} {n : Int} {am : Int → Int → Int} (h : TiesOf n am T) (v : Int) : look T v v = none := look_none fun p hp => by have := h.mem p hp; omega
theorem sum_filter (f : Nat → Int) (v : Nat) (h : f v = 0) : ∀ (l : List Nat), ((l.filter fun u => decide (u ≠ v)).map f).sum = (l.map f).sum
  | [] => rfl
  | a :: l => by
    by_cases c : a = v
    · subst c
      rw [List.filter_cons_of_neg (by simp), sum_filter f a h l, List.map_cons, List.sum_cons, h, Int.zero_add]
    · rw [List.filter_cons_of_pos (by simpa using c), List.map_cons, List.sum_cons, sum_filter f v h l, List.map_cons, List.sum_cons]
theorem col_deg {T : List T3} {n : Nat} {am : Int → Int → Int} (h : TiesOf (n : Int) am T) (v : Nat) : (((List.range n).filter fun u => decide (u ≠ v)).map fun (u : Nat) => (look T (u : Int) (v : Int)).getD 0).sum = deg T n (v : Int) := by
  rw [sum_filter _ v (by show (look T (v : Int) (v : Int)).getD 0 = 0; rw [look_self h]; rfl)]
  unfold deg
  congr 1
  exact List.map_congr_left fun u _ => by rw [look_comm]
theorem sum_degs {T : List T3} {n : Nat} {am : Int → Int → Int} (h : TiesOf (n : Int) am T) : (degs T n).sum = 2 * total T := by
  have e : degs T n = (List.range n).map fun (x : Nat) => inc T (x : Int) := List.map_congr_left fun x _ => deg_inc h.asc h.mem
  rw [e, sum_inc h.mem]
def spCnt (K : PySem.W.Frag) (C : Addr) : Sp := fun vs H Q _ => ∃ w n am T, vs = [.ref w, .int (n : Nat)] ∧ WA K C H w n am T ∧ ∀ H', Same H H' → Q (.bl true) H'
section
variable {P : Program} {w : World} {K : PySem.W.Frag} {mg : Str → Option Value} {base : Heap} {C f : Addr} {fd : FuncData}
theorem ok_cnt {fg : Addr} {dg : FuncData} (F : Fun K "_law_counts_right" "_law_counts_right" sCnt f fd) (B : Bl mg) (T : TxtW K mg C) (GG : GetW P w K mg base C 9 fg dg) : FnOk P w K mg base CX0 11 f fd ["_law_web_here", "_law_size"] (spCnt K C) := by
  refine F.ok scCn (fun vs H Q E h => ?_) (fun cdv A outer s H vs Q E hr h => ?_)
  · obtain ⟨w, n, am, T, rfl, _⟩ := h
    rfl
  · obtain ⟨w1, n, am, TT, rfl, V, q⟩ := h
    have hu := hu_of hr
    refine ⟨_, (pss_cons (ps_if (PW.pt (pw_or (pt_cmpR op_ne (pe_callB call_len_seq (by rfl) B.m_len PySem.boot_len (pa_cons (pe_fld (pv 0) rfl) pa_nil)) (pv 1) (nomark _)) (pw_or1 (pt_cmpR op_ne (pe_op op_mul pe_int (pe_fld (pv 0) rfl)) (pe_callB (cr_sum rfl) (by rfl) B.m_sum (by decide +kernel) (pa_cons (pe_callTy call_list_of (by rfl) B.m_list (by decide +kernel) (pa_cons (pe_fld (pv 0) rfl) pa_nil)) pa_nil)) (nomark _)))))
      (pss_one (ps_ret pe_bl))
      pss_nil)
    (pss_cons (ps_if (PW.pt (pw_or (pt_cmpR op_ne (pe_fld (pv 0) rfl) (pe_callB (cr_sum rfl) (by rfl) B.m_sum (by decide +kernel) (pa_cons (pe_lc (own := [("_law_u", 2), ("_law_v", 3), ("_law_number", 4)]) (g := (gTup K 3 (gCons (gName 2) (gCons (gName 3) (gCons (gName 4) gNil))))) (tt := tYes) rfl scCn.nd (pi_tup (pe_fld (pv 0) rfl)) (blkOk_by (N := ["_law_web_here", "_law_size", "_law_u", "_law_v", "_law_number"]) (sc := defScope sCnt) (by decide +kernel)) (fun _ _ _ _ _ => pg_tup (by rfl) (pgs_cons (pg_name (i := 2) scCn.nd rfl (Or.inl rfl)) (pgs_cons (pg_name (i := 3) scCn.nd rfl (Or.inl rfl)) (pgs_cons (pg_name (i := 4) scCn.nd rfl (Or.inl rfl)) pgs_nil)))) (fun _ _ _ _ _ => pts_nil) (fun _ _ _ _ _ => (pv 4))) pa_nil)) (nomark _)) (pw_or1 (pt_cmpR op_ne (pe_fld (pv 0) rfl) (pv 1) (nomark _)))))
      (pss_one (ps_ret pe_bl))
      pss_nil)
    (pss_cons (ps_for PassesOwn.never rfl (pi_range1 rfl B.m_range (pa_cons (pv 1) pa_nil)) (pg_name (i := 3) scCn.nd rfl (Or.inr rfl))
      (pss_one (ps_if (pt_cmpR op_ne (pe_ix ix_tup (pe_fld (pv 0) rfl) (pv 3) (fun _ _ => rfl)) (pe_callB (cr_sum rfl) (by rfl) B.m_sum (by decide +kernel) (pa_cons (pe_lc (own := [("_law_u", 2)]) (g := (gName 2)) rfl scCn.nd (pi_range1 rfl B.m_range (pa_cons (pv 1) pa_nil)) (blkOk_by (N := ["_law_web_here", "_law_size", "_law_u", "_law_v", "_law_number"]) (sc := defScope sCnt) (by decide +kernel)) (fun _ _ _ _ _ => pg_name (i := 2) scCn.nd rfl (Or.inl rfl)) (fun _ _ _ _ _ => pts_one (pt_cmpR op_ne (pv 2) (pv 3) (nomark _))) (fun _ _ _ _ _ => (pe_ixO GG.G (hr.mono (by decide)) GG.bG pass0 GG.sG GG.nG GG.iG (pv 0) (pe_tup (pa_cons (pv 2) (pa_cons (pv 3) pa_nil))) (fun _ _ => rfl)))) pa_nil)) (nomark _))
        (pss_one (ps_ret pe_bl))
        pss_nil)))
    (pss_one (ps_ret pe_bl))))), ?_⟩
    obtain ⟨dx, t, ys, d, g, h1, h2, h3, h4, h5⟩ := V.web.ex
    have hdl : (degs TT n).length = n := by unfold degs; rw [List.length_map, List.length_range]
    have hyl : ys.length = TT.length := h3.length
    have hl := V.len
    have hn := V.n60
    have ne1 : ∀ {i j : Int}, i = j → (!decide (L2.V.int i = L2.V.int j)) = false := fun e => by rw [e]; simp
    refine ⟨.ref w1, rfl, w1, C, dx, _, _, rfl, h1, T.cl, T.n5, lk5d _ _ _ _ _, g, _, rfl, .inr (.inl (.inl h5)), _, rfl, rfl, _, rfl, ?_⟩
    rw [List.length_map, hdl, ne1 rfl]
    refine iteF ?_
    refine ⟨.ref w1, rfl, w1, C, dx, _, _, rfl, h1, T.cl, T.n3, lk5o _ _ _ _ _, 2, total TT, rfl, rfl, .inl (by decide), ?_⟩
    refine ⟨.ref w1, rfl, w1, C, dx, _, _, rfl, h1, T.cl, T.n5, lk5d _ _ _ _ _, g, _, rfl, .inr (.inl (.inl h5)), fun L nL => ?_⟩
    have sL := same_new (o := .lst ((degs TT n).map L2.V.int)) nL
    refine ⟨L, degs TT n, rfl, .inl (.inl upd_same), rfl, _, rfl, ?_⟩
    rw [sum_degs V.ties, ne1 rfl]
    refine iteF ?_
    generalize hH1 : upd H L (.lst ((degs TT n).map L2.V.int)) = H1 at sL ⊢
    clear nL hH1
    refine ⟨.ref w1, rfl, w1, C, dx, _, _, rfl, sL _ _ h1, T.cl, T.n3, lk5o _ _ _ _ _, ?_⟩
    refine ⟨.ref w1, rfl, w1, C, dx, _, _, rfl, sL _ _ h1, T.cl, T.n2, lk5t _ _ _ _ _, t, rfl, ⟨ys, .inl (.inl (sL _ _ h2))⟩, fun D nD => ?_⟩
    replace nD : New H1 D := nD
    refine lc_tup (K := K) (a := t) (xs := ys) (fun i H5 => Same H1 H5 ∧ H5 D = some (.lst (((TT.take i).map fun p => p.2.2).map L2.V.int))) ⟨same_new nD, upd_same⟩ (fun i H5 _ h => .inl (.inl ((sL.trans h.1) _ _ h2))) ?_ ?_
    · rintro i x H5 hx ⟨m1, m2⟩
      obtain ⟨p, hp, t', rfl, hSt⟩ := (h3.same (sL.trans m1)).get hx
      have hi := (List.getElem?_eq_some_iff.mp hx).1
      refine ⟨t', _, rfl, hSt, rfl, _, _, rfl, _, _, rfl, _, _, rfl, rfl, rfl, _, rfl, _, m2, by rw [List.length_map, List.length_map, List.length_take, sizeLine_eq]; omega, over nD m1, ?_⟩
      rw [upd_same, List.take_add_one, hp, List.map_append, List.map_append]
      rfl
    rintro H5 ⟨m1, m2⟩
    rw [hyl, List.take_length] at m2
    refine ⟨D, _, rfl, .inl (.inl m2), rfl, _, rfl, ?_⟩
    rw [ne1 (show total TT = (TT.map fun p => p.2.2).sum from rfl)]
    refine iteF ?_
    have s5 := sL.trans m1
    refine ⟨.ref w1, rfl, w1, C, dx, _, _, rfl, s5 _ _ h1, T.cl, T.n1, lk5s _ _ _ _ _, _, rfl, rfl, _, rfl, ?_⟩
    rw [ne1 rfl]
    refine iteF ?_
    clear m2 m1 nD
    refine ⟨_, rfl, (n : Int), rfl, by omega, by omega, ?_⟩
    rw [Int.toNat_natCast]
    refine for_it walk_range (fun i σ H6 => (∃ v2 v3 v4, σ = [some (.ref w1), some (.int (n : Int)), v2, v3, v4]) ∧ Same H H6) ⟨⟨_, _, _, rfl⟩, s5⟩ (fun _ _ _ _ _ => True.intro) ?_ ?_
    · rintro v x σ H6 H7 hv ⟨⟨v2, v3, v4, rfl⟩, s6⟩ ⟨rfl, rfl⟩
      show gName 3 (L2.V.int ((0 : Int) + (v : Int))) _ _ _
      rw [show (0 : Int) + (v : Int) = (v : Int) from Int.zero_add _]
      refine ⟨.ref w1, rfl, w1, C, dx, _, _, rfl, s6 _ _ h1, T.cl, T.n5, lk5d _ _ _ _ _, _, rfl, g, _, (v : Int), _, rfl, rfl, .inl (.inl (s6 _ _ h5)), atI_nat (j := v) (by rw [List.getElem?_map, degs, List.getElem?_map, List.getElem?_range hv]; rfl), ?_⟩
      refine ⟨_, rfl, (n : Int), rfl, by omega, by omega, fun D nD => ?_⟩
      replace nD : New H7 D := nD
      rw [Int.toNat_natCast]
      refine lc_range (lo := 0) (n := n) (fun j H5 => Same H7 H5 ∧ H5 D = some (.lst ((((List.range j).filter fun u => decide (u ≠ v)).map fun (u : Nat) => (look TT (u : Int) (v : Int)).getD 0).map L2.V.int))) ⟨same_new nD, upd_same⟩ ?_ ?_
      · rintro j H8 hj ⟨m1, m2⟩
        rw [show (0 : Int) + (j : Int) = (j : Int) from Int.zero_add _]
        refine ⟨rfl, _, rfl, _, rfl, rfl, _, rfl, ?_⟩
        by_cases c : j = v
        · subst c
          rw [ne1 rfl]
          refine iteF ⟨m1, ?_⟩
          rw [m2, List.range_succ, List.filter_append, List.filter_cons_of_neg (by simp)]
          simp
        · rw [show (!decide (L2.V.int (j : Int) = L2.V.int (v : Int))) = true by
            rw [decide_eq_false (fun z => c (by injection z with z; omega))]; rfl]
          refine ite2 (fun _ => ?_) (fun z => absurd rfl z)
          refine ⟨_, rfl, _, rfl, _, rfl, (by show 2 ≤ sizeLine; decide), fun R nR => ?_⟩
          replace nR : New H8 R := nR
          have sR := same_new (o := .tup [.int (j : Int), .int (v : Int)]) nR
          have s8 := (s6.trans m1).trans sR
          refine ⟨w1, dx, _, rfl, s8 _ _ h1, w1, R, n, TT, (j : Int), (v : Int), rfl, V.web.same s8, .inl (.inl upd_same), fun H9 s9 => ?_⟩
          refine ⟨_, s9 _ _ (sR _ _ m2), ?_, over nD (m1.trans (sR.trans s9)), ?_⟩
          · rw [List.length_map, List.length_map, sizeLine_eq]
            have := List.length_filter_le (fun u => decide (u ≠ v)) (List.range j)
            rw [List.length_range] at this
            omega
          · rw [upd_same, List.range_succ, List.filter_append, List.filter_cons_of_pos (by simpa using c), List.map_append, List.map_append]
            rfl
      · rintro H8 ⟨m1, m2⟩
        refine ⟨D, _, rfl, .inl (.inl m2), rfl, _, rfl, ?_⟩
        rw [col_deg V.ties v, ne1 rfl]
        exact iteF ⟨⟨_, _, _, rfl⟩, s6.trans m1⟩
    · rintro σ H6 ⟨⟨v2, v3, v4, rfl⟩, s6⟩
      exact q _ s6
end
end T27
/-! The law's sums, differences and products. -/
namespace T27
open PySem PySem.Spec PyProof.Rows L2 Wk Vb StX RZ
abbrev sSmR : Stmt := top 36
theorem scSR : FnScope ["_law_one", "_law_other", "_law_third", "_law_k"] ["_law_one", "_law_other", "_law_third", "_law_k"] (defScope sSmR) := ⟨rfl, rfl, rfl, by decide +kernel, rfl, by decide +kernel, by decide +kernel⟩
section
variable {K : PySem.W.Frag} {C cU cT cF w1 w2 : Addr} {H : Hp} {n : Nat} {am1 am2 : Int → Int → Int} {T1 T2 : List T3} {E : XK} {Q : VK}
theorem rd_add (V1 : WA K C H w1 n am1 T1) (V2 : WA K C H w2 n am2 T2) (hb : ∀ u v, am1 u v + am2 u v ≤ 1000000000) (q : ∀ H' x T, Same H H' → WA K C H' x n (fun u v => am1 u v + am2 u v) T → Q (.ref x) H') : rBinO C (spAdd K C cU cT) E (.ref w1) (.ref w2) H Q := by
  obtain ⟨dx, t, ys, d0, g, h1, _⟩ := V1.web.ex
  obtain ⟨dx2, t2, ys2, d2, g2, k1, _⟩ := V2.web.ex
  exact ⟨w1, w2, dx, dx2, _, _, rfl, rfl, h1, k1, w1, n, am1, T1, w2, n, am2, T2, rfl, V1, V2, .inr ⟨rfl, .inl ⟨hb, fun H' x T s ht hw => ⟨x, rfl, q H' x T s (mkWA hw ht V1.n60 hb)⟩⟩⟩⟩
theorem rd_sub (V1 : WA K C H w1 n am1 T1) (V2 : WA K C H w2 n am2 T2) (hb : ∀ u v, am2 u v ≤ am1 u v) (q : ∀ H' x T, Same H H' → WA K C H' x n (fun u v => am1 u v - am2 u v) T → Q (.ref x) H') : rBinO C (spSub K C cU cF) E (.ref w1) (.ref w2) H Q := by
  obtain ⟨dx, t, ys, d0, g, h1, _⟩ := V1.web.ex
  obtain ⟨dx2, t2, ys2, d2, g2, k1, _⟩ := V2.web.ex
  exact ⟨w1, w2, dx, dx2, _, _, rfl, rfl, h1, k1, w1, n, am1, T1, w2, n, am2, T2, rfl, V1, V2, .inr ⟨rfl, fun _ H' x T s ht hw => ⟨x, rfl, q H' x T s (mkWA hw ht V1.n60 fun u v => by have := V1.bd u v; have := ties_pos V2.ties u v; omega)⟩, fun p hp hlt => by
    have := hb p.1 p.2.1
    rw [ties_num V2.ties hp] at this
    omega⟩⟩
theorem rd_mul {k : Int} (V1 : WA K C H w1 n am1 T1) (k0 : 0 ≤ k) (k1 : k ≤ 1000000000) (hb : ∀ u v, k * am1 u v ≤ 1000000000) (q : ∀ H' x T, Same H H' → WA K C H' x n (fun u v => k * am1 u v) T → Q (.ref x) H') : rBinI C (spTimes K C cT) E (.ref w1) (.int k) H Q := by
  obtain ⟨dx, t, ys, d0, g, h1, _⟩ := V1.web.ex
  exact ⟨w1, k, dx, _, rfl, rfl, h1, w1, n, am1, T1, k, rfl, V1, k0, k1, .inl ⟨hb, fun H' x T s ht hw => ⟨x, rfl, q H' x T s (mkWA hw ht V1.n60 hb)⟩⟩⟩
theorem rd_rmul {k : Int} (V1 : WA K C H w1 n am1 T1) (k0 : 0 ≤ k) (k1 : k ≤ 1000000000) (hb : ∀ u v, k * am1 u v ≤ 1000000000) (q : ∀ H' x T, Same H H' → WA K C H' x n (fun u v => k * am1 u v) T → Q (.ref x) H') : rBinR C (spTimes K C cT) E (.int k) (.ref w1) H Q := by
  obtain ⟨dx, t, ys, d0, g, h1, _⟩ := V1.web.ex
  exact ⟨w1, k, dx, _, rfl, rfl, h1, w1, n, am1, T1, k, rfl, V1, k0, k1, .inl ⟨hb, fun H' x T s ht hw => ⟨x, rfl, q H' x T s (mkWA hw ht V1.n60 hb)⟩⟩⟩
end
theorem leT_true {n : Int} {am1 am2 : Int → Int → Int} {T1 T2 : List T3} (h1 : TiesOf n am1 T1) (h2 : TiesOf n am2 T2) (h : ∀ u v, am1 u v ≤ am2 u v) : leT T1 T2 = true := by
  unfold leT
  rw [List.all_eq_true]
  intro p hp
  rw [decide_eq_true_eq, (look_amt h2 (h1.mem p hp).2.1).1, ← ties_num h1 hp]
  exact h _ _
theorem leT_false {n : Int} {am1 am2 : Int → Int → Int} {T1 T2 : List T3} (h1 : TiesOf n am1 T1) (h2 : TiesOf n am2 T2) (h : ∃ u v, am2 u v < am1 u v) : leT T1 T2 = false := by
  obtain ⟨u, v, h⟩ := h
  have h0 := ties_pos h2 u v
  have hne : amt T1 u v ≠ 0 := by rw [h1.am]; omega
  obtain ⟨p, hp, rfl, rfl⟩ := mem_amt hne
  unfold leT
  rw [List.all_eq_false]
  refine ⟨p, hp, ?_⟩
  rw [decide_eq_true_eq, (look_amt h2 (h1.mem p hp).2.1).1, ← ties_num h1 hp]
  omega
theorem mul_bd {k a : Int} (k0 : 0 ≤ k) (k1 : k ≤ 300) (a0 : 0 ≤ a) (a1 : a ≤ 1000000) : k * a ≤ 1000000000 := by
  have h1 := Int.mul_le_mul_of_nonneg_right k1 a0
  omega
def spSmR (K : PySem.W.Frag) (C : Addr) : Sp := fun vs H Q _ => ∃ w1 w2 w3 n am1 am2 am3 T1 T2 T3 k, vs = [.ref w1, .ref w2, .ref w3, .int k] ∧ WA K C H w1 n am1 T1 ∧ WA K C H w2 n am2 T2 ∧ WA K C H w3 n am3 T3 ∧
  (∀ u v, am1 u v ≤ 100000) ∧ (∀ u v, am2 u v ≤ 100000) ∧ (∀ u v, am3 u v ≤ 100000) ∧ 0 ≤ k ∧ k ≤ 200 ∧ ∀ H', Same H H' → Q (.bl true) H'
section
variable {P : Program} {w : World} {K : PySem.W.Frag} {mg : Str → Option Value} {base : Heap} {C f : Addr} {fd : FuncData}
theorem ok_smr {cU cT cF fa fs fm fr fe fi : Addr} {da ds dm dr de di : FuncData} (F : Fun K "_law_sums_right" "_law_sums_right" sSmR f fd) (B : Bl mg) (Tw : TxtW K mg C) (MWeb : MkWeb P w K mg base C) (OP : OpsW P w K mg base C cU cT cF 10 fa fs fm fr da ds dm dr) (EQ : EqW P w K mg base C 10 fe de)
    (G_within : FnOk P w K mg base CX0 11 fi di ["self", "other"] (spWithin K C)) (M_within : Meth K C "within" fi) (B_within : Binds K di ["self", "other"] []) : FnOk P w K mg base CX0 12 f fd ["_law_one", "_law_other", "_law_third", "_law_k"] (spSmR K C) := by
  obtain ⟨fo, i1⟩ := OP.i1
  obtain ⟨ro, i2⟩ := OP.i2
  have G_eq := EQ.Q
  have B_eq := EQ.bQ
  have N1_eq := EQ.ne
  have N2_eq := EQ.ob
  have S_eq := EQ.sQ
  have I_eq := EQ.iQ
  refine F.ok scSR (fun vs H Q E h => ?_) (fun cdv A outer s H vs Q E hr h => ?_)
  · obtain ⟨w1, w2, w3, n, am1, am2, am3, T1, T2, T3, k, rfl, _⟩ := h
    rfl
  · obtain ⟨w1, w2, w3, n, am1, am2, am3, T1, T2, T3, k, rfl, V1, V2, V3, b1, b2, b3, k0, k1, q⟩ := h
    have hu := hu_of hr
    have T := Tw
    refine ⟨_, (pss_cons (ps_if (PW.pt (pw_or (pt_cmpR (op_neO G_eq (hr.mono (by decide)) B_eq pass0 N1_eq N2_eq S_eq I_eq) (pe_op (op_binO (op := .Sub) OP.S (hr.mono (by decide)) OP.bS (L2N.passes_call takes0N (fun _ _ _ _ h => h)) OP.self OP.sS OP.iS) (pe_op (op_binO (op := .Add) OP.A (hr.mono (by decide)) OP.bA (L2N.passes_call takes0N (fun _ _ _ _ h => h)) OP.self OP.sA OP.iA) (pv 0) (pv 1)) (pv 1)) (pv 0) (nomark _)) (pw_or1 (pt_cmpR (op_neO G_eq (hr.mono (by decide)) B_eq pass0 N1_eq N2_eq S_eq I_eq) (pe_op (op_binO (op := .Add) OP.A (hr.mono (by decide)) OP.bA (L2N.passes_call takes0N (fun _ _ _ _ h => h)) OP.self OP.sA OP.iA) (pv 0) (pv 1)) (pe_op (op_binO (op := .Add) OP.A (hr.mono (by decide)) OP.bA (L2N.passes_call takes0N (fun _ _ _ _ h => h)) OP.self OP.sA OP.iA) (pv 1) (pv 0)) (nomark _)))))
      (pss_one (ps_ret pe_bl))
      pss_nil)
    (pss_cons (ps_if (PW.pt (pw_or (pt_cmpR (op_neO G_eq (hr.mono (by decide)) B_eq pass0 N1_eq N2_eq S_eq I_eq) (pe_op (op_binO (op := .Add) OP.A (hr.mono (by decide)) OP.bA (L2N.passes_call takes0N (fun _ _ _ _ h => h)) OP.self OP.sA OP.iA) (pe_op (op_binO (op := .Add) OP.A (hr.mono (by decide)) OP.bA (L2N.passes_call takes0N (fun _ _ _ _ h => h)) OP.self OP.sA OP.iA) (pv 0) (pv 1)) (pv 2)) (pe_op (op_binO (op := .Add) OP.A (hr.mono (by decide)) OP.bA (L2N.passes_call takes0N (fun _ _ _ _ h => h)) OP.self OP.sA OP.iA) (pv 0) (pe_op (op_binO (op := .Add) OP.A (hr.mono (by decide)) OP.bA (L2N.passes_call takes0N (fun _ _ _ _ h => h)) OP.self OP.sA OP.iA) (pv 1) (pv 2))) (nomark _)) (pw_or1 (pt_cmpR (op_neO G_eq (hr.mono (by decide)) B_eq pass0 N1_eq N2_eq S_eq I_eq) (pe_binR OP.R (hr.mono (by decide)) OP.bR (fun σ => L2N.passAt takes0N σ) OP.self OP.sM OP.sR OP.iR OP.sub2 (pv 3) (pe_op (op_binO (op := .Add) OP.A (hr.mono (by decide)) OP.bA (L2N.passes_call takes0N (fun _ _ _ _ h => h)) OP.self OP.sA OP.iA) (pv 0) (pv 1))) (pe_op (op_binO (op := .Add) OP.A (hr.mono (by decide)) OP.bA (L2N.passes_call takes0N (fun _ _ _ _ h => h)) OP.self OP.sA OP.iA) (pe_op (op_binI (op := .Mult) OP.M (hr.mono (by decide)) OP.bM (L2N.passes_call takes0N (fun _ _ _ _ h => h)) OP.self OP.sM OP.iM OP.sR (.inr ⟨_, rfl⟩) i1 i2 OP.sub1) (pv 0) (pv 3)) (pe_binR OP.R (hr.mono (by decide)) OP.bR (fun σ => L2N.passAt takes0N σ) OP.self OP.sM OP.sR OP.iR OP.sub2 (pv 3) (pv 1))) (nomark _)))))
      (pss_one (ps_ret pe_bl))
      pss_nil)
    (pss_cons (ps_if (PW.pt (pw_or (pt_cmpR (op_neO G_eq (hr.mono (by decide)) B_eq pass0 N1_eq N2_eq S_eq I_eq) (pe_op (op_binO (op := .Sub) OP.S (hr.mono (by decide)) OP.bS (L2N.passes_call takes0N (fun _ _ _ _ h => h)) OP.self OP.sS OP.iS) (pv 0) (pv 0)) (pe_Web1 MWeb (hr.mono (by decide)) (pa_cons (pe_fld (pv 0) rfl) pa_nil)) (nomark _)) (pw_or1 (pt_cmpR (op_neO G_eq (hr.mono (by decide)) B_eq pass0 N1_eq N2_eq S_eq I_eq) (pe_binR OP.R (hr.mono (by decide)) OP.bR (fun σ => L2N.passAt takes0N σ) OP.self OP.sM OP.sR OP.iR OP.sub2 pe_int (pv 0)) (pe_Web1 MWeb (hr.mono (by decide)) (pa_cons (pe_fld (pv 0) rfl) pa_nil)) (nomark _)))))
      (pss_one (ps_ret pe_bl))
      pss_nil)
    (pss_one (ps_ret (pe_and (pe_cmpR (op_eqO G_eq (hr.mono (by decide)) B_eq pass0 S_eq I_eq) (pe_op (op_binO (op := .Sub) OP.S (hr.mono (by decide)) OP.bS (L2N.passes_call takes0N (fun _ _ _ _ h => h)) OP.self OP.sS OP.iS) (pe_binR OP.R (hr.mono (by decide)) OP.bR (fun σ => L2N.passAt takes0N σ) OP.self OP.sM OP.sR OP.iR OP.sub2 (pe_op op_add (pv 3) pe_int) (pv 0)) (pe_binR OP.R (hr.mono (by decide)) OP.bR (fun σ => L2N.passAt takes0N σ) OP.self OP.sM OP.sR OP.iR OP.sub2 (pv 3) (pv 0))) (pe_binR OP.R (hr.mono (by decide)) OP.bR (fun σ => L2N.passAt takes0N σ) OP.self OP.sM OP.sR OP.iR OP.sub2 pe_int (pv 0)) (nomark _)) (pe_and (pe_cmpR (op_eqO G_eq (hr.mono (by decide)) B_eq pass0 S_eq I_eq) (pe_binR OP.R (hr.mono (by decide)) OP.bR (fun σ => L2N.passAt takes0N σ) OP.self OP.sM OP.sR OP.iR OP.sub2 pe_int (pv 2)) (pv 2) (nomark _)) (pe_one (pe_meth (pv 0) T.cl M_within G_within (hr.mono (by decide)) B_within .nil pass0 (pa_cons (pe_op (op_binO (op := .Add) OP.A (hr.mono (by decide)) OP.bA (L2N.passes_call takes0N (fun _ _ _ _ h => h)) OP.self OP.sA OP.iA) (pv 0) (pv 1)) pa_nil)))))))))), ?_⟩
    have p1 := ties_pos V1.ties
    have p2 := ties_pos V2.ties
    have p3 := ties_pos V3.ties
    have web0 : ∀ {Q : VK} {H' : Hp}, (∀ H2 x T, Same H' H2 → WA K C H2 x n (fun _ _ => 0) T → Q (.ref x) H2) → WebOf K C n [] H' Q := fun {Q H'} q => ⟨V1.n60, by decide, fun p hp => (by cases hp), fun u v => by show (0 : Int) ≤ _; decide, fun H2 x T s nx ht hw => q H2 x T s (mkWA hw ht V1.n60 fun _ _ => by decide)⟩
    obtain ⟨dx, t, ys, d0, g, h1, _⟩ := V1.web.ex
    refine ⟨_, rfl, _, rfl, rd_add V1 V2 (fun u v => by have := b1 u v; have := b2 u v; omega) fun H1 x T s1 VA => ?_⟩
    refine ⟨_, rfl, rd_sub VA (V2.same s1) (fun u v => by have := p1 u v; omega) fun H2 x2 T' s2 VB => ?_⟩
    have s02 := s1.trans s2
    refine ⟨_, rfl, eq_web EQ.ty EQ.nf VB (V1.same s02) rfl (fun u v => by omega) ⟨true, rfl, _, rfl, ?_⟩⟩
    refine iteF ?_
    clear VA VB s1 s2
    refine ⟨_, rfl, _, rfl, rd_add (V1.same s02) (V2.same s02) (fun u v => by have := b1 u v; have := b2 u v; omega) fun H3 x3 T4 s3 VA => ?_⟩
    refine ⟨_, rfl, _, rfl, rd_add (V2.same (s02.trans s3)) (V1.same (s02.trans s3)) (fun u v => by have := b1 u v; have := b2 u v; omega) fun H4 x4 T5 s4 VB => ?_⟩
    have s04 := (s02.trans s3).trans s4
    refine eq_web EQ.ty EQ.nf (VA.same s4) VB rfl (fun u v => by omega) ⟨true, rfl, _, rfl, ?_⟩
    refine iteF ?_
    clear VA VB s3 s4 s02
    -- three of them
    refine ⟨_, rfl, _, rfl, rd_add (V1.same s04) (V2.same s04) (fun u v => by have := b1 u v; have := b2 u v; omega) fun H5 x5 T6 s5 VA => ?_⟩
    have s05 := s04.trans s5
    refine ⟨_, rfl, rd_add VA (V3.same s05) (fun u v => by have := b1 u v; have := b2 u v; have := b3 u v; omega) fun H6 x6 T7 s6 VB => ?_⟩
    have s06 := s05.trans s6
    refine ⟨_, rfl, _, rfl, _, rfl, rd_add (V2.same s06) (V3.same s06) (fun u v => by have := b2 u v; have := b3 u v; omega) fun H7 x7 T8 s7 VC => ?_⟩
    have s07 := s06.trans s7
    refine rd_add (V1.same s07) VC (fun u v => by have := b1 u v; have := b2 u v; have := b3 u v; omega) fun H8 x8 T9 s8 VD => ?_
    have s08 := s07.trans s8
    refine eq_web EQ.ty EQ.nf (VB.same (s7.trans s8)) VD rfl (fun u v => by omega) ⟨true, rfl, _, rfl, ?_⟩
    refine iteF ?_
    clear VA VB VC VD s04 s05 s06 s07 s5 s6 s7 s8
    -- times
    refine ⟨_, rfl, _, rfl, _, rfl, rd_add (V1.same s08) (V2.same s08) (fun u v => by have := b1 u v; have := b2 u v; omega) fun H5 x5 T6 s5 VA => ?_⟩
    have s05 := s08.trans s5
    refine rd_rmul VA k0 (by omega) (fun u v => mul_bd k0 (by omega) (by have := p1 u v; have := p2 u v; omega) (by have := b1 u v; have := b2 u v; omega)) fun H6 x6 T7 s6 VB => ?_
    have s06 := s05.trans s6
    refine ⟨_, rfl, _, rfl, rd_mul (V1.same s06) k0 (by omega) (fun u v => mul_bd k0 (by omega) (p1 u v) (by have := b1 u v; omega)) fun H7 x7 T8 s7 VC => ?_⟩
    have s07 := s06.trans s7
    refine ⟨_, rfl, _, rfl, rd_rmul (V2.same s07) k0 (by omega) (fun u v => mul_bd k0 (by omega) (p2 u v) (by have := b2 u v; omega)) fun H8 x8 T9 s8 VD => ?_⟩
    refine rd_add (VC.same s8) VD (fun u v => by have := mul_bd k0 (by omega) (p1 u v) (show am1 u v ≤ 1000000 by have := b1 u v; omega); have := Int.mul_le_mul_of_nonneg_right k1 (p1 u v); have := Int.mul_le_mul_of_nonneg_right k1 (p2 u v); have := b1 u v; have := b2 u v; omega) fun H9 x9 T10 s9 VE => ?_
    have s09 := (s07.trans s8).trans s9
    refine eq_web EQ.ty EQ.nf (VB.same ((s7.trans s8).trans s9)) VE rfl (fun u v => Int.mul_add _ _ _) ⟨true, rfl, _, rfl, ?_⟩
    refine iteF ?_
    clear VA VB VC VD VE s05 s06 s07 s08 s5 s6 s7 s8 s9
    -- nothing
    refine ⟨_, rfl, _, rfl, rd_sub (V1.same s09) (V1.same s09) (fun u v => Int.le_refl _) fun H5 x5 T6 s5 VA => ?_⟩
    have s05 := s09.trans s5
    refine ⟨.ref w1, rfl, w1, C, dx, _, _, rfl, s05 _ _ h1, Tw.cl, Tw.n1, lk5s _ _ _ _ _, n, rfl, web0 fun H6 x6 T7 s6 VB => ?_⟩
    refine eq_web EQ.ty EQ.nf (VA.same s6) VB rfl (fun u v => by omega) ⟨true, rfl, _, rfl, ?_⟩
    refine iteF ?_
    have s06 := s05.trans s6
    clear VA VB s05 s5 s6 s09
    refine ⟨_, rfl, rd_rmul (V1.same s06) (by decide) (by decide) (fun u v => by omega) fun H5 x5 T6 s5 VA => ?_⟩
    have s05 := s06.trans s5
    refine ⟨.ref w1, rfl, w1, C, dx, _, _, rfl, s05 _ _ h1, Tw.cl, Tw.n1, lk5s _ _ _ _ _, n, rfl, web0 fun H6 x6 T7 s6 VB => ?_⟩
    refine eq_web EQ.ty EQ.nf (VA.same s6) VB rfl (fun u v => by omega) ⟨true, rfl, _, rfl, ?_⟩
    refine iteF ?_
    have s07 := s05.trans s6
    clear VA VB s05 s5 s6 s06
    -- the last
    refine ⟨_, rfl, k, 3, rfl, rfl, _, rfl, rd_rmul (V1.same s07) (by omega) (by omega) (fun u v => mul_bd (by omega) (by omega) (p1 u v) (by have := b1 u v; omega)) fun H5 x5 T6 s5 VA => ?_⟩
    have s05 := s07.trans s5
    refine ⟨_, rfl, _, rfl, rd_rmul (V1.same s05) k0 (by omega) (fun u v => mul_bd k0 (by omega) (p1 u v) (by have := b1 u v; omega)) fun H6 x6 T7 s6 VB => ?_⟩
    refine rd_sub (VA.same s6) VB (fun u v => by have := p1 u v; rw [Int.add_mul]; omega) fun H7 x7 T8 s7 VC => ?_
    have s07' := (s05.trans s6).trans s7
    refine ⟨_, rfl, rd_rmul (V1.same s07') (by decide) (by decide) (fun u v => by have := b1 u v; omega) fun H8 x8 T9 s8 VD => ?_⟩
    refine eq_web EQ.ty EQ.nf (VC.same s8) VD rfl (fun u v => by rw [Int.add_mul]; omega) ⟨true, rfl, ?_⟩
    have s08 := s07'.trans s8
    clear VA VB VC VD s05 s5 s6 s7 s8 s07 s07'
    refine ⟨_, rfl, rd_rmul (V3.same s08) (by decide) (by decide) (fun u v => by have := b3 u v; omega) fun H5 x5 T6 s5 VA => ?_⟩
    have s05 := s08.trans s5
    refine ⟨_, rfl, eq_web EQ.ty EQ.nf VA (V3.same s05) rfl (fun u v => by omega) ⟨true, rfl, ?_⟩⟩
    refine ⟨_, rfl, w1, dx, _, rfl, s05 _ _ h1, ?_, _, rfl, _, rfl, rd_add (V1.same s05) (V2.same s05) (fun u v => by have := b1 u v; have := b2 u v; omega) fun H6 x6 T7 s6 VB => ?_⟩
    · kernel_rfl
    refine ⟨w1, n, T1, x6, n, T7, rfl, V1.web.same (s05.trans s6), VB.web, by have := V1.len; omega, fun H7 s7 => ?_⟩
    rw [decide_eq_true rfl, leT_true V1.ties VB.ties (fun u v => by have := p2 u v; omega)]
    exact q _ ((s05.trans s6).trans s7)
end
end T27
/-! The law's mathematics: rows of degrees, halves. -/
namespace T27
open PySem PySem.Spec PyProof.Rows L2 Wk Vb StX RZ
theorem dpI {K : PySem.W.Frag} {H : Hp} : ∀ (ns : List Int), DpAll K H (ns.map V.int) (ns.map .int)
  | [] => .nil
  | _ :: ns => .cons (.int _) (dpI ns)
theorem layI : ∀ (ns : List Int), PyData.canLayAll0 (ns.map PyData.int) = true
  | [] => by simp [PyData.canLayAll0]
  | _ :: ns => by rw [List.map_cons, PyData.canLayAll0, layI ns]; simp [PyData.canLay0]
theorem depI : ∀ (ns : List Int), PyData.depthAll (ns.map PyData.int) ≤ 0
  | [] => by simp [PyData.depthAll]
  | _ :: ns => by rw [List.map_cons, PyData.depthAll]; simp [PyData.depth]; exact Nat.le_zero.mp (depI ns)
theorem shapedI (ns : List Int) : SeqAt.shaped (.tuple (ns.map PyData.int)) = true := by
  unfold SeqAt.shaped
  rw [PyData.canLay0, PyData.depth, layI, Bool.true_and]
  have := depI ns
  exact decide_eq_true (by omega)
theorem ne_ints {K : PySem.W.Frag} {H : Hp} {a b : Addr} {xs : List V} {ys : List Int} {Q : VK} (ha : SqT K H a xs) (hb : SqT K H b (ys.map V.int)) (e : xs = ys.map V.int) (q : Q (.bl false) H) : rNeD K (.ref a) (.ref b) H Q := by
  subst e
  refine ⟨_, _, .tup ha (dpI ys), .tup hb (dpI ys), shapedI ys, shapedI ys, ?_⟩
  rw [PySem.SeqAt.eqv_refl _ (by rw [PyData.canLay0]; exact layI ys)]
  exact q
/-! ### rows of degrees -/
theorem TiesOf.cong {n : Int} {am am' : Int → Int → Int} {T : List T3} (h : TiesOf n am T) (e : ∀ u v, am u v = am' u v) : TiesOf n am' T := ⟨h.asc, h.mem, fun u v => (h.am u v).trans (e u v)⟩
theorem degs_of {n : Nat} {am : Int → Int → Int} {T : List T3} (h : TiesOf (n : Int) am T) : degs T n = (List.range n).map fun (x : Nat) => inc T (x : Int) := List.map_congr_left fun x _ => deg_inc h.asc h.mem
theorem degs_len (T : List T3) (n : Nat) : (degs T n).length = n := by unfold degs; rw [List.length_map, List.length_range]
theorem degs_plus {n : Nat} {am am2 : Int → Int → Int} {k : Int} {T T2 T' : List T3} (h : TiesOf (n : Int) am T) (h2 : TiesOf (n : Int) am2 T2) (h3 : TiesOf (n : Int) (fun u v => am u v + k * am2 u v) T') : List.zipWith (fun x y => x + k * y) (degs T n) (degs T2 n) = degs T' n := by
  rw [degs_of h, degs_of h2, degs_of h3]
  apply List.ext_getElem?
  intro i
  rw [List.getElem?_zipWith, List.getElem?_map, List.getElem?_map, List.getElem?_map]
  by_cases c : i < n
  · rw [List.getElem?_range c]
    exact congrArg some (degs_add h h2 h3 c).symm
  · rw [List.getElem?_eq_none (by rw [List.length_range]; omega)]
    rfl
theorem degs_beside {n n2 : Nat} {am am2 : Int → Int → Int} {T T2 T' : List T3} (h : TiesOf (n : Int) am T) (h2 : TiesOf (n2 : Int) am2 T2) (h3 : TiesOf ((n + n2 : Nat) : Int) (amt (T ++ shift (n : Int) T2)) T') : degs T n ++ degs T2 n2 = degs T' (n + n2) := by
  rw [degs_of h, degs_of h2, degs_of h3]
  have nb : ∀ p ∈ T ++ shift (n : Int) T2, 0 ≤ p.1 ∧ p.1 < p.2.1 ∧ p.2.1 < ((n + n2 : Nat) : Int) := fun p hp => by
    rcases List.mem_append.mp hp with hp | hp
    · have := h.mem p hp; omega
    · obtain ⟨q, hq, rfl⟩ := List.mem_map.mp hp
      have := h2.mem q hq
      dsimp only
      omega
  rw [List.range_add, List.map_append, List.map_map]
  congr 1
  · refine List.map_congr_left fun u hu => ?_
    have hu := List.mem_range.mp hu
    rw [inc_same (n := n + n2) (by omega) (by omega) h3.nb nb (fun u v => h3.am u v), inc_append, inc_shift_lo (by omega) (fun p hp => by have := h2.mem p hp; omega), Int.add_zero]
  · refine List.map_congr_left fun u hu => ?_
    have hu := List.mem_range.mp hu
    show inc T2 (u : Int) = inc T' ((n + u : Nat) : Int)
    rw [inc_same (n := n + n2) (by omega) (by omega) h3.nb nb (fun u v => h3.am u v), inc_append, inc_out (n := n) (by omega) h.nb, Int.zero_add, show ((n + u : Nat) : Int) = (u : Int) + (n : Int) by omega, inc_shift_hi]
/-- the place that os names -/
def atO (os : List Nat) (u : Int) : Int := ((os[u.toNat]?).getD 0 : Nat)
theorem atO_nat {os : List Nat} {i k : Nat} (h : os[i]? = some k) : atO os (i : Int) = (k : Int) := by unfold atO; rw [Int.toNat_natCast, h]; rfl
theorem atO_perm {os : List Nat} {n : Nat} (hp : os.Perm (List.range n)) : (∀ u, 0 ≤ u → u < (n : Int) → atI (os.map fun (k : Nat) => V.int (k : Int)) u = some (.int (atO os u)) ∧ 0 ≤ atO os u ∧ atO os u < (n : Int)) ∧ (∀ u v, 0 ≤ u → u < (n : Int) → 0 ≤ v → v < (n : Int) → atO os u = atO os v → u = v) := by
  have hl : os.length = n := by rw [hp.length_eq, List.length_range]
  have nd : os.Nodup := hp.nodup_iff.mpr List.nodup_range
  have key : ∀ u : Int, 0 ≤ u → u < (n : Int) → ∃ (i k : Nat), u = (i : Int) ∧ os[i]? = some k ∧ k < n := fun u h0 h1 => by
    obtain ⟨i, rfl⟩ := Int.eq_ofNat_of_zero_le h0
    have hi : i < os.length := by omega
    exact ⟨i, _, rfl, List.getElem?_eq_getElem hi, List.mem_range.mp (hp.mem_iff.mp (List.getElem_mem hi))⟩
  refine ⟨fun u h0 h1 => ?_, fun u v h0 h1 h2 h3 e => ?_⟩
  · obtain ⟨i, k, rfl, e, hk⟩ := key u h0 h1
    rw [atO_nat e]
    exact ⟨atI_nat (by rw [List.getElem?_map, e]; rfl), by omega, by omega⟩
  · obtain ⟨i, k, rfl, e1, hk⟩ := key u h0 h1
    obtain ⟨j, m, rfl, e2, hm⟩ := key v h2 h3
    rw [atO_nat e1, atO_nat e2] at e
    obtain rfl : k = m := by omega
    have := (List.getElem?_inj (List.getElem?_eq_some_iff.mp e1).1 nd).mp (e1.trans e2.symm)
    omega
theorem degs_ren {n : Nat} {am : Int → Int → Int} {T T' : List T3} {os : List Nat} {ys : List V} (hp : os.Perm (List.range n)) (h : TiesOf (n : Int) am T) (h3 : TiesOf (n : Int) (amt ((ren (atO os) T).map norm)) T') (hl : ys.length = n) (hy : ∀ (i k : Nat), os[i]? = some k → ys[k]? = ((degs T n).map V.int)[i]?) : ys = (degs T' n).map V.int := by
  have hol : os.length = n := by rw [hp.length_eq, List.length_range]
  obtain ⟨f1, f2⟩ := atO_perm hp
  apply List.ext_getElem?
  intro k
  by_cases c : k < n
  · obtain ⟨i, hi⟩ := List.mem_iff_getElem?.mp (hp.mem_iff.mpr (List.mem_range.mpr c))
    have hil : i < n := by rw [← hol]; exact (List.getElem?_eq_some_iff.mp hi).1
    rw [hy i k hi, degs_of h, degs_of h3, List.getElem?_map, List.getElem?_map, List.getElem?_map, List.getElem?_map, List.getElem?_range hil, List.getElem?_range c]
    show some (V.int (inc T (i : Int))) = some (V.int (inc T' (k : Int)))
    rw [← inc_ren f2 (by omega) (by omega) h.nb, atO_nat hi]
    congr 2
    refine (inc_same (n := n) (by omega) (by omega) h3.nb (fun p hpm => ?_) fun u v => h3.am u v).symm
    obtain ⟨p1, hp1, rfl⟩ := List.mem_map.mp hpm
    obtain ⟨p0, hp0, rfl⟩ := List.mem_map.mp hp1
    have hm := h.mem p0 hp0
    have a1 := f1 p0.1 hm.1 (by omega)
    have a2 := f1 p0.2.1 (by omega) hm.2.2.1
    have a3 : atO os p0.1 ≠ atO os p0.2.1 := fun e => by have := f2 _ _ hm.1 (by omega) (by omega) hm.2.2.1 e; omega
    unfold norm
    dsimp only
    split <;> split <;> omega
  · rw [List.getElem?_eq_none (by omega), List.getElem?_eq_none (by rw [List.length_map, degs_len]; omega)]
/-! ### between two halves -/
def cross2 (f : Int → Int → Int) (h m : Nat) : Int := ((List.range h).map fun (u : Nat) => ((List.range m).map fun (j : Nat) => f (u : Int) ((h : Int) + (j : Int))).sum).sum
theorem crossL_sum {f : Int → Int → Int} : ∀ {us vs : List Int}, (crossL f us vs).sum = (us.map fun u => (vs.map fun v => f u v).sum).sum
  | [], vs => rfl
  | u :: us, vs => by
    show ((vs.map fun v => f u v) ++ crossL f us vs).sum = _
    rw [List.sum_append, crossL_sum, List.map_cons, List.sum_cons]
theorem cross2_cons {p : T3} {T : List T3} {h n : Nat} (hh : h ≤ n) (hp : 0 ≤ p.1 ∧ p.1 < p.2.1 ∧ p.2.1 < (n : Int)) : cross2 (amt (p :: T)) h (n - h) = (if p.1 < (h : Int) ∧ (h : Int) ≤ p.2.1 then p.2.2 else 0) + cross2 (amt T) h (n - h) := by
  unfold cross2
  have e : ((List.range h).map fun (u : Nat) => ((List.range (n - h)).map fun (j : Nat) => amt (p :: T) (u : Int) ((h : Int) + (j : Int))).sum) = (List.range h).map fun (u : Nat) => (if p.1 = (u : Int) then (if (h : Int) ≤ p.2.1 ∧ p.2.1 < (n : Int) then p.2.2 else 0) else 0) + ((List.range (n - h)).map fun (j : Nat) => amt T (u : Int) ((h : Int) + (j : Int))).sum := by
    refine List.map_congr_left fun u _ => ?_
    have e2 : ((List.range (n - h)).map fun (j : Nat) => amt (p :: T) (u : Int) ((h : Int) + (j : Int))) = (List.range (n - h)).map fun (j : Nat) => (if p.1 = (u : Int) then (if p.2.1 = (h : Int) + (j : Int) then p.2.2 else 0) else 0) + amt T (u : Int) ((h : Int) + (j : Int)) := by
      refine List.map_congr_left fun j _ => ?_
      rw [amt_cons]
      congr 1
      by_cases c : p.1 = (u : Int)
      · rw [if_pos c]
        by_cases c2 : p.2.1 = (h : Int) + (j : Int)
        · rw [if_pos ⟨c, c2⟩, if_pos c2]
        · rw [if_neg (fun z => c2 z.2), if_neg c2]
      · rw [if_neg c, if_neg (fun z => c z.1)]
    rw [e2, sum_add]
    congr 1
    by_cases c : p.1 = (u : Int)
    · simp only [if_pos c]
      exact sum_split hh
    · simp only [if_neg c]
      exact sum_zero _
  rw [e, sum_add, sum_ind]
  congr 1
  by_cases c1 : p.1 < (h : Int)
  · rw [if_pos ⟨hp.1, c1⟩]
    by_cases c2 : (h : Int) ≤ p.2.1
    · rw [if_pos ⟨c2, hp.2.2⟩, if_pos ⟨c1, c2⟩]
    · rw [if_neg (fun z => c2 z.1), if_neg (fun z => c2 z.2)]
  · rw [if_neg (fun z => c1 z.2), if_neg (fun z => c1 z.1)]
/-- both of the pair's places in one half -/
def oneHalf (h : Nat) (p : T3) : Bool := decide (p.1 < (h : Int)) == decide (p.2.1 < (h : Int))
theorem half_total {n h : Nat} (hh : h ≤ n) : ∀ {T : List T3}, (∀ p ∈ T, 0 ≤ p.1 ∧ p.1 < p.2.1 ∧ p.2.1 < (n : Int)) → ((T.filter (oneHalf h)).map fun p => p.2.2).sum + cross2 (amt T) h (n - h) = total T
  | [], _ => by
    show (0 : Int) + cross2 (amt []) h (n - h) = 0
    unfold cross2
    have e : ∀ u : Nat, ((List.range (n - h)).map fun (j : Nat) => amt [] (u : Int) ((h : Int) + (j : Int))).sum = 0 := fun u => sum_zero _
    simp only [e]
    rw [sum_zero]
    rfl
  | p :: T, hT => by
    have ih := half_total hh (T := T) fun q hq => hT q (List.mem_cons_of_mem _ hq)
    have hp := hT p List.mem_cons_self
    rw [cross2_cons hh hp, total_cons, ← ih]
    by_cases c : oneHalf h p = true
    · rw [List.filter_cons_of_pos c, List.map_cons, List.sum_cons]
      have : ¬ (p.1 < (h : Int) ∧ (h : Int) ≤ p.2.1) := fun z => by
        unfold oneHalf at c
        rw [decide_eq_true z.1, decide_eq_false (show ¬ p.2.1 < (h : Int) by omega)] at c
        cases c
      rw [if_neg this]
      omega
    · rw [List.filter_cons_of_neg c]
      have : p.1 < (h : Int) ∧ (h : Int) ≤ p.2.1 := by
        by_cases c1 : p.1 < (h : Int)
        · refine ⟨c1, ?_⟩
          by_cases c2 : p.2.1 < (h : Int)
          · exact (c (by unfold oneHalf; rw [decide_eq_true c1, decide_eq_true c2]; rfl)).elim
          · omega
        · exact (c (by unfold oneHalf; rw [decide_eq_false c1, decide_eq_false (show ¬ p.2.1 < (h : Int) by omega)]; rfl)).elim
      rw [if_pos this]
      omega
theorem cross_look {n h : Nat} {am : Int → Int → Int} {T : List T3} (ht : TiesOf (n : Int) am T) : (crossL (fun u v => (look T u v).getD 0) ((List.range h).map fun (u : Nat) => (u : Int)) ((List.range (n - h)).map fun (j : Nat) => (h : Int) + (j : Int))).sum = cross2 (amt T) h (n - h) := by
  rw [crossL_sum]
  unfold cross2
  rw [List.map_map]
  congr 1
  refine List.map_congr_left fun u hu => ?_
  have hu := List.mem_range.mp hu
  show (List.map _ (List.map _ _)).sum = _
  rw [List.map_map]
  congr 1
  refine List.map_congr_left fun j _ => ?_
  show (look T (u : Int) ((h : Int) + (j : Int))).getD 0 = _
  rw [(look_amt ht (by omega)).1, ht.am]
/-! ### renamed, by the amounts -/
theorem ren_amt {g g' : Int → Int} {N : Int} (h1 : ∀ u, 0 ≤ u → u < N → 0 ≤ g u ∧ g u < N ∧ g' (g u) = u) (h2 : ∀ u, 0 ≤ u → u < N → 0 ≤ g' u ∧ g' u < N ∧ g (g' u) = u) :
    ∀ (L : List T3), (∀ p ∈ L, 0 ≤ p.1 ∧ p.1 < p.2.1 ∧ p.2.1 < N) → ∀ u v, amt ((ren g' L).map norm) u v = if 0 ≤ u ∧ u < v ∧ v < N then amt L (lo (g u) (g v)) (hi (g u) (g v)) else 0
  | [], _, u, v => by show (0 : Int) = _; rw [amt_nil, ite_self]
  | p :: L, hL, u, v => by
    have ih := ren_amt h1 h2 L (fun q hq => hL q (List.mem_cons_of_mem _ hq)) u v
    obtain ⟨p1, p2, p3⟩ := hL p List.mem_cons_self
    obtain ⟨a1, a2, a3⟩ := h2 p.1 p1 (by omega)
    obtain ⟨b1, b2, b3⟩ := h2 p.2.1 (by omega) p3
    have e : (ren g' (p :: L)).map norm = norm (g' p.1, g' p.2.1, p.2.2) :: (ren g' L).map norm := rfl
    rw [e, amt_cons, ih]
    have nz : (norm (g' p.1, g' p.2.1, p.2.2)).2.2 = p.2.2 := rfl
    have ne : g' p.1 ≠ g' p.2.1 := fun z => by rw [z, b3] at a3; omega
    rw [nz]
    by_cases c : 0 ≤ u ∧ u < v ∧ v < N
    · rw [if_pos c, if_pos c, amt_cons]
      obtain ⟨c1, c2, c3⟩ := h1 u c.1 (by omega)
      obtain ⟨d1, d2, d3⟩ := h1 v (by omega) c.2.2
      have key : ((norm (g' p.1, g' p.2.1, p.2.2)).1 = u ∧ (norm (g' p.1, g' p.2.1, p.2.2)).2.1 = v) ↔ (p.1 = lo (g u) (g v) ∧ p.2.1 = hi (g u) (g v)) := by
        unfold norm lo hi
        dsimp only
        constructor
        · rintro ⟨z1, z2⟩
          by_cases w : g' p.2.1 < g' p.1
          · rw [if_pos w] at z1
            rw [if_neg (by omega)] at z2
            rw [← z1, ← z2, a3, b3, if_pos (by omega), if_neg (by omega)]
            exact ⟨rfl, rfl⟩
          · rw [if_neg w] at z1
            rw [if_pos (by omega)] at z2
            rw [← z1, ← z2, a3, b3, if_neg (by omega), if_pos (by omega)]
            exact ⟨rfl, rfl⟩
        · rintro ⟨z1, z2⟩
          by_cases w : g v < g u
          · rw [if_pos w] at z1
            rw [if_neg (by omega)] at z2
            rw [z1, z2, c3, d3, if_pos (by omega), if_neg (by omega)]
            exact ⟨rfl, rfl⟩
          · rw [if_neg w] at z1
            rw [if_pos (by by_cases w2 : g v > g u; exact w2; exfalso; rw [if_neg w2] at z2; omega)] at z2
            rw [z1, z2, c3, d3, if_neg (by omega), if_pos (by omega)]
            exact ⟨rfl, rfl⟩
      by_cases k : p.1 = lo (g u) (g v) ∧ p.2.1 = hi (g u) (g v)
      · rw [if_pos k, if_pos (key.mpr k)]
      · rw [if_neg k, if_neg fun z => k (key.mp z)]
    · rw [if_neg c, if_neg c, if_neg]
      · rfl
      · rintro ⟨z1, z2⟩
        refine c ?_
        unfold norm at z1 z2
        dsimp only at z1 z2
        split at z1 <;> split at z2 <;> omega
def inO (os : List Nat) (u : Int) : Int := (os.idxOf u.toNat : Nat)
theorem inO_perm {os : List Nat} {n : Nat} (hp : os.Perm (List.range n)) : (∀ u, 0 ≤ u → u < (n : Int) → 0 ≤ inO os u ∧ inO os u < (n : Int) ∧ atO os (inO os u) = u) ∧ ∀ u, 0 ≤ u → u < (n : Int) → 0 ≤ atO os u ∧ atO os u < (n : Int) ∧ inO os (atO os u) = u := by
  have hl : os.length = n := by rw [hp.length_eq, List.length_range]
  have nd : os.Nodup := hp.nodup_iff.mpr List.nodup_range
  have h1 : ∀ u, 0 ≤ u → u < (n : Int) → 0 ≤ inO os u ∧ inO os u < (n : Int) ∧ atO os (inO os u) = u := fun u h0 h1 => by
    obtain ⟨k, rfl⟩ := Int.eq_ofNat_of_zero_le h0
    have hk : k ∈ os := hp.mem_iff.mpr (List.mem_range.mpr (by omega))
    have hi := List.idxOf_lt_length_of_mem hk
    unfold inO
    rw [Int.toNat_natCast]
    refine ⟨by omega, by omega, atO_nat ?_⟩
    rw [List.getElem?_eq_getElem hi]
    exact congrArg some (List.getElem_idxOf hi)
  obtain ⟨f1, f2⟩ := atO_perm hp
  refine ⟨h1, fun u h0 h2 => ?_⟩
  obtain ⟨_, a1, a2⟩ := f1 u h0 h2
  obtain ⟨b1, b2, b3⟩ := h1 _ a1 a2
  exact ⟨a1, a2, f2 _ _ b1 b2 h0 h2 b3⟩
theorem ren_same {os : List Nat} {n : Nat} {L M : List T3} (hp : os.Perm (List.range n)) (hL : ∀ p ∈ L, 0 ≤ p.1 ∧ p.1 < p.2.1 ∧ p.2.1 < (n : Int)) (hM : ∀ p ∈ M, 0 ≤ p.1 ∧ p.1 < p.2.1 ∧ p.2.1 < (n : Int)) (e : ∀ u v, amt L u v = amt M u v) (u v : Int) : amt ((ren (atO os) L).map norm) u v = amt ((ren (atO os) M).map norm) u v := by
  obtain ⟨h1, h2⟩ := inO_perm hp
  rw [ren_amt h1 h2 L hL, ren_amt h1 h2 M hM, e]
end T27
/-! repr of a tuple of data. -/
namespace Wk
open PySem PySem.Spec PyProof.Rows L2
/-- repr(t), t a tuple of such data -/
def rReprT (K : PySem.W.Frag) : List V → Hp → VK → Prop := fun xs H Q => ∃ (a : Addr) (vs : List V) (ds : List PyData), xs = [.ref a] ∧ SqT K H a vs ∧ RqAll K H vs ds ∧ PyData.showableAll ds = true ∧ PyData.depthAll ds ≤ 40 ∧
  (tupleText (PyData.shownAll ds)).length ≤ sizeLine ∧ Q (.str (tupleText (PyData.shownAll ds))) H
theorem call_reprT {X : Cx} {K : PySem.W.Frag} (hK : X.K = K) (hg : Gd X.A) (hu : X.A.units + 64 < cLine) : CallR X (.builtin "repr") (rReprT K) := by
  subst hK
  intro pins s σ H xs us Q I r h
  obtain ⟨a, vs, ds, rfl, ha, hall, hs, hd, hz, q⟩ := h
  obtain ⟨u, rfl, e⟩ := vals1 r
  cases (show u = Value.ref a from e)
  obtain ⟨its, rv, ⟨o, e1, e2, n, e3⟩, _⟩ := I.tuple ha
  obtain ⟨⟨as, ra⟩, bs, hb, hk⟩ := RqAll.k I ds vs its hall rv hs (fun t ht => Nat.le_trans (tupleText_mem_le ht) hz)
  have hr : Reads s.heap (.ref a) (.tuple ds) as := Reads.tuple (vs := its.toArray) e1 e2 e3 (by simpa using ra)
  have hna : a ∉ bs := not_mem_of_deeper hr (by simp only [PyData.depth]; omega) hb
  refine call_repr_slot (by omega) ⟨_, e1, e2⟩ F.slot_tuple_repr ?_
  refine call_tuple_reprK e1 e2 e3 hna (by simpa using hk) hg (fun b _ => Clear.nil b) (by show X.A.units + 1 + _ < _; omega) (fun _ _ z => z) (fun h' u tk kp => ?_) hz
  exact ⟨_, _, rfl, .str _, H, I.kept (t' := tk) kp, ⟨_, rfl⟩, q⟩
end Wk
/-! The law. -/
namespace T27
open PySem PySem.Spec PyProof.Rows L2 Wk Vb StX RZ
abbrev sLaw : Stmt := top 37
theorem scLaw : FnScope ["_law_script", "_law_bag_here", "_law_size", "_law_k", "_law_one", "_law_other", "_law_third", "_law_order", "_law_web_here", "_law_pair", "_law_half", "_law_rest_of", "_law_inner", "_law_u", "_law_v", "_law_number"] ["_law_script"] (defScope sLaw) := ⟨rfl, rfl, rfl, by decide +kernel, rfl, by decide +kernel, by decide +kernel⟩
def spLaw (K : PySem.W.Frag) : Sp := fun vs H Q _ => ∃ (a : Addr) (ns : List Int), vs = [.ref a] ∧ SqL K H a (ns.map V.int) ∧ ns.length ≤ 63 ∧ ∀ H', Q (.bl true) H'
theorem branch {X : Hp → Prop} {H : Hp} {A : Prop} (hA : (∀ H', Same H H' → X H') → A) (h : ∀ H', Same H H' → X H') : A := hA h
section
variable {P : Program} {w : World} {K : PySem.W.Frag} {mg : Str → Option Value} {base : Heap} {C f : Addr} {fd : FuncData}
theorem ok_law {cU cT cF fa fs fm fr fe fi fx : Addr} {da ds dm dr de di dc : FuncData} (F : Fun K "law" "law" sLaw f fd) (B : Bl mg) (Tw : TxtW K mg C) (OP : OpsW P w K mg base C cU cT cF 10 fa fs fm fr da ds dm dr) (EQ : EqW P w K mg base C 10 fe de)
    (G_within : FnOk P w K mg base CX0 11 fi di ["self", "other"] (spWithin K C)) (M_within : Meth K C "within" fi) (B_within : Binds K di ["self", "other"] [])
    (G_crossing : FnOk P w K mg base CX0 11 fx dc ["self", "ones", "others"] (spCrossing K C)) (M_crossing : Meth K C "crossing" fx) (B_crossing : Binds K dc ["self", "ones", "others"] [])
    (o__law_bag : Own P w K mg base CX0 1 "_law_bag" ["_law_script"] (spBag K)) (o__law_take : Own P w K mg base CX0 1 "_law_take" ["_law_bag_here", "_law_many"] spTake) (o__law_mixed : Own P w K mg base CX0 2 "_law_mixed" ["_law_bag_here", "_law_things"] spMixed)
    (o__law_web : Own P w K mg base CX0 9 "_law_web" ["_law_bag_here", "_law_size"] (spLWeb K C)) (o__law_sum : Own P w K mg base CX0 1 "_law_sum" ["_law_one", "_law_other", "_law_times"] (spLSum K)) (o__law_fits : Own P w K mg base CX0 11 "_law_fits" ["_law_one", "_law_other"] (spFits K C))
    (o__law_counts_right : Own P w K mg base CX0 11 "_law_counts_right" ["_law_web_here", "_law_size"] (spCnt K C)) (o__law_sums_right : Own P w K mg base CX0 12 "_law_sums_right" ["_law_one", "_law_other", "_law_third", "_law_k"] (spSmR K C))
    (o_renamed : Own P w K mg base CX0 9 "renamed" ["web", "order"] (spRen K C)) (o_moved : Own P w K mg base CX0 1 "moved" ["row", "order"] (spMoved K)) (o_beside : Own P w K mg base CX0 9 "beside" ["one", "other"] (spBeside K C)) :
    FnC P w K mg base CX0 13 f fd ["_law_script"] (spLaw K) := by
  obtain ⟨fo, i1⟩ := OP.i1
  obtain ⟨ro, i2⟩ := OP.i2
  have G_eq := EQ.Q
  have B_eq := EQ.bQ
  have N1_eq := EQ.ne
  have N2_eq := EQ.ob
  have S_eq := EQ.sQ
  have I_eq := EQ.iQ
  have T := Tw
  refine okC F scLaw (fun vs H Q E h => ?_) (fun cdv A outer s H vs Q E hr hgd h => ?_)
  · obtain ⟨a, ns, rfl, _⟩ := h
    rfl
  · obtain ⟨a, ns, rfl, ha, hl, q⟩ := h
    have hu := hu_of hr
    refine ⟨_, (pss_cons (ps_set (i := 1) scLaw.nd rfl (Or.inl rfl) (pe_own o__law_bag (hr.mono (by decide)) pass0 (pa_cons (pv 0) pa_nil)))
    (pss_cons (ps_asg (pe_tup (pa_cons (pe_ix ix_list (pe_lst (pa_cons (pe_own o__law_take (hr.mono (by decide)) pass0 (pa_cons (pv 1) (pa_cons pe_int pa_nil))) (pa_cons (pe_own o__law_take (hr.mono (by decide)) pass0 (pa_cons (pv 1) (pa_cons pe_int pa_nil))) pa_nil))) (pe_op op_fdiv (pe_own o__law_take (hr.mono (by decide)) pass0 (pa_cons (pv 1) (pa_cons pe_int pa_nil))) pe_int) (fun _ _ => rfl)) (pa_cons (pe_own o__law_take (hr.mono (by decide)) pass0 (pa_cons (pv 1) (pa_cons pe_int pa_nil))) pa_nil))) (pg_tup (by rfl) (pgs_cons (pg_name (i := 2) scLaw.nd rfl (Or.inr rfl)) (pgs_cons (pg_name (i := 3) scLaw.nd rfl (Or.inl rfl)) pgs_nil))))
    (pss_cons (ps_par3 (i := 4) (j := 5) (l := 6) (by rfl) scLaw.nd rfl rfl rfl (by decide) (by decide) (by decide) rfl rfl rfl (pa_cons (pe_own o__law_web (hr.mono (by decide)) pass0 (pa_cons (pv 1) (pa_cons (pv 2) pa_nil))) (pa_cons (pe_own o__law_web (hr.mono (by decide)) pass0 (pa_cons (pv 1) (pa_cons (pv 2) pa_nil))) (pa_cons (pe_own o__law_web (hr.mono (by decide)) pass0 (pa_cons (pv 1) (pa_cons (pv 2) pa_nil))) pa_nil))) (by rfl))
    (pss_cons (ps_set (i := 7) scLaw.nd rfl (Or.inl rfl) (pe_callTy call_tuple_of (by rfl) B.m_tuple (by decide +kernel) (pa_cons (pe_own o__law_mixed (hr.mono (by decide)) pass0 (pa_cons (pv 1) (pa_cons (pe_listRg rfl (by rfl) B.m_list (prg_1 (by rfl) B.m_range (pv 2))) pa_nil))) pa_nil)))
    (pss_cons (ps_for PassesOwn.never rfl (pi_tup (pe_tup (pa_cons (pv 4) (pa_cons (pv 5) (pa_cons (pv 6) (pa_cons (pe_op (op_binO (op := .Add) OP.A (hr.mono (by decide)) OP.bA (L2N.passes_call takes0N (fun _ _ _ _ h => h)) OP.self OP.sA OP.iA) (pv 4) (pv 5)) (pa_cons (pe_binR OP.R (hr.mono (by decide)) OP.bR (fun σ => L2N.passAt takes0N σ) OP.self OP.sM OP.sR OP.iR OP.sub2 (pv 3) (pv 6)) (pa_cons (pe_op (op_binO (op := .Sub) OP.S (hr.mono (by decide)) OP.bS (L2N.passes_call takes0N (fun _ _ _ _ h => h)) OP.self OP.sS OP.iS) (pe_op (op_binO (op := .Add) OP.A (hr.mono (by decide)) OP.bA (L2N.passes_call takes0N (fun _ _ _ _ h => h)) OP.self OP.sA OP.iA) (pv 4) (pv 5)) (pv 5)) pa_nil)))))))) (pg_name (i := 8) scLaw.nd rfl (Or.inl rfl))
      (pss_one (ps_if (pt_not (pt_val (pe_own o__law_counts_right (hr.mono (by decide)) pass0 (pa_cons (pv 8) (pa_cons (pv 2) pa_nil)))))
        (pss_one (ps_ret pe_bl))
        pss_nil)))
    (pss_cons (ps_if (pt_cmpR (op_neD hr.units) (pe_fld (pe_op (op_binO (op := .Add) OP.A (hr.mono (by decide)) OP.bA (L2N.passes_call takes0N (fun _ _ _ _ h => h)) OP.self OP.sA OP.iA) (pv 4) (pv 5)) rfl) (pe_own o__law_sum (hr.mono (by decide)) pass0 (pa_cons (pe_fld (pv 4) rfl) (pa_cons (pe_fld (pv 5) rfl) (pa_cons pe_int pa_nil)))) (nomark _))
      (pss_one (ps_ret pe_bl))
      pss_nil)
    (pss_cons (ps_if (pt_cmpR (op_neD hr.units) (pe_fld (pe_op (op_binO (op := .Add) OP.A (hr.mono (by decide)) OP.bA (L2N.passes_call takes0N (fun _ _ _ _ h => h)) OP.self OP.sA OP.iA) (pv 4) (pe_binR OP.R (hr.mono (by decide)) OP.bR (fun σ => L2N.passAt takes0N σ) OP.self OP.sM OP.sR OP.iR OP.sub2 (pv 3) (pv 6))) rfl) (pe_own o__law_sum (hr.mono (by decide)) pass0 (pa_cons (pe_fld (pv 4) rfl) (pa_cons (pe_fld (pv 6) rfl) (pa_cons (pv 3) pa_nil)))) (nomark _))
      (pss_one (ps_ret pe_bl))
      pss_nil)
    (pss_cons (ps_if (pt_not (pt_val (pe_own o__law_sums_right (hr.mono (by decide)) pass0 (pa_cons (pv 4) (pa_cons (pv 5) (pa_cons (pv 6) (pa_cons (pv 3) pa_nil)))))))
      (pss_one (ps_ret pe_bl))
      pss_nil)
    (pss_cons (ps_if (pt_ifExp (pt_cmpR op_lt (pv 2) pe_int (nomark _)) (pt_cmpR (op_neD hr.units) (pe_fld (pe_own o_beside (hr.mono (by decide)) pass0 (pa_cons (pv 4) (pa_cons (pv 5) pa_nil))) rfl) (pe_op op_catA (pe_fld (pv 4) rfl) (pe_fld (pv 5) rfl)) (nomark _)) (pt_val pe_bl))
      (pss_one (ps_ret pe_bl))
      pss_nil)
    (pss_cons (ps_if (pt_cmpR (op_neD hr.units) (pe_fld (pe_own o_renamed (hr.mono (by decide)) pass0 (pa_cons (pv 4) (pa_cons (pv 7) pa_nil))) rfl) (pe_own o_moved (hr.mono (by decide)) pass0 (pa_cons (pe_fld (pv 4) rfl) (pa_cons (pv 7) pa_nil))) (nomark _))
      (pss_one (ps_ret pe_bl))
      pss_nil)
    (pss_cons (ps_if (pt_cmpR (op_neO G_eq (hr.mono (by decide)) B_eq pass0 N1_eq N2_eq S_eq I_eq) (pe_own o_renamed (hr.mono (by decide)) pass0 (pa_cons (pe_op (op_binO (op := .Add) OP.A (hr.mono (by decide)) OP.bA (L2N.passes_call takes0N (fun _ _ _ _ h => h)) OP.self OP.sA OP.iA) (pv 4) (pv 5)) (pa_cons (pv 7) pa_nil))) (pe_op (op_binO (op := .Add) OP.A (hr.mono (by decide)) OP.bA (L2N.passes_call takes0N (fun _ _ _ _ h => h)) OP.self OP.sA OP.iA) (pe_own o_renamed (hr.mono (by decide)) pass0 (pa_cons (pv 4) (pa_cons (pv 7) pa_nil))) (pe_own o_renamed (hr.mono (by decide)) pass0 (pa_cons (pv 5) (pa_cons (pv 7) pa_nil)))) (nomark _))
      (pss_one (ps_ret pe_bl))
      pss_nil)
    (pss_cons (ps_for PassesOwn.never rfl (pi_tup (pe_tup (pa_cons (pe_tup (pa_cons (pv 4) (pa_cons (pv 5) pa_nil))) (pa_cons (pe_tup (pa_cons (pv 5) (pa_cons (pv 4) pa_nil))) (pa_cons (pe_tup (pa_cons (pv 4) (pa_cons (pe_op (op_binO (op := .Add) OP.A (hr.mono (by decide)) OP.bA (L2N.passes_call takes0N (fun _ _ _ _ h => h)) OP.self OP.sA OP.iA) (pv 4) (pv 6)) pa_nil))) pa_nil))))) (pg_name (i := 9) scLaw.nd rfl (Or.inl rfl))
      (pss_one (ps_if (pt_cmpR op_ne (pe_callB call_reprBl (by rfl) B.m_repr (by decide +kernel) (pa_cons (pe_own o__law_fits (hr.mono (by decide)) pass0 (pa_cons (pe_ix ix_tup (pv 9) pe_int (fun _ _ => rfl)) (pa_cons (pe_ix ix_tup (pv 9) pe_int (fun _ _ => rfl)) pa_nil))) pa_nil)) (pe_callB call_reprBl (by rfl) B.m_repr (by decide +kernel) (pa_cons (pe_meth (pe_ix ix_tup (pv 9) pe_int (fun _ _ => rfl)) T.cl M_within G_within (hr.mono (by decide)) B_within .nil pass0 (pa_cons (pe_ix ix_tup (pv 9) pe_int (fun _ _ => rfl)) pa_nil)) pa_nil)) (nomark _))
        (pss_one (ps_ret pe_bl))
        pss_nil)))
    (pss_cons (ps_set (i := 10) scLaw.nd rfl (Or.inl rfl) (pe_listRg rfl (by rfl) B.m_list (prg_1 (by rfl) B.m_range (pe_op op_fdiv (pv 2) pe_int))))
    (pss_cons (ps_set (i := 11) scLaw.nd rfl (Or.inl rfl) (pe_listRg rfl (by rfl) B.m_list (prg_2 (by rfl) B.m_range (pe_op op_fdiv (pv 2) pe_int) (pv 2))))
    (pss_cons (ps_set (i := 12) scLaw.nd rfl (Or.inl rfl) (pe_callB (cr_sum rfl) (by rfl) B.m_sum (by decide +kernel) (pa_cons (pe_lc (own := [("_law_u", 13), ("_law_v", 14), ("_law_number", 15)]) (g := (gTup K 3 (gCons (gName 13) (gCons (gName 14) (gCons (gName 15) gNil))))) rfl scLaw.nd (pi_tup (pe_fld (pv 4) rfl)) (blkOk_by (N := ["_law_script", "_law_bag_here", "_law_size", "_law_k", "_law_one", "_law_other", "_law_third", "_law_order", "_law_web_here", "_law_pair", "_law_half", "_law_rest_of", "_law_inner", "_law_u", "_law_v", "_law_number"]) (sc := defScope sLaw) (by decide +kernel)) (fun _ _ _ _ _ => pg_tup (by rfl) (pgs_cons (pg_name (i := 13) scLaw.nd rfl (Or.inl rfl)) (pgs_cons (pg_name (i := 14) scLaw.nd rfl (Or.inl rfl)) (pgs_cons (pg_name (i := 15) scLaw.nd rfl (Or.inl rfl)) pgs_nil)))) (fun _ _ _ _ _ => pts_one (pt_cmpR op_eq (pe_cmpR op_lt (pv 13) (pe_op op_fdiv (pv 2) pe_int) (nomark _)) (pe_cmpR op_lt (pv 14) (pe_op op_fdiv (pv 2) pe_int) (nomark _)) (nomark _))) (fun _ _ _ _ _ => (pv 15))) pa_nil)))
    (pss_one (ps_ret (pe_cmpR op_eq (pe_op op_add (pv 12) (pe_meth (pv 4) T.cl M_crossing G_crossing (hr.mono (by decide)) B_crossing .nil pass0 (pa_cons (pv 10) (pa_cons (pv 11) pa_nil)))) (pe_fld (pv 4) rfl) (nomark _))))))))))))))))))), ?_⟩
    refine ⟨_, rfl, a, ns, rfl, ha, hl, fun H1 b l s1 nb B1 => ?_⟩
    refine ⟨_, rfl, b, l, 7, _, rfl, by decide, by decide, B1, by omega, fun x1 H2 x10 x11 B2 b2 => ?_⟩
    refine ⟨_, rfl, b, l, 61, _, rfl, by decide, by decide, B2, by omega, fun x2 H3 x20 x21 B3 b3 => ⟨(by show 2 ≤ sizeLine; decide), fun L nL => ?_⟩⟩
    replace nL : New H3 L := nL
    have sL := same_new (o := .lst [V.int x1, V.int x2]) nL
    have hLb : L ≠ b := Ne.symm (ne_new nL B3.in'.1.choose_spec)
    refine ⟨_, rfl, b, l, 4, _, rfl, by decide, by decide, B3.same sL, by omega, fun x3 H4 x30 x31 B4 b4 => ?_⟩
    obtain ⟨n, hn, hz⟩ : ∃ n : Nat, n ≤ 60 ∧ atI [V.int x1, V.int x2] (x3 / 3) = some (.int (n : Int)) := by
      have : x3 / 3 = 0 ∨ x3 / 3 = 1 := by omega
      rcases this with e | e
      · obtain ⟨m, rfl⟩ := Int.eq_ofNat_of_zero_le x10
        exact ⟨m, by omega, by rw [e]; exact atI_nat (j := 0) rfl⟩
      · obtain ⟨m, rfl⟩ := Int.eq_ofNat_of_zero_le x20
        exact ⟨m, by omega, by rw [e]; exact atI_nat (j := 1) rfl⟩
    refine ⟨x3, 3, rfl, rfl, ⟨by decide, by omega⟩, L, _, x3 / 3, _, rfl, rfl, .inl (.inl (b4 _ _ hLb upd_same)), hz, ?_⟩
    clear hz b4 hLb
    refine ⟨_, rfl, b, l, 200, _, rfl, by decide, by decide, B4, by omega, fun k H5 k0 k1 B5 b5 => ⟨(by show 2 ≤ sizeLine; decide), fun R nR => ?_⟩⟩
    replace nR : New H5 R := nR
    have sR := same_new (o := .tup [V.int (n : Int), V.int k]) nR
    have B5' := B5.same sR
    refine ⟨R, _, rfl, .inl (.inl upd_same), rfl, _, _, rfl, _, _, rfl, rfl, ?_⟩
    generalize (upd H5 R (.tup [V.int (n : Int), V.int k])) = H6 at B5' ⊢
    clear sR nR B5 b5 B4 sL nL B3 b3 B2 b2 B1 nb s1 x30 x31 x20 x21 x10 x11
    -- the webs
    refine ⟨_, rfl, _, rfl, b, l, _, n, rfl, B5', by decide, hn, fun H7 w1 am1 T1 B7 b7 V1 p1 => ?_⟩
    obtain ⟨⟨xb7, hb7⟩, _⟩ := B7.in'
    refine ⟨_, rfl, _, rfl, b, l, _, n, rfl, B7, by decide, hn, fun H8 w2 am2 T2 B8 b8 V2 p2 => ?_⟩
    obtain ⟨⟨xb8, hb8⟩, _⟩ := B8.in'
    replace V1 := V1.but hb7 b8
    refine ⟨_, rfl, _, rfl, b, l, _, n, rfl, B8, by decide, hn, fun H9 w3 am3 T3 B9 b9 V3 p3 => ?_⟩
    obtain ⟨⟨xb9, hb9⟩, _⟩ := B9.in'
    replace V1 := V1.but hb8 b9
    replace V2 := V2.but hb8 b9
    clear b7 b8 b9 hb7 hb8 B7 B8 B5'
    refine ⟨_, _, _, rfl, ?_⟩
    -- the order
    have rgN : rgV 0 (n : Int) = (List.range n).map fun (k : Nat) => V.int (k : Int) := by rw [rg_ints, List.map_map]; rfl
    refine ⟨_, rfl, _, rfl, (n : Int), rfl, RgOk.of_le (by decide) (by omega) (by decide) (by omega), fun L2 nL => ?_⟩
    replace nL : New H9 L2 := nL
    have sL := same_new (o := .lst (rgV 0 (n : Int))) nL
    have Lb : L2 ≠ b := Ne.symm (ne_new nL B9.in'.1.choose_spec)
    have rgl : (rgV 0 (n : Int)).length = n := by rw [rgN, List.length_map, List.length_range]
    refine ⟨b, l, L2, _, _, rfl, Lb, upd_same, by rw [rgl]; omega, B9.same sL, by rw [rgl]; omega, fun H11 Dm ys B11 b11 nDm hDm hpm => ?_⟩
    rw [rgN] at hpm
    obtain ⟨os, hos, rfl⟩ := perm_back hpm rfl
    have hb9' := sL _ _ hb9
    replace V1 := (V1.same sL).but hb9' b11
    replace V2 := (V2.same sL).but hb9' b11
    replace V3 := (V3.same sL).but hb9' b11
    refine ⟨Dm, _, rfl, .inl ⟨.inl (.inl hDm), fun tu ntu => ?_⟩⟩
    replace ntu : New H11 tu := ntu
    have stu := same_new (o := .tup (os.map fun (k : Nat) => V.int (k : Int))) ntu
    replace V1 := V1.same stu
    replace V2 := V2.same stu
    replace V3 := V3.same stu
    have hO := upd_same (H := H11) (a := tu) (o := .tup (os.map fun (k : Nat) => V.int (k : Int)))
    generalize (upd H11 tu (.tup (os.map fun (k : Nat) => V.int (k : Int)))) = H12 at V1 V2 V3 hO ⊢
    clear stu ntu hb9' hb9 b11 nDm hDm hpm B11 rgl Lb sL nL rgN B9
    have q1 := ties_pos V1.ties
    have q2 := ties_pos V2.ties
    have q3 := ties_pos V3.ties
    have r1 : ∀ u v, k * am3 u v ≤ 1000000000 := fun u v => mul_bd k0 (by omega) (q3 u v) (by have := p3 u v; omega)
    -- the counts
    refine ⟨_, rfl, _, rfl, _, rfl, _, rfl, _, rfl, rd_add V1 V2 (fun u v => by have := p1 u v; have := p2 u v; omega) fun H1 x4 T4 s1 V4 => ?_⟩
    refine ⟨_, rfl, _, rfl, rd_rmul (V3.same s1) k0 (by omega) r1 fun H2 x5 T5 s2 V5 => ?_⟩
    refine ⟨_, rfl, _, rfl, rd_add (V1.same (s1.trans s2)) (V2.same (s1.trans s2)) (fun u v => by have := p1 u v; have := p2 u v; omega) fun H3 x6 T6 s3 V6 => ?_⟩
    refine ⟨_, rfl, rd_sub V6 (V2.same ((s1.trans s2).trans s3)) (fun u v => by have := q1 u v; omega) fun H4 x7 T7 s4 V7 => ⟨(by show 6 ≤ sizeLine; decide), fun R nR => ?_⟩⟩
    have s04 := ((s1.trans s2).trans s3).trans s4
    have sR := same_new (o := .tup [.ref w1, .ref w2, .ref w3, .ref x4, .ref x5, .ref x7]) nR
    have hR := upd_same (H := H4) (a := R) (o := .tup [.ref w1, .ref w2, .ref w3, .ref x4, .ref x5, .ref x7])
    have hW : ∀ x ∈ ([.ref w1, .ref w2, .ref w3, .ref x4, .ref x5, .ref x7] : List V), ∃ w' am' T', x = .ref w' ∧ WA K C (upd H4 R (.tup [.ref w1, .ref w2, .ref w3, .ref x4, .ref x5, .ref x7])) w' n am' T' := fun x hx => by
      simp only [List.mem_cons, List.not_mem_nil, or_false] at hx
      rcases hx with rfl | rfl | rfl | rfl | rfl | rfl
      · exact ⟨_, _, _, rfl, (V1.same s04).same sR⟩
      · exact ⟨_, _, _, rfl, (V2.same s04).same sR⟩
      · exact ⟨_, _, _, rfl, (V3.same s04).same sR⟩
      · exact ⟨_, _, _, rfl, (V4.same ((s2.trans s3).trans s4)).same sR⟩
      · exact ⟨_, _, _, rfl, (V5.same (s3.trans s4)).same sR⟩
      · exact ⟨_, _, _, rfl, V7.same sR⟩
    have s0R := s04.trans sR
    clear sR s04 s4 s3 s2 s1 V4 V5 V6 V7 nR
    refine ⟨R, rfl, ⟨_, .inl (.inl hR)⟩, ?_⟩
    generalize (upd H4 R (.tup [.ref w1, .ref w2, .ref w3, .ref x4, .ref x5, .ref x7])) = H13 at s0R hR hW ⊢
    refine for_tup (K := K) (a := R) (xs := [.ref w1, .ref w2, .ref w3, .ref x4, .ref x5, .ref x7]) (fun i σ H' => (∃ v8 v9 v10 v11 v12 v13 v14 v15, σ = [some (.ref a), some (.ref b), some (.int (n : Int)), some (.int k), some (.ref w1), some (.ref w2), some (.ref w3), some (.ref tu), v8, v9, v10, v11, v12, v13, v14, v15]) ∧ Same H13 H') ⟨⟨_, _, _, _, _, _, _, _, rfl⟩, Same.refl _⟩ (fun i σ H' _ h => .inl (.inl (h.2 _ _ hR))) ?_ ?_
    · rintro i x σ H' hx ⟨⟨v8, v9, v10, v11, v12, v13, v14, v15, rfl⟩, s'⟩
      obtain ⟨w', am', T', rfl, V'⟩ := hW x (List.mem_of_getElem? hx)
      refine ⟨_, rfl, _, rfl, w', n, am', T', rfl, V'.same s', fun H'' s'' => ⟨true, rfl, ?_⟩⟩
      exact iteF ⟨⟨_, _, _, _, _, _, _, _, rfl⟩, s'.trans s''⟩
    rintro σ H' ⟨⟨v8, v9, v10, v11, v12, v13, v14, v15, rfl⟩, s'⟩
    have s0 := s0R.trans s'
    clear hW hR s0R
    replace V1 := V1.same s0
    replace V2 := V2.same s0
    replace V3 := V3.same s0
    replace hO := s0 _ _ hO
    clear s' s0
    obtain ⟨dx1, t1, ys1, d1, g1, h1, i1, j1, k1, l1⟩ := V1.web.ex
    obtain ⟨dx2, t2, ys2, d2, g2, h2, i2, j2, k2, l2⟩ := V2.web.ex
    obtain ⟨dx3, t3, ys3, d3, g3, h3, i3, j3, k3, l3⟩ := V3.web.ex
    have bS : ∀ u v, am1 u v + am2 u v ≤ 1000000000 := fun u v => by have := p1 u v; have := p2 u v; omega
    -- a sum's degrees
    refine ⟨_, rfl, _, rfl, rd_add V1 V2 bS fun H1 x T s1 VX => ?_⟩
    obtain ⟨dx, t, ys, d, g, hx1, _, _, _, hx5⟩ := VX.web.ex
    refine ⟨x, C, dx, _, _, rfl, hx1, Tw.cl, Tw.n5, lk5d _ _ _ _ _, ?_⟩
    refine ⟨.ref w1, rfl, w1, C, dx1, _, _, rfl, s1 _ _ h1, Tw.cl, Tw.n5, lk5d _ _ _ _ _, .ref w2, rfl, w2, C, dx2, _, _, rfl, s1 _ _ h2, Tw.cl, Tw.n5, lk5d _ _ _ _ _, ?_⟩
    refine ⟨g1, g2, degs T1 n, degs T2 n, 1, rfl, .inl (.inl (s1 _ _ l1)), .inl (.inl (s1 _ _ l2)), by rw [degs_len, degs_len], by rw [degs_len]; omega, by decide, by decide, fun H2 p s2 hp => ?_⟩
    rw [degs_plus V1.ties V2.ties (VX.ties.cong fun u v => by rw [Int.one_mul])] at hp
    refine ne_ints (.inl (.inl (s2 _ _ hx5))) (.inl (.inl hp)) rfl ⟨false, rfl, iteF ?_⟩
    have s02 := s1.trans s2
    clear hp s1 s2 hx5 hx1 VX
    refine ⟨_, rfl, _, rfl, _, rfl, rd_rmul (V3.same s02) k0 (by omega) r1 fun H3 x5' T5' s3 VY => ?_⟩
    have s03 := s02.trans s3
    refine rd_add (V1.same s03) VY (fun u v => by have := p1 u v; have := mul_bd k0 (by omega) (q3 u v) (show am3 u v ≤ 1000000 by have := p3 u v; omega); have := Int.mul_le_mul_of_nonneg_left (p3 u v) k0; omega) fun H4 x' T' s4 VX => ?_
    have s04 := s03.trans s4
    obtain ⟨dx', t', ys', d', g', hx1, _, _, _, hx5⟩ := VX.web.ex
    refine ⟨x', C, dx', _, _, rfl, hx1, Tw.cl, Tw.n5, lk5d _ _ _ _ _, ?_⟩
    refine ⟨.ref w1, rfl, w1, C, dx1, _, _, rfl, s04 _ _ h1, Tw.cl, Tw.n5, lk5d _ _ _ _ _, .ref w3, rfl, w3, C, dx3, _, _, rfl, s04 _ _ h3, Tw.cl, Tw.n5, lk5d _ _ _ _ _, _, rfl, ?_⟩
    refine ⟨g1, g3, degs T1 n, degs T3 n, k, rfl, .inl (.inl (s04 _ _ l1)), .inl (.inl (s04 _ _ l3)), by rw [degs_len, degs_len], by rw [degs_len]; omega, k0, by omega, fun H5 p' s5 hp => ?_⟩
    rw [degs_plus V1.ties V3.ties VX.ties] at hp
    refine ne_ints (.inl (.inl (s5 _ _ hx5))) (.inl (.inl hp)) rfl ⟨false, rfl, iteF ?_⟩
    have s05 := s04.trans s5
    clear hp s3 s4 s5 hx5 hx1 VX VY s02 s03 s04
    -- sums, differences and products
    refine ⟨_, rfl, _, rfl, _, rfl, _, rfl, w1, w2, w3, n, am1, am2, am3, T1, T2, T3, k, rfl, V1.same s05, V2.same s05, V3.same s05, p1, p2, p3, k0, by omega, fun H6 s6 => ⟨true, rfl, ?_⟩⟩
    refine iteF ?_
    have s06 := s05.trans s6
    clear s6 s05
    replace V1 := V1.same s06
    replace V2 := V2.same s06
    replace V3 := V3.same s06
    replace hO := s06 _ _ hO
    replace h1 := s06 _ _ h1
    replace h2 := s06 _ _ h2
    replace l1 := s06 _ _ l1
    replace l2 := s06 _ _ l2
    replace i1 := s06 _ _ i1
    replace j1 := j1.same s06
    clear s06 h3 i3 j3 k3 l3 i2 j2 k2 k1
    refine' branch (H := H6) (fun rest => _) (fun H7 s7 => _)
    rotate_left
    · refine ⟨_, rfl, (n : Int), 31, rfl, rfl, _, rfl, ?_⟩
      refine ite2 (fun hlt => ?_) (fun _ => ?_)
      · have hlt' : (n : Int) < 31 := by simpa using hlt
        refine ⟨_, rfl, _, rfl, w1, n, am1, T1, w2, n, am2, T2, rfl, V1, V2, by omega, fun H7 xB TB s7 htB hwB => ?_⟩
        obtain ⟨dx', t', ys', d', g', hx1, _, _, _, hx5⟩ := hwB.ex
        refine ⟨xB, C, dx', _, _, rfl, hx1, Tw.cl, Tw.n5, lk5d _ _ _ _ _, ?_⟩
        refine ⟨.ref w1, rfl, w1, C, dx1, _, _, rfl, s7 _ _ h1, Tw.cl, Tw.n5, lk5d _ _ _ _ _, .ref w2, rfl, w2, C, dx2, _, _, rfl, s7 _ _ h2, Tw.cl, Tw.n5, lk5d _ _ _ _ _, ?_⟩
        have eB := degs_beside V1.ties V2.ties htB
        have eL := (congrArg (List.map V.int) eB).symm
        rw [List.map_append] at eL
        refine ⟨g1, g2, _, _, rfl, rfl, .inl (.inl (s7 _ _ l1)), .inl (.inl (s7 _ _ l2)), by rw [List.length_map, List.length_map, degs_len, degs_len, sizeLine_eq]; omega, fun he => ?_, fun hne he => ?_, fun hne hne2 p np => ?_⟩
        · exact ne_ints (K := K) (.inl (.inl hx5)) (by rw [eL, he]; exact .inl (.inl (s7 _ _ l2))) rfl ⟨false, rfl, iteF (rest _ s7)⟩
        · exact ne_ints (K := K) (.inl (.inl hx5)) (by rw [eL, he, List.append_nil]; exact .inl (.inl (s7 _ _ l1))) rfl ⟨false, rfl, iteF (rest _ s7)⟩
        · exact ne_ints (K := K) (.inl (.inl (same_new np _ _ hx5))) (by rw [eL]; exact .inl (.inl upd_same)) rfl ⟨false, rfl, iteF (rest _ (s7.trans (same_new np)))⟩
      · exact ⟨false, rfl, iteF (rest _ (Same.refl _))⟩
    replace V1 := V1.same s7
    replace V2 := V2.same s7
    replace V3 := V3.same s7
    replace hO := s7 _ _ hO
    replace h1 := s7 _ _ h1
    replace l1 := s7 _ _ l1
    replace i1 := s7 _ _ i1
    replace j1 := j1.same s7
    clear s7 h2 l2
    obtain ⟨f1, f2⟩ := atO_perm hos
    have renB : ∀ {am : Int → Int → Int} {TT : List T27.T3}, TiesOf (n : Int) am TT → (∀ u v, am u v ≤ 200000) → ∀ u v, amt ((ren (atO os) TT).map norm) u v ≤ 400000000 := fun {am TT} ht hb u v => by
      have hl := ties_len60 ht hn
      have := amt_bd (B := 200000) (by decide) (L := (ren (atO os) TT).map norm) (fun p hp => by
        obtain ⟨p1, hp1, rfl⟩ := List.mem_map.mp hp
        obtain ⟨p0, hp0, rfl⟩ := List.mem_map.mp hp1
        show p0.2.2 ≤ 200000
        rw [← ties_num ht hp0]
        exact hb _ _) u v
      rw [List.length_map, ren, List.length_map] at this
      unfold ren
      omega
    have renC : ∀ {am : Int → Int → Int} {TT : List T27.T3}, TiesOf (n : Int) am TT → (∀ u v, am u v ≤ 200000) → ∀ u v, amt ((ren (atO os) TT).map norm) u v ≤ 1000000000 := fun ht hb u v => by have := renB ht hb u v; omega
    have p1' : ∀ u v, am1 u v ≤ 200000 := fun u v => by have := p1 u v; omega
    have p2' : ∀ u v, am2 u v ≤ 200000 := fun u v => by have := p2 u v; omega
    have p12 : ∀ u v, am1 u v + am2 u v ≤ 200000 := fun u v => by have := p1 u v; have := p2 u v; omega
    -- renamed
    refine ⟨_, rfl, _, rfl, w1, n, am1, T1, tu, _, atO os, rfl, V1, .inl (.inl hO), f1, f2, renC V1.ties p1', fun H8 xR TR s8 htR hwR => ?_⟩
    obtain ⟨dx', t', ys', d', g', hx1, _, _, _, hx5⟩ := hwR.ex
    refine ⟨xR, C, dx', _, _, rfl, hx1, Tw.cl, Tw.n5, lk5d _ _ _ _ _, ?_⟩
    refine ⟨.ref w1, rfl, w1, C, dx1, _, _, rfl, s8 _ _ h1, Tw.cl, Tw.n5, lk5d _ _ _ _ _, _, rfl, ?_⟩
    refine ⟨g1, tu, _, os, rfl, .inl (.inl (s8 _ _ l1)), .inl (.inl (s8 _ _ hO)), by rw [List.length_map, degs_len]; exact hos, by rw [List.length_map, degs_len]; omega, fun H9 pM yM s9 hpM hlM hM => ?_⟩
    rw [List.length_map, degs_len] at hlM
    have eM := degs_ren hos V1.ties htR hlM hM
    refine ne_ints (K := K) (.inl (.inl (s9 _ _ hx5))) (by rw [eM] at hpM; exact .inl (.inl hpM)) rfl ⟨false, rfl, iteF ?_⟩
    have s09 := s8.trans s9
    clear eM hM hlM hpM s8 s9 hx5 hx1
    have hO9 : SqT K H9 tu (os.map fun (k : Nat) => V.int (k : Int)) := .inl (.inl (s09 _ _ hO))
    -- a sum, renamed
    refine ⟨_, rfl, _, rfl, rd_add (V1.same s09) (V2.same s09) bS fun H1 xA TA s1 VA => ?_⟩
    have hO1 := hO9.ext s1
    refine ⟨_, rfl, xA, n, _, TA, tu, _, atO os, rfl, VA, hO1, f1, f2, renC VA.ties p12, fun H2 xB TB s2 htB hwB => ?_⟩
    have s92 := s09.trans (s1.trans s2)
    have hO2 := hO1.ext s2
    refine ⟨_, rfl, _, rfl, w1, n, am1, T1, tu, _, atO os, rfl, V1.same s92, hO2, f1, f2, renC V1.ties p1', fun H3 xC TC s3 htC hwC => ?_⟩
    have s93 := s92.trans s3
    have hO3 := hO2.ext s3
    refine ⟨_, rfl, _, rfl, w2, n, am2, T2, tu, _, atO os, rfl, V2.same s93, hO3, f1, f2, renC V2.ties p2', fun H4 xD TD s4 htD hwD => ?_⟩
    refine rd_add ((mkWA hwC htC hn (renC V1.ties p1')).same s4) (mkWA hwD htD hn (renC V2.ties p2')) (fun u v => by have := renB V1.ties p1' u v; have := renB V2.ties p2' u v; omega) fun H5 xE TE s5 VE => ?_
    have s95 := (s93.trans s4).trans s5
    refine eq_web EQ.ty EQ.nf ((mkWA hwB htB hn (renC VA.ties p12)).same ((s3.trans s4).trans s5)) VE rfl (fun u v => ?_) ⟨true, rfl, _, rfl, ?_⟩
    · rw [← amt_append, ← List.map_append, show ren (atO os) T1 ++ ren (atO os) T2 = ren (atO os) (T1 ++ T2) by unfold ren; rw [List.map_append]]
      refine ren_same hos VA.ties.nb (fun p hp => (List.mem_append.mp hp).elim (V1.ties.nb p) (V2.ties.nb p)) (fun u v => ?_) u v
      rw [VA.ties.am, amt_append, V1.ties.am, V2.ties.am]
    refine iteF ?_
    replace V1 := V1.same s95
    replace V2 := V2.same s95
    replace V3 := V3.same s95
    replace h1 := s95 _ _ h1
    replace l1 := s95 _ _ l1
    replace i1 := s95 _ _ i1
    replace j1 := j1.same s95
    clear VE hwB hwC hwD htB htC htD hO1 hO2 hO3 s1 s2 s3 s4 s5 s92 s93 s95 hO9 s09 renB renC hO VA htR hwR
    -- within
    refine ⟨_, rfl, _, rfl, (by show 2 ≤ sizeLine; decide), fun R1 nR1 => ?_⟩
    have sP1 := same_new (o := .tup [.ref w1, .ref w2]) nR1
    refine ⟨_, rfl, _, rfl, (by show 2 ≤ sizeLine; decide), fun R2 nR2 => ?_⟩
    have sP2 := same_new (o := .tup [.ref w2, .ref w1]) nR2
    refine ⟨_, rfl, _, rfl, _, rfl, rd_add ((V1.same sP1).same sP2) ((V3.same sP1).same sP2) (fun u v => by have := p1 u v; have := p3 u v; omega) fun H6 xS TS sS VS => ⟨(by show 2 ≤ sizeLine; decide), fun R3 nR3 => ⟨(by show 3 ≤ sizeLine; decide), fun R4 nR4 => ?_⟩⟩⟩
    have sP3 := same_new (o := .tup [.ref w1, .ref xS]) nR3
    have sP4 := same_new (o := .tup [.ref R1, .ref R2, .ref R3]) nR4
    have s5 := (((sP1.trans sP2).trans sS).trans sP3).trans sP4
    have hR4 := upd_same (H := upd H6 R3 (.tup [.ref w1, .ref xS])) (a := R4) (o := .tup [.ref R1, .ref R2, .ref R3])
    have hP : ∀ x ∈ ([.ref R1, .ref R2, .ref R3] : List V), ∃ R' wa wb ama amb Ta Tb, x = .ref R' ∧ (upd (upd H6 R3 (.tup [.ref w1, .ref xS])) R4 (.tup [.ref R1, .ref R2, .ref R3])) R' = some (.tup [.ref wa, .ref wb]) ∧ WA K C (upd (upd H6 R3 (.tup [.ref w1, .ref xS])) R4 (.tup [.ref R1, .ref R2, .ref R3])) wa n ama Ta ∧ WA K C (upd (upd H6 R3 (.tup [.ref w1, .ref xS])) R4 (.tup [.ref R1, .ref R2, .ref R3])) wb n amb Tb := fun x hx => by
      simp only [List.mem_cons, List.not_mem_nil, or_false] at hx
      rcases hx with rfl | rfl | rfl
      · exact ⟨R1, _, _, _, _, _, _, rfl, ((sP2.trans sS).trans sP3).trans sP4 _ _ upd_same, V1.same s5, V2.same s5⟩
      · exact ⟨R2, _, _, _, _, _, _, rfl, (sS.trans sP3).trans sP4 _ _ upd_same, V2.same s5, V1.same s5⟩
      · exact ⟨R3, _, _, _, _, _, _, rfl, sP4 _ _ upd_same, V1.same s5, (VS.same sP3).same sP4⟩
    refine ⟨R4, rfl, ⟨_, .inl (.inl hR4)⟩, ?_⟩
    clear nR4 nR3 VS sP4 sP3 sS nR2 nR1 sP1 sP2
    generalize (upd (upd H6 R3 (.tup [.ref w1, .ref xS])) R4 (.tup [.ref R1, .ref R2, .ref R3])) = H14 at s5 hR4 hP ⊢
    refine for_tup (K := K) (a := R4) (xs := [.ref R1, .ref R2, .ref R3]) (fun i σ H' => (∃ v8 v9 v10 v11 v12 v13 v14 , σ = [some (.ref a), some (.ref b), some (.int (n : Int)), some (.int k), some (.ref w1), some (.ref w2), some (.ref w3), some (.ref tu), v8, v9, v10, v11, v12, v13, v14, v15]) ∧ Same H14 H') ⟨⟨_, _, _, _, _, _, _, rfl⟩, Same.refl _⟩ (fun i σ H' _ h => .inl (.inl (h.2 _ _ hR4))) ?_ ?_
    · rintro i x σ H' hx ⟨⟨v8, v9, v10, v11, v12, v13, v14, rfl⟩, s'⟩
      obtain ⟨R', wa, wb, ama, amb, Ta, Tb, rfl, hp, Va, Vb⟩ := hP x (List.mem_of_getElem? hx)
      have hcs : (∀ u v, ama u v ≤ amb u v) ∨ ∃ u v, amb u v < ama u v := by
        by_cases c : ∀ u v, ama u v ≤ amb u v
        · exact .inl c
        · refine .inr (Classical.byContradiction fun z => c fun u v => ?_)
          exact Int.not_lt.mp fun y => z ⟨u, v, y⟩
      refine ⟨_, rfl, R', _, 0, _, rfl, rfl, .inl (.inl (s' _ _ hp)), atI_nat (j := 0) rfl, _, rfl, R', _, 1, _, rfl, rfl, .inl (.inl (s' _ _ hp)), atI_nat (j := 1) rfl, wa, n, ama, Ta, wb, amb, Tb, rfl, Va.same s', Vb.same s', ?_⟩
      rcases hcs with hle | hle
      · refine .inl ⟨hle, fun H7 s7 => ⟨true, rfl, ?_⟩⟩
        have s77 := s'.trans s7
        obtain ⟨dxa, ta, ysa, da, ga, ha1, _⟩ := Va.web.ex
        refine ⟨_, rfl, R', _, 0, _, rfl, rfl, .inl (.inl (s77 _ _ hp)), atI_nat (j := 0) rfl, wa, dxa, _, rfl, s77 _ _ ha1, by kernel_rfl, _, rfl, R', _, 1, _, rfl, rfl, .inl (.inl (s77 _ _ hp)), atI_nat (j := 1) rfl, wa, n, Ta, wb, n, Tb, rfl, Va.web.same s77, Vb.web.same s77, by have := Va.len; omega, fun H8 s8 => ?_⟩
        rw [decide_eq_true rfl, leT_true Va.ties Vb.ties hle]
        refine ⟨true, rfl, rfl, _, rfl, ?_⟩
        rw [show (!decide (V.str (if true = true then "True" else "False") = V.str (if true = true then "True" else "False"))) = false by simp]
        exact iteF ⟨⟨_, _, _, _, _, _, _, rfl⟩, s77.trans s8⟩
      · refine .inr ⟨hle, fun H7 s7 => ⟨false, rfl, ?_⟩⟩
        have s77 := s'.trans s7
        obtain ⟨dxa, ta, ysa, da, ga, ha1, _⟩ := Va.web.ex
        refine ⟨_, rfl, R', _, 0, _, rfl, rfl, .inl (.inl (s77 _ _ hp)), atI_nat (j := 0) rfl, wa, dxa, _, rfl, s77 _ _ ha1, by kernel_rfl, _, rfl, R', _, 1, _, rfl, rfl, .inl (.inl (s77 _ _ hp)), atI_nat (j := 1) rfl, wa, n, Ta, wb, n, Tb, rfl, Va.web.same s77, Vb.web.same s77, by have := Va.len; omega, fun H8 s8 => ?_⟩
        rw [decide_eq_true rfl, leT_false Va.ties Vb.ties hle]
        refine ⟨false, rfl, rfl, _, rfl, ?_⟩
        rw [show (!decide (V.str (if false = true then "True" else "False") = V.str (if false = true then "True" else "False"))) = false by simp]
        exact iteF ⟨⟨_, _, _, _, _, _, _, rfl⟩, s77.trans s8⟩
    rintro σ H' ⟨⟨v8, v9, v10, v11, v12, v13, v14, rfl⟩, s'⟩
    have s0 := s5.trans s'
    replace V1 := V1.same s0
    replace h1 := s0 _ _ h1
    replace i1 := s0 _ _ i1
    replace j1 := j1.same s0
    clear V2 V3 l1 hR4 hP s' s5 s0
    obtain ⟨hf, ehf, hfn⟩ : ∃ hf : Nat, (n : Int) / 2 = (hf : Int) ∧ hf ≤ n := ⟨n / 2, by omega, by omega⟩
    have rg1 : rgV 0 (hf : Int) = ((List.range hf).map fun (u : Nat) => (u : Int)).map V.int := rg_ints hf
    have rg2 : rgV (hf : Int) (n : Int) = ((List.range (n - hf)).map fun (j : Nat) => (hf : Int) + (j : Int)).map V.int := by
      unfold rgV
      rw [List.map_map, show ((n : Int) - (hf : Int)).toNat = n - hf by omega]
      rfl
    refine ⟨_, rfl, (n : Int), 2, rfl, rfl, ⟨by decide, by omega⟩, ?_⟩
    dsimp only
    rw [ehf]
    refine ⟨_, rfl, RgOk.of_le (by decide) (by omega) (by decide) (by omega), fun A nA => ?_⟩
    replace nA : New H' A := nA
    have sA := same_new (o := .lst (rgV 0 (hf : Int))) nA
    have hA := upd_same (H := H') (a := A) (o := .lst (rgV 0 (hf : Int)))
    generalize (upd H' A (.lst (rgV 0 (hf : Int)))) = H15 at sA hA ⊢
    refine ⟨_, rfl, (n : Int), 2, rfl, rfl, ⟨by decide, by omega⟩, ?_⟩
    dsimp only
    rw [ehf]
    refine ⟨_, rfl, _, _, rfl, rfl, RgOk.of_le (by omega) (by omega) (by omega) (by omega), fun A2 nA2 => ?_⟩
    replace nA2 : New H15 A2 := nA2
    have sA2 := same_new (o := .lst (rgV (hf : Int) (n : Int))) nA2
    have hA2 := upd_same (H := H15) (a := A2) (o := .lst (rgV (hf : Int) (n : Int)))
    replace hA := sA2 _ _ hA
    have sB := sA.trans sA2
    generalize (upd H15 A2 (.lst (rgV (hf : Int) (n : Int)))) = H16 at sB hA hA2 ⊢
    clear sA sA2 nA nA2
    replace V1 := V1.same sB
    replace h1 := sB _ _ h1
    replace i1 := sB _ _ i1
    replace j1 := j1.same sB
    clear sB
    refine ⟨.ref w1, rfl, w1, C, dx1, _, _, rfl, h1, Tw.cl, Tw.n2, lk5t _ _ _ _ _, t1, rfl, ⟨ys1, .inl (.inl i1)⟩, fun D nD => ?_⟩
    replace nD : New H16 D := nD
    have hyl : ys1.length = T1.length := j1.length
    have hl1 := V1.len
    refine lc_tup (K := K) (a := t1) (xs := ys1) (fun i H5 => Same H16 H5 ∧ H5 D = some (.lst ((((T1.take i).filter (oneHalf hf)).map fun p => p.2.2).map V.int))) ⟨same_new nD, upd_same⟩ (fun i H5 _ h => .inl (.inl (h.1 _ _ i1))) ?_ ?_
    · rintro i x H5 hx ⟨m1, m2⟩
      obtain ⟨p, hp, t', rfl, hSt⟩ := (j1.same m1).get hx
      have hi := (List.getElem?_eq_some_iff.mp hx).1
      refine ⟨t', _, rfl, hSt, rfl, _, _, rfl, _, _, rfl, _, _, rfl, rfl, rfl, ?_⟩
      refine ⟨_, rfl, _, rfl, (n : Int), 2, rfl, rfl, ⟨by decide, by omega⟩, p.1, (n : Int) / 2, rfl, rfl, _, rfl, _, rfl, (n : Int), 2, rfl, rfl, ⟨by decide, by omega⟩, p.2.1, (n : Int) / 2, rfl, rfl, rfl, _, rfl, ?_⟩
      rw [ehf]
      have eh : decide (V.bl (decide (p.1 < (hf : Int))) = V.bl (decide (p.2.1 < (hf : Int)))) = oneHalf hf p := by
        unfold oneHalf
        by_cases c1 : p.1 < (hf : Int) <;> by_cases c2 : p.2.1 < (hf : Int) <;> simp [c1, c2]
      rw [eh]
      refine ite2 (fun c => ?_) (fun c => ?_)
      · refine ⟨_, rfl, _, m2, ?_, over nD m1, ?_⟩
        · rw [List.length_map, List.length_map, sizeLine_eq]
          have := List.length_filter_le (oneHalf hf) (T1.take i)
          rw [List.length_take] at this
          omega
        · rw [upd_same, List.take_add_one, hp, List.filter_append, Option.toList_some, List.filter_cons_of_pos c, List.map_append, List.map_append]
          rfl
      · refine ⟨m1, ?_⟩
        rw [m2, List.take_add_one, hp, List.filter_append, Option.toList_some, List.filter_cons_of_neg c]
        simp
    rintro H5 ⟨m1, m2⟩
    rw [hyl, List.take_length] at m2
    refine ⟨D, _, rfl, .inl (.inl m2), ?_⟩
    refine ⟨_, rfl, .ref w1, rfl, w1, dx1, _, rfl, m1 _ _ h1, by kernel_rfl, _, rfl, _, rfl, ?_⟩
    rw [rg1] at hA
    rw [rg2] at hA2
    refine ⟨w1, n, T1, A, A2, _, _, rfl, V1.web.same m1, .inl (.inl (.inl (m1 _ _ hA))), .inl (m1 _ _ hA2), by rw [List.length_map, List.length_range]; omega, by rw [List.length_map, List.length_range]; omega, fun H6 s6 => ?_⟩
    refine ⟨_, _, rfl, rfl, .ref w1, rfl, w1, C, dx1, _, _, rfl, (m1.trans s6) _ _ h1, Tw.cl, Tw.n3, lk5o _ _ _ _ _, rfl, ?_⟩
    rw [cross_look V1.ties]
    show Q (V.bl (decide (V.int (((T1.filter (oneHalf hf)).map fun p => p.2.2).sum + cross2 (amt T1) hf (n - hf)) = V.int (total T1)))) H6
    rw [decide_eq_true (congrArg V.int (half_total hfn V1.ties.nb))]
    exact q _
end
end T27
/-! What the head holds, gathered: the law's contract behind it. -/
namespace T27
open PySem PySem.Spec PyProof.Rows L2 Wk Vb
def okB (K : PySem.W.Frag) (C cU cT cF f_winit f_get f_add f_sub f_mul f_rmul f_within f_crossing f_eq f_xU f_xT f_xF : Addr) : Bool :=
  PySem.W.plainGet K C Str.empty && (PySem.W.hasDictIn K C && (PySem.W.plainOver K C && (decide (PySem.W.findIn K (.ref C) "__setattr__" = some (some (.builtin "object.__setattr__"))) && (decide (PySem.W.findIn K (.ref C) "size" = some none) && (decide (PySem.W.findIn K (.ref C) "ties" = some none) && (decide (PySem.W.findIn K (.ref C) "total" = some none) && (decide (PySem.W.findIn K (.ref C) "_numbers" = some none) && (decide (PySem.W.findIn K (.ref C) "degrees" = some none) && (decide (PySem.W.findIn K (.ref C) "__class__" = some (some (.builtin "object.__class__"))) && (decide (PySem.W.mroIn K C (.type "object") = some true) && (decide (PySem.W.kitOne K (.ref C) (.ref C) = some true) && (PySem.W.makesIn K C && (PySem.W.keepIn K (.ref C) && (decide (PySem.W.specialIn K (.builtin "object.__class__") "__get__" = some (some (.builtin "getset_descriptor.__get__"))) && (decide (PySem.W.takesIn K (.builtin "object.__class__") = some true) && (PySem.W.notFirst K C (.ref C) && (decide (PySem.W.findIn K (.ref C) "__ne__" = some (some (.builtin "object.__ne__"))) && (PySem.W.isFn K (.ref f_winit) && (PySem.W.isFn K (.ref f_eq) && (PySem.W.isFn K (.ref f_get) && (PySem.W.isFn K (.ref f_add) && (PySem.W.isFn K (.ref f_sub) && (PySem.W.isFn K (.ref f_mul) && (PySem.W.isFn K (.ref f_rmul) && (PySem.W.isFn K (.ref f_within) && (PySem.W.isFn K (.ref f_crossing) && (PySem.W.fnIn K f_get && (PySem.W.selfFirst K C && (decide (PySem.W.subIn K (.type "int") (.ref C) = some false) && (decide (PySem.W.subIn K (.ref C) (.type "int") = some false) && (decide (PySem.W.subIn K (.ref cU) (.type "BaseException") = some true) && (decide (PySem.W.typeIn K (.ref cU) = some (.type "type")) && (PySem.W.keepIn K (.ref cU) && (decide (PySem.W.findIn K (.ref cU) "__setattr__" = some (some (.builtin "object.__setattr__"))) && (decide (PySem.W.typeIn K (.ref f_xU) = some (.type "function")) && (decide (PySem.W.findIn K (.ref cU) "one" = some none) && (decide (PySem.W.findIn K (.ref cU) "other" = some none) && (decide (PySem.W.subIn K (.ref cT) (.type "BaseException") = some true) && (decide (PySem.W.typeIn K (.ref cT) = some (.type "type")) && (PySem.W.keepIn K (.ref cT) && (decide (PySem.W.findIn K (.ref cT) "__setattr__" = some (some (.builtin "object.__setattr__"))) && (decide (PySem.W.typeIn K (.ref f_xT) = some (.type "function")) && (decide (PySem.W.findIn K (.ref cT) "limit" = some none) && (decide (PySem.W.subIn K (.ref cF) (.type "BaseException") = some true) && (decide (PySem.W.typeIn K (.ref cF) = some (.type "type")) && (PySem.W.keepIn K (.ref cF) && (decide (PySem.W.findIn K (.ref cF) "__setattr__" = some (some (.builtin "object.__setattr__"))) && (decide (PySem.W.typeIn K (.ref f_xF) = some (.type "function")) && (decide (PySem.W.findIn K (.ref cF) "pair" = some none) && (decide (PySem.W.findIn K (.ref cF) "__getattribute__" = some (some (.builtin "BaseException.__getattribute__"))) && (decide (PySem.W.findIn K (.ref cF) "__getattr__" = some none) && (PySem.W.hasDictIn K cF && (decide (PySem.W.exmOne K (.ref cF) (.ref cF) = some true))))))))))))))))))))))))))))))))))))))))))))))))))))))
theorem and2 {a b : Bool} (h : (a && b) = true) : a = true ∧ b = true := Bool.and_eq_true_iff.mp h
theorem all_mk {l : PySem.W.OpenLaw} {w : World} {K : PySem.W.Frag} {h : Heap} {mg : Str → Option Value} {fa : Addr} (X : K.In h) (G : h.Ns mainGlobals mg) (hfa : mg "law" = some (.ref fa))
    {C : Addr}
    {cU : Addr}
    {cT : Addr}
    {cF : Addr}
    {t_mp : Tok}
    {t_mt : Tok}
    {nmU qU : Str}
    {NU : Addr}
    {bsU subU : List Value}
    {snU : List Str}
    {abU : Bool}
    {colU : Option Bool}
    {ddU : Option Addr}
    {xU yU zU uU vU : Option Value}
    {bmU : List Value}
    {nmT qT : Str}
    {NT : Addr}
    {bsT subT : List Value}
    {snT : List Str}
    {abT : Bool}
    {colT : Option Bool}
    {ddT : Option Addr}
    {xT yT zT uT vT : Option Value}
    {bmT : List Value}
    {nmF qF : Str}
    {NF : Addr}
    {bsF subF : List Value}
    {snF : List Str}
    {abF : Bool}
    {colF : Option Bool}
    {ddF : Option Addr}
    {xF yF zF uF vF : Option Value}
    {bmF : List Value}
    {f_whole : Addr} {oc_whole kV_whole dc_whole pm_whole cd_whole ct_whole : Value} {od_whole an_whole : Option Addr} {sl_whole : Array (Option Value)}
    {f_fromto : Addr} {oc_fromto kV_fromto dc_fromto pm_fromto cd_fromto ct_fromto : Value} {od_fromto an_fromto : Option Addr} {sl_fromto : Array (Option Value)}
    {f_place : Addr} {oc_place kV_place dc_place pm_place cd_place ct_place : Value} {od_place an_place : Option Addr} {sl_place : Array (Option Value)}
    {f_pair : Addr} {oc_pair kV_pair dc_pair pm_pair cd_pair ct_pair : Value} {od_pair an_pair : Option Addr} {sl_pair : Array (Option Value)}
    {f_tie : Addr} {oc_tie kV_tie dc_tie pm_tie cd_tie ct_tie : Value} {od_tie an_tie : Option Addr} {sl_tie : Array (Option Value)}
    {f_need : Addr} {oc_need kV_need dc_need pm_need cd_need ct_need : Value} {od_need an_need : Option Addr} {sl_need : Array (Option Value)}
    {f_bundles : Addr} {oc_bundles kV_bundles dc_bundles pm_bundles cd_bundles ct_bundles : Value} {od_bundles an_bundles : Option Addr} {sl_bundles : Array (Option Value)}
    {f_bounds : Addr} {oc_bounds kV_bounds dc_bounds pm_bounds cd_bounds ct_bounds : Value} {od_bounds an_bounds : Option Addr} {sl_bounds : Array (Option Value)}
    {f_degrees : Addr} {oc_degrees kV_degrees dc_degrees pm_degrees cd_degrees ct_degrees : Value} {od_degrees an_degrees : Option Addr} {sl_degrees : Array (Option Value)}
    {f_eqs : Addr} {oc_eqs kV_eqs dc_eqs pm_eqs cd_eqs ct_eqs : Value} {od_eqs an_eqs : Option Addr} {sl_eqs : Array (Option Value)}
    {f_times : Addr} {oc_times kV_times dc_times pm_times cd_times ct_times : Value} {od_times an_times : Option Addr} {sl_times : Array (Option Value)}
    {f_beside : Addr} {oc_beside kV_beside dc_beside pm_beside cd_beside ct_beside : Value} {od_beside an_beside : Option Addr} {sl_beside : Array (Option Value)}
    {f_renamed : Addr} {oc_renamed kV_renamed dc_renamed pm_renamed cd_renamed ct_renamed : Value} {od_renamed an_renamed : Option Addr} {sl_renamed : Array (Option Value)}
    {f_moved : Addr} {oc_moved kV_moved dc_moved pm_moved cd_moved ct_moved : Value} {od_moved an_moved : Option Addr} {sl_moved : Array (Option Value)}
    {f_bag : Addr} {oc_bag kV_bag dc_bag pm_bag cd_bag ct_bag : Value} {od_bag an_bag : Option Addr} {sl_bag : Array (Option Value)}
    {f_take : Addr} {oc_take kV_take dc_take pm_take cd_take ct_take : Value} {od_take an_take : Option Addr} {sl_take : Array (Option Value)}
    {f_mixed : Addr} {oc_mixed kV_mixed dc_mixed pm_mixed cd_mixed ct_mixed : Value} {od_mixed an_mixed : Option Addr} {sl_mixed : Array (Option Value)}
    {f_lweb : Addr} {oc_lweb kV_lweb dc_lweb pm_lweb cd_lweb ct_lweb : Value} {od_lweb an_lweb : Option Addr} {sl_lweb : Array (Option Value)}
    {f_lsum : Addr} {oc_lsum kV_lsum dc_lsum pm_lsum cd_lsum ct_lsum : Value} {od_lsum an_lsum : Option Addr} {sl_lsum : Array (Option Value)}
    {f_fits : Addr} {oc_fits kV_fits dc_fits pm_fits cd_fits ct_fits : Value} {od_fits an_fits : Option Addr} {sl_fits : Array (Option Value)}
    {f_cnt : Addr} {oc_cnt kV_cnt dc_cnt pm_cnt cd_cnt ct_cnt : Value} {od_cnt an_cnt : Option Addr} {sl_cnt : Array (Option Value)}
    {f_smr : Addr} {oc_smr kV_smr dc_smr pm_smr cd_smr ct_smr : Value} {od_smr an_smr : Option Addr} {sl_smr : Array (Option Value)}
    {f_law : Addr} {oc_law kV_law dc_law pm_law cd_law ct_law : Value} {od_law an_law : Option Addr} {sl_law : Array (Option Value)}
    {f_winit T0 aE : Addr} {oc_winit kV_winit dc_winit pm_winit cd_winit ct_winit : Value} {od_winit an_winit : Option Addr} {sl_winit : Array (Option Value)}
    {oT oE : Value} {dT dE : Option Addr} {nT nE : Nat} {sT sE : Array (Option Value)} {fI rI : Option Value}
    {f_get : Addr} {oc_get kV_get dc_get pm_get cd_get ct_get : Value} {od_get an_get : Option Addr} {sl_get : Array (Option Value)}
    {f_add : Addr} {oc_add kV_add dc_add pm_add cd_add ct_add : Value} {od_add an_add : Option Addr} {sl_add : Array (Option Value)}
    {f_sub : Addr} {oc_sub kV_sub dc_sub pm_sub cd_sub ct_sub : Value} {od_sub an_sub : Option Addr} {sl_sub : Array (Option Value)}
    {f_mul : Addr} {oc_mul kV_mul dc_mul pm_mul cd_mul ct_mul : Value} {od_mul an_mul : Option Addr} {sl_mul : Array (Option Value)}
    {f_rmul : Addr} {oc_rmul kV_rmul dc_rmul pm_rmul cd_rmul ct_rmul : Value} {od_rmul an_rmul : Option Addr} {sl_rmul : Array (Option Value)}
    {f_within : Addr} {oc_within kV_within dc_within pm_within cd_within ct_within : Value} {od_within an_within : Option Addr} {sl_within : Array (Option Value)}
    {f_crossing : Addr} {oc_crossing kV_crossing dc_crossing pm_crossing cd_crossing ct_crossing : Value} {od_crossing an_crossing : Option Addr} {sl_crossing : Array (Option Value)}
    {f_eq : Addr} {oc_eq kV_eq dc_eq pm_eq cd_eq ct_eq : Value} {od_eq an_eq : Option Addr} {sl_eq : Array (Option Value)}
    {f_xU : Addr} {oc_xU kV_xU dc_xU pm_xU cd_xU ct_xU : Value} {od_xU an_xU : Option Addr} {sl_xU : Array (Option Value)}
    {f_xT : Addr} {oc_xT kV_xT dc_xT pm_xT cd_xT ct_xT : Value} {od_xT an_xT : Option Addr} {sl_xT : Array (Option Value)}
    {f_xF : Addr} {oc_xF kV_xF dc_xF pm_xF cd_xF ct_xF : Value} {od_xF an_xF : Option Addr} {sl_xF : Array (Option Value)}
    (aC : PySem.W.nsIn K mainGlobals "Web" = some (some (.ref C)))
    (acU : PySem.W.nsIn K mainGlobals "Unequal" = some (some (.ref cU)))
    (acT : PySem.W.nsIn K mainGlobals "TooMany" = some (some (.ref cT)))
    (acF : PySem.W.nsIn K mainGlobals "TooFew" = some (some (.ref cF)))
    (c_mp : PySem.W.nsIn K mainGlobals "MOST_PLACES" = some (some (.int 60 t_mp)))
    (c_mt : PySem.W.nsIn K mainGlobals "MOST_TIES" = some (some (.int 1000000000 t_mt)))
    (xLU : K.lookup cU = some (excClassObj nmU qU cU NU bsU bmU true snU subU abU colU ddU xU yU zU uU vU "ValueError.__new__"))
    (bVU : PySem.HandSPX.refsVE bmU = true)
    (xLT : K.lookup cT = some (excClassObj nmT qT cT NT bsT bmT true snT subT abT colT ddT xT yT zT uT vT "ValueError.__new__"))
    (bVT : PySem.HandSPX.refsVE bmT = true)
    (xLF : K.lookup cF = some (excClassObj nmF qF cF NF bsF bmF true snF subF abF colF ddF xF yF zF uF vF "ValueError.__new__"))
    (bVF : PySem.HandSPX.refsVE bmF = true)
    (a_whole : PySem.W.nsIn K mainGlobals "is_whole" = some (some (.ref f_whole)))
    (l_whole : K.lookup f_whole = some ⟨oc_whole, od_whole, .func (PySem.W.fnOf "is_whole" "is_whole" (defArgs sWhole) (defBody sWhole) (defScope sWhole) .none kV_whole dc_whole pm_whole an_whole cd_whole ct_whole), sl_whole⟩)
    (e_whole : PySem.W.codeIn K cd_whole "is_whole" = true)
    (k_whole : PySem.W.keepIn K (.ref f_whole) = true)
    (a_fromto : PySem.W.nsIn K mainGlobals "is_from_to" = some (some (.ref f_fromto)))
    (l_fromto : K.lookup f_fromto = some ⟨oc_fromto, od_fromto, .func (PySem.W.fnOf "is_from_to" "is_from_to" (defArgs sFromTo) (defBody sFromTo) (defScope sFromTo) .none kV_fromto dc_fromto pm_fromto an_fromto cd_fromto ct_fromto), sl_fromto⟩)
    (e_fromto : PySem.W.codeIn K cd_fromto "is_from_to" = true)
    (k_fromto : PySem.W.keepIn K (.ref f_fromto) = true)
    (a_place : PySem.W.nsIn K mainGlobals "is_place" = some (some (.ref f_place)))
    (l_place : K.lookup f_place = some ⟨oc_place, od_place, .func (PySem.W.fnOf "is_place" "is_place" (defArgs sPlace) (defBody sPlace) (defScope sPlace) .none kV_place dc_place pm_place an_place cd_place ct_place), sl_place⟩)
    (e_place : PySem.W.codeIn K cd_place "is_place" = true)
    (k_place : PySem.W.keepIn K (.ref f_place) = true)
    (a_pair : PySem.W.nsIn K mainGlobals "_is_pair" = some (some (.ref f_pair)))
    (l_pair : K.lookup f_pair = some ⟨oc_pair, od_pair, .func (PySem.W.fnOf "_is_pair" "_is_pair" (defArgs sPair) (defBody sPair) (defScope sPair) .none kV_pair dc_pair pm_pair an_pair cd_pair ct_pair), sl_pair⟩)
    (e_pair : PySem.W.codeIn K cd_pair "_is_pair" = true)
    (k_pair : PySem.W.keepIn K (.ref f_pair) = true)
    (a_tie : PySem.W.nsIn K mainGlobals "_is_tie" = some (some (.ref f_tie)))
    (l_tie : K.lookup f_tie = some ⟨oc_tie, od_tie, .func (PySem.W.fnOf "_is_tie" "_is_tie" (defArgs sTie) (defBody sTie) (defScope sTie) .none kV_tie dc_tie pm_tie an_tie cd_tie ct_tie), sl_tie⟩)
    (e_tie : PySem.W.codeIn K cd_tie "_is_tie" = true)
    (k_tie : PySem.W.keepIn K (.ref f_tie) = true)
    (a_need : PySem.W.nsIn K mainGlobals "_need_arguments" = some (some (.ref f_need)))
    (l_need : K.lookup f_need = some ⟨oc_need, od_need, .func (PySem.W.fnOf "_need_arguments" "_need_arguments" (defArgs sNeed) (defBody sNeed) (defScope sNeed) .none kV_need dc_need pm_need an_need cd_need ct_need), sl_need⟩)
    (e_need : PySem.W.codeIn K cd_need "_need_arguments" = true)
    (k_need : PySem.W.keepIn K (.ref f_need) = true)
    (a_bundles : PySem.W.nsIn K mainGlobals "_bundles" = some (some (.ref f_bundles)))
    (l_bundles : K.lookup f_bundles = some ⟨oc_bundles, od_bundles, .func (PySem.W.fnOf "_bundles" "_bundles" (defArgs sBundles) (defBody sBundles) (defScope sBundles) .none kV_bundles dc_bundles pm_bundles an_bundles cd_bundles ct_bundles), sl_bundles⟩)
    (e_bundles : PySem.W.codeIn K cd_bundles "_bundles" = true)
    (k_bundles : PySem.W.keepIn K (.ref f_bundles) = true)
    (a_bounds : PySem.W.nsIn K mainGlobals "_need_bounds" = some (some (.ref f_bounds)))
    (l_bounds : K.lookup f_bounds = some ⟨oc_bounds, od_bounds, .func (PySem.W.fnOf "_need_bounds" "_need_bounds" (defArgs sBounds) (defBody sBounds) (defScope sBounds) .none kV_bounds dc_bounds pm_bounds an_bounds cd_bounds ct_bounds), sl_bounds⟩)
    (e_bounds : PySem.W.codeIn K cd_bounds "_need_bounds" = true)
    (k_bounds : PySem.W.keepIn K (.ref f_bounds) = true)
    (a_degrees : PySem.W.nsIn K mainGlobals "_degrees" = some (some (.ref f_degrees)))
    (l_degrees : K.lookup f_degrees = some ⟨oc_degrees, od_degrees, .func (PySem.W.fnOf "_degrees" "_degrees" (defArgs sDegrees) (defBody sDegrees) (defScope sDegrees) .none kV_degrees dc_degrees pm_degrees an_degrees cd_degrees ct_degrees), sl_degrees⟩)
    (e_degrees : PySem.W.codeIn K cd_degrees "_degrees" = true)
    (k_degrees : PySem.W.keepIn K (.ref f_degrees) = true)
    (a_eqs : PySem.W.nsIn K mainGlobals "_need_equal_sizes" = some (some (.ref f_eqs)))
    (l_eqs : K.lookup f_eqs = some ⟨oc_eqs, od_eqs, .func (PySem.W.fnOf "_need_equal_sizes" "_need_equal_sizes" (defArgs sEqS) (defBody sEqS) (defScope sEqS) .none kV_eqs dc_eqs pm_eqs an_eqs cd_eqs ct_eqs), sl_eqs⟩)
    (e_eqs : PySem.W.codeIn K cd_eqs "_need_equal_sizes" = true)
    (k_eqs : PySem.W.keepIn K (.ref f_eqs) = true)
    (a_times : PySem.W.nsIn K mainGlobals "_times" = some (some (.ref f_times)))
    (l_times : K.lookup f_times = some ⟨oc_times, od_times, .func (PySem.W.fnOf "_times" "_times" (defArgs sTimes) (defBody sTimes) (defScope sTimes) .none kV_times dc_times pm_times an_times cd_times ct_times), sl_times⟩)
    (e_times : PySem.W.codeIn K cd_times "_times" = true)
    (k_times : PySem.W.keepIn K (.ref f_times) = true)
    (a_beside : PySem.W.nsIn K mainGlobals "beside" = some (some (.ref f_beside)))
    (l_beside : K.lookup f_beside = some ⟨oc_beside, od_beside, .func (PySem.W.fnOf "beside" "beside" (defArgs sBeside) (defBody sBeside) (defScope sBeside) .none kV_beside dc_beside pm_beside an_beside cd_beside ct_beside), sl_beside⟩)
    (e_beside : PySem.W.codeIn K cd_beside "beside" = true)
    (k_beside : PySem.W.keepIn K (.ref f_beside) = true)
    (a_renamed : PySem.W.nsIn K mainGlobals "renamed" = some (some (.ref f_renamed)))
    (l_renamed : K.lookup f_renamed = some ⟨oc_renamed, od_renamed, .func (PySem.W.fnOf "renamed" "renamed" (defArgs sRenamed) (defBody sRenamed) (defScope sRenamed) .none kV_renamed dc_renamed pm_renamed an_renamed cd_renamed ct_renamed), sl_renamed⟩)
    (e_renamed : PySem.W.codeIn K cd_renamed "renamed" = true)
    (k_renamed : PySem.W.keepIn K (.ref f_renamed) = true)
    (a_moved : PySem.W.nsIn K mainGlobals "moved" = some (some (.ref f_moved)))
    (l_moved : K.lookup f_moved = some ⟨oc_moved, od_moved, .func (PySem.W.fnOf "moved" "moved" (defArgs sMoved) (defBody sMoved) (defScope sMoved) .none kV_moved dc_moved pm_moved an_moved cd_moved ct_moved), sl_moved⟩)
    (e_moved : PySem.W.codeIn K cd_moved "moved" = true)
    (k_moved : PySem.W.keepIn K (.ref f_moved) = true)
    (a_bag : PySem.W.nsIn K mainGlobals "_law_bag" = some (some (.ref f_bag)))
    (l_bag : K.lookup f_bag = some ⟨oc_bag, od_bag, .func (PySem.W.fnOf "_law_bag" "_law_bag" (defArgs sBag) (defBody sBag) (defScope sBag) .none kV_bag dc_bag pm_bag an_bag cd_bag ct_bag), sl_bag⟩)
    (e_bag : PySem.W.codeIn K cd_bag "_law_bag" = true)
    (k_bag : PySem.W.keepIn K (.ref f_bag) = true)
    (a_take : PySem.W.nsIn K mainGlobals "_law_take" = some (some (.ref f_take)))
    (l_take : K.lookup f_take = some ⟨oc_take, od_take, .func (PySem.W.fnOf "_law_take" "_law_take" (defArgs sTake) (defBody sTake) (defScope sTake) .none kV_take dc_take pm_take an_take cd_take ct_take), sl_take⟩)
    (e_take : PySem.W.codeIn K cd_take "_law_take" = true)
    (k_take : PySem.W.keepIn K (.ref f_take) = true)
    (a_mixed : PySem.W.nsIn K mainGlobals "_law_mixed" = some (some (.ref f_mixed)))
    (l_mixed : K.lookup f_mixed = some ⟨oc_mixed, od_mixed, .func (PySem.W.fnOf "_law_mixed" "_law_mixed" (defArgs sMixed) (defBody sMixed) (defScope sMixed) .none kV_mixed dc_mixed pm_mixed an_mixed cd_mixed ct_mixed), sl_mixed⟩)
    (e_mixed : PySem.W.codeIn K cd_mixed "_law_mixed" = true)
    (k_mixed : PySem.W.keepIn K (.ref f_mixed) = true)
    (a_lweb : PySem.W.nsIn K mainGlobals "_law_web" = some (some (.ref f_lweb)))
    (l_lweb : K.lookup f_lweb = some ⟨oc_lweb, od_lweb, .func (PySem.W.fnOf "_law_web" "_law_web" (defArgs sLWeb) (defBody sLWeb) (defScope sLWeb) .none kV_lweb dc_lweb pm_lweb an_lweb cd_lweb ct_lweb), sl_lweb⟩)
    (e_lweb : PySem.W.codeIn K cd_lweb "_law_web" = true)
    (k_lweb : PySem.W.keepIn K (.ref f_lweb) = true)
    (a_lsum : PySem.W.nsIn K mainGlobals "_law_sum" = some (some (.ref f_lsum)))
    (l_lsum : K.lookup f_lsum = some ⟨oc_lsum, od_lsum, .func (PySem.W.fnOf "_law_sum" "_law_sum" (defArgs sLSum) (defBody sLSum) (defScope sLSum) .none kV_lsum dc_lsum pm_lsum an_lsum cd_lsum ct_lsum), sl_lsum⟩)
    (e_lsum : PySem.W.codeIn K cd_lsum "_law_sum" = true)
    (k_lsum : PySem.W.keepIn K (.ref f_lsum) = true)
    (a_fits : PySem.W.nsIn K mainGlobals "_law_fits" = some (some (.ref f_fits)))
    (l_fits : K.lookup f_fits = some ⟨oc_fits, od_fits, .func (PySem.W.fnOf "_law_fits" "_law_fits" (defArgs sFits) (defBody sFits) (defScope sFits) .none kV_fits dc_fits pm_fits an_fits cd_fits ct_fits), sl_fits⟩)
    (e_fits : PySem.W.codeIn K cd_fits "_law_fits" = true)
    (k_fits : PySem.W.keepIn K (.ref f_fits) = true)
    (a_cnt : PySem.W.nsIn K mainGlobals "_law_counts_right" = some (some (.ref f_cnt)))
    (l_cnt : K.lookup f_cnt = some ⟨oc_cnt, od_cnt, .func (PySem.W.fnOf "_law_counts_right" "_law_counts_right" (defArgs sCnt) (defBody sCnt) (defScope sCnt) .none kV_cnt dc_cnt pm_cnt an_cnt cd_cnt ct_cnt), sl_cnt⟩)
    (e_cnt : PySem.W.codeIn K cd_cnt "_law_counts_right" = true)
    (k_cnt : PySem.W.keepIn K (.ref f_cnt) = true)
    (a_smr : PySem.W.nsIn K mainGlobals "_law_sums_right" = some (some (.ref f_smr)))
    (l_smr : K.lookup f_smr = some ⟨oc_smr, od_smr, .func (PySem.W.fnOf "_law_sums_right" "_law_sums_right" (defArgs sSmR) (defBody sSmR) (defScope sSmR) .none kV_smr dc_smr pm_smr an_smr cd_smr ct_smr), sl_smr⟩)
    (e_smr : PySem.W.codeIn K cd_smr "_law_sums_right" = true)
    (k_smr : PySem.W.keepIn K (.ref f_smr) = true)
    (a_law : PySem.W.nsIn K mainGlobals "law" = some (some (.ref f_law)))
    (l_law : K.lookup f_law = some ⟨oc_law, od_law, .func (PySem.W.fnOf "law" "law" (defArgs sLaw) (defBody sLaw) (defScope sLaw) .none kV_law dc_law pm_law an_law cd_law ct_law), sl_law⟩)
    (e_law : PySem.W.codeIn K cd_law "law" = true)
    (k_law : PySem.W.keepIn K (.ref f_law) = true)
    (a_winit : PySem.W.findIn K (.ref C) "__init__" = some (some (.ref f_winit)))
    (l_winit : K.lookup f_winit = some ⟨oc_winit, od_winit, .func (PySem.W.fnOf "__init__" "Web.__init__" (defArgs sInit) (defBody sInit) (defScope sInit) (.ref T0) kV_winit dc_winit pm_winit an_winit cd_winit ct_winit), sl_winit⟩)
    (e_winit : PySem.W.codeIn K cd_winit "Web.__init__" = true)
    (k_winit : PySem.W.keepIn K (.ref f_winit) = true)
    (lT : K.lookup T0 = some ⟨oT, dT, .seq #[.ref aE] nT, sT⟩)
    (lE : K.lookup aE = some ⟨oE, dE, .seq #[] nE, sE⟩)
    (cE : oE = .type "tuple")
    (iM : PySem.W.findIn K (.type "int") "__mul__" = some fI)
    (iR : PySem.W.findIn K (.type "int") "__rmul__" = some rI)
    (a_get : PySem.W.findIn K (.ref C) "__getitem__" = some (some (.ref f_get)))
    (l_get : K.lookup f_get = some ⟨oc_get, od_get, .func (PySem.W.fnOf "__getitem__" "Web.__getitem__" (defArgs sGet) (defBody sGet) (defScope sGet) .none kV_get dc_get pm_get an_get cd_get ct_get), sl_get⟩)
    (e_get : PySem.W.codeIn K cd_get "Web.__getitem__" = true)
    (k_get : PySem.W.keepIn K (.ref f_get) = true)
    (a_add : PySem.W.findIn K (.ref C) "__add__" = some (some (.ref f_add)))
    (l_add : K.lookup f_add = some ⟨oc_add, od_add, .func (PySem.W.fnOf "__add__" "Web.__add__" (defArgs sAdd) (defBody sAdd) (defScope sAdd) .none kV_add dc_add pm_add an_add cd_add ct_add), sl_add⟩)
    (e_add : PySem.W.codeIn K cd_add "Web.__add__" = true)
    (k_add : PySem.W.keepIn K (.ref f_add) = true)
    (a_sub : PySem.W.findIn K (.ref C) "__sub__" = some (some (.ref f_sub)))
    (l_sub : K.lookup f_sub = some ⟨oc_sub, od_sub, .func (PySem.W.fnOf "__sub__" "Web.__sub__" (defArgs sSub) (defBody sSub) (defScope sSub) .none kV_sub dc_sub pm_sub an_sub cd_sub ct_sub), sl_sub⟩)
    (e_sub : PySem.W.codeIn K cd_sub "Web.__sub__" = true)
    (k_sub : PySem.W.keepIn K (.ref f_sub) = true)
    (a_mul : PySem.W.findIn K (.ref C) "__mul__" = some (some (.ref f_mul)))
    (l_mul : K.lookup f_mul = some ⟨oc_mul, od_mul, .func (PySem.W.fnOf "__mul__" "Web.__mul__" (defArgs sMul) (defBody sMul) (defScope sMul) .none kV_mul dc_mul pm_mul an_mul cd_mul ct_mul), sl_mul⟩)
    (e_mul : PySem.W.codeIn K cd_mul "Web.__mul__" = true)
    (k_mul : PySem.W.keepIn K (.ref f_mul) = true)
    (a_rmul : PySem.W.findIn K (.ref C) "__rmul__" = some (some (.ref f_rmul)))
    (l_rmul : K.lookup f_rmul = some ⟨oc_rmul, od_rmul, .func (PySem.W.fnOf "__rmul__" "Web.__rmul__" (defArgs sRMul) (defBody sRMul) (defScope sRMul) .none kV_rmul dc_rmul pm_rmul an_rmul cd_rmul ct_rmul), sl_rmul⟩)
    (e_rmul : PySem.W.codeIn K cd_rmul "Web.__rmul__" = true)
    (k_rmul : PySem.W.keepIn K (.ref f_rmul) = true)
    (a_within : PySem.W.findIn K (.ref C) "within" = some (some (.ref f_within)))
    (l_within : K.lookup f_within = some ⟨oc_within, od_within, .func (PySem.W.fnOf "within" "Web.within" (defArgs sWithin) (defBody sWithin) (defScope sWithin) .none kV_within dc_within pm_within an_within cd_within ct_within), sl_within⟩)
    (e_within : PySem.W.codeIn K cd_within "Web.within" = true)
    (k_within : PySem.W.keepIn K (.ref f_within) = true)
    (a_crossing : PySem.W.findIn K (.ref C) "crossing" = some (some (.ref f_crossing)))
    (l_crossing : K.lookup f_crossing = some ⟨oc_crossing, od_crossing, .func (PySem.W.fnOf "crossing" "Web.crossing" (defArgs sCrossing) (defBody sCrossing) (defScope sCrossing) .none kV_crossing dc_crossing pm_crossing an_crossing cd_crossing ct_crossing), sl_crossing⟩)
    (e_crossing : PySem.W.codeIn K cd_crossing "Web.crossing" = true)
    (k_crossing : PySem.W.keepIn K (.ref f_crossing) = true)
    (a_eq : PySem.W.findIn K (.ref C) "__eq__" = some (some (.ref f_eq)))
    (l_eq : K.lookup f_eq = some ⟨oc_eq, od_eq, .func (PySem.W.fnOf "__eq__" "Web.__eq__" (defArgs sEq) (defBody sEq) (defScope sEq) .none kV_eq dc_eq pm_eq an_eq cd_eq ct_eq), sl_eq⟩)
    (e_eq : PySem.W.codeIn K cd_eq "Web.__eq__" = true)
    (k_eq : PySem.W.keepIn K (.ref f_eq) = true)
    (a_xU : PySem.W.findIn K (.ref cU) "__init__" = some (some (.ref f_xU)))
    (l_xU : K.lookup f_xU = some ⟨oc_xU, od_xU, .func (PySem.W.fnOf "__init__" "Unequal.__init__" (defArgs sUn) (defBody sUn) (defScope sUn) .none kV_xU dc_xU pm_xU an_xU cd_xU ct_xU), sl_xU⟩)
    (e_xU : PySem.W.codeIn K cd_xU "Unequal.__init__" = true)
    (k_xU : PySem.W.keepIn K (.ref f_xU) = true)
    (a_xT : PySem.W.findIn K (.ref cT) "__init__" = some (some (.ref f_xT)))
    (l_xT : K.lookup f_xT = some ⟨oc_xT, od_xT, .func (PySem.W.fnOf "__init__" "TooMany.__init__" (defArgs sTM) (defBody sTM) (defScope sTM) .none kV_xT dc_xT pm_xT an_xT cd_xT ct_xT), sl_xT⟩)
    (e_xT : PySem.W.codeIn K cd_xT "TooMany.__init__" = true)
    (k_xT : PySem.W.keepIn K (.ref f_xT) = true)
    (a_xF : PySem.W.findIn K (.ref cF) "__init__" = some (some (.ref f_xF)))
    (l_xF : K.lookup f_xF = some ⟨oc_xF, od_xF, .func (PySem.W.fnOf "__init__" "TooFew.__init__" (defArgs sTF) (defBody sTF) (defScope sTF) .none kV_xF dc_xF pm_xF an_xF cd_xF ct_xF), sl_xF⟩)
    (e_xF : PySem.W.codeIn K cd_xF "TooFew.__init__" = true)
    (k_xF : PySem.W.keepIn K (.ref f_xF) = true)
    (z_isinstance : PySem.W.nsIn K mainGlobals "isinstance" = some none)
    (z_int : PySem.W.nsIn K mainGlobals "int" = some none)
    (z_bool : PySem.W.nsIn K mainGlobals "bool" = some none)
    (z_str : PySem.W.nsIn K mainGlobals "str" = some none)
    (z_tuple : PySem.W.nsIn K mainGlobals "tuple" = some none)
    (z_list : PySem.W.nsIn K mainGlobals "list" = some none)
    (z_dict : PySem.W.nsIn K mainGlobals "dict" = some none)
    (z_len : PySem.W.nsIn K mainGlobals "len" = some none)
    (z_enumerate : PySem.W.nsIn K mainGlobals "enumerate" = some none)
    (z_sorted : PySem.W.nsIn K mainGlobals "sorted" = some none)
    (z_min : PySem.W.nsIn K mainGlobals "min" = some none)
    (z_max : PySem.W.nsIn K mainGlobals "max" = some none)
    (z_sum : PySem.W.nsIn K mainGlobals "sum" = some none)
    (z_range : PySem.W.nsIn K mainGlobals "range" = some none)
    (z_any : PySem.W.nsIn K mainGlobals "any" = some none)
    (z_repr : PySem.W.nsIn K mainGlobals "repr" = some none)
    (z_abs : PySem.W.nsIn K mainGlobals "abs" = some none)
    (z_set : PySem.W.nsIn K mainGlobals "set" = some none)
    (z_zip : PySem.W.nsIn K mainGlobals "zip" = some none)
    (z_all : PySem.W.nsIn K mainGlobals "all" = some none)
    (B : okB K C cU cT cF f_winit f_get f_add f_sub f_mul f_rmul f_within f_crossing f_eq f_xU f_xT f_xF = true) :
    ∃ fd : FuncData, (∀ (s : Shared) (u : Value), BindsTo s fd ⟨[u], []⟩ [("_law_script", u)]) ∧ ∀ base : Heap, K.In base → base.Ns mainGlobals mg → FnC l.prog w K mg base CX0 13 fa fd ["_law_script"] (spLaw K) := by
  have e := hfa.symm.trans (PySem.W.mg_of X G a_law)
  cases e
  have B0 := (and2 B).1
  replace B := (and2 B).2
  have B1 := (and2 B).1
  replace B := (and2 B).2
  have B2 := (and2 B).1
  replace B := (and2 B).2
  have B3 := (and2 B).1
  replace B := (and2 B).2
  have B4 := (and2 B).1
  replace B := (and2 B).2
  have B5 := (and2 B).1
  replace B := (and2 B).2
  have B6 := (and2 B).1
  replace B := (and2 B).2
  have B7 := (and2 B).1
  replace B := (and2 B).2
  have B8 := (and2 B).1
  replace B := (and2 B).2
  have B9 := (and2 B).1
  replace B := (and2 B).2
  have B10 := (and2 B).1
  replace B := (and2 B).2
  have B11 := (and2 B).1
  replace B := (and2 B).2
  have B12 := (and2 B).1
  replace B := (and2 B).2
  have B13 := (and2 B).1
  replace B := (and2 B).2
  have B14 := (and2 B).1
  replace B := (and2 B).2
  have B15 := (and2 B).1
  replace B := (and2 B).2
  have B16 := (and2 B).1
  replace B := (and2 B).2
  have B17 := (and2 B).1
  replace B := (and2 B).2
  have B18 := (and2 B).1
  replace B := (and2 B).2
  have B19 := (and2 B).1
  replace B := (and2 B).2
  have B20 := (and2 B).1
  replace B := (and2 B).2
  have B21 := (and2 B).1
  replace B := (and2 B).2
  have B22 := (and2 B).1
  replace B := (and2 B).2
  have B23 := (and2 B).1
  replace B := (and2 B).2
  have B24 := (and2 B).1
  replace B := (and2 B).2
  have B25 := (and2 B).1
  replace B := (and2 B).2
  have B26 := (and2 B).1
  replace B := (and2 B).2
  have B27 := (and2 B).1
  replace B := (and2 B).2
  have B28 := (and2 B).1
  replace B := (and2 B).2
  have B29 := (and2 B).1
  replace B := (and2 B).2
  have B30 := (and2 B).1
  replace B := (and2 B).2
  have B31 := (and2 B).1
  replace B := (and2 B).2
  have B32 := (and2 B).1
  replace B := (and2 B).2
  have B33 := (and2 B).1
  replace B := (and2 B).2
  have B34 := (and2 B).1
  replace B := (and2 B).2
  have B35 := (and2 B).1
  replace B := (and2 B).2
  have B36 := (and2 B).1
  replace B := (and2 B).2
  have B37 := (and2 B).1
  replace B := (and2 B).2
  have B38 := (and2 B).1
  replace B := (and2 B).2
  have B39 := (and2 B).1
  replace B := (and2 B).2
  have B40 := (and2 B).1
  replace B := (and2 B).2
  have B41 := (and2 B).1
  replace B := (and2 B).2
  have B42 := (and2 B).1
  replace B := (and2 B).2
  have B43 := (and2 B).1
  replace B := (and2 B).2
  have B44 := (and2 B).1
  replace B := (and2 B).2
  have B45 := (and2 B).1
  replace B := (and2 B).2
  have B46 := (and2 B).1
  replace B := (and2 B).2
  have B47 := (and2 B).1
  replace B := (and2 B).2
  have B48 := (and2 B).1
  replace B := (and2 B).2
  have B49 := (and2 B).1
  replace B := (and2 B).2
  have B50 := (and2 B).1
  replace B := (and2 B).2
  have B51 := (and2 B).1
  replace B := (and2 B).2
  have B52 := (and2 B).1
  replace B := (and2 B).2
  have B53 := B
  replace B3 := of_decide_eq_true B3
  replace B4 := of_decide_eq_true B4
  replace B5 := of_decide_eq_true B5
  replace B6 := of_decide_eq_true B6
  replace B7 := of_decide_eq_true B7
  replace B8 := of_decide_eq_true B8
  replace B9 := of_decide_eq_true B9
  replace B10 := of_decide_eq_true B10
  replace B11 := of_decide_eq_true B11
  replace B14 := of_decide_eq_true B14
  replace B15 := of_decide_eq_true B15
  replace B17 := of_decide_eq_true B17
  replace B29 := of_decide_eq_true B29
  replace B30 := of_decide_eq_true B30
  replace B31 := of_decide_eq_true B31
  replace B32 := of_decide_eq_true B32
  replace B34 := of_decide_eq_true B34
  replace B35 := of_decide_eq_true B35
  replace B36 := of_decide_eq_true B36
  replace B37 := of_decide_eq_true B37
  replace B38 := of_decide_eq_true B38
  replace B39 := of_decide_eq_true B39
  replace B41 := of_decide_eq_true B41
  replace B42 := of_decide_eq_true B42
  replace B43 := of_decide_eq_true B43
  replace B44 := of_decide_eq_true B44
  replace B45 := of_decide_eq_true B45
  replace B47 := of_decide_eq_true B47
  replace B48 := of_decide_eq_true B48
  replace B49 := of_decide_eq_true B49
  replace B50 := of_decide_eq_true B50
  replace B51 := of_decide_eq_true B51
  replace B53 := of_decide_eq_true B53
  have F_whole := fun_mk (st := sWhole) l_whole e_whole k_whole
  have B_whole := F_whole.binds (ps := ["thing"]) (fun _ _ _ _ _ _ us hl => match us, hl with | [_], _ => rfl)
  have m_whole := PySem.W.mg_of X G a_whole
  have F_fromto := fun_mk (st := sFromTo) l_fromto e_fromto k_fromto
  have B_fromto := F_fromto.binds (ps := ["thing", "low", "high"]) (fun _ _ _ _ _ _ us hl => match us, hl with | [_, _, _], _ => rfl)
  have m_fromto := PySem.W.mg_of X G a_fromto
  have F_place := fun_mk (st := sPlace) l_place e_place k_place
  have B_place := F_place.binds (ps := ["thing", "size"]) (fun _ _ _ _ _ _ us hl => match us, hl with | [_, _], _ => rfl)
  have m_place := PySem.W.mg_of X G a_place
  have F_pair := fun_mk (st := sPair) l_pair e_pair k_pair
  have B_pair := F_pair.binds (ps := ["thing", "size"]) (fun _ _ _ _ _ _ us hl => match us, hl with | [_, _], _ => rfl)
  have m_pair := PySem.W.mg_of X G a_pair
  have F_tie := fun_mk (st := sTie) l_tie e_tie k_tie
  have B_tie := F_tie.binds (ps := ["thing", "size"]) (fun _ _ _ _ _ _ us hl => match us, hl with | [_, _], _ => rfl)
  have m_tie := PySem.W.mg_of X G a_tie
  have F_need := fun_mk (st := sNeed) l_need e_need k_need
  have B_need := F_need.binds (ps := ["size", "ties"]) (fun _ _ _ _ _ _ us hl => match us, hl with | [_, _], _ => rfl)
  have m_need := PySem.W.mg_of X G a_need
  have F_bundles := fun_mk (st := sBundles) l_bundles e_bundles k_bundles
  have B_bundles := F_bundles.binds (ps := ["ties"]) (fun _ _ _ _ _ _ us hl => match us, hl with | [_], _ => rfl)
  have m_bundles := PySem.W.mg_of X G a_bundles
  have F_bounds := fun_mk (st := sBounds) l_bounds e_bounds k_bounds
  have B_bounds := F_bounds.binds (ps := ["bundles"]) (fun _ _ _ _ _ _ us hl => match us, hl with | [_], _ => rfl)
  have m_bounds := PySem.W.mg_of X G a_bounds
  have F_degrees := fun_mk (st := sDegrees) l_degrees e_degrees k_degrees
  have B_degrees := F_degrees.binds (ps := ["size", "numbers"]) (fun _ _ _ _ _ _ us hl => match us, hl with | [_, _], _ => rfl)
  have m_degrees := PySem.W.mg_of X G a_degrees
  have F_eqs := fun_mk (st := sEqS) l_eqs e_eqs k_eqs
  have B_eqs := F_eqs.binds (ps := ["one", "other"]) (fun _ _ _ _ _ _ us hl => match us, hl with | [_, _], _ => rfl)
  have m_eqs := PySem.W.mg_of X G a_eqs
  have F_times := fun_mk (st := sTimes) l_times e_times k_times
  have B_times := F_times.binds (ps := ["web", "k"]) (fun _ _ _ _ _ _ us hl => match us, hl with | [_, _], _ => rfl)
  have m_times := PySem.W.mg_of X G a_times
  have F_beside := fun_mk (st := sBeside) l_beside e_beside k_beside
  have B_beside := F_beside.binds (ps := ["one", "other"]) (fun _ _ _ _ _ _ us hl => match us, hl with | [_, _], _ => rfl)
  have m_beside := PySem.W.mg_of X G a_beside
  have F_renamed := fun_mk (st := sRenamed) l_renamed e_renamed k_renamed
  have B_renamed := F_renamed.binds (ps := ["web", "order"]) (fun _ _ _ _ _ _ us hl => match us, hl with | [_, _], _ => rfl)
  have m_renamed := PySem.W.mg_of X G a_renamed
  have F_moved := fun_mk (st := sMoved) l_moved e_moved k_moved
  have B_moved := F_moved.binds (ps := ["row", "order"]) (fun _ _ _ _ _ _ us hl => match us, hl with | [_, _], _ => rfl)
  have m_moved := PySem.W.mg_of X G a_moved
  have F_bag := fun_mk (st := sBag) l_bag e_bag k_bag
  have B_bag := F_bag.binds (ps := ["_law_script"]) (fun _ _ _ _ _ _ us hl => match us, hl with | [_], _ => rfl)
  have m_bag := PySem.W.mg_of X G a_bag
  have F_take := fun_mk (st := sTake) l_take e_take k_take
  have B_take := F_take.binds (ps := ["_law_bag_here", "_law_many"]) (fun _ _ _ _ _ _ us hl => match us, hl with | [_, _], _ => rfl)
  have m_take := PySem.W.mg_of X G a_take
  have F_mixed := fun_mk (st := sMixed) l_mixed e_mixed k_mixed
  have B_mixed := F_mixed.binds (ps := ["_law_bag_here", "_law_things"]) (fun _ _ _ _ _ _ us hl => match us, hl with | [_, _], _ => rfl)
  have m_mixed := PySem.W.mg_of X G a_mixed
  have F_lweb := fun_mk (st := sLWeb) l_lweb e_lweb k_lweb
  have B_lweb := F_lweb.binds (ps := ["_law_bag_here", "_law_size"]) (fun _ _ _ _ _ _ us hl => match us, hl with | [_, _], _ => rfl)
  have m_lweb := PySem.W.mg_of X G a_lweb
  have F_lsum := fun_mk (st := sLSum) l_lsum e_lsum k_lsum
  have B_lsum := F_lsum.binds (ps := ["_law_one", "_law_other", "_law_times"]) (fun _ _ _ _ _ _ us hl => match us, hl with | [_, _, _], _ => rfl)
  have m_lsum := PySem.W.mg_of X G a_lsum
  have F_fits := fun_mk (st := sFits) l_fits e_fits k_fits
  have B_fits := F_fits.binds (ps := ["_law_one", "_law_other"]) (fun _ _ _ _ _ _ us hl => match us, hl with | [_, _], _ => rfl)
  have m_fits := PySem.W.mg_of X G a_fits
  have F_cnt := fun_mk (st := sCnt) l_cnt e_cnt k_cnt
  have B_cnt := F_cnt.binds (ps := ["_law_web_here", "_law_size"]) (fun _ _ _ _ _ _ us hl => match us, hl with | [_, _], _ => rfl)
  have m_cnt := PySem.W.mg_of X G a_cnt
  have F_smr := fun_mk (st := sSmR) l_smr e_smr k_smr
  have B_smr := F_smr.binds (ps := ["_law_one", "_law_other", "_law_third", "_law_k"]) (fun _ _ _ _ _ _ us hl => match us, hl with | [_, _, _, _], _ => rfl)
  have m_smr := PySem.W.mg_of X G a_smr
  have F_law := fun_mk (st := sLaw) l_law e_law k_law
  have F_get := fun_mk (st := sGet) l_get e_get k_get
  have B_get := F_get.binds (ps := ["self", "at"]) (fun _ _ _ _ _ _ us hl => match us, hl with | [_, _], _ => rfl)
  have F_add := fun_mk (st := sAdd) l_add e_add k_add
  have B_add := F_add.binds (ps := ["self", "other"]) (fun _ _ _ _ _ _ us hl => match us, hl with | [_, _], _ => rfl)
  have F_sub := fun_mk (st := sSub) l_sub e_sub k_sub
  have B_sub := F_sub.binds (ps := ["self", "other"]) (fun _ _ _ _ _ _ us hl => match us, hl with | [_, _], _ => rfl)
  have F_mul := fun_mk (st := sMul) l_mul e_mul k_mul
  have B_mul := F_mul.binds (ps := ["self", "other"]) (fun _ _ _ _ _ _ us hl => match us, hl with | [_, _], _ => rfl)
  have F_rmul := fun_mk (st := sRMul) l_rmul e_rmul k_rmul
  have B_rmul := F_rmul.binds (ps := ["self", "other"]) (fun _ _ _ _ _ _ us hl => match us, hl with | [_, _], _ => rfl)
  have F_within := fun_mk (st := sWithin) l_within e_within k_within
  have B_within := F_within.binds (ps := ["self", "other"]) (fun _ _ _ _ _ _ us hl => match us, hl with | [_, _], _ => rfl)
  have F_crossing := fun_mk (st := sCrossing) l_crossing e_crossing k_crossing
  have B_crossing := F_crossing.binds (ps := ["self", "ones", "others"]) (fun _ _ _ _ _ _ us hl => match us, hl with | [_, _, _], _ => rfl)
  have F_eq := fun_mk (st := sEq) l_eq e_eq k_eq
  have B_eq := F_eq.binds (ps := ["self", "other"]) (fun _ _ _ _ _ _ us hl => match us, hl with | [_, _], _ => rfl)
  have F_xU := fun_mk (st := sUn) l_xU e_xU k_xU
  have B_xU := F_xU.binds (ps := ["self", "one", "other"]) (fun _ _ _ _ _ _ us hl => match us, hl with | [_, _, _], _ => rfl)
  have F_xT := fun_mk (st := sTM) l_xT e_xT k_xT
  have B_xT := F_xT.binds (ps := ["self", "limit"]) (fun _ _ _ _ _ _ us hl => match us, hl with | [_, _], _ => rfl)
  have F_xF := fun_mk (st := sTF) l_xF e_xF k_xF
  have B_xF := F_xF.binds (ps := ["self", "pair"]) (fun _ _ _ _ _ _ us hl => match us, hl with | [_, _], _ => rfl)
  have m_isinstance := PySem.W.mg_none_of X G z_isinstance
  have m_int := PySem.W.mg_none_of X G z_int
  have m_bool := PySem.W.mg_none_of X G z_bool
  have m_str := PySem.W.mg_none_of X G z_str
  have m_tuple := PySem.W.mg_none_of X G z_tuple
  have m_list := PySem.W.mg_none_of X G z_list
  have m_dict := PySem.W.mg_none_of X G z_dict
  have m_len := PySem.W.mg_none_of X G z_len
  have m_enumerate := PySem.W.mg_none_of X G z_enumerate
  have m_sorted := PySem.W.mg_none_of X G z_sorted
  have m_min := PySem.W.mg_none_of X G z_min
  have m_max := PySem.W.mg_none_of X G z_max
  have m_sum := PySem.W.mg_none_of X G z_sum
  have m_range := PySem.W.mg_none_of X G z_range
  have m_any := PySem.W.mg_none_of X G z_any
  have m_repr := PySem.W.mg_none_of X G z_repr
  have m_abs := PySem.W.mg_none_of X G z_abs
  have m_set := PySem.W.mg_none_of X G z_set
  have m_zip := PySem.W.mg_none_of X G z_zip
  have m_all := PySem.W.mg_none_of X G z_all
  have Bm : Bl mg := { m_isinstance := m_isinstance, m_int := m_int, m_bool := m_bool, m_str := m_str, m_tuple := m_tuple, m_list := m_list, m_dict := m_dict, m_len := m_len, m_enumerate := m_enumerate, m_sorted := m_sorted, m_min := m_min, m_max := m_max, m_sum := m_sum, m_range := m_range, m_any := m_any, m_repr := m_repr, m_abs := m_abs, m_set := m_set, m_zip := m_zip }
  have clE : Cls K C := ⟨B0, B1, B2, B3⟩
  have Tw : TxtW K mg C := ⟨clE, B4, B5, B6, B7, B8, m_sum⟩
  have GK : KindW K mg C := { ty := fun H a dx fs e => .base (.ins e clE B9 B14 B15 B10), own := B11, gW := PySem.W.mg_of X G aC, mi := m_isinstance }
  have mP : ∃ t, mg "MOST_PLACES" = some (.int 60 t) := ⟨_, PySem.W.mg_of X G c_mp⟩
  have mM : ∃ t, mg "MOST_TIES" = some (.int 1000000000 t) := ⟨_, PySem.W.mg_of X G c_mt⟩
  have OU : OexC K cU := ⟨⟨_, _, _, _, _, _, _, _, _, _, _, _, _, _, _, xLU, bVU⟩, B34, B31, B32, B33⟩
  have EU : ErrC K mg "Unequal" cU f_xU := ⟨PySem.W.mg_of X G acU, OU, a_xU, B35⟩
  have OT : OexC K cT := ⟨⟨_, _, _, _, _, _, _, _, _, _, _, _, _, _, _, xLT, bVT⟩, B41, B38, B39, B40⟩
  have ET : ErrC K mg "TooMany" cT f_xT := ⟨PySem.W.mg_of X G acT, OT, a_xT, B42⟩
  have OF : OexC K cF := ⟨⟨_, _, _, _, _, _, _, _, _, _, _, _, _, _, _, xLF, bVF⟩, B47, B44, B45, B46⟩
  have EF : ErrC K mg "TooFew" cF f_xF := ⟨PySem.W.mg_of X G acF, OF, a_xF, B48⟩
  have XF : ErrX K cF := { xf := ⟨B50, B51, B44, B52⟩, exm := B53 }
  subst cE
  have F_winit : L2.FunD K "__init__" "Web.__init__" (defArgs sInit) (defBody sInit) (defScope sInit) [.ref aE] [] f_winit (PySem.W.fnOf "__init__" "Web.__init__" (defArgs sInit) (defBody sInit) (defScope sInit) (.ref T0) kV_winit dc_winit pm_winit an_winit cd_winit ct_winit) :=
    ⟨⟨_, _, _, _, _, _, _, _, _, _, rfl, l_winit, e_winit, .inr ⟨by simp, T0, _, [.ref aE], nT, rfl, lT, rfl, .cons rfl .nil⟩, .inl rfl⟩, k_winit⟩
  have b0 : Binds K (PySem.W.fnOf "__init__" "Web.__init__" (defArgs sInit) (defBody sInit) (defScope sInit) (.ref T0) kV_winit dc_winit pm_winit an_winit cd_winit ct_winit) ["self", "size", "ties"] [] := by
    obtain ⟨ds, hv, hb⟩ := F_winit.binds1 (ps := ["self", "size", "ties"]) 3 1 (by simp) rfl (fun _ _ _ _ _ _ _ us its hl hi => match us, hl, its, hi with | [_, _, _], _, [_], _ => ⟨_, rfl, rfl⟩)
    cases hv
    exact hb
  have b1 : Binds K (PySem.W.fnOf "__init__" "Web.__init__" (defArgs sInit) (defBody sInit) (defScope sInit) (.ref T0) kV_winit dc_winit pm_winit an_winit cd_winit ct_winit) ["self", "size", "ties"] [.ref aE] := by
    obtain ⟨ds, hv, hb⟩ := F_winit.binds1 (ps := ["self", "size", "ties"]) 2 0 (by simp) rfl (fun _ _ _ _ _ _ _ us its hl hi => match us, hl, its, hi with | [_, _], _, [_], _ => ⟨_, rfl, rfl⟩)
    cases hv with
    | cons r t => cases t; cases (show _ = Value.ref aE from r); exact hb
  have hE : ∀ H, SqT K H aE [] := fun H => .inr ⟨_, #[], nE, lE, rfl, rfl, by decide, .nil⟩
  refine ⟨PySem.W.fnOf "law" "law" (defArgs sLaw) (defBody sLaw) (defScope sLaw) .none kV_law dc_law pm_law an_law cd_law ct_law, fun s u => .of_eq rfl, fun base _ _ => ?_⟩
  have W_whole : FnOk l.prog w K mg base CX0 1 f_whole _ ["thing"] (spWhole K) := ok_whole (k := 0) F_whole m_isinstance m_int m_bool
  have W_fromto : FnOk l.prog w K mg base CX0 2 f_fromto _ ["thing", "low", "high"] (spFromTo K) := ok_fromTo (k := 1) F_fromto W_whole m_whole k_whole B_whole
  have W_place : FnOk l.prog w K mg base CX0 3 f_place _ ["thing", "size"] (spPlace K) := ok_place (k := 2) F_place W_fromto m_fromto k_fromto B_fromto
  have W_pair : FnOk l.prog w K mg base CX0 4 f_pair _ ["thing", "size"] (spPair K) := ok_pair (k := 3) F_pair W_place m_place k_place B_place m_isinstance m_tuple m_len
  have W_tie : FnOk l.prog w K mg base CX0 5 f_tie _ ["thing", "size"] (spTie K) := ok_tie (k := 4) F_tie W_pair m_pair k_pair B_pair (W_fromto.mono (by decide)) m_fromto k_fromto B_fromto m_isinstance m_tuple m_len mM
  have W_need : FnOk l.prog w K mg base CX0 6 f_need _ ["size", "ties"] (spNeed K) := ok_need (k := 5) F_need W_tie m_tie k_tie B_tie (W_fromto.mono (by decide)) m_fromto k_fromto B_fromto m_isinstance m_tuple m_list m_enumerate mP
  have W_bounds : FnOk l.prog w K mg base CX0 1 f_bounds _ ["bundles"] (spBounds K) := ok_bounds (k := 0) F_bounds m_any mM
  have W_bundles : FnOk l.prog w K mg base CX0 2 f_bundles _ ["ties"] (spBundles K) := ok_bundles (k := 1) F_bundles W_bounds m_bounds k_bounds B_bounds m_sorted m_min m_max m_tuple
  have W_degrees : FnOk l.prog w K mg base CX0 1 f_degrees _ ["size", "numbers"] spDegrees := ok_degrees (k := 0) F_degrees m_tuple m_sum m_range
  have W_init : FnOk l.prog w K mg base CX0 7 f_winit _ ["self", "size", "ties"] (spInit K C) :=
    ok_init (k := 6) F_winit Tw W_need m_need k_need B_need (W_bundles.mono (by decide)) m_bundles k_bundles B_bundles (W_degrees.mono (by decide)) m_degrees k_degrees B_degrees
  have MWeb : MkWeb l.prog w K mg base C := ⟨⟨f_winit, _, aE, ⟨B12, a_winit, B18, B13⟩, W_init, PySem.W.mg_of X G aC, b0, b1, hE⟩⟩
  have G_eq : FnOk l.prog w K mg base CX0 1 f_eq _ ["self", "other"] (spEqW K C) := ok_eq (k := 0) F_eq Tw GK
  have EQ : EqW l.prog w K mg base C 10 f_eq _ := { Q := G_eq.mono (by decide), bQ := B_eq, ty := GK.ty, nf := B16, ne := B17, ob := B10, sQ := a_eq, iQ := B19 }
  have I_U : ErrI l.prog w K mg base f_xU _ ["self", "one", "other"] (spI2 cU "one" "other") := ⟨ok_iUn F_xU OU B36 B37, B_xU⟩
  have I_T : ErrI l.prog w K mg base f_xT _ ["self", "limit"] (spI1 cT "limit") := ⟨ok_iTM F_xT OT B43, B_xT⟩
  have I_F : ErrI l.prog w K mg base f_xF _ ["self", "pair"] (spI1 cF "pair") := ⟨ok_iTF F_xF OF B49, B_xF⟩
  have R_bounds : FnOk l.prog w K mg base (L2N.CX l.prog w) 3 f_bounds _ ["bundles"] (spBoundsR K cT) := ok_boundsR (k := 0) F_bounds ET I_T m_any mM
  have R_bundles : FnOk l.prog w K mg base (L2N.CX l.prog w) 4 f_bundles _ ["ties"] (spBundlesR K cT) := ok_bundlesR (k := 3) F_bundles R_bounds m_bounds k_bounds B_bounds m_sorted m_min m_max m_tuple
  have R_init : FnOk l.prog w K mg base (L2N.CX l.prog w) 7 f_winit _ ["self", "size", "ties"] (spInitR K C cT) :=
    ok_initR (k := 6) F_winit Tw W_need m_need k_need B_need (R_bundles.mono (by decide)) m_bundles k_bundles B_bundles (W_degrees.mono (by decide)) m_degrees k_degrees B_degrees
  have MR : MakR l.prog w K mg base C cT 7 f_winit _ := { M := ⟨B12, a_winit, B18, B13⟩, F := R_init, b0 := b0 }
  have R_eqs : FnOk l.prog w K mg base (L2N.CX l.prog w) 3 f_eqs _ ["one", "other"] (spEqS K C cU) := ok_eqS (k := 0) F_eqs Tw EU I_U
  have G_get : FnOk l.prog w K mg base CX0 1 f_get _ ["self", "at"] (spGet K C) := ok_get (k := 0) F_get Tw
  have GG : GetW l.prog w K mg base C 7 f_get _ := { G := G_get.mono (by decide), bG := B_get, sG := a_get, nG := B27, iG := B20 }
  have GG9 : GetW l.prog w K mg base C 9 f_get _ := { G := G_get.mono (by decide), bG := B_get, sG := a_get, nG := B27, iG := B20 }
  have GH : GetH l.prog w K mg base C 9 f_get _ := ⟨GG9, ok_getH (k := 8) F_get Tw⟩
  have R_add : FnOk l.prog w K mg base (L2N.CX l.prog w) 9 f_add _ ["self", "other"] (spAdd K C cU cT) := ok_add (k := 7) F_add Tw GK MR (R_eqs.mono (by decide)) m_eqs k_eqs B_eqs
  have R_sub : FnOk l.prog w K mg base (L2N.CX l.prog w) 9 f_sub _ ["self", "other"] (spSub K C cU cF) := ok_sub (k := 6) F_sub Tw GK MR (R_eqs.mono (by decide)) m_eqs k_eqs B_eqs EF I_F GG
  have R_times : FnOk l.prog w K mg base (L2N.CX l.prog w) 9 f_times _ ["web", "k"] (spTimes K C cT) := ok_times (k := 7) F_times Tw GK MR (R_bounds.mono (by decide)) m_bounds k_bounds B_bounds
  have R_mul : FnOk l.prog w K mg base (L2N.CX l.prog w) 10 f_mul _ ["self", "other"] (spTimes K C cT) := ok_mul (k := 8) F_mul R_times m_times k_times B_times (W_whole.mono (by decide)) m_whole k_whole B_whole
  have R_rmul : FnOk l.prog w K mg base (L2N.CX l.prog w) 10 f_rmul _ ["self", "other"] (spTimes K C cT) := ok_rmul (k := 8) F_rmul R_times m_times k_times B_times (W_whole.mono (by decide)) m_whole k_whole B_whole
  have OP : OpsW l.prog w K mg base C cU cT cF 10 f_add f_sub f_mul f_rmul _ _ _ _ := { A := R_add.mono (by decide), S := R_sub.mono (by decide), M := R_mul, R := R_rmul, bA := B_add, bS := B_sub, bM := B_mul, bR := B_rmul, sA := a_add, sS := a_sub, sM := a_mul, sR := a_rmul, iA := B21, iS := B22, iM := B23, iR := B24, self := B28, i1 := ⟨_, iM⟩, i2 := ⟨_, iR⟩, sub1 := B29, sub2 := B30 }
  have G_within : FnOk l.prog w K mg base CX0 9 f_within _ ["self", "other"] (spWithin K C) := ok_within (k := 7) F_within Tw GG m_all
  have G_crossing : FnOk l.prog w K mg base CX0 9 f_crossing _ ["self", "ones", "others"] (spCrossing K C) := ok_crossing (k := 7) F_crossing Tw GG
  have G_beside : FnOk l.prog w K mg base CX0 9 f_beside _ ["one", "other"] (spBeside K C) := ok_beside0 F_beside Tw MWeb mP
  have O_beside : Own l.prog w K mg base CX0 9 "beside" ["one", "other"] (spBeside K C) := ⟨⟨f_beside, _, G_beside, m_beside, k_beside, B_beside⟩⟩
  have G_renamed : FnOk l.prog w K mg base CX0 9 f_renamed _ ["web", "order"] (spRen K C) := ok_renamed F_renamed Tw MWeb
  have O_renamed : Own l.prog w K mg base CX0 9 "renamed" ["web", "order"] (spRen K C) := ⟨⟨f_renamed, _, G_renamed, m_renamed, k_renamed, B_renamed⟩⟩
  have G_moved : FnOk l.prog w K mg base CX0 1 f_moved _ ["row", "order"] (spMoved K) := ok_moved F_moved Bm
  have O_moved : Own l.prog w K mg base CX0 1 "moved" ["row", "order"] (spMoved K) := ⟨⟨f_moved, _, G_moved, m_moved, k_moved, B_moved⟩⟩
  have G_bag : FnOk l.prog w K mg base CX0 1 f_bag _ ["_law_script"] (spBag K) := ok_bag (k := 0) F_bag m_abs
  have O_bag : Own l.prog w K mg base CX0 1 "_law_bag" ["_law_script"] (spBag K) := ⟨⟨f_bag, _, G_bag, m_bag, k_bag, B_bag⟩⟩
  have G_take : FnOk l.prog w K mg base CX0 1 f_take _ ["_law_bag_here", "_law_many"] (spTake) := ok_take (k := 0) F_take m_len m_int
  have O_take : Own l.prog w K mg base CX0 1 "_law_take" ["_law_bag_here", "_law_many"] (spTake) := ⟨⟨f_take, _, G_take, m_take, k_take, B_take⟩⟩
  have G_mixed : FnOk l.prog w K mg base CX0 2 f_mixed _ ["_law_bag_here", "_law_things"] (spMixed) := ok_mixed (k := 1) F_mixed G_take m_take k_take B_take m_len
  have O_mixed : Own l.prog w K mg base CX0 2 "_law_mixed" ["_law_bag_here", "_law_things"] (spMixed) := ⟨⟨f_mixed, _, G_mixed, m_mixed, k_mixed, B_mixed⟩⟩
  have G_lweb : FnOk l.prog w K mg base CX0 9 f_lweb _ ["_law_bag_here", "_law_size"] (spLWeb K C) := ok_lweb F_lweb Bm MWeb O_take
  have O_lweb : Own l.prog w K mg base CX0 9 "_law_web" ["_law_bag_here", "_law_size"] (spLWeb K C) := ⟨⟨f_lweb, _, G_lweb, m_lweb, k_lweb, B_lweb⟩⟩
  have G_lsum : FnOk l.prog w K mg base CX0 1 f_lsum _ ["_law_one", "_law_other", "_law_times"] (spLSum K) := ok_lsum F_lsum Bm
  have O_lsum : Own l.prog w K mg base CX0 1 "_law_sum" ["_law_one", "_law_other", "_law_times"] (spLSum K) := ⟨⟨f_lsum, _, G_lsum, m_lsum, k_lsum, B_lsum⟩⟩
  have G_fits : FnOk l.prog w K mg base CX0 11 f_fits _ ["_law_one", "_law_other"] (spFits K C) := ok_fits F_fits Tw OP EQ GH XF (PySem.W.mg_of X G acF) B49
  have O_fits : Own l.prog w K mg base CX0 11 "_law_fits" ["_law_one", "_law_other"] (spFits K C) := ⟨⟨f_fits, _, G_fits, m_fits, k_fits, B_fits⟩⟩
  have G_cnt : FnOk l.prog w K mg base CX0 11 f_cnt _ ["_law_web_here", "_law_size"] (spCnt K C) := ok_cnt F_cnt Bm Tw GG9
  have O_cnt : Own l.prog w K mg base CX0 11 "_law_counts_right" ["_law_web_here", "_law_size"] (spCnt K C) := ⟨⟨f_cnt, _, G_cnt, m_cnt, k_cnt, B_cnt⟩⟩
  have G_smr : FnOk l.prog w K mg base CX0 12 f_smr _ ["_law_one", "_law_other", "_law_third", "_law_k"] (spSmR K C) := ok_smr F_smr Bm Tw MWeb OP EQ (G_within.mono (by decide)) ⟨a_within, B25, k_within⟩ B_within
  have O_smr : Own l.prog w K mg base CX0 12 "_law_sums_right" ["_law_one", "_law_other", "_law_third", "_law_k"] (spSmR K C) := ⟨⟨f_smr, _, G_smr, m_smr, k_smr, B_smr⟩⟩
  exact ok_law F_law Bm Tw OP EQ (G_within.mono (by decide)) ⟨a_within, B25, k_within⟩ B_within (G_crossing.mono (by decide)) ⟨a_crossing, B26, k_crossing⟩ B_crossing
    O_bag O_take O_mixed O_lweb O_lsum O_fits O_cnt O_smr O_renamed O_moved O_beside
end T27
/-! The end of a law, the guards known. -/
namespace Wk
open PySem PySem.Spec PyProof.Rows L2
theorem law_callC {P : Program} {w : World} {K : PySem.W.Frag} {mg mb : Str → Option Value} {k : Nat} {fa a : Addr} {fd : FuncData} {x : Str} {sp : Sp} {s₁ : Shared} {vs : List Value} {ns : List Int}
    (KX : K.In s₁.heap) (hns : s₁.heap.Ns mainGlobals mg) (hb : s₁.heap.Ns builtinsNs mb) (hbb : ∀ x : Str, x ≠ "__name__" → mb x = bootBuiltins x) (hlim : s₁.heap.NoLimit) (hg : s₁.gens = #[])
    (ha : s₁.heap.get? a = some { cls := .type "list", data := .seq vs.toArray }) (hi : IntsAre vs ns) (hl : ns.length ≤ sizeLine) (hr : Room k callerA)
    (F : ∀ base : Heap, K.In base → base.Ns mainGlobals mg → FnC P w K mg base CX0 k fa fd [x] sp) (hbind : ∀ (s : Shared) (u : Value), BindsTo s fd ⟨[u], []⟩ [(x, u)])
    (hsp : ∀ H : Hp, Only H → SqL K H a (ns.map V.int) → sp [.ref a] H (fun v _ => v = .bl true) fun _ _ _ => False) :
    codeAny (model P w) callerA (.call (.ref fa) ⟨[.ref a], []⟩) (fun r s' => r = .ok (.ret (.bool true)) ∧ OldK s₁.heap s'.heap ∧ s'.os = s₁.os ∧ AllBare s'.gens) s₁ := by
  have rints := vals_ints hi
  have hlen := hi.length
  have main : ∀ H : Hp, Only H → SqL K H a (ns.map V.int) → HOk P w H s₁.heap → (∀ b, H b ≠ none → b = a) → (H a ≠ none → K.lookup a = none) →
      codeAny (model P w) callerA (.call (.ref fa) ⟨[.ref a], []⟩) (fun r s' => r = .ok (.ret (.bool true)) ∧ OldK s₁.heap s'.heap ∧ s'.os = s₁.os ∧ AllBare s'.gens) s₁ := by
    intro H hO hS hok hA hK
    have free : ∀ {b : Addr} {o : Obj} {es : Array DictEntry} {ep : Nat}, s₁.heap.get? b = some o → o.data = .dict es ep → H b = none := by
      intro b o es ep e d
      cases q : H b with
      | none => rfl
      | some u =>
        have hba : b = a := hA b (by rw [q]; exact fun z => nomatch z)
        rw [hba, ha] at e
        cases e
        exact nomatch (show Data.seq vs.toArray _ = Data.dict es ep from d)
    have nsH : ∀ {b : Addr} {m : Str → Option Value}, s₁.heap.Ns b m → (hidT s₁.heap H).Ns b m := by
      rintro b m ⟨o, es, ep, e, d, r⟩
      exact ⟨o, es, ep, hidT_get e (free e d), d, r⟩
    have kinH : K.In (hidT s₁.heap H) := by
      intro b o e
      refine hidT_get (KX b o e) ?_
      cases q : H b with
      | none => rfl
      | some u =>
        have hba : b = a := hA b (by rw [q]; exact fun z => nomatch z)
        rw [hba] at e q
        rw [hK (by rw [q]; exact fun z => nomatch z)] at e
        exact nomatch e
    have hM : Mod K mg (hidT s₁.heap H) := ⟨kinH, nsH hns, ⟨mb, nsH hb, hbb⟩, let ⟨mc, h1, h2⟩ := hlim; ⟨mc, nsH h1, h2⟩⟩
    have e0 : Env0 P w K mg (hidT s₁.heap H) callerA [] s₁ H := ⟨rfl, hM, fun b o e => of_hidT e, Nat.le_of_eq (hidT_size _ _), trivial, (fun b hb => nomatch (show b ∈ ([] : List Addr) from hb)), hok, .of_eq hg⟩
    refine codeAny_mono ((F _ kinH (nsH hns)).run callerA [] s₁ H ⟨[.ref a], []⟩ [.ref a] [.ref a] _ _ hr rfl e0 (hbind s₁ (.ref a)) (.cons rfl .nil) (hsp H hO hS)) (fun r s' h => ?_)
    match r, h with
    | .ok (.ret u), h =>
      obtain ⟨v, H', os, bare, un, hok', r', q⟩ := h
      have q' : v = .bl true := q
      subst q'
      obtain rfl : u = Value.bool true := r'
      refine ⟨rfl, OldK.of_keep (fun b o e => ?_), os, bare⟩
      cases q : H b with
      | none => exact un.keep b o e q (fun z => nomatch (show b ∈ ([] : List Addr) from z)) (fun z => nomatch z)
      | some u =>
        rcases hO b with z | ⟨ob, xs, z⟩
        · rw [q] at z; exact nomatch z
        · obtain ⟨e1, _⟩ := hok b _ z
          obtain ⟨e2, _⟩ := hok' b _ (un.frzs b ob _ z)
          rw [e] at e1
          rw [Option.some.inj e1]; exact e2
  cases hk : K.lookup a with
  | some o =>
    have e := (KX a o hk).symm.trans ha
    cases e
    exact main (fun _ => none) (fun _ => .inl rfl) (.inr ⟨_, vs.toArray, _, hk, rfl, rfl, rfl, by rw [List.size_toArray, hlen]; exact hl, by simpa using rints⟩) (fun b u z => nomatch (show (none : Option HO) = some u from z)) (fun b z => absurd rfl z) (fun z => absurd rfl z)
  | none =>
    refine main (fun b => if b = a then some (.frz { cls := .type "list", data := .seq vs.toArray } (.lst (ns.map V.int))) else none) (fun b => ?_) (.inl (.inr ⟨{ cls := .type "list", data := .seq vs.toArray }, if_pos rfl⟩)) (fun b u z => ?_) (fun b z => ?_) (fun _ => hk)
    · by_cases hba : b = a
      · exact .inr ⟨_, _, if_pos hba⟩
      · exact .inl (if_neg hba)
    · by_cases hba : b = a
      · have z' := (if_pos hba).symm.trans z
        cases z'
        rw [hba]
        exact ⟨ha, by rw [List.length_map]; exact hl, vs, _, rints, ha⟩
      · exact nomatch (if_neg hba).symm.trans z
    · by_cases hba : b = a
      · exact hba
      · exact absurd (if_neg hba) z
theorem walk_ofC {l : PySem.W.OpenLaw} {n k : Nat} {q : Program} {loose : List Str} {XP : (Str → Option Value) → Heap → Prop} {YP : World → Heap → Prop} {d : DefRec} {K : Params → PySem.W.Frag} {sp : World → Sp} {x : Str}
    (hn : l.most = some n) (hn2 : n ≤ sizeLine) (hdf : d.params.defaults = []) (hr : Room k callerA) (hY : ∀ (w : World) (h : Heap), YP w h → (K w.params).In h)
    (F : ∀ (w : World) (mg : Str → Option Value) (fa : Addr) (h : Heap), (K w.params).In h → h.Ns mainGlobals mg → mg d.name = some (.ref fa) →
      ∃ fd : FuncData, (∀ (s : Shared) (u : Value), BindsTo s fd ⟨[u], []⟩ [(x, u)]) ∧ ∀ base : Heap, (K w.params).In base → base.Ns mainGlobals mg → FnC l.prog w (K w.params) mg base CX0 k fa fd [x] (sp w))
    (hsp : ∀ (w : World) (H : Hp) (a : Addr) (ns : List Int), ns.length ≤ n → Only H → SqL (K w.params) H a (ns.map V.int) → sp w [.ref a] H (fun v _ => v = .bl true) fun _ _ _ => False) :
    PySem.W.WalkO q loose XP YP l.row.toRowW d [] (fun f vs => PySem.call f vs) := by
  refine Att.attach_call hn hdf (fun w s₀ s₁ mg mb fa o pm cd doc a vs ns G Y ho hd hcd hmg hobj hints hlen hg => ?_)
  have KX := hY w _ Y
  obtain ⟨fd, hb, hF⟩ := F w mg fa _ KX G.T.g hmg
  exact law_callC KX G.T.g G.T.b G.T.builtins G.T.nolimit hg hobj hints (Nat.le_trans hlen hn2) hr hF hb (fun H hO hS => hsp w H a ns hlen hO hS)
end Wk
open PySem PySem.W PyProof.Rows
set_option maxRecDepth 100000 in
set_option maxHeartbeats 0 in
theorem PySem.Challenge.cw_contentties_k27_whole_webs_add_up_holds : PySem.Challenge.rw_contentties_k27_whole_webs_add_up.Holds := by
  w_on; o_law; k_head; (case hw => w_witness2)
  k_fill
  refine Wk.walk_ofC (l := PySem.Challenge.rw_contentties_k27_whole_webs_add_up) (n := 63) (k := 13) (x := "_law_script") rfl (by decide) rfl ⟨rfl, by decide, by decide⟩ (fun w h Y => PySem.W.kIn_of Y) ?F (sp := fun w => T27.spLaw _) (fun _ _ a ns hl _ hS => ⟨a, ns, rfl, hS, hl, fun _ => rfl⟩)
  case F =>
    intro w mg fa h KX G hmg
    refine' T27.all_mk KX G hmg ?aC ?acU ?acT ?acF ?c_mp ?c_mt ?xLU ?bVU ?xLT ?bVT ?xLF ?bVF ?a_whole ?l_whole ?e_whole ?k_whole ?a_fromto ?l_fromto ?e_fromto ?k_fromto ?a_place ?l_place ?e_place ?k_place ?a_pair ?l_pair ?e_pair ?k_pair ?a_tie ?l_tie ?e_tie ?k_tie ?a_need ?l_need ?e_need ?k_need ?a_bundles ?l_bundles ?e_bundles ?k_bundles ?a_bounds ?l_bounds ?e_bounds ?k_bounds ?a_degrees ?l_degrees ?e_degrees ?k_degrees ?a_eqs ?l_eqs ?e_eqs ?k_eqs ?a_times ?l_times ?e_times ?k_times ?a_beside ?l_beside ?e_beside ?k_beside ?a_renamed ?l_renamed ?e_renamed ?k_renamed ?a_moved ?l_moved ?e_moved ?k_moved ?a_bag ?l_bag ?e_bag ?k_bag ?a_take ?l_take ?e_take ?k_take ?a_mixed ?l_mixed ?e_mixed ?k_mixed ?a_lweb ?l_lweb ?e_lweb ?k_lweb ?a_lsum ?l_lsum ?e_lsum ?k_lsum ?a_fits ?l_fits ?e_fits ?k_fits ?a_cnt ?l_cnt ?e_cnt ?k_cnt ?a_smr ?l_smr ?e_smr ?k_smr ?a_law ?l_law ?e_law ?k_law ?a_winit ?l_winit ?e_winit ?k_winit ?lT ?lE ?cE ?iM ?iR ?a_get ?l_get ?e_get ?k_get ?a_add ?l_add ?e_add ?k_add ?a_sub ?l_sub ?e_sub ?k_sub ?a_mul ?l_mul ?e_mul ?k_mul ?a_rmul ?l_rmul ?e_rmul ?k_rmul ?a_within ?l_within ?e_within ?k_within ?a_crossing ?l_crossing ?e_crossing ?k_crossing ?a_eq ?l_eq ?e_eq ?k_eq ?a_xU ?l_xU ?e_xU ?k_xU ?a_xT ?l_xT ?e_xT ?k_xT ?a_xF ?l_xF ?e_xF ?k_xF ?z_isinstance ?z_int ?z_bool ?z_str ?z_tuple ?z_list ?z_dict ?z_len ?z_enumerate ?z_sorted ?z_min ?z_max ?z_sum ?z_range ?z_any ?z_repr ?z_abs ?z_set ?z_zip ?z_all ?B
    (case aC => k_is)
    (case acU => k_is)
    (case acT => k_is)
    (case acF => k_is)
    (case c_mp => k_is)
    (case c_mt => k_is)
    (case xLU => k_is)
    (case bVU => rfl)
    (case xLT => k_is)
    (case bVT => rfl)
    (case xLF => k_is)
    (case bVF => rfl)
    (case a_whole => k_is)
    (case l_whole => k_is)
    (case e_whole => k_is)
    (case k_whole => k_is)
    (case a_fromto => k_is)
    (case l_fromto => k_is)
    (case e_fromto => k_is)
    (case k_fromto => k_is)
    (case a_place => k_is)
    (case l_place => k_is)
    (case e_place => k_is)
    (case k_place => k_is)
    (case a_pair => k_is)
    (case l_pair => k_is)
    (case e_pair => k_is)
    (case k_pair => k_is)
    (case a_tie => k_is)
    (case l_tie => k_is)
    (case e_tie => k_is)
    (case k_tie => k_is)
    (case a_need => k_is)
    (case l_need => k_is)
    (case e_need => k_is)
    (case k_need => k_is)
    (case a_bundles => k_is)
    (case l_bundles => k_is)
    (case e_bundles => k_is)
    (case k_bundles => k_is)
    (case a_bounds => k_is)
    (case l_bounds => k_is)
    (case e_bounds => k_is)
    (case k_bounds => k_is)
    (case a_degrees => k_is)
    (case l_degrees => k_is)
    (case e_degrees => k_is)
    (case k_degrees => k_is)
    (case a_eqs => k_is)
    (case l_eqs => k_is)
    (case e_eqs => k_is)
    (case k_eqs => k_is)
    (case a_times => k_is)
    (case l_times => k_is)
    (case e_times => k_is)
    (case k_times => k_is)
    (case a_beside => k_is)
    (case l_beside => k_is)
    (case e_beside => k_is)
    (case k_beside => k_is)
    (case a_renamed => k_is)
    (case l_renamed => k_is)
    (case e_renamed => k_is)
    (case k_renamed => k_is)
    (case a_moved => k_is)
    (case l_moved => k_is)
    (case e_moved => k_is)
    (case k_moved => k_is)
    (case a_bag => k_is)
    (case l_bag => k_is)
    (case e_bag => k_is)
    (case k_bag => k_is)
    (case a_take => k_is)
    (case l_take => k_is)
    (case e_take => k_is)
    (case k_take => k_is)
    (case a_mixed => k_is)
    (case l_mixed => k_is)
    (case e_mixed => k_is)
    (case k_mixed => k_is)
    (case a_lweb => k_is)
    (case l_lweb => k_is)
    (case e_lweb => k_is)
    (case k_lweb => k_is)
    (case a_lsum => k_is)
    (case l_lsum => k_is)
    (case e_lsum => k_is)
    (case k_lsum => k_is)
    (case a_fits => k_is)
    (case l_fits => k_is)
    (case e_fits => k_is)
    (case k_fits => k_is)
    (case a_cnt => k_is)
    (case l_cnt => k_is)
    (case e_cnt => k_is)
    (case k_cnt => k_is)
    (case a_smr => k_is)
    (case l_smr => k_is)
    (case e_smr => k_is)
    (case k_smr => k_is)
    (case a_law => k_is)
    (case l_law => k_is)
    (case e_law => k_is)
    (case k_law => k_is)
    (case a_winit => k_is)
    (case l_winit => k_is)
    (case e_winit => k_is)
    (case k_winit => k_is)
    (case lT => k_is)
    (case lE => k_is)
    (case cE => rfl)
    (case iM => k_is)
    (case iR => k_is)
    (case a_get => k_is)
    (case l_get => k_is)
    (case e_get => k_is)
    (case k_get => k_is)
    (case a_add => k_is)
    (case l_add => k_is)
    (case e_add => k_is)
    (case k_add => k_is)
    (case a_sub => k_is)
    (case l_sub => k_is)
    (case e_sub => k_is)
    (case k_sub => k_is)
    (case a_mul => k_is)
    (case l_mul => k_is)
    (case e_mul => k_is)
    (case k_mul => k_is)
    (case a_rmul => k_is)
    (case l_rmul => k_is)
    (case e_rmul => k_is)
    (case k_rmul => k_is)
    (case a_within => k_is)
    (case l_within => k_is)
    (case e_within => k_is)
    (case k_within => k_is)
    (case a_crossing => k_is)
    (case l_crossing => k_is)
    (case e_crossing => k_is)
    (case k_crossing => k_is)
    (case a_eq => k_is)
    (case l_eq => k_is)
    (case e_eq => k_is)
    (case k_eq => k_is)
    (case a_xU => k_is)
    (case l_xU => k_is)
    (case e_xU => k_is)
    (case k_xU => k_is)
    (case a_xT => k_is)
    (case l_xT => k_is)
    (case e_xT => k_is)
    (case k_xT => k_is)
    (case a_xF => k_is)
    (case l_xF => k_is)
    (case e_xF => k_is)
    (case k_xF => k_is)
    (case z_isinstance => k_is)
    (case z_int => k_is)
    (case z_bool => k_is)
    (case z_str => k_is)
    (case z_tuple => k_is)
    (case z_list => k_is)
    (case z_dict => k_is)
    (case z_len => k_is)
    (case z_enumerate => k_is)
    (case z_sorted => k_is)
    (case z_min => k_is)
    (case z_max => k_is)
    (case z_sum => k_is)
    (case z_range => k_is)
    (case z_any => k_is)
    (case z_repr => k_is)
    (case z_abs => k_is)
    (case z_set => k_is)
    (case z_zip => k_is)
    (case z_all => k_is)
    (case B => kernel_rfl)
