import PyProof.Rows.All
import Wide.All
import OpenK.AllK
import Wide.FinOn
import HandS.ForMost
import HandS.Exc
import HandS.Evl
import HandS.Style
import HandS.Lambda
import HandS.IsInst
import HandS.SetFor
import HandS.Strs
import HandS.More
import HandS.DictComp
import HandS.SetBool
import PyProof.InstNe
import HandS.Ends
import HandS.SortInts
import HandS.Wide
import KE.DataMinMax
import PySem.Challenge.RW_oddcrowds_k28_whole_place_whoever_calls
set_option Elab.async false
set_option linter.all false
set_option maxRecDepth 100000
/-! Defs that may show containers: no guard of a display runs around them. -/
namespace DL
open PySem L2 PyProof.Rows PySem.Spec

/-- a def's promise where nothing is being shown -/
structure FnG (P : Program) (w : World) (K : PySem.W.Frag) (mg : Str → Option Value) (base : Heap) (CX : CXT) (k : Nat) (f : Addr) (fd : FuncData) (ps : List Str) (sp : Sp) : Prop where
  len : ∀ vs H Q E, sp vs H Q E → vs.length = ps.length
  run : ∀ (A : Around) (outer : List Env) (s : Shared) (H : Hp) (args : Args) (us : List Value) (vs : List V) (Q : VK) (E : XK), Room k A → A.guards = some [] →
    Env0 P w K mg base A outer s H → BindsTo s fd args (ps.zip us) → Vals vs us → sp vs H Q E → codeAny (model P w) A (.call (.ref f) args) (CR CX outer P w H s Q E) s

section
variable {P : Program} {w : World} {K : PySem.W.Frag} {mg : Str → Option Value} {base : Heap} {CX : CXT} {j k : Nat} {f : Addr} {fd : FuncData} {ps : List Str} {sp : Sp}
theorem FnG.up (F : FnG P w K mg base CX j f fd ps sp) (h : j ≤ k) : FnG P w K mg base CX k f fd ps sp :=
  ⟨F.len, fun A o s H a us vs Q E r g => F.run A o s H a us vs Q E (r.mono h) g⟩
theorem FnG.of (F : FnOk P w K mg base CX k f fd ps sp) : FnG P w K mg base CX k f fd ps sp := ⟨F.len, fun A o s H a us vs Q E r _ => F.run A o s H a us vs Q E r⟩
theorem cr_of_flow {X : Cx} {outer : List Env} {H H0 : Hp} {s s' : Shared} {Q : VK} {E : XK} {pins : List (Addr × Obj)} {σ : L2.St} (I : Inv X pins σ H s)
    (hx : Passes CX X E) {r : Result} (h : CR CX X.stack X.prog X.w H s Q E r s') : (∃ u, r = .ok (.ret u) ∧ EP X pins σ Q u s') ∨ ∃ e, r = .error e ∧ X.xe e s' := by
  match r, h with
  | .error e, h => exact .inr ⟨e, rfl, hx pins σ H s e s' I h⟩
  | .ok (.ret u), h => exact .inl ⟨u, rfl, I.after h⟩
  | .ok .next, h => exact h.elim
  | .ok .brk, h => exact h.elim
  | .ok .cont, h => exact h.elim
end

section
variable {X : Cx} {CX : CXT} {k : Nat} {f C : Addr} {fd : FuncData} {ps : List Str} {sp : Sp} {E : XK} {x m : Str} {p pos apos : Pos} {e o : Expr} {es : List Expr} {ta : TE} {t : TA} {pins : List (Addr × Obj)} {σ : L2.St} {H : Hp} {s : Shared} {Q : VK} {us : List Value} {vs : List V}
theorem FnG.go (F : FnG X.prog X.w X.K X.mg X.base CX k f fd ps sp) (hr : Room k X.A) (hg : X.A.guards = some []) (hb : Binds X.K fd ps []) (hx : Passes CX X E) (I : Inv X pins σ H s) (r : Vals vs us) (h : sp vs H Q E) :
    wpAny (model X.prog X.w) X.A (call (.ref f) us) (EP X pins σ Q) X.xe s := by
  have hl : (us ++ []).length = ps.length := by rw [List.append_nil, ← r.length]; exact F.len _ _ _ _ h
  have hB := hb s us I.kIn hl
  rw [List.append_nil] at hB
  refine wpAny_call (codeAny_mono (F.run _ _ _ _ _ us vs Q E hr hg I.env0 hB r h) fun res s' q => ?_)
  rcases cr_of_flow (outer := X.stack) (H0 := H) I hx q with ⟨u, rfl, z⟩ | ⟨e, rfl, z⟩
  · exact z
  · exact z
theorem pe_callG (F : FnG X.prog X.w X.K X.mg X.base CX k f fd ps sp) (hr : Room k X.A) (hgd : X.A.guards = some []) (hg : Gl X x) (hm : X.mg x = some (.ref f)) (hk : PySem.W.keepIn X.K (.ref f) = true) (hb : Binds X.K fd ps []) (hx : Passes CX X E)
    (ha : PA X (e :: es) t) (hdb : (x == ("__debug__" : Str)) = false) (he : starEach (e :: es) X.env = (false, eval e X.env) :: starEach es X.env) (hpl : (backTo pos (starEach es X.env)).any (·.1) = false) :
    PE X (.Call (.Name x p) (e :: es) [] pos) (tCall sp [] E t) :=
  ⟨fun pins s σ H Q I h => wpAny_Call_Name_kw (ld_glob I hg hm (PySem.W.callWith_K (h₀ := X.base) I.ok.mod.kin hk (thn (ha.run pos pins s σ H _ I h) fun us s1 ⟨vs, H1, I1, r, q⟩ =>
    ⟨I1.kIn, F.go hr hgd hb hx I1 r (by have z : sp (vs ++ []) H1 Q E := q; rw [List.append_nil] at z; exact z)⟩) he hpl) hdb)⟩
theorem pe_callG0 (F : FnG X.prog X.w X.K X.mg X.base CX k f fd ps sp) (hr : Room k X.A) (hgd : X.A.guards = some []) (hg : Gl X x) (hm : X.mg x = some (.ref f)) (hk : PySem.W.keepIn X.K (.ref f) = true) (hb : Binds X.K fd ps []) (hx : Passes CX X E)
    (hdb : (x == ("__debug__" : Str)) = false) : PE X (.Call (.Name x p) [] [] pos) (tCall sp [] E tNil) :=
  ⟨fun pins s σ H Q I h => wpAny_Call_Name_kw (ld_glob I hg hm (PySem.W.callWith_K0 I.kIn hk (F.go (us := []) hr hgd hb hx I .nil h)) hdb)⟩
/-- o.m(e, ..), o.m() -/
theorem pe_methG {pl : Sem Bool} (he : PE X o ta) (c : Cls X.K C) (hm : Meth X.K C m f) (F : FnG X.prog X.w X.K X.mg X.base CX k f fd ps sp) (hr : Room k X.A) (hgd : X.A.guards = some []) (hb : Binds X.K fd ps []) (hx : Passes CX X E) (ha : PA X (e :: es) t)
    (hst : starEach (e :: es) X.env = (false, eval e X.env) :: starEach es X.env) (hpl : (backTo pos (starEach es X.env)).any (·.1) = false)
    (ht : eval (.Call (.Attribute o m apos) (e :: es) [] pos) X.env = (do let ov ← eval o X.env; standAt apos.atName; let (f, first) ← holding [ov] (getMethod ov m pl); callWith pos f first (backTo pos (starEach (e :: es) X.env)) (backToKw pos (keywordEach [] X.env)))) :
    PE X (.Call (.Attribute o m apos) (e :: es) [] pos) (tMeth C m sp [] E ta t) := by
  refine ⟨fun pins s σ H Q I h => PySem.W.methodCall_KW (pl := pl) (thn (he.run pins s σ H _ I h) fun u s1 hh => ?_) ht⟩
  obtain ⟨x, H1, I1, rx, a, dx, fs, rfl, ea, l, q⟩ := hh
  obtain rfl : u = Value.ref a := rx
  refine getmeth_ok I1 ea c hm l (PySem.W.callWith_K (first := [.ref a]) (h₀ := X.base) I.ok.mod.kin hm.kp (thn (ha.run pos pins s1 σ H1 _ I1 q) fun us s2 hz => ?_) hst hpl)
  obtain ⟨vs, H2, I2, r, q2⟩ := hz
  have q2 : sp (.ref a :: (vs ++ [])) H2 Q E := q2
  rw [List.append_nil] at q2
  exact ⟨I2.kIn, F.go (us := .ref a :: us) (vs := .ref a :: vs) hr hgd hb hx I2 (.cons rfl r) q2⟩
theorem pe_methG0 {pl : Sem Bool} (he : PE X o ta) (c : Cls X.K C) (hm : Meth X.K C m f) (F : FnG X.prog X.w X.K X.mg X.base CX k f fd ps sp) (hr : Room k X.A) (hgd : X.A.guards = some []) (hb : Binds X.K fd ps []) (hx : Passes CX X E)
    (ht : eval (.Call (.Attribute o m apos) [] [] pos) X.env = (do let ov ← eval o X.env; standAt apos.atName; let (f, first) ← holding [ov] (getMethod ov m pl); callWith pos f first (backTo pos (starEach [] X.env)) (backToKw pos (keywordEach [] X.env)))) :
    PE X (.Call (.Attribute o m apos) [] [] pos) (tMeth C m sp [] E ta tNil) := by
  refine ⟨fun pins s σ H Q I h => PySem.W.methodCall_KW (pl := pl) (thn (he.run pins s σ H _ I h) fun u s1 hh => ?_) ht⟩
  obtain ⟨x, H1, I1, rx, a, dx, fs, rfl, ea, l, q⟩ := hh
  obtain rfl : u = Value.ref a := rx
  exact getmeth_ok I1 ea c hm l (PySem.W.callWith_K0 (first := [.ref a]) I1.kIn hm.kp (F.go (us := [.ref a]) (vs := [.ref a]) hr hgd hb hx I1 (.cons rfl .nil) q))
theorem make_guards {A : Around} {C : Addr} {us : List Value} (hg : A.guards = some []) : (A.under (.builtin "type.__call__" ⟨.ref C :: us, []⟩)).guards = some [] := by
  simp [Around.under, pushGuards, Code.guards, Code.weight, hg, guardIds, Code.isCreation, Code.isGuard, Code.isCaller]
/-- C(e, ..) -/
theorem FnG.make (M : Mk X.K C f) (F : FnG X.prog X.w X.K X.mg X.base CX k f fd ps sp) (hr : Room (k + 1) X.A) (hgd : X.A.guards = some []) (hb : Binds X.K fd ps []) (hx : Passes CX X E) (I : Inv X pins σ H s) (r : Vals vs us)
    (h : ∀ x dx, H x = none → H dx = none → dx ≠ x → sp (.ref x :: vs) (upd (upd H dx (.own x)) x (.ins C dx [])) (fun v H2 => v = .non ∧ Q (.ref x) H2) E) : wpAny (model X.prog X.w) X.A (call (.ref C) us) (EP X pins σ Q) X.xe s := by
  have hq := h (s.heap.objs.size + 1) s.heap.objs.size (I.hok.fresh (Nat.le_succ _)) (I.hok.fresh (Nat.le_refl _)) (Nat.ne_of_lt (Nat.lt_succ_self _))
  have I2 := Inv.made (C := C) I
  have r2 : Vals (V.ref (s.heap.objs.size + 1) :: vs) (Value.ref (s.heap.objs.size + 1) :: us) := .cons rfl r
  have hl : ((Value.ref (s.heap.objs.size + 1) :: us) ++ []).length = ps.length := by rw [List.append_nil, ← r2.length]; exact F.len _ _ _ _ hq
  have hB := hb _ (Value.ref (s.heap.objs.size + 1) :: us) I2.kIn hl
  rw [List.append_nil] at hB
  refine wpAny_call (make_map (f := f) I.kIn M.makes M.init (beq_iff_eq.mp M.fn) (codeAny_mono (F.run _ X.stack _ _ _ _ _ _ E (hr.make C us []) (make_guards hgd) (I2.env0.make C us []) hB r2 hq) fun res s' q => ?_))
  match res, q with
  | .error e, q => exact hx pins σ _ _ e s' I2 q
  | .ok (.ret u), q =>
    obtain ⟨v, H', I3, rv, ev, q3⟩ := I2.after q
    subst ev
    exact ⟨rv, V.ref (s.heap.objs.size + 1), H', I3, rfl, q3⟩
  | .ok .next, q => exact q.elim
  | .ok .brk, q => exact q.elim
  | .ok .cont, q => exact q.elim
theorem pe_makeG (M : Mk X.K C f) (F : FnG X.prog X.w X.K X.mg X.base CX k f fd ps sp) (hr : Room (k + 1) X.A) (hgd : X.A.guards = some []) (hg : Gl X x) (hm : X.mg x = some (.ref C)) (hb : Binds X.K fd ps []) (hx : Passes CX X E)
    (ha : PA X (e :: es) t) (hdb : (x == ("__debug__" : Str)) = false) (he : starEach (e :: es) X.env = (false, eval e X.env) :: starEach es X.env) (hpl : (backTo pos (starEach es X.env)).any (·.1) = false) :
    PE X (.Call (.Name x p) (e :: es) [] pos) (tMake C sp [] E t) :=
  ⟨fun pins s σ H Q I h => wpAny_Call_Name_kw (ld_glob I hg hm (PySem.W.callWith_K (h₀ := X.base) I.ok.mod.kin M.kp (thn (ha.run pos pins s σ H _ I h) fun us s1 ⟨vs, H1, I1, r, q⟩ =>
    ⟨I1.kIn, F.make M hr hgd hb hx I1 r fun x dx h1 h2 h3 => by have z : sp (.ref x :: (vs ++ [])) _ _ E := q x dx h1 h2 h3; rw [List.append_nil] at z; exact z⟩) he hpl) hdb)⟩
end

/-- a def of the text, by its body -/
theorem FnG.body {CX : CXT} {P : Program} {w : World} {K : PySem.W.Frag} {mg : Str → Option Value} {base : Heap} {k : Nat} {f : Addr} {x qual : Str} {st : Stmt} {fd : FuncData} {N ps : List Str} {sp : Sp} (F : Fun K x qual st f fd) (S : FnScope N ps (defScope st))
    (len : ∀ vs H Q E, sp vs H Q E → vs.length = ps.length)
    (hbody : ∀ (cdv : Value) (A : Around) (outer : List Env) (s : Shared) (H : Hp) (vs : List V) (Q : VK) (E : XK), Room k (A.deeper (envOfC qual (defScope st) s.heap.objs.size f cdv)) → A.guards = some [] → sp vs H Q E →
      ∃ t, PSs (cxOf CX P w K mg base N qual (defScope st) f cdv A outer s H E) (defBody st) t ∧ t { nx := fun _ H' => Q .non H', rt := Q } (start N vs) H) :
    FnG P w K mg base CX (k + 1) f fd ps sp := by
  obtain ⟨oc, od, kV, doc, pm, an, cdv, ct, osl, rfl, lk, hcd⟩ := F.ex
  refine ⟨len, fun A outer s H args us vs Q E hr hgd e0 hb r hsp => ?_⟩
  have kp : ∀ b o, base.get? b = some o → s.heap.get? b = some o := fun b o e => (e0.bs b o e).1
  have KX : K.In s.heap := e0.mod.kin.keeps kp
  have hkind : ∀ y ∈ ps.zip us, (defScope st).names.lookup y.1 = some .local ∨ ((defScope st).names.lookup y.1 = some .cell ∧ ((cellsFrom (s.heap.objs.size + 1) (defScope st).names []).lookup y.1).isSome = true) := fun y hy =>
    (S.par y.1 (List.of_mem_zip (a := y.1) (b := y.2) hy).1).imp id fun q => ⟨q, PySem.W.cellsFrom_some _ _ _ (.inl q)⟩
  refine codeAny_call_function hr.depth (KX _ _ lk) rfl S.co S.gen rfl (PySem.W.codeRec_of KX hcd) (hb _ _ _ _ (wpAny_newFunctionEnv_cells S.kind hkind fun env he s1 i => ?_))
  subst he
  obtain ⟨t, ht, hq⟩ := hbody cdv A outer s H vs Q E (hr.deeper _) hgd hsp
  have I : Inv (cxOf CX P w K mg base N qual (defScope st) f cdv A outer s H E) [] (start N vs) H s1 := inv_start S hr.hd e0 (len _ _ _ _ hsp) r i
  refine ⟨(e0.mod.nolimit.keeps kp).keeps i.toInCall.keep, codeAny_func (wpAny_mono (ht.run [] s1 (start N vs) H _ I hq) (fun fl s' hs => ?_) fun _ _ z => z)⟩
  have fin : ∀ {σ' : L2.St} {H' : Hp} {v : V} {u : Value}, Inv (cxOf CX P w K mg base N qual (defScope st) f cdv A outer s H E) [] σ' H' s' → RelV v u → Q v H' → CE outer P w H s Q u s' :=
    fun J rv q => ⟨_, _, J.os, J.bare, J.base, J.hok, rv, q⟩
  match fl, hs with
  | .ret u, ⟨v, σ', H', J, rv, q⟩ => exact fin J rv q
  | .next, ⟨σ', H', J, q⟩ => exact fin (v := .non) (u := .none) J rfl q
  | .brk, ⟨_, _, _, q⟩ => exact q.elim
  | .cont, ⟨_, _, _, q⟩ => exact q.elim
end DL
set_option maxRecDepth 100000
/-! A layer of data over HandS: values as trees, an abstract store for what is changed, big steps. -/
namespace DL
open PySem L2

inductive D where
  | non | bl (b : Bool) | int (i : Int) | str (s : Str) | lst (ds : List D) | tup (ds : List D)
  | rd (ds : List D) | loc (k : Nat) | ob (tag : Nat) (d : D) | ty (n : String)
  | dct (ks : List Key) (ds : List D) | ins (C : Addr) (ks : List Str) (ds : List D)
inductive Cell where
  | dead | lst (ds : List D) | dct (kvs : List (Key × D)) | ins (C : Addr) (fs : List (Str × D))
abbrev Sto := List Cell
abbrev Rho := List (Option D)
/-- what objects are, and the tables of code objects: each with the name that its code objects bear -/
structure Ob where
  f : Nat → D → Hp → V → Prop
  T : List (Addr × Str)

def Sub (F H : Hp) : Prop := ∀ a o, F a = some o → H a = some o
theorem Sub.refl (F : Hp) : Sub F F := fun _ _ h => h
theorem Sub.trans {F G H : Hp} (a : Sub F G) (b : Sub G H) : Sub F H := fun x o h => b x o (a x o h)
theorem Sub.none {F H : Hp} (s : Sub F H) {a : Addr} (h : H a = Option.none) : F a = Option.none := by
  cases q : F a with
  | none => rfl
  | some o => rw [s a o q] at h; cases h
theorem Sub.upd' {F H : Hp} (s : Sub F H) {a : Addr} {o : HO} (h : F a = Option.none) : Sub F (L2.upd H a o) := fun b u e => by
  rw [upd_ne (ne_of_none e h)]; exact s b u e
theorem Sub.upd {F H : Hp} (s : Sub F H) {a : Addr} {o : HO} (h : H a = Option.none) : Sub F (L2.upd H a o) := s.upd' (s.none h)
theorem Sub.upd2 {F H : Hp} (s : Sub F H) {a : Addr} {o : HO} : Sub (L2.upd F a o) (L2.upd H a o) := fun b u e => by
  by_cases hb : b = a
  · subst hb; rw [upd_same] at e ⊢; exact e
  · rw [upd_ne hb] at e ⊢; exact s b u e
theorem Sub.up {F : Hp} {a : Addr} {o : HO} (h : F a = Option.none) : Sub F (L2.upd F a o) := (Sub.refl F).upd' h
theorem Sub.rd {F H : Hp} (s : Sub F H) {a : Addr} {u : HO} (h : Rd F a u) : Rd H a u := by
  rcases h with h | ⟨o, h⟩
  · exact .inl (s _ _ h)
  · exact .inr ⟨o, s _ _ h⟩
theorem Sub.sqL {K : PySem.W.Frag} {F H : Hp} (s : Sub F H) {a : Addr} {xs : List V} (h : SqL K F a xs) : SqL K H a xs := by
  rcases h with h | h
  · exact .inl (s.rd h)
  · exact .inr h
theorem Sub.sqT {K : PySem.W.Frag} {F H : Hp} (s : Sub F H) {a : Addr} {xs : List V} (h : SqT K F a xs) : SqT K H a xs := by
  rcases h with h | h
  · exact .inl (s.rd h)
  · exact .inr h

/-- a part at the front -/
def Pre (L L' : List Addr) : Prop := ∀ (k : Nat) (a : Addr), L[k]? = some a → L'[k]? = some a
theorem Pre.refl (L : List Addr) : Pre L L := fun _ _ h => h
theorem Pre.trans {L M N : List Addr} (a : Pre L M) (b : Pre M N) : Pre L N := fun k x h => b k x (a k x h)
theorem Pre.mem {L M : List Addr} (p : Pre L M) {a : Addr} (h : a ∈ L) : a ∈ M := let ⟨k, hk⟩ := List.getElem?_of_mem h; List.mem_of_getElem? (p k a hk)
theorem Pre.app (L M : List Addr) : Pre L (L ++ M) := fun k a h => by
  rw [List.getElem?_append_left (List.getElem?_eq_some_iff.mp h).1]; exact h

section
variable (K : PySem.W.Frag) (I : Ob)
mutual
inductive RV : Hp → List Addr → D → V → Prop
  | non {F L} : RV F L .non .non
  | bl {F L} {b : Bool} : RV F L (.bl b) (.bl b)
  | int {F L} {i : Int} : RV F L (.int i) (.int i)
  | str {F L} {s : Str} : RV F L (.str s) (.str s)
  | lst {F L} {a : Addr} {ds : List D} {vs : List V} : F a = some (.lst vs) → RVs F L ds vs → RV F L (.lst ds) (.ref a)
  | rd {F L} {a : Addr} {ds : List D} {vs : List V} : SqL K F a vs → RVs F L ds vs → RV F L (.rd ds) (.ref a)
  | tup {F L} {a : Addr} {ds : List D} {vs : List V} : SqT K F a vs → RVs F L ds vs → RV F L (.tup ds) (.ref a)
  | loc {F L} {k : Nat} {a : Addr} : L[k]? = some a → RV F L (.loc k) (.ref a)
  | ob {F L} {tag : Nat} {d : D} {v : V} : I.f tag d F v → RV F L (.ob tag d) v
  | ty {F L} {n : String} : RV F L (.ty n) (.ty n)
  | dct {F L} {a : Addr} {ks : List Key} {ds : List D} {kvs : List (Key × V)} : F a = some (.dK kvs) → kvs.map (·.1) = ks → RVs F L ds (kvs.map (·.2)) → RV F L (.dct ks ds) (.ref a)
  | ins {F L} {a C dx : Addr} {ks : List Str} {ds : List D} {fs : List (Str × V)} : F a = some (.ins C dx fs) → fs.map (·.1) = ks → RVs F L ds (fs.map (·.2)) → RV F L (.ins C ks ds) (.ref a)
inductive RVs : Hp → List Addr → List D → List V → Prop
  | nil {F L} : RVs F L [] []
  | cons {F L} {d : D} {ds : List D} {v : V} {vs : List V} : RV F L d v → RVs F L ds vs → RVs F L (d :: ds) (v :: vs)
end
/-- what is known of objects is not lost -/
def IMono : Prop := ∀ tag d F F' v, Sub F F' → I.f tag d F v → I.f tag d F' v
end

section
variable {K : PySem.W.Frag} {I : Ob}
mutual
theorem RV.mono (hI : IMono I) {F F' : Hp} {L L' : List Addr} (s : Sub F F') (p : Pre L L') : ∀ {d : D} {v : V}, RV K I F L d v → RV K I F' L' d v
  | _, _, .non => .non
  | _, _, .bl => .bl
  | _, _, .int => .int
  | _, _, .str => .str
  | _, _, .lst h r => .lst (s _ _ h) (RVs.mono hI s p r)
  | _, _, .rd h r => .rd (s.sqL h) (RVs.mono hI s p r)
  | _, _, .tup h r => .tup (s.sqT h) (RVs.mono hI s p r)
  | _, _, .loc h => .loc (p _ _ h)
  | _, _, .ob h => .ob (hI _ _ _ _ _ s h)
  | _, _, .ty => .ty
  | _, _, .dct h e r => .dct (s _ _ h) e (RVs.mono hI s p r)
  | _, _, .ins h e r => .ins (s _ _ h) e (RVs.mono hI s p r)
theorem RVs.mono (hI : IMono I) {F F' : Hp} {L L' : List Addr} (s : Sub F F') (p : Pre L L') : ∀ {ds : List D} {vs : List V}, RVs K I F L ds vs → RVs K I F' L' ds vs
  | _, _, .nil => .nil
  | _, _, .cons h r => .cons (RV.mono hI s p h) (RVs.mono hI s p r)
end
theorem RVs.length {F : Hp} {L : List Addr} : ∀ {ds : List D} {vs : List V}, RVs K I F L ds vs → ds.length = vs.length
  | _, _, .nil => rfl
  | _, _, .cons _ r => by rw [List.length_cons, List.length_cons, RVs.length r]
theorem RVs.get {F : Hp} {L : List Addr} : ∀ {ds : List D} {vs : List V} {i : Nat} {d : D}, RVs K I F L ds vs → ds[i]? = some d → ∃ v, vs[i]? = some v ∧ RV K I F L d v
  | _, _, _, _, .nil, e => by simp at e
  | _, _, 0, _, .cons h _, e => by simp at e; subst e; exact ⟨_, rfl, h⟩
  | _, _, i + 1, _, .cons _ r, e => by
    obtain ⟨v, h1, h2⟩ := RVs.get (i := i) r (by simpa using e)
    exact ⟨v, by simpa using h1, h2⟩
theorem RVs.get' {F : Hp} {L : List Addr} : ∀ {ds : List D} {vs : List V} {i : Nat} {v : V}, RVs K I F L ds vs → vs[i]? = some v → ∃ d, ds[i]? = some d ∧ RV K I F L d v
  | _, _, _, _, .nil, e => by simp at e
  | _, _, 0, _, .cons h _, e => by simp at e; subst e; exact ⟨_, rfl, h⟩
  | _, _, i + 1, _, .cons _ r, e => by
    obtain ⟨v, h1, h2⟩ := RVs.get' (i := i) r (by simpa using e)
    exact ⟨v, by simpa using h1, h2⟩
theorem RVs.append {F : Hp} {L : List Addr} : ∀ {ds es : List D} {vs us : List V}, RVs K I F L ds vs → RVs K I F L es us → RVs K I F L (ds ++ es) (vs ++ us)
  | _, _, _, _, .nil, r => r
  | _, _, _, _, .cons h t, r => .cons h (RVs.append t r)
theorem RVs.set {F : Hp} {L : List Addr} : ∀ {ds : List D} {vs : List V} {d : D} {v : V} (i : Nat), RVs K I F L ds vs → RV K I F L d v → RVs K I F L (ds.set i d) (vs.set i v)
  | _, _, _, _, _, .nil, _ => .nil
  | _, _, _, _, 0, .cons _ t, r => .cons r t
  | _, _, _, _, i + 1, .cons h t, r => .cons h (RVs.set i t r)
theorem RVs.take {F : Hp} {L : List Addr} : ∀ {ds : List D} {vs : List V} (n : Nat), RVs K I F L ds vs → RVs K I F L (ds.take n) (vs.take n)
  | _, _, 0, _ => .nil
  | _, _, _ + 1, .nil => .nil
  | _, _, n + 1, .cons h t => .cons h (RVs.take n t)
theorem RVs.drop {F : Hp} {L : List Addr} : ∀ {ds : List D} {vs : List V} (n : Nat), RVs K I F L ds vs → RVs K I F L (ds.drop n) (vs.drop n)
  | _, _, 0, r => r
  | _, _, _ + 1, .nil => .nil
  | _, _, n + 1, .cons _ t => RVs.drop n t
theorem RVs.reverse {F : Hp} {L : List Addr} : ∀ {ds : List D} {vs : List V}, RVs K I F L ds vs → RVs K I F L ds.reverse vs.reverse
  | _, _, .nil => .nil
  | _, _, .cons h t => by
    rw [List.reverse_cons, List.reverse_cons]
    exact (RVs.reverse t).append (.cons h .nil)
end

/-- a cell as it stands at a -/
def CellAt (K : PySem.W.Frag) (I : Ob) (F : Hp) (L : List Addr) (H : Hp) (a : Addr) : Cell → Prop
  | .dead => True
  | .lst ds => F a = none ∧ ∃ vs, H a = some (.lst vs) ∧ RVs K I F L ds vs
  | .dct kvs => F a = none ∧ ∃ vs, H a = some (.dK vs) ∧ kvs.map (·.1) = vs.map (·.1) ∧ RVs K I F L (kvs.map (·.2)) (vs.map (·.2))
  | .ins C fs => F a = none ∧ ∃ dx vs, H a = some (.ins C dx vs) ∧ fs.map (·.1) = vs.map (·.1) ∧ RVs K I F L (fs.map (·.2)) (vs.map (·.2))

/-- the table at P: its code objects are told, each with the name q -/
def TabD (F H : Hp) (P : Addr) (q : Str) : Prop := ∃ ps : Array Value, H P = some (.tbl ps) ∧ TriplesOk ps.toList ∧ ∀ (pos : Pos) (cv : Value), codeAmong pos ps.toList = some cv → ∃ c, cv = .ref c ∧ F c = some (LamX.CodeO c q)
theorem TabD.mono {F F' H H' : Hp} {P : Addr} {q : Str} (t : TabD F H P q) (s : Sub F F') (h : H' P = H P) : TabD F' H' P q := by
  obtain ⟨ps, h1, h2, h3⟩ := t
  exact ⟨ps, h.trans h1, h2, fun pos cv e => let ⟨c, e1, e2⟩ := h3 pos cv e; ⟨c, e1, s _ _ e2⟩⟩
structure OkH (K : PySem.W.Frag) (I : Ob) (F : Hp) (L : List Addr) (H : Hp) (O : Sto) : Prop where
  sub : Sub F H
  nd : ∀ (i j : Nat) (a : Addr), L[i]? = some a → L[j]? = some a → i = j
  len : L.length = O.length
  has : ∀ (k : Nat) (a : Addr), L[k]? = some a → ∃ o, H a = some o
  tab : ∀ p ∈ I.T, F p.1 = none ∧ p.1 ∉ L ∧ TabD F H p.1 p.2
  cell : ∀ (k : Nat) (a : Addr) (c : Cell), L[k]? = some a → O[k]? = some c → CellAt K I F L H a c

structure Nxt (F : Hp) (L : List Addr) (H F' : Hp) (L' : List Addr) (H' : Hp) : Prop where
  sub : Sub F F'
  pre : Pre L L'
  frm : ∀ a o, H a = some o → a ∉ L → (∀ ps, o ≠ .tbl ps) → H' a = some o
  tbl : ∀ a ps, H a = some (.tbl ps) → a ∉ L → ∃ ps', H' a = some (.tbl ps')
  new : ∀ a, a ∈ L' → a ∉ L → H a = none
  nwF : ∀ a o, F' a = some o → F a = none → a ∉ L → H a = none
theorem Nxt.refl (F : Hp) (L : List Addr) (H : Hp) : Nxt F L H F L H := ⟨.refl _, .refl _, fun _ _ h _ _ => h, fun _ ps h _ => ⟨ps, h⟩, fun _ h n => absurd h n, fun _ _ h n _ => by rw [h] at n; cases n⟩
/-- what was there is there -/
theorem Nxt.there {F H F' H' : Hp} {L L' : List Addr} (n : Nxt F L H F' L' H') {a : Addr} {o : HO} (h : H a = some o) (m : a ∉ L) : ∃ u, H' a = some u := by
  by_cases t : ∃ ps, o = .tbl ps
  · obtain ⟨ps, rfl⟩ := t
    obtain ⟨ps', e⟩ := n.tbl a ps h m
    exact ⟨_, e⟩
  · exact ⟨o, n.frm a o h m fun ps z => t ⟨ps, z⟩⟩
theorem Nxt.trans {F F1 F2 H H1 H2 : Hp} {L L1 L2 : List Addr} (a : Nxt F L H F1 L1 H1) (b : Nxt F1 L1 H1 F2 L2 H2) : Nxt F L H F2 L2 H2 where
  sub := a.sub.trans b.sub
  pre := a.pre.trans b.pre
  frm := fun x o h n t => b.frm x o (a.frm x o h n t) (fun z => by
    have := a.new x z n
    rw [h] at this; cases this) t
  tbl := fun x ps h n => by
    obtain ⟨ps', e⟩ := a.tbl x ps h n
    exact b.tbl x ps' e fun z => by
      have := a.new x z n
      rw [h] at this; cases this
  new := fun x h n => by
    by_cases z : x ∈ L1
    · exact a.new x z n
    · have q := b.new x h z
      cases e : H x with
      | none => rfl
      | some o => obtain ⟨u, w⟩ := a.there e n; rw [w] at q; cases q
  nwF := fun x o h n m => by
    cases e1 : F1 x with
    | some u => exact a.nwF x u e1 n m
    | none =>
      by_cases z : x ∈ L1
      · exact a.new x z m
      · have q := b.nwF x o h e1 z
        cases e : H x with
        | none => rfl
        | some o => obtain ⟨u, w⟩ := a.there e m; rw [w] at q; cases q

/-- the slots -/
def Sl (K : PySem.W.Frag) (I : Ob) (F : Hp) (L : List Addr) (ρ : Rho) (σ : L2.St) : Prop :=
  σ.length = ρ.length ∧ ∀ (i : Nat) (d : D), ρ[i]? = some (some d) → ∃ v, σ[i]? = some (some v) ∧ RV K I F L d v
section
variable {K : PySem.W.Frag} {I : Ob} {F F' H H' : Hp} {L L' : List Addr} {ρ : Rho} {σ : L2.St} {O : Sto}
theorem Sl.mono (hI : IMono I) (s : Sub F F') (p : Pre L L') (h : Sl K I F L ρ σ) : Sl K I F' L' ρ σ :=
  ⟨h.1, fun i d e => let ⟨v, h1, h2⟩ := h.2 i d e; ⟨v, h1, h2.mono hI s p⟩⟩
theorem Sl.set {i : Nat} {d : D} {v : V} (h : Sl K I F L ρ σ) (r : RV K I F L d v) : Sl K I F L (ρ.set i (some d)) (σ.set i (some v)) := by
  refine ⟨by rw [List.length_set, List.length_set]; exact h.1, fun j e q => ?_⟩
  by_cases hj : i = j
  · subst hj
    by_cases hl : i < ρ.length
    · rw [List.getElem?_set_self hl] at q
      cases q
      exact ⟨v, List.getElem?_set_self (by rw [h.1]; exact hl), r⟩
    · rw [List.getElem?_eq_none (by rw [List.length_set]; omega)] at q; cases q
  · rw [List.getElem?_set_ne hj] at q ⊢
    exact h.2 j e q
/-- less is told -/
def Les (ρ ρ' : Rho) : Prop := ρ.length = ρ'.length ∧ ∀ (i : Nat) (d : D), ρ'[i]? = some (some d) → ρ[i]? = some (some d)
theorem Sl.les {ρ' : Rho} (h : Sl K I F L ρ σ) (l : Les ρ ρ') : Sl K I F L ρ' σ := ⟨h.1.trans l.1, fun i d e => h.2 i d (l.2 i d e)⟩
theorem Les.refl (ρ : Rho) : Les ρ ρ := ⟨rfl, fun _ _ h => h⟩
theorem Les.cons {o : Option D} {ρ ρ' : Rho} (h : Les ρ ρ') : Les (o :: ρ) (o :: ρ') := ⟨by simp [h.1], fun i d e => by
  cases i with
  | zero => exact e
  | succ i => exact h.2 i d e⟩
theorem Les.cut {o : Option D} {ρ ρ' : Rho} (h : Les ρ ρ') : Les (o :: ρ) (none :: ρ') := ⟨by simp [h.1], fun i d e => by
  cases i with
  | zero => simp at e
  | succ i => exact h.2 i d e⟩
end

/-! ### big steps -/
variable (K : PySem.W.Frag) (I : Ob)
def Ev (t : TE) (ρ : Rho) (O : Sto) (d : D) (O' : Sto) : Prop := ∀ (σ : L2.St) (F : Hp) (L : List Addr) (H : Hp), OkH K I F L H O → Sl K I F L ρ σ →
  ∀ Q : VK, (∀ v F' L' H', Nxt F L H F' L' H' → OkH K I F' L' H' O' → RV K I F' L' d v → Q v H') → t σ H Q
def EvT (t : TT) (ρ : Rho) (O : Sto) (b : Bool) (O' : Sto) : Prop := ∀ (σ : L2.St) (F : Hp) (L : List Addr) (H : Hp), OkH K I F L H O → Sl K I F L ρ σ →
  ∀ Q : Bool → Hp → Prop, (∀ F' L' H', Nxt F L H F' L' H' → OkH K I F' L' H' O' → Q b H') → t σ H Q
def EvA (t : TA) (ρ : Rho) (O : Sto) (ds : List D) (O' : Sto) : Prop := ∀ (σ : L2.St) (F : Hp) (L : List Addr) (H : Hp), OkH K I F L H O → Sl K I F L ρ σ →
  ∀ Q : List V → Hp → Prop, (∀ vs F' L' H', Nxt F L H F' L' H' → OkH K I F' L' H' O' → RVs K I F' L' ds vs → Q vs H') → t σ H Q
/-- how a statement ends -/
inductive Out where
  | nx (ρ : Rho) (O : Sto) | rt (d : D) (O : Sto) | bk (ρ : Rho) (O : Sto) | ct (ρ : Rho) (O : Sto)
def EndOk (F : Hp) (L : List Addr) (H : Hp) (E : Ends) : Out → Prop
  | .nx ρ O => ∀ σ F' L' H', Nxt F L H F' L' H' → OkH K I F' L' H' O → Sl K I F' L' ρ σ → E.nx σ H'
  | .bk ρ O => ∀ σ F' L' H', Nxt F L H F' L' H' → OkH K I F' L' H' O → Sl K I F' L' ρ σ → E.bk σ H'
  | .ct ρ O => ∀ σ F' L' H', Nxt F L H F' L' H' → OkH K I F' L' H' O → Sl K I F' L' ρ σ → E.ct σ H'
  | .rt d O => ∀ v F' L' H', Nxt F L H F' L' H' → OkH K I F' L' H' O → RV K I F' L' d v → E.rt v H'
def Sv (t : TS) (ρ : Rho) (O : Sto) (o : Out) : Prop := ∀ (σ : L2.St) (F : Hp) (L : List Addr) (H : Hp), OkH K I F L H O → Sl K I F L ρ σ →
  ∀ E : Ends, EndOk K I F L H E o → t E σ H

/-- what a def answers: its arguments, the store ahead; the answer, the store behind -/
abbrev Fn := List D → Sto → D → Sto → Prop
def spD (R : Fn) : Sp := fun vs H Q _ => ∃ F L O ds d O', OkH K I F L H O ∧ RVs K I F L ds vs ∧ R ds O d O' ∧
  ∀ v F' L' H', Nxt F L H F' L' H' → OkH K I F' L' H' O' → RV K I F' L' d v → Q v H'
end DL
set_option maxRecDepth 100000
namespace DL
open PySem L2 PyProof.Rows PySem.Spec

/-- what stands around a body -/
structure Cn where
  P : Program
  w : World
  K : PySem.W.Frag
  mg : Str → Option Value
  base : Heap
  k : Nat
  I : Ob
  hI : IMono I
/-- a body's names and scope -/
structure Sc where
  N : List Str
  sc : Scope
  cf : Str → Bool := fun _ => true
  /-- a def in which lambdas are made: its name, its code object -/
  lam : Option (Str × Addr) := none
structure InC (c : Cn) (S : Sc) (X : Cx) : Prop where
  P : X.prog = c.P
  w : X.w = c.w
  K : X.K = c.K
  mg : X.mg = c.mg
  base : X.base = c.base
  N : X.N = S.N
  sc : X.env.scope = S.sc
  calm : X.calm = true
  room : Room c.k X.A
  xe : X.xe = fun _ _ => False
  gd : X.A.guards = some []
  fn : ∀ x, S.cf x = true → X.fn x = true
  lm : ∀ q a, S.lam = some (q, a) → X.env.qual = q ∧ X.env.code = .ref a
def InS (c : Cn) (S : Sc) (X : Cx) : Prop := InC c S X ∧ ∃ q L f cd, X.env = envOfC q S.sc L f cd

def visB (sc : Scope) (x : Str) : Bool := match sc.names.lookup x with
  | some .local => true | some .cell => true | some .free => true | _ => false
def locB (sc : Scope) (x : Str) : Bool := match sc.names.lookup x with
  | some .local => true | _ => false
/-- a name that may be given: local, or a cell of one's own -/
def putB (S : Sc) (x : Str) : Bool := match S.sc.names.lookup x with
  | some .local => true | some .cell => S.cf x | _ => false
def glB (sc : Scope) (x : Str) : Bool := match sc.names.lookup x with
  | some .globalImplicit => true | _ => false
theorem visB.vis {sc : Scope} {x : Str} (h : visB sc x = true) : Vis sc x := by
  unfold visB at h
  unfold Vis
  split at h <;> first | (rename_i e; first | exact .inl e | exact .inr (.inl e) | exact .inr (.inr e)) | cases h
theorem locB.loc {sc : Scope} {x : Str} (h : locB sc x = true) : sc.names.lookup x = some .local := by
  unfold locB at h
  split at h
  · rename_i e; exact e
  · cases h
theorem glB.gl {sc : Scope} {x : Str} (h : glB sc x = true) : sc.names.lookup x = some .globalImplicit := by
  unfold glB at h
  split at h
  · rename_i e; exact e
  · cases h

section
variable {c : Cn} {S : Sc} {X : Cx}
theorem InC.put (i : InC c S X) {x : Str} (h : putB S x = true) : L2.Loc X.env.scope x ∧ (X.fn x = true ∨ List.lookup x X.env.scope.names = some .local) := by
  unfold putB at h
  unfold L2.Loc
  rw [i.sc]
  cases e : List.lookup x S.sc.names with
  | none => rw [e] at h; cases h
  | some k =>
    rw [e] at h
    cases k with
    | «local» => exact ⟨.inl rfl, .inr rfl⟩
    | cell => exact ⟨.inr rfl, .inl (i.fn x h)⟩
    | _ => cases h
theorem InC.vis (i : InC c S X) {x : Str} (h : visB S.sc x = true) : Vis X.env.scope x := by rw [i.sc]; exact visB.vis h
theorem InC.gl (i : InC c S X) {x : Str} (h : glB S.sc x = true) : Gl X x := by
  show X.env.scope.names.lookup x = _
  rw [i.sc]; exact glB.gl h
theorem visB.vis' {sc : Scope} {x : Str} (h : visB sc x = true) : Vis sc x := visB.vis h
end

/-- an expression's value -/
def EE (c : Cn) (S : Sc) (e : Expr) (ρ : Rho) (O : Sto) (d : D) (O' : Sto) : Prop := ∃ t, (∀ X, InC c S X → PE X e t) ∧ Ev c.K c.I t ρ O d O'
/-- a test's -/
def ET (c : Cn) (S : Sc) (e : Expr) (ρ : Rho) (O : Sto) (b : Bool) (O' : Sto) : Prop := ∃ t, (∀ X, InC c S X → PT X e t) ∧ EvT c.K c.I t ρ O b O'
def EW (c : Cn) (S : Sc) (e : Expr) (ρ : Rho) (O : Sto) (b : Bool) (O' : Sto) : Prop := ∃ t, (∀ X, InC c S X → PW X e t) ∧ EvT c.K c.I t ρ O b O'
def EA (c : Cn) (S : Sc) (es : List Expr) (ρ : Rho) (O : Sto) (ds : List D) (O' : Sto) : Prop := ∃ t, (∀ X, InC c S X → PA X es t) ∧ EvA c.K c.I t ρ O ds O'
def SS (c : Cn) (S : Sc) (ss : List Stmt) (ρ : Rho) (O : Sto) (o : Out) : Prop := ∃ t, (∀ X, InS c S X → PSs X ss t) ∧ Sv c.K c.I t ρ O o
def S1 (c : Cn) (S : Sc) (st : Stmt) (ρ : Rho) (O : Sto) (o : Out) : Prop := ∃ t, (∀ X, InS c S X → PS X st t) ∧ Sv c.K c.I t ρ O o

/-- by values -/
def SemR (K : PySem.W.Frag) (I : Ob) (F : Hp) (L : List Addr) (H : Hp) (z : D) (O' : Sto) (R : Hp → VK → Prop) : Prop :=
  ∀ Q : VK, (∀ v F' L' H', Nxt F L H F' L' H' → OkH K I F' L' H' O' → RV K I F' L' z v → Q v H') → R H Q
def OpD (c : Cn) (S : Sc) (f : Value → Value → Sem Value) (x y : D) (O : Sto) (z : D) (O' : Sto) : Prop :=
  ∃ r : R2, (∀ X, InC c S X → OpR X f r) ∧ ∀ F L H v u, OkH c.K c.I F L H O → RV c.K c.I F L x v → RV c.K c.I F L y u → SemR c.K c.I F L H z O' (r v u)
def UnD (c : Cn) (S : Sc) (f : Value → Sem Value) (x : D) (O : Sto) (z : D) (O' : Sto) : Prop :=
  ∃ r : V → Hp → VK → Prop, (∀ X, InC c S X → UnR X f r) ∧ ∀ F L H v, OkH c.K c.I F L H O → RV c.K c.I F L x v → SemR c.K c.I F L H z O' (r v)
def CaD (c : Cn) (S : Sc) (f : Value) (ds : List D) (O : Sto) (z : D) (O' : Sto) : Prop :=
  ∃ r : List V → Hp → VK → Prop, (∀ X, InC c S X → CallR X f r) ∧ ∀ F L H vs, OkH c.K c.I F L H O → RVs c.K c.I F L ds vs → SemR c.K c.I F L H z O' (r vs)
def IxD (c : Cn) (S : Sc) (x y : D) (O : Sto) (z : D) (O' : Sto) : Prop :=
  ∃ r : R2, (∀ X, InC c S X → IxR X r) ∧ ∀ F L H v u, OkH c.K c.I F L H O → RV c.K c.I F L x v → RV c.K c.I F L y u → SemR c.K c.I F L H z O' (r v u)

section
variable {c : Cn} {S : Sc} {ρ : Rho} {O O1 O2 O3 : Sto} {a b e : Expr} {es : List Expr} {x y z d : D} {ds : List D} {pos p : Pos}

theorem Ev.fin {K : PySem.W.Frag} {I : Ob} {F : Hp} {L : List Addr} {H : Hp} {Q : VK} {v : V} (ok : OkH K I F L H O) (r : RV K I F L d v)
    (q : ∀ v F' L' H', Nxt F L H F' L' H' → OkH K I F' L' H' O → RV K I F' L' d v → Q v H') : Q v H := q v F L H (.refl _ _ _) ok r

/-! ### names and constants -/
theorem ee_var (i : Nat) {x : Str} (hN : S.N[i]? = some x := by rfl) (hρ : ρ[i]? = some (some d) := by rfl) (hv : visB S.sc x = true := by first | decide +kernel | kernel_rfl | exact of_decide_eq_true (by kernel_rfl))
    (hd : (x == ("__debug__" : Str)) = false := by first | decide +kernel | kernel_rfl | exact of_decide_eq_true (by kernel_rfl)) (hcd : (x == ("__classdict__" : Str)) = false := by first | decide +kernel | kernel_rfl | exact of_decide_eq_true (by kernel_rfl)) : EE c S (.Name x p) ρ O d O :=
  ⟨tVar i, fun X j => pe_var (by rw [j.N]; exact hN) (j.vis hv) hd hcd, fun σ F L H ok sl Q q => let ⟨v, h1, h2⟩ := sl.2 i d hρ; ⟨v, h1, q v F L H (.refl _ _ _) ok h2⟩⟩
theorem ee_int {i j} : EE c S (.Constant (.int i) j p) ρ O (.int i) O := ⟨_, fun _ _ => pe_int, fun _ F L H ok _ Q q => q _ F L H (.refl _ _ _) ok .int⟩
theorem ee_bl {i j} : EE c S (.Constant (.bool i) j p) ρ O (.bl i) O := ⟨_, fun _ _ => pe_bl, fun _ F L H ok _ Q q => q _ F L H (.refl _ _ _) ok .bl⟩
theorem ee_non {j} : EE c S (.Constant .none j p) ρ O .non O := ⟨_, fun _ _ => pe_non, fun _ F L H ok _ Q q => q _ F L H (.refl _ _ _) ok .non⟩
theorem ee_str {i j} : EE c S (.Constant (.str i) j p) ρ O (.str i) O := ⟨_, fun _ _ => pe_str, fun _ F L H ok _ Q q => q _ F L H (.refl _ _ _) ok .str⟩

/-! ### operators -/
theorem ev_bin {K : PySem.W.Frag} {I : Ob} (hI : IMono I) {r : R2} {ta tb : TE} (ha : Ev K I ta ρ O x O1) (hb : Ev K I tb ρ O1 y O2)
    (ho : ∀ F L H v u, OkH K I F L H O2 → RV K I F L x v → RV K I F L y u → SemR K I F L H z O3 (r v u)) : Ev K I (tOp r ta tb) ρ O z O3 := by
  intro σ F L H ok sl Q q
  refine ha σ F L H ok sl _ fun v F1 L1 H1 n1 ok1 rv => ?_
  refine hb σ F1 L1 H1 ok1 (sl.mono hI n1.sub n1.pre) _ fun u F2 L2 H2 n2 ok2 ru => ?_
  exact ho F2 L2 H2 v u ok2 (rv.mono hI n2.sub n2.pre) ru Q fun w F3 L3 H3 n3 ok3 rw => q w F3 L3 H3 ((n1.trans n2).trans n3) ok3 rw
theorem ee_op {op : Operator} (ha : EE c S a ρ O x O1) (hb : EE c S b ρ O1 y O2) (ho : OpD c S (binaryOp op) x y O2 z O3) : EE c S (.BinOp a op b pos) ρ O z O3 := by
  obtain ⟨ta, pa, va⟩ := ha
  obtain ⟨tb, pb, vb⟩ := hb
  obtain ⟨r, pr, vr⟩ := ho
  exact ⟨_, fun X j => pe_op (pr X j) (pa X j) (pb X j), ev_bin c.hI va vb vr⟩
theorem ee_un {op : UnaryOp} (ha : EE c S a ρ O x O1) (ho : UnD c S (unaryOp op) x O1 z O2) : EE c S (.UnaryOp op a pos) ρ O z O2 := by
  obtain ⟨ta, pa, va⟩ := ha
  obtain ⟨r, pr, vr⟩ := ho
  refine ⟨_, fun X j => pe_un (pr X j) (pa X j), ?_⟩
  intro σ F L H ok sl Q q
  refine va σ F L H ok sl _ fun v F1 L1 H1 n1 ok1 rv => ?_
  exact vr F1 L1 H1 v ok1 rv Q fun w F3 L3 H3 n3 ok3 rw => q w F3 L3 H3 (n1.trans n3) ok3 rw
theorem ee_ix (ha : EE c S a ρ O x O1) (hb : EE c S b ρ O1 y O2) (ho : IxD c S x y O2 z O3) (hs : PlainIx b := by exact fun _ _ => rfl) : EE c S (.Subscript a b pos) ρ O z O3 := by
  obtain ⟨ta, pa, va⟩ := ha
  obtain ⟨tb, pb, vb⟩ := hb
  obtain ⟨r, pr, vr⟩ := ho
  exact ⟨_, fun X j => pe_ix (pr X j) (pa X j) (pb X j) hs, ev_bin c.hI va vb vr⟩
theorem ee_cmp {op : CmpOp} (ha : EE c S a ρ O x O1) (hb : EE c S b ρ O1 y O2) (ho : OpD c S (compareOp op) x y O2 z O3) (hm : behindInMarks op b = false := by first | exact nomark _ | rfl) : EE c S (.Compare a [op] [b] pos) ρ O z O3 := by
  obtain ⟨ta, pa, va⟩ := ha
  obtain ⟨tb, pb, vb⟩ := hb
  obtain ⟨r, pr, vr⟩ := ho
  exact ⟨_, fun X j => pe_cmpR (pr X j) (pa X j) (pb X j) hm, ev_bin c.hI va vb vr⟩
theorem et_cmp {op : CmpOp} {k : Bool} (ha : EE c S a ρ O x O1) (hb : EE c S b ρ O1 y O2) (ho : OpD c S (compareOp op) x y O2 (.bl k) O3) (hm : behindInMarks op b = false := by first | exact nomark _ | rfl) : ET c S (.Compare a [op] [b] pos) ρ O k O3 := by
  obtain ⟨ta, pa, va⟩ := ha
  obtain ⟨tb, pb, vb⟩ := hb
  obtain ⟨r, pr, vr⟩ := ho
  refine ⟨_, fun X j => pt_cmpR (pr X j) (pa X j) (pb X j) hm, ?_⟩
  intro σ F L H ok sl Q q
  refine ev_bin c.hI va vb vr σ F L H ok sl _ fun v F1 L1 H1 n1 ok1 rv => ?_
  cases rv
  exact ⟨k, rfl, q F1 L1 H1 n1 ok1⟩

/-! ### tests -/
theorem et_val {k : Bool} (ha : EE c S e ρ O (.bl k) O1) (h : ∀ env whole, PySem.isTrue e env whole = (do let v ← whole; standAt e.pos; holding [v] (truthy v)) := by intro _ _; rfl) : ET c S e ρ O k O1 := by
  obtain ⟨ta, pa, va⟩ := ha
  refine ⟨_, fun X j => pt_val (pa X j) (h _), ?_⟩
  intro σ F L H ok sl Q q
  refine va σ F L H ok sl _ fun v F1 L1 H1 n1 ok1 rv => ?_
  cases rv
  exact ⟨k, rfl, q F1 L1 H1 n1 ok1⟩
theorem et_not {k : Bool} (ha : ET c S a ρ O k O1) : ET c S (.UnaryOp .Not a pos) ρ O (!k) O1 := by
  obtain ⟨ta, pa, va⟩ := ha
  refine ⟨_, fun X j => pt_not (pa X j), ?_⟩
  intro σ F L H ok sl Q q
  exact va σ F L H ok sl _ fun F1 L1 H1 n1 ok1 => q F1 L1 H1 n1 ok1
theorem et_w {k : Bool} (h : EW c S e ρ O k O1) : ET c S e ρ O k O1 := let ⟨t, p, v⟩ := h; ⟨t, fun X j => (p X j).pt, v⟩
theorem ew_and1 {k : Bool} (ha : ET c S a ρ O k O1) : EW c S (.BoolOp .And [a] pos) ρ O k O1 := let ⟨t, p, v⟩ := ha; ⟨t, fun X j => pw_and1 (p X j), v⟩
theorem ew_or1 {k : Bool} (ha : ET c S a ρ O k O1) : EW c S (.BoolOp .Or [a] pos) ρ O k O1 := let ⟨t, p, v⟩ := ha; ⟨t, fun X j => pw_or1 (p X j), v⟩
/-- a false first part: the rest is some term, not asked -/
theorem ew_andT {k : Bool} (ha : ET c S a ρ O true O1) (hb : EW c S (.BoolOp .And (b :: es) pos) ρ O1 k O2) : EW c S (.BoolOp .And (a :: b :: es) pos) ρ O k O2 := by
  obtain ⟨ta, pa, va⟩ := ha
  obtain ⟨tb, pb, vb⟩ := hb
  refine ⟨_, fun X j => pw_and (pa X j) (pb X j), ?_⟩
  intro σ F L H ok sl Q q
  refine va σ F L H ok sl _ fun F1 L1 H1 n1 ok1 => ?_
  rw [if_pos rfl]
  exact vb σ F1 L1 H1 ok1 (sl.mono c.hI n1.sub n1.pre) _ fun F2 L2 H2 n2 ok2 => q F2 L2 H2 (n1.trans n2) ok2
theorem pw_no {X : Cx} : PW X e (fun _ _ _ => False) := ⟨fun _ _ _ _ _ _ _ h => h.elim⟩
theorem pe_no {X : Cx} : PE X e (fun _ _ _ => False) := ⟨fun _ _ _ _ _ _ h => h.elim⟩
theorem pss_no {X : Cx} {ss : List Stmt} : PSs X ss (fun _ _ _ => False) := ⟨fun _ _ _ _ _ _ h => h.elim⟩
theorem ew_andF (ha : ET c S a ρ O false O1) : EW c S (.BoolOp .And (a :: b :: es) pos) ρ O false O1 := by
  obtain ⟨ta, pa, va⟩ := ha
  refine ⟨_, fun X j => pw_and (pa X j) pw_no, ?_⟩
  intro σ F L H ok sl Q q
  refine va σ F L H ok sl _ fun F1 L1 H1 n1 ok1 => ?_
  rw [if_neg Bool.false_ne_true]
  exact q F1 L1 H1 n1 ok1
theorem ew_orF {k : Bool} (ha : ET c S a ρ O false O1) (hb : EW c S (.BoolOp .Or (b :: es) pos) ρ O1 k O2) : EW c S (.BoolOp .Or (a :: b :: es) pos) ρ O k O2 := by
  obtain ⟨ta, pa, va⟩ := ha
  obtain ⟨tb, pb, vb⟩ := hb
  refine ⟨_, fun X j => pw_or (pa X j) (pb X j), ?_⟩
  intro σ F L H ok sl Q q
  refine va σ F L H ok sl _ fun F1 L1 H1 n1 ok1 => ?_
  rw [if_neg Bool.false_ne_true]
  exact vb σ F1 L1 H1 ok1 (sl.mono c.hI n1.sub n1.pre) _ fun F2 L2 H2 n2 ok2 => q F2 L2 H2 (n1.trans n2) ok2
theorem ew_orT (ha : ET c S a ρ O true O1) : EW c S (.BoolOp .Or (a :: b :: es) pos) ρ O true O1 := by
  obtain ⟨ta, pa, va⟩ := ha
  refine ⟨_, fun X j => pw_or (pa X j) pw_no, ?_⟩
  intro σ F L H ok sl Q q
  refine va σ F L H ok sl _ fun F1 L1 H1 n1 ok1 => ?_
  rw [if_pos rfl]
  exact q F1 L1 H1 n1 ok1
end
end DL
set_option maxRecDepth 100000
namespace DL
open PySem L2 PyProof.Rows PySem.Spec

/-! ### what one may reach: the sum of all terms -/
def supE (c : Cn) (S : Sc) (e : Expr) : TE := fun σ H Q => ∃ t, (∀ X, InC c S X → PE X e t) ∧ t σ H Q
def supT (c : Cn) (S : Sc) (e : Expr) : TT := fun σ H Q => ∃ t, (∀ X, InC c S X → PT X e t) ∧ t σ H Q
def supS (c : Cn) (S : Sc) (ss : List Stmt) : TS := fun E σ H => ∃ t, (∀ X, InS c S X → PSs X ss t) ∧ t E σ H
def supG (c : Cn) (S : Sc) (e : Expr) : TG := fun v σ H Q => ∃ t, (∀ X, InC c S X → PG X e t) ∧ t v σ H Q
section
variable {c : Cn} {S : Sc} {X : Cx} {e : Expr} {ss : List Stmt}
theorem p_supE (i : InC c S X) : PE X e (supE c S e) := ⟨fun pins s σ H Q I h => let ⟨t, p, q⟩ := h; (p X i).run pins s σ H Q I q⟩
theorem p_supT (i : InC c S X) : PT X e (supT c S e) := ⟨fun pins s σ H Q I h => let ⟨t, p, q⟩ := h; (p X i).run pins s σ H Q I q⟩
theorem p_supS (i : InS c S X) : PSs X ss (supS c S ss) := ⟨fun pins s σ H E I h => let ⟨t, p, q⟩ := h; (p X i).run pins s σ H E I q⟩
theorem p_supG (i : InC c S X) : PG X e (supG c S e) := ⟨fun pins s σ H x v Q I r h => let ⟨t, p, q⟩ := h; (p X i).run pins s σ H x v Q I r q⟩
variable {ρ : Rho} {O O' : Sto} {d : D} {b : Bool} {o : Out}
theorem EE.sup (h : EE c S e ρ O d O') : Ev c.K c.I (supE c S e) ρ O d O' := let ⟨t, p, v⟩ := h; fun σ F L H ok sl Q q => ⟨t, p, v σ F L H ok sl Q q⟩
theorem ET.sup (h : ET c S e ρ O b O') : EvT c.K c.I (supT c S e) ρ O b O' := let ⟨t, p, v⟩ := h; fun σ F L H ok sl Q q => ⟨t, p, v σ F L H ok sl Q q⟩
theorem SS.sup (h : SS c S ss ρ O o) : Sv c.K c.I (supS c S ss) ρ O o := let ⟨t, p, v⟩ := h; fun σ F L H ok sl E q => ⟨t, p, v σ F L H ok sl E q⟩
end

/-! ### the abstract store -/
section
variable {K : PySem.W.Frag} {I : Ob} {F H : Hp} {L : List Addr} {O : Sto} {a p : Addr} {o : HO} {ds : List D} {vs : List V} {cl : Cell} {k : Nat}
theorem CellAt.mono (hI : IMono I) {F' H' : Hp} {L' : List Addr} (s : Sub F F') (q : Pre L L') (hf : cl ≠ .dead → F a = none → F' a = none) (hh : H' a = H a) (h : CellAt K I F L H a cl) : CellAt K I F' L' H' a cl := by
  cases cl with
  | dead => trivial
  | lst ds => obtain ⟨h0, vs, h1, h2⟩ := h; exact ⟨hf (by simp) h0, vs, hh.trans h1, h2.mono hI s q⟩
  | dct kvs => obtain ⟨h0, vs, h1, h2, h3⟩ := h; exact ⟨hf (by simp) h0, vs, hh.trans h1, h2, h3.mono hI s q⟩
  | ins C fs => obtain ⟨h0, dx, vs, h1, h2, h3⟩ := h; exact ⟨hf (by simp) h0, dx, vs, hh.trans h1, h2, h3.mono hI s q⟩
theorem OkH.out (ok : OkH K I F L H O) (hp : H p = none) : p ∉ L := fun z => by
  obtain ⟨k, hk⟩ := List.getElem?_of_mem z
  obtain ⟨o, ho⟩ := ok.has k p hk
  rw [hp] at ho; cases ho
theorem mem_of_get {L : List Addr} {k : Nat} {a : Addr} (h : L[k]? = some a) : a ∈ L := List.mem_of_getElem? h
/-- the tables where nothing but a free place p is filled -/
theorem OkH.tabUp {F' H' : Hp} (ok : OkH K I F L H O) (s : Sub F F') (hp : H p = none) (h1 : ∀ a, F a = none → a ≠ p → F' a = none) (h2 : ∀ a, a ≠ p → H' a = H a) : ∀ t ∈ I.T, F' t.1 = none ∧ t.1 ∉ L ∧ TabD F' H' t.1 t.2 := fun t ht => by
  obtain ⟨a, b, d⟩ := ok.tab t ht
  have hne : t.1 ≠ p := fun z => by obtain ⟨ps, e, _⟩ := d; rw [z, hp] at e; cases e
  exact ⟨h1 _ a hne, b, d.mono s (h2 _ hne)⟩
/-- a new object, told or not -/
theorem OkH.put (hI : IMono I) (ok : OkH K I F L H O) (hp : H p = none) : OkH K I (upd F p o) L (upd H p o) O ∧ Nxt F L H (upd F p o) L (upd H p o) := by
  have hF : F p = none := ok.sub.none hp
  have hn := ok.out hp
  refine ⟨⟨ok.sub.upd2, ok.nd, ok.len, fun k a e => ?_, ok.tabUp (Sub.up hF) hp (fun a n e => by rw [upd_ne e]; exact n) (fun a e => upd_ne e), fun k a c e q => ?_⟩, ⟨Sub.up hF, .refl _, fun a u e _ _ => by rw [upd_ne (ne_of_none e hp)]; exact e, fun a ps e _ => ⟨ps, by rw [upd_ne (ne_of_none e hp)]; exact e⟩, fun _ h n => absurd h n, fun a u e n _ => by
    by_cases ha : a = p
    · rw [ha]; exact hp
    · rw [upd_ne ha, n] at e; cases e⟩⟩
  · obtain ⟨u, hu⟩ := ok.has k a e
    exact ⟨u, by rw [upd_ne (ne_of_none hu hp)]; exact hu⟩
  · have hne : a ≠ p := fun z => hn (z ▸ mem_of_get e)
    exact (ok.cell k a c e q).mono hI (Sub.up hF) (.refl _) (fun _ h => by rw [upd_ne hne]; exact h) (upd_ne hne)
theorem OkH.junk (hI : IMono I) (ok : OkH K I F L H O) (hp : H p = none) : OkH K I F L (upd H p o) O ∧ Nxt F L H F L (upd H p o) := by
  have hn := ok.out hp
  refine ⟨⟨ok.sub.upd hp, ok.nd, ok.len, fun k a e => ?_, ok.tabUp (.refl _) hp (fun a n _ => n) (fun a e => upd_ne e), fun k a c e q => ?_⟩, ⟨.refl _, .refl _, fun a u e _ _ => by rw [upd_ne (ne_of_none e hp)]; exact e, fun a ps e _ => ⟨ps, by rw [upd_ne (ne_of_none e hp)]; exact e⟩, fun _ h n => absurd h n, fun _ _ h n _ => by rw [h] at n; cases n⟩⟩
  · obtain ⟨u, hu⟩ := ok.has k a e
    exact ⟨u, by rw [upd_ne (ne_of_none hu hp)]; exact hu⟩
  · have hne : a ≠ p := fun z => hn (z ▸ mem_of_get e)
    exact (ok.cell k a c e q).mono hI (.refl _) (.refl _) (fun _ h => h) (upd_ne hne)
/-- a new cell -/
theorem OkH.cellNew (hI : IMono I) (ok : OkH K I F L H O) (hp : H p = none) (hc : CellAt K I F (L ++ [p]) (upd H p o) p cl) : OkH K I F (L ++ [p]) (upd H p o) (O ++ [cl]) ∧ Nxt F L H F (L ++ [p]) (upd H p o) := by
  have hn := ok.out hp
  have hF : F p = none := ok.sub.none hp
  have get : ∀ {k : Nat} {a : Addr}, (L ++ [p])[k]? = some a → (L[k]? = some a ∧ a ≠ p ∧ k < L.length) ∨ (k = L.length ∧ a = p) := fun {k a} e => by
    by_cases hk : k < L.length
    · rw [List.getElem?_append_left hk] at e
      exact .inl ⟨e, fun z => hn (z ▸ mem_of_get e), hk⟩
    · rw [List.getElem?_append_right (by omega)] at e
      have : k - L.length = 0 := by
        have := (List.getElem?_eq_some_iff.mp e).1
        simp at this; omega
      rw [this] at e
      simp at e
      exact .inr ⟨by omega, e.symm⟩
  refine ⟨⟨ok.sub.upd hp, fun i j a h1 h2 => ?_, by simp [ok.len], fun k a e => ?_, fun t ht => ?tt, fun k a c e q => ?_⟩, ⟨.refl _, .app _ _, fun a u e _ _ => by rw [upd_ne (ne_of_none e hp)]; exact e, fun a ps e _ => ⟨ps, by rw [upd_ne (ne_of_none e hp)]; exact e⟩, fun a h n => ?_, fun _ _ h n _ => by rw [h] at n; cases n⟩⟩
  · rcases get h1 with ⟨e1, n1, l1⟩ | ⟨e1, rfl⟩ <;> rcases get h2 with ⟨e2, n2, l2⟩ | ⟨e2, z⟩
    · exact ok.nd i j a e1 e2
    · exact absurd z n1
    · exact absurd rfl n2
    · omega
  · rcases get e with ⟨e1, n1, _⟩ | ⟨_, rfl⟩
    · obtain ⟨u, hu⟩ := ok.has k a e1
      exact ⟨u, by rw [upd_ne n1]; exact hu⟩
    · exact ⟨o, upd_same⟩
  case tt =>
    obtain ⟨x1, x2, x3⟩ := ok.tabUp (F' := F) (H' := upd H p o) (.refl _) hp (fun a n _ => n) (fun a e => upd_ne e) t ht
    refine ⟨x1, fun z => ?_, x3⟩
    rcases List.mem_append.mp z with z | z
    · exact x2 z
    · obtain ⟨ps, e, _⟩ := (ok.tab t ht).2.2
      rw [List.mem_singleton.mp z, hp] at e; cases e
  · rcases get e with ⟨e1, n1, l1⟩ | ⟨e1, rfl⟩
    · rw [List.getElem?_append_left (by rw [← ok.len]; exact l1)] at q
      exact (ok.cell k a c e1 q).mono hI (.refl _) (.app _ _) (fun _ h => h) (upd_ne n1)
    · have : k = O.length := by rw [← ok.len]; exact e1
      subst this
      simp at q
      subst q
      exact hc
  · rcases List.mem_append.mp h with z | z
    · exact absurd z n
    · rw [List.mem_singleton.mp z]; exact hp
/-- a cell is changed -/
theorem OkH.write (hI : IMono I) (ok : OkH K I F L H O) (ha : L[k]? = some a) (hF : F a = none) (hc : CellAt K I F L (upd H a o) a cl) : OkH K I F L (upd H a o) (O.set k cl) ∧ Nxt F L H F L (upd H a o) := by
  refine ⟨⟨fun b u e => ?_, ok.nd, by simp [ok.len], fun j b e => ?_, fun t ht => let ⟨x1, x2, x3⟩ := ok.tab t ht; ⟨x1, x2, x3.mono (.refl _) (upd_ne fun z => x2 (z ▸ mem_of_get ha))⟩, fun j b c e q => ?_⟩, ⟨.refl _, .refl _, fun b u e n _ => by rw [upd_ne (show b ≠ a from fun z => n (z ▸ mem_of_get ha))]; exact e, fun b ps e n => ⟨ps, by rw [upd_ne (show b ≠ a from fun z => n (z ▸ mem_of_get ha))]; exact e⟩, fun _ h n => absurd h n, fun _ _ h n _ => by rw [h] at n; cases n⟩⟩
  · rw [upd_ne (ne_of_none e hF)]; exact ok.sub b u e
  · by_cases hb : b = a
    · subst hb; exact ⟨o, upd_same⟩
    · obtain ⟨u, hu⟩ := ok.has j b e
      exact ⟨u, by rw [upd_ne hb]; exact hu⟩
  · by_cases hj : k = j
    · subst hj
      rw [ha] at e; cases e
      have : k < O.length := by rw [← ok.len]; exact (List.getElem?_eq_some_iff.mp ha).1
      rw [List.getElem?_set_self this] at q
      cases q; exact hc
    · rw [List.getElem?_set_ne hj] at q
      have hb : b ≠ a := fun z => hj (ok.nd k j a ha (z ▸ e))
      exact (ok.cell j b c e q).mono hI (.refl _) (.refl _) (fun _ h => h) (upd_ne hb)
/-- a list cell that is not changed any more -/
theorem OkH.freeze (hI : IMono I) (ok : OkH K I F L H O) (hk : O[k]? = some (.lst ds)) :
    ∃ (a : Addr) (vs : List V), L[k]? = some a ∧ OkH K I (upd F a (.lst vs)) L H (O.set k .dead) ∧ Nxt F L H (upd F a (.lst vs)) L H ∧ RV K I (upd F a (.lst vs)) L (.lst ds) (.ref a) := by
  have hl : k < L.length := by rw [ok.len]; exact (List.getElem?_eq_some_iff.mp hk).1
  have ha : L[k]? = some L[k] := List.getElem?_eq_getElem hl
  obtain ⟨hF, vs, h1, h2⟩ := ok.cell k _ _ ha hk
  refine ⟨L[k], vs, ha, ⟨fun b u e => ?_, ok.nd, by simp [ok.len], ok.has, fun t ht => let ⟨x1, x2, x3⟩ := ok.tab t ht; ⟨by rw [upd_ne (show t.1 ≠ L[k] from fun z => x2 (by rw [z]; exact mem_of_get ha))]; exact x1, x2, x3.mono (Sub.up hF) rfl⟩, fun j b c e q => ?_⟩, ⟨Sub.up hF, .refl _, fun _ _ e _ _ => e, fun _ ps e _ => ⟨ps, e⟩, fun _ h n => absurd h n, fun b u e n m => by
    by_cases hb : b = L[k]
    · exact absurd (hb ▸ mem_of_get ha) m
    · rw [upd_ne hb, n] at e; cases e⟩, .lst upd_same (h2.mono hI (Sub.up hF) (.refl _))⟩
  · by_cases hb : b = L[k]
    · subst hb; rw [upd_same] at e; cases e; exact h1
    · rw [upd_ne hb] at e; exact ok.sub b u e
  · by_cases hj : k = j
    · subst hj
      rw [List.getElem?_set_self (by rw [← ok.len]; exact hl)] at q
      cases q; trivial
    · rw [List.getElem?_set_ne hj] at q
      have hb : b ≠ L[k] := fun z => hj (ok.nd k j _ ha (z ▸ e))
      exact (ok.cell j b c e q).mono hI (Sub.up hF) (.refl _) (fun _ h => by rw [upd_ne hb]; exact h) rfl
end

section
variable {c : Cn} {S : Sc} {ρ ρ' : Rho} {O O1 O2 O3 : Sto} {a b e cnd : Expr} {es : List Expr} {x y z d : D} {ds : List D} {pos p : Pos} {x1 : Nat} {st : Stmt} {ss s1 s2 : List Stmt} {o : Out}

/-! ### expressions of expressions -/
theorem ee_ifT (ht : ET c S cnd ρ O true O1) (ha : EE c S a ρ O1 d O2) : EE c S (.IfExp cnd a b pos) ρ O d O2 := by
  obtain ⟨t, pt, vt⟩ := ht
  obtain ⟨ta, pa, va⟩ := ha
  refine ⟨_, fun X j => pe_ifExp (pt X j) (pa X j) pe_no, ?_⟩
  intro σ F L H ok sl Q q
  refine vt σ F L H ok sl _ fun F1 L1 H1 n1 ok1 => ?_
  rw [if_pos rfl]
  exact va σ F1 L1 H1 ok1 (sl.mono c.hI n1.sub n1.pre) _ fun v F2 L2 H2 n2 ok2 rv => q v F2 L2 H2 (n1.trans n2) ok2 rv
theorem ee_ifF (ht : ET c S cnd ρ O false O1) (hb : EE c S b ρ O1 d O2) : EE c S (.IfExp cnd a b pos) ρ O d O2 := by
  obtain ⟨t, pt, vt⟩ := ht
  obtain ⟨ta, pa, va⟩ := hb
  refine ⟨_, fun X j => pe_ifExp (pt X j) pe_no (pa X j), ?_⟩
  intro σ F L H ok sl Q q
  refine vt σ F L H ok sl _ fun F1 L1 H1 n1 ok1 => ?_
  rw [if_neg Bool.false_ne_true]
  exact va σ F1 L1 H1 ok1 (sl.mono c.hI n1.sub n1.pre) _ fun v F2 L2 H2 n2 ok2 rv => q v F2 L2 H2 (n1.trans n2) ok2 rv
/-- and, or, not as values -/
theorem ee_one {op : BoolOp} (ha : EE c S a ρ O d O1) : EE c S (.BoolOp op [a] pos) ρ O d O1 := let ⟨t, p, v⟩ := ha; ⟨t, fun X j => pe_one (p X j), v⟩
theorem ee_andT (ha : EE c S a ρ O (.bl true) O1) (hb : EE c S (.BoolOp .And (b :: es) pos) ρ O1 d O2) : EE c S (.BoolOp .And (a :: b :: es) pos) ρ O d O2 := by
  obtain ⟨ta, pa, va⟩ := ha
  obtain ⟨tb, pb, vb⟩ := hb
  refine ⟨_, fun X j => pe_and (pa X j) (pb X j), ?_⟩
  intro σ F L H ok sl Q q
  refine va σ F L H ok sl _ fun v F1 L1 H1 n1 ok1 rv => ?_
  cases rv
  refine ⟨true, rfl, ?_⟩
  rw [if_pos rfl]
  exact vb σ F1 L1 H1 ok1 (sl.mono c.hI n1.sub n1.pre) _ fun v F2 L2 H2 n2 ok2 rv => q v F2 L2 H2 (n1.trans n2) ok2 rv
theorem ee_andF (ha : EE c S a ρ O (.bl false) O1) : EE c S (.BoolOp .And (a :: b :: es) pos) ρ O (.bl false) O1 := by
  obtain ⟨ta, pa, va⟩ := ha
  refine ⟨_, fun X j => pe_and (pa X j) pe_no, ?_⟩
  intro σ F L H ok sl Q q
  refine va σ F L H ok sl _ fun v F1 L1 H1 n1 ok1 rv => ?_
  cases rv
  refine ⟨false, rfl, ?_⟩
  rw [if_neg Bool.false_ne_true]
  exact q _ F1 L1 H1 n1 ok1 .bl
theorem ee_orF (ha : EE c S a ρ O (.bl false) O1) (hb : EE c S (.BoolOp .Or (b :: es) pos) ρ O1 d O2) : EE c S (.BoolOp .Or (a :: b :: es) pos) ρ O d O2 := by
  obtain ⟨ta, pa, va⟩ := ha
  obtain ⟨tb, pb, vb⟩ := hb
  refine ⟨_, fun X j => pe_or (pa X j) (pb X j), ?_⟩
  intro σ F L H ok sl Q q
  refine va σ F L H ok sl _ fun v F1 L1 H1 n1 ok1 rv => ?_
  cases rv
  refine ⟨false, rfl, ?_⟩
  rw [if_neg Bool.false_ne_true]
  exact vb σ F1 L1 H1 ok1 (sl.mono c.hI n1.sub n1.pre) _ fun v F2 L2 H2 n2 ok2 rv => q v F2 L2 H2 (n1.trans n2) ok2 rv
theorem ee_orT (ha : EE c S a ρ O (.bl true) O1) : EE c S (.BoolOp .Or (a :: b :: es) pos) ρ O (.bl true) O1 := by
  obtain ⟨ta, pa, va⟩ := ha
  refine ⟨_, fun X j => pe_or (pa X j) pe_no, ?_⟩
  intro σ F L H ok sl Q q
  refine va σ F L H ok sl _ fun v F1 L1 H1 n1 ok1 rv => ?_
  cases rv
  refine ⟨true, rfl, ?_⟩
  rw [if_pos rfl]
  exact q _ F1 L1 H1 n1 ok1 .bl
theorem ee_not {k : Bool} (ha : EE c S a ρ O (.bl k) O1) : EE c S (.UnaryOp .Not a pos) ρ O (.bl (!k)) O1 := by
  obtain ⟨ta, pa, va⟩ := ha
  refine ⟨_, fun X j => pe_not (pa X j), ?_⟩
  intro σ F L H ok sl Q q
  refine va σ F L H ok sl _ fun v F1 L1 H1 n1 ok1 rv => ?_
  cases rv
  exact ⟨k, rfl, q _ F1 L1 H1 n1 ok1 .bl⟩

/-! ### arguments, displays -/
theorem ea_nil : EA c S [] ρ O [] O := ⟨_, fun _ _ => pa_nil, fun σ F L H ok sl Q q => q [] F L H (.refl _ _ _) ok .nil⟩
theorem ea_cons (ha : EE c S e ρ O d O1) (hr : EA c S es ρ O1 ds O2) (hs : ∀ env, starEach (e :: es) env = (false, eval e env) :: starEach es env := by intro _; rfl) : EA c S (e :: es) ρ O (d :: ds) O2 := by
  obtain ⟨ta, pa, va⟩ := ha
  obtain ⟨tb, pb, vb⟩ := hr
  refine ⟨_, fun X j => pa_cons (pa X j) (pb X j) (hs _), ?_⟩
  intro σ F L H ok sl Q q
  refine va σ F L H ok sl _ fun v F1 L1 H1 n1 ok1 rv => ?_
  exact vb σ F1 L1 H1 ok1 (sl.mono c.hI n1.sub n1.pre) _ fun vs F2 L2 H2 n2 ok2 rs => q (v :: vs) F2 L2 H2 (n1.trans n2) ok2 (.cons (rv.mono c.hI n2.sub n2.pre) rs)
theorem line_ok {n : Nat} (h : n ≤ 16777216) : n ≤ sizeLine := by rw [sizeLine_eq]; exact h
/-- a list that is a value from now on -/
theorem ee_lst (ha : EA c S es ρ O ds O1) (hz : ds.length ≤ 16777216 := by exact Nat.le_of_ble_eq_true rfl) : EE c S (.List es pos) ρ O (.lst ds) O1 := by
  obtain ⟨ta, pa, va⟩ := ha
  refine ⟨_, fun X j => pe_lst (pa X j), ?_⟩
  intro σ F L H ok sl Q q
  refine va σ F L H ok sl _ fun vs F1 L1 H1 n1 ok1 rs => ⟨by rw [← rs.length]; exact line_ok hz, fun p hp => ?_⟩
  obtain ⟨ok2, n2⟩ := ok1.put (o := .lst vs) c.hI hp
  exact q _ _ _ _ (n1.trans n2) ok2 (.lst upd_same (rs.mono c.hI n2.sub n2.pre))
theorem ee_tup (ha : EA c S es ρ O ds O1) (hz : ds.length ≤ 16777216 := by exact Nat.le_of_ble_eq_true rfl) : EE c S (.Tuple es x1 pos) ρ O (.tup ds) O1 := by
  obtain ⟨ta, pa, va⟩ := ha
  refine ⟨_, fun X j => pe_tup (pa X j), ?_⟩
  intro σ F L H ok sl Q q
  refine va σ F L H ok sl _ fun vs F1 L1 H1 n1 ok1 rs => ⟨by rw [← rs.length]; exact line_ok hz, fun p hp => ?_⟩
  obtain ⟨ok2, n2⟩ := ok1.put (o := .tup vs) c.hI hp
  exact q _ _ _ _ (n1.trans n2) ok2 (.tup (.inl (.inl upd_same)) (rs.mono c.hI n2.sub n2.pre))
/-- a list that is a cell -/
theorem ee_lstN (ha : EA c S es ρ O ds O1) (hz : ds.length ≤ 16777216 := by exact Nat.le_of_ble_eq_true rfl) : EE c S (.List es pos) ρ O (.loc O1.length) (O1 ++ [.lst ds]) := by
  obtain ⟨ta, pa, va⟩ := ha
  refine ⟨_, fun X j => pe_lst (pa X j), ?_⟩
  intro σ F L H ok sl Q q
  refine va σ F L H ok sl _ fun vs F1 L1 H1 n1 ok1 rs => ⟨by rw [← rs.length]; exact line_ok hz, fun p hp => ?_⟩
  obtain ⟨ok2, n2⟩ := ok1.cellNew (o := .lst vs) (cl := .lst ds) c.hI hp ⟨ok1.sub.none hp, vs, upd_same, rs.mono c.hI (.refl _) (.app _ _)⟩
  exact q _ _ _ _ (n1.trans n2) ok2 (.loc (by rw [← ok1.len]; simp))

/-! ### calls -/
/-- a def that answers by R -/
def DefOk (c : Cn) (x : Str) (R : Fn) (ps : List Str) (j : Nat) : Prop :=
  ∃ f fd, FnG c.P c.w c.K c.mg c.base CX0 j f fd ps (spD c.K c.I R) ∧ c.mg x = some (.ref f) ∧ PySem.W.keepIn c.K (.ref f) = true ∧ Binds c.K fd ps []
theorem ee_call {fx : Str} {R : Fn} {ps : List Str} {j : Nat} (G : DefOk c fx R ps j) (ha : EA c S (e :: es) ρ O ds O1) (hR : R ds O1 z O2) (hj : j ≤ c.k := by decide) (hg : glB S.sc fx = true := by first | decide +kernel | kernel_rfl | exact of_decide_eq_true (by kernel_rfl))
    (hdb : (fx == ("__debug__" : Str)) = false := by first | decide +kernel | kernel_rfl | exact of_decide_eq_true (by kernel_rfl)) (he : ∀ env, starEach (e :: es) env = (false, eval e env) :: starEach es env := by intro _; rfl) (hpl : ∀ env, (backTo pos (starEach es env)).any (·.1) = false := by intro _; rfl) :
    EE c S (.Call (.Name fx p) (e :: es) [] pos) ρ O z O2 := by
  obtain ⟨f, fd, FO, hm, hk, hb⟩ := G
  obtain ⟨ta, pa, va⟩ := ha
  refine ⟨tCall (spD c.K c.I R) [] E0 ta, fun X i => ?_, ?_⟩
  · have F' : FnG X.prog X.w X.K X.mg X.base CX0 c.k f fd ps (spD c.K c.I R) := by
      rw [i.P, i.w, i.K, i.mg, i.base]; exact FO.up hj
    exact pe_callG F' i.room i.gd (i.gl hg) (by rw [i.mg]; exact hm) (by rw [i.K]; exact hk) (by rw [i.K]; exact hb) pass0 (pa X i) hdb (he _) (hpl _)
  · intro σ F L H ok sl Q q
    refine va σ F L H ok sl _ fun vs F1 L1 H1 n1 ok1 rs => ?_
    rw [List.append_nil]
    exact ⟨F1, L1, O1, ds, z, O2, ok1, rs, hR, fun v F2 L2 H2 n2 ok2 rv => q v F2 L2 H2 (n1.trans n2) ok2 rv⟩
theorem ee_call0 {fx : Str} {R : Fn} {ps : List Str} {j : Nat} (G : DefOk c fx R ps j) (hR : R [] O z O2) (hj : j ≤ c.k := by decide) (hg : glB S.sc fx = true := by first | decide +kernel | kernel_rfl | exact of_decide_eq_true (by kernel_rfl))
    (hdb : (fx == ("__debug__" : Str)) = false := by first | decide +kernel | kernel_rfl | exact of_decide_eq_true (by kernel_rfl)) :
    EE c S (.Call (.Name fx p) [] [] pos) ρ O z O2 := by
  obtain ⟨f, fd, FO, hm, hk, hb⟩ := G
  refine ⟨tCall (spD c.K c.I R) [] E0 tNil, fun X i => ?_, ?_⟩
  · have F' : FnG X.prog X.w X.K X.mg X.base CX0 c.k f fd ps (spD c.K c.I R) := by
      rw [i.P, i.w, i.K, i.mg, i.base]; exact FO.up hj
    exact pe_callG0 F' i.room i.gd (i.gl hg) (by rw [i.mg]; exact hm) (by rw [i.K]; exact hk) (by rw [i.K]; exact hb) pass0 hdb
  · intro σ F L H ok sl Q q
    exact ⟨F, L, O, [], z, O2, ok, .nil, hR, fun v F2 L2 H2 n2 ok2 rv => q v F2 L2 H2 n2 ok2 rv⟩
/-- a built-in function, a built-in class -/
theorem ee_callB {fx : Str} {id : String} (hm : c.mg fx = none) (ha : EA c S (e :: es) ρ O ds O1) (hc : CaD c S (.builtin id) ds O1 z O2) (hv : bootBuiltins fx = some (.builtin id) := by first | decide +kernel | kernel_rfl | exact of_decide_eq_true (by kernel_rfl)) (hg : glB S.sc fx = true := by first | decide +kernel | kernel_rfl | exact of_decide_eq_true (by kernel_rfl))
    (hn : fx ≠ "__name__" := by first | decide +kernel | kernel_rfl | exact of_decide_eq_true (by kernel_rfl)) (hdb : (fx == ("__debug__" : Str)) = false := by first | decide +kernel | kernel_rfl | exact of_decide_eq_true (by kernel_rfl)) (he : ∀ env, starEach (e :: es) env = (false, eval e env) :: starEach es env := by intro _; rfl) (hpl : ∀ env, (backTo pos (starEach es env)).any (·.1) = false := by intro _; rfl) :
    EE c S (.Call (.Name fx p) (e :: es) [] pos) ρ O z O2 := by
  obtain ⟨ta, pa, va⟩ := ha
  obtain ⟨r, pr, vr⟩ := hc
  refine ⟨_, fun X i => pe_callB (pr X i) (i.gl hg) (by rw [i.mg]; exact hm) hv (pa X i) hn hdb (he _) (hpl _), ?_⟩
  intro σ F L H ok sl Q q
  refine va σ F L H ok sl _ fun vs F1 L1 H1 n1 ok1 rs => ?_
  exact vr F1 L1 H1 vs ok1 rs Q fun v F2 L2 H2 n2 ok2 rv => q v F2 L2 H2 (n1.trans n2) ok2 rv
theorem ee_callTy {fx : Str} {id : String} (hm : c.mg fx = none) (ha : EA c S (e :: es) ρ O ds O1) (hc : CaD c S (.type id) ds O1 z O2) (hv : bootBuiltins fx = some (.type id) := by first | decide +kernel | kernel_rfl | exact of_decide_eq_true (by kernel_rfl)) (hg : glB S.sc fx = true := by first | decide +kernel | kernel_rfl | exact of_decide_eq_true (by kernel_rfl))
    (hn : fx ≠ "__name__" := by first | decide +kernel | kernel_rfl | exact of_decide_eq_true (by kernel_rfl)) (hdb : (fx == ("__debug__" : Str)) = false := by first | decide +kernel | kernel_rfl | exact of_decide_eq_true (by kernel_rfl)) (he : ∀ env, starEach (e :: es) env = (false, eval e env) :: starEach es env := by intro _; rfl) (hpl : ∀ env, (backTo pos (starEach es env)).any (·.1) = false := by intro _; rfl) :
    EE c S (.Call (.Name fx p) (e :: es) [] pos) ρ O z O2 := by
  obtain ⟨ta, pa, va⟩ := ha
  obtain ⟨r, pr, vr⟩ := hc
  refine ⟨_, fun X i => pe_callTy (pr X i) (i.gl hg) (by rw [i.mg]; exact hm) hv (pa X i) hn hdb (he _) (hpl _), ?_⟩
  intro σ F L H ok sl Q q
  refine va σ F L H ok sl _ fun vs F1 L1 H1 n1 ok1 rs => ?_
  exact vr F1 L1 H1 vs ok1 rs Q fun v F2 L2 H2 n2 ok2 rv => q v F2 L2 H2 (n1.trans n2) ok2 rv

/-! ### statements -/
theorem ss_nil : SS c S [] ρ O (.nx ρ O) := ⟨_, fun _ _ => pss_nil, fun σ F L H ok sl E q => q σ F L H (.refl _ _ _) ok sl⟩
theorem EndOk.seq {K : PySem.W.Frag} {I : Ob} {F F1 H H1 : Hp} {L L1 : List Addr} {E : Ends} (n : Nxt F L H F1 L1 H1) (h : EndOk K I F L H E o) : EndOk K I F1 L1 H1 E o := by
  cases o with
  | nx ρ O => exact fun σ F2 L2 H2 n2 ok sl => h σ F2 L2 H2 (n.trans n2) ok sl
  | bk ρ O => exact fun σ F2 L2 H2 n2 ok sl => h σ F2 L2 H2 (n.trans n2) ok sl
  | ct ρ O => exact fun σ F2 L2 H2 n2 ok sl => h σ F2 L2 H2 (n.trans n2) ok sl
  | rt d O => exact fun v F2 L2 H2 n2 ok rv => h v F2 L2 H2 (n.trans n2) ok rv
theorem ss_cons (h1 : S1 c S st ρ O (.nx ρ' O1)) (h2 : SS c S ss ρ' O1 o) : SS c S (st :: ss) ρ O o := by
  obtain ⟨t, p, v⟩ := h1
  obtain ⟨u, q, w⟩ := h2
  refine ⟨_, fun X i => pss_cons (p X i) (q X i), ?_⟩
  intro σ F L H ok sl E hE
  refine v σ F L H ok sl _ fun σ1 F1 L1 H1 n1 ok1 sl1 => ?_
  refine w σ1 F1 L1 H1 ok1 sl1 E (EndOk.seq n1 hE)
/-- a statement that leaves the block -/
theorem ss_last (h1 : S1 c S st ρ O o) (ho : ∀ ρ O, o ≠ .nx ρ O := by intro _ _ h; cases h) : SS c S (st :: ss) ρ O o := by
  obtain ⟨t, p, v⟩ := h1
  refine ⟨_, fun X i => pss_cons (p X i) pss_no, ?_⟩
  intro σ F L H ok sl E hE
  refine v σ F L H ok sl _ ?_
  cases o with
  | nx ρ O => exact absurd rfl (ho ρ O)
  | bk ρ O => exact hE
  | ct ρ O => exact hE
  | rt d O => exact hE
theorem ss_one (h1 : S1 c S st ρ O o) : SS c S [st] ρ O o := let ⟨t, p, v⟩ := h1; ⟨t, fun X i => pss_one (p X i), v⟩
theorem s_ret (ha : EE c S e ρ O d O1) : S1 c S (.Return (some e) pos) ρ O (.rt d O1) := by
  obtain ⟨ta, pa, va⟩ := ha
  refine ⟨_, fun X j => ps_ret (pa X j.1), ?_⟩
  intro σ F L H ok sl E q
  exact va σ F L H ok sl _ fun v F1 L1 H1 n1 ok1 rv => q v F1 L1 H1 n1 ok1 rv
theorem s_retN : S1 c S (.Return none pos) ρ O (.rt .non O) := ⟨_, fun X j => ps_retN, fun σ F L H ok sl E q => q _ F L H (.refl _ _ _) ok .non⟩
theorem s_pass : S1 c S (.Pass pos) ρ O (.nx ρ O) := ⟨_, fun X j => ps_pass, fun σ F L H ok sl E q => q σ F L H (.refl _ _ _) ok sl⟩
theorem s_break : S1 c S (.Break pos) ρ O (.bk ρ O) := ⟨_, fun X j => ps_break, fun σ F L H ok sl E q => q σ F L H (.refl _ _ _) ok sl⟩
theorem s_cont : S1 c S (.Continue pos) ρ O (.ct ρ O) := ⟨_, fun X j => ps_continue, fun σ F L H ok sl E q => q σ F L H (.refl _ _ _) ok sl⟩
theorem s_expr (ha : EE c S e ρ O d O1) (hs : ∀ q L f cd, swapsWith e none pos.line (envOfC q S.sc L f cd) = pure false := by intro _ _ _ _; rfl) : S1 c S (.Expr e pos) ρ O (.nx ρ O1) := by
  obtain ⟨ta, pa, va⟩ := ha
  refine ⟨_, fun X j => ps_expr (pa X j.1) (by obtain ⟨q, L, f, cd, e⟩ := j.2; rw [e]; exact hs _ _ _ _), ?_⟩
  intro σ F L H ok sl E q
  exact va σ F L H ok sl _ fun v F1 L1 H1 n1 ok1 rv => q σ F1 L1 H1 n1 ok1 (sl.mono c.hI n1.sub n1.pre)
theorem s_set (i : Nat) {x : Str} {pos' : Pos} (ha : EE c S e ρ O d O1) (hN : S.N[i]? = some x := by rfl) (hl : putB S x = true := by first | decide +kernel | kernel_rfl | exact of_decide_eq_true (by kernel_rfl)) (nd : S.N.Nodup := by first | decide +kernel | kernel_rfl | exact of_decide_eq_true (by kernel_rfl))
    (hs : ∀ q L f cd, swapsWith e (some (Expr.Name x pos')) pos.line (envOfC q S.sc L f cd) = pure false := by intro _ _ _ _; rfl) : S1 c S (.Assign [.Name x pos'] e pos) ρ O (.nx (ρ.set i (some d)) O1) := by
  obtain ⟨ta, pa, va⟩ := ha
  refine ⟨tAsg ta (gName i), fun X j => ?_, ?_⟩
  · exact ps_set (i := i) (by rw [j.1.N]; exact nd) (by rw [j.1.N]; exact hN) (j.1.put hl).1 (pa X j.1) (by obtain ⟨q, L, f, cd, e⟩ := j.2; rw [e]; exact hs _ _ _ _) (j.1.put hl).2
  · intro σ F L H ok sl E q
    exact va σ F L H ok sl _ fun v F1 L1 H1 n1 ok1 rv => q _ F1 L1 H1 n1 ok1 ((sl.mono c.hI n1.sub n1.pre).set rv)
theorem s_if {k : Bool} (ht : ET c S cnd ρ O k O1) (h : SS c S (if k then s1 else s2) ρ O1 o) : S1 c S (.If cnd s1 s2 pos) ρ O o := by
  obtain ⟨t, pt, vt⟩ := ht
  cases k with
  | true =>
    obtain ⟨u, pu, vu⟩ := h
    refine ⟨_, fun X j => ps_if (pt X j.1) (pu X j) pss_no, ?_⟩
    intro σ F L H ok sl E q
    refine vt σ F L H ok sl _ fun F1 L1 H1 n1 ok1 => ?_
    rw [if_pos rfl]
    exact vu σ F1 L1 H1 ok1 (sl.mono c.hI n1.sub n1.pre) E (EndOk.seq n1 q)
  | false =>
    obtain ⟨u, pu, vu⟩ := h
    refine ⟨_, fun X j => ps_if (pt X j.1) pss_no (pu X j), ?_⟩
    intro σ F L H ok sl E q
    refine vt σ F L H ok sl _ fun F1 L1 H1 n1 ok1 => ?_
    rw [if_neg Bool.false_ne_true]
    exact vu σ F1 L1 H1 ok1 (sl.mono c.hI n1.sub n1.pre) E (EndOk.seq n1 q)
theorem s_ifT (ht : ET c S cnd ρ O true O1) (h : SS c S s1 ρ O1 o) : S1 c S (.If cnd s1 s2 pos) ρ O o := s_if ht (by exact h)
theorem s_ifF (ht : ET c S cnd ρ O false O1) (h : SS c S s2 ρ O1 o) : S1 c S (.If cnd s1 s2 pos) ρ O o := s_if ht (by exact h)
/-- less is told behind -/
theorem SS.less {ρ1 ρ2 : Rho} (h : SS c S ss ρ O (.nx ρ1 O1)) (l : Les ρ1 ρ2) : SS c S ss ρ O (.nx ρ2 O1) := by
  obtain ⟨t, p, v⟩ := h
  exact ⟨t, p, fun σ F L H ok sl E q => v σ F L H ok sl E fun σ1 F1 L1 H1 n1 ok1 sl1 => q σ1 F1 L1 H1 n1 ok1 (sl1.les l)⟩
/-- less is told ahead -/
theorem SS.pre {ρ1 : Rho} (h : SS c S ss ρ1 O o) (l : Les ρ ρ1) : SS c S ss ρ O o := by
  obtain ⟨t, p, v⟩ := h
  exact ⟨t, p, fun σ F L H ok sl E q => v σ F L H ok (sl.les l) E q⟩
end
end DL
set_option maxRecDepth 100000
namespace DL
open PySem L2 PyProof.Rows PySem.Spec

/-! ### wiped slots -/
theorem wipe_at {α : Type} (w : List (Option α) → List Nat → List (Option α)) (h0 : ∀ l, w l [] = l) (h1 : ∀ l v vs, w l (v :: vs) = (w l vs).set v none) :
    ∀ (l : List (Option α)) (vs : List Nat) (j : Nat), (w l vs)[j]? = if j ∈ vs ∧ j < l.length then some none else l[j]?
  | l, [], j => by rw [h0]; simp
  | l, v :: vs, j => by
    have ih := wipe_at w h0 h1 l vs
    have hlen : (w l vs).length = l.length := by
      clear ih
      induction vs with
      | nil => rw [h0]
      | cons u us ihh => rw [h1, List.length_set]; exact ihh
    rw [h1, List.getElem?_set]
    by_cases hv : v = j
    · subst hv
      rw [hlen]
      by_cases hl : v < l.length
      · simp [hl]
      · simp [hl]
    · rw [if_neg hv, ih j]
      by_cases hm : j ∈ vs ∧ j < l.length
      · rw [if_pos hm, if_pos ⟨List.mem_cons_of_mem _ hm.1, hm.2⟩]
      · rw [if_neg hm, if_neg]
        rintro ⟨z, y⟩
        rcases List.mem_cons.mp z with z | z
        · exact hv z.symm
        · exact hm ⟨z, y⟩
def wipeR (ρ : Rho) : List Nat → Rho
  | [] => ρ
  | v :: vs => (wipeR ρ vs).set v none
theorem wipeR_at (ρ : Rho) (vs : List Nat) (j : Nat) : (wipeR ρ vs)[j]? = if j ∈ vs ∧ j < ρ.length then some none else ρ[j]? := wipe_at wipeR (fun _ => rfl) (fun _ _ _ => rfl) ρ vs j
theorem wipe_at' (σ : L2.St) (vs : List Nat) (j : Nat) : (wipe σ vs)[j]? = if j ∈ vs ∧ j < σ.length then some none else σ[j]? := wipe_at wipe (fun _ => rfl) (fun _ _ _ => rfl) σ vs j
theorem wipeR_len (ρ : Rho) (vs : List Nat) : (wipeR ρ vs).length = ρ.length := by
  induction vs with
  | nil => rfl
  | cons u us ih => exact (List.length_set ..).trans ih
theorem wipe_set {σ : L2.St} {i : Nat} {o : Option V} {vs : List Nat} (h : i ∈ vs) : wipe (σ.set i o) vs = wipe σ vs := by
  refine List.ext_getElem? fun j => ?_
  rw [wipe_at', wipe_at', List.length_set]
  by_cases hj : j ∈ vs ∧ j < σ.length
  · rw [if_pos hj, if_pos hj]
  · rw [if_neg hj, if_neg hj, List.getElem?_set]
    by_cases hi : i = j
    · subst hi
      rw [if_pos rfl]
      have : ¬ i < σ.length := fun z => hj ⟨h, z⟩
      rw [if_neg this, List.getElem?_eq_none (by omega)]
    · rw [if_neg hi]
theorem Sl.wipe {K : PySem.W.Frag} {I : Ob} {F : Hp} {L : List Addr} {ρ : Rho} {σ : L2.St} (h : Sl K I F L ρ σ) (vs : List Nat) : Sl K I F L (wipeR ρ vs) (L2.wipe σ vs) := by
  refine ⟨by rw [wipe_length, wipeR_len]; exact h.1, fun i d e => ?_⟩
  rw [wipeR_at] at e
  by_cases hi : i ∈ vs ∧ i < ρ.length
  · rw [if_pos hi] at e; cases e
  · rw [if_neg hi] at e
    rw [wipe_at', h.1, if_neg hi]
    exact h.2 i d e

/-! ### targets -/
def TgS (K : PySem.W.Frag) (I : Ob) (g : TG) (is : List Nat) (ρ : Rho) (d : D) (ρ' : Rho) : Prop := ∀ (σ : L2.St) (F : Hp) (L : List Addr) (H : Hp) (v : V), Sub F H → Sl K I F L ρ σ → RV K I F L d v →
  ∀ Q : L2.St → Hp → Prop, (∀ σ', Sl K I F L ρ' σ' → (∀ vs, (∀ i ∈ is, i ∈ vs) → L2.wipe σ' vs = L2.wipe σ vs) → Q σ' H) → g v σ H Q
def GT (c : Cn) (S : Sc) (tg : Expr) (is : List Nat) (ρ : Rho) (d : D) (ρ' : Rho) : Prop := ∃ g, (∀ X, InC c S X → PG X tg g) ∧ TgS c.K c.I g is ρ d ρ'
def GTs (c : Cn) (S : Sc) (tgs : List Expr) (is : List Nat) (ρ : Rho) (ds : List D) (ρ' : Rho) : Prop := ∃ g : TGs, (∀ X, InC c S X → PGs X tgs g) ∧
  ∀ (σ : L2.St) (F : Hp) (L : List Addr) (H : Hp) (vs : List V), Sub F H → Sl c.K c.I F L ρ σ → RVs c.K c.I F L ds vs → ∀ Q : L2.St → Hp → Prop, (∀ σ', Sl c.K c.I F L ρ' σ' → (∀ us, (∀ i ∈ is, i ∈ us) → L2.wipe σ' us = L2.wipe σ us) → Q σ' H) → g vs σ H Q
section
variable {c : Cn} {S : Sc} {ρ ρ1 ρ2 : Rho} {O O1 O2 O3 : Sto} {a b e tg iter : Expr} {es ifs : List Expr} {d z : D} {ds rs : List D} {pos p : Pos} {is js : List Nat}
theorem gt_name (i : Nat) {x : Str} (hN : S.N[i]? = some x := by rfl) (hl : putB S x = true := by first | decide +kernel | kernel_rfl | exact of_decide_eq_true (by kernel_rfl)) (nd : S.N.Nodup := by first | decide +kernel | kernel_rfl | exact of_decide_eq_true (by kernel_rfl)) : GT c S (.Name x p) [i] ρ d (ρ.set i (some d)) := by
  refine ⟨gName i, fun X j => ?_, fun σ F L H v sb sl rv Q q => q _ (sl.set rv) fun vs h => wipe_set (h i (by simp))⟩
  exact pg_name (i := i) (by rw [j.N]; exact nd) (by rw [j.N]; exact hN) (j.put hl).1 (j.put hl).2
theorem gts_nil : GTs c S [] [] ρ [] ρ := ⟨gNil, fun X j => pgs_nil, fun σ F L H vs sb sl rs Q q => by cases rs; exact ⟨rfl, q σ sl fun _ _ => rfl⟩⟩
theorem gts_cons (h : GT c S e is ρ d ρ1) (hs : GTs c S es js ρ1 ds ρ2) (hm : ∀ env, List.map (fun x => x.snd) (assignEach (e :: es) env) = assign e env :: List.map (fun x => x.snd) (assignEach es env) := by intro _; rfl) : GTs c S (e :: es) (is ++ js) ρ (d :: ds) ρ2 := by
  obtain ⟨g, p, v⟩ := h
  obtain ⟨u, q, w⟩ := hs
  refine ⟨gCons g u, fun X j => pgs_cons (p X j) (q X j) (hm _), fun σ F L H vs sb sl rs Q k => ?_⟩
  cases rs with
  | cons r t =>
    refine ⟨_, _, rfl, v σ F L H _ sb sl r _ fun σ1 sl1 e1 => ?_⟩
    refine w σ1 F L H _ sb sl1 t _ fun σ2 sl2 e2 => k σ2 sl2 fun us hu => ?_
    rw [e2 us fun i hi => hu i (by simp [hi]), e1 us fun i hi => hu i (by simp [hi])]
theorem gt_tup {x1 : Nat} (h : GTs c S es is ρ ds ρ1) (h1 : ∀ env, (assignEach es env).length = es.length := by intro _; rfl) (h2 : ∀ env, List.findIdx? (fun x => x.fst) (assignEach es env) = none := by intro _; rfl) (hn : ds.length = es.length := by rfl) : GT c S (.Tuple es x1 pos) is ρ (.tup ds) ρ1 := by
  obtain ⟨g, p, v⟩ := h
  refine ⟨gTup c.K es.length g, fun X j => by rw [← j.K]; exact pg_tup j.calm (p X j) (h1 _) (h2 _), fun σ F L H x sb sl rv Q q => ?_⟩
  cases rv with
  | tup hq rs => exact ⟨_, _, rfl, sb.sqT hq, by rw [← rs.length]; exact hn, v σ F L H _ sb sl rs Q q⟩

/-! ### what a loop walks -/
def YldOk (K : PySem.W.Frag) (I : Ob) (J : It) (F : Hp) (L : List Addr) (ds : List D) : Prop := ∀ F2 L2 H2 O2, Sub F F2 → Pre L L2 → OkH K I F2 L2 H2 O2 →
  (∀ i d, ds[i]? = some d → J.go i H2 ∧ ∀ x H3, J.yld i H2 x H3 → ∃ F3, Nxt F2 L2 H2 F3 L2 H3 ∧ OkH K I F3 L2 H3 O2 ∧ RV K I F3 L2 d x) ∧ ∀ i, ds.length ≤ i → J.stop i H2
def IT (c : Cn) (S : Sc) (tg iter : Expr) (ρ : Rho) (O : Sto) (ds : List D) (O' : Sto) : Prop := ∃ wi : TI, (∀ X, InC c S X → PI X tg iter wi) ∧
  ∀ (σ : L2.St) (F : Hp) (L : List Addr) (H : Hp), OkH c.K c.I F L H O → Sl c.K c.I F L ρ σ → ∀ R : It → Hp → Prop, (∀ J F' L' H', Nxt F L H F' L' H' → OkH c.K c.I F' L' H' O' → YldOk c.K c.I J F' L' ds → R J H') → wi σ H R
theorem yld_list {K : PySem.W.Frag} {I : Ob} (hI : IMono I) {F : Hp} {L : List Addr} {a : Addr} {vs : List V} (hq : SqL K F a vs) (hr : RVs K I F L ds vs) : YldOk K I (Itl K a) F L ds := by
  intro F2 L2 H2 O2 sb pr ok
  have hq2 : SqL K H2 a vs := ok.sub.sqL (sb.sqL hq)
  refine ⟨fun i d e => ?_, fun i hi => ⟨vs, hq2, by rw [← hr.length]; exact hi⟩⟩
  obtain ⟨v, h1, h2⟩ := hr.get e
  refine ⟨⟨vs, v, hq2, h1⟩, fun x H3 y => ?_⟩
  obtain ⟨rfl, y⟩ := y
  have := y vs hq2
  rw [h1] at this; cases this
  exact ⟨F2, .refl _ _ _, ok, h2.mono hI sb pr⟩
theorem it_list (ha : EE c S iter ρ O (.lst ds) O1) : IT c S tg iter ρ O ds O1 := by
  obtain ⟨t, pt, vt⟩ := ha
  refine ⟨iList c.K t, fun X j => by rw [← j.K]; exact pi_list (pt X j), fun σ F L H ok sl R q => ?_⟩
  refine vt σ F L H ok sl _ fun v F1 L1 H1 n1 ok1 rv => ?_
  cases rv with
  | lst hq rs => exact ⟨_, rfl, ⟨_, .inl (.inl (ok1.sub _ _ hq))⟩, q _ F1 L1 H1 n1 ok1 (yld_list c.hI (.inl (.inl hq)) rs)⟩
theorem it_rd (ha : EE c S iter ρ O (.rd ds) O1) : IT c S tg iter ρ O ds O1 := by
  obtain ⟨t, pt, vt⟩ := ha
  refine ⟨iList c.K t, fun X j => by rw [← j.K]; exact pi_list (pt X j), fun σ F L H ok sl R q => ?_⟩
  refine vt σ F L H ok sl _ fun v F1 L1 H1 n1 ok1 rv => ?_
  cases rv with
  | rd hq rs => exact ⟨_, rfl, ⟨_, ok1.sub.sqL hq⟩, q _ F1 L1 H1 n1 ok1 (yld_list c.hI hq rs)⟩
theorem it_tup (ha : EE c S iter ρ O (.tup ds) O1) : IT c S tg iter ρ O ds O1 := by
  obtain ⟨t, pt, vt⟩ := ha
  refine ⟨iTup c.K t, fun X j => by rw [← j.K]; exact pi_tup (pt X j), fun σ F L H ok sl R q => ?_⟩
  refine vt σ F L H ok sl _ fun v F1 L1 H1 n1 ok1 rv => ?_
  cases rv with
  | tup hq rs =>
    refine ⟨_, rfl, ⟨_, ok1.sub.sqT hq⟩, q _ F1 L1 H1 n1 ok1 ?_⟩
    intro F2 L2 H2 O2 sb pr ok
    rename_i vs
    have hq2 := ok.sub.sqT (sb.sqT hq)
    refine ⟨fun i d e => ?_, fun i hi => ⟨_, hq2, by rw [← rs.length]; exact hi⟩⟩
    obtain ⟨v, h1, h2⟩ := rs.get e
    refine ⟨⟨_, v, hq2, h1⟩, fun x H3 y => ?_⟩
    obtain ⟨rfl, y⟩ := y
    have := y _ hq2
    rw [h1] at this; cases this
    exact ⟨F2, .refl _ _ _, ok, h2.mono c.hI sb pr⟩
/-- range(n) -/
def rangeD (lo : Int) (n : Nat) : List D := (List.range n).map fun i : Nat => .int (lo + (i : Int))
theorem yld_range {K : PySem.W.Frag} {I : Ob} {F : Hp} {L : List Addr} {lo : Int} {n : Nat} : YldOk K I (Itr lo n) F L (rangeD lo n) := by
  intro F2 L2 H2 O2 sb pr ok
  refine ⟨fun i d e => ?_, fun i hi => by
    have : n ≤ i := by simpa [rangeD] using hi
    exact this⟩
  unfold rangeD at e
  rw [List.getElem?_map] at e
  by_cases hi : i < n
  · rw [List.getElem?_range hi] at e
    simp at e
    subst e
    refine ⟨hi, fun x H3 y => ?_⟩
    obtain ⟨rfl, rfl⟩ := y
    exact ⟨F2, .refl _ _ _, ok, .int⟩
  · rw [List.getElem?_eq_none (by simpa using hi)] at e; cases e
theorem it_range1 {i : Int} (hm : c.mg "range" = none) (ha : EE c S a ρ O (.int i) O1) (h1 : -(2 ^ 62) ≤ i := by decide) (h2 : i < 2 ^ 62 := by decide) (hg : glB S.sc "range" = true := by first | decide +kernel | kernel_rfl | exact of_decide_eq_true (by kernel_rfl)) (hs : ∀ env, starEach [a] env = [(false, eval a env)] := by intro _; rfl) :
    IT c S tg (.Call (.Name "range" p) [a] [] pos) ρ O (rangeD 0 i.toNat) O1 := by
  obtain ⟨t, pt, vt⟩ := ea_cons ha ea_nil (by intro env; exact hs env)
  refine ⟨iRng1 t, fun X j => pi_range1 (j.gl hg) (by rw [j.mg]; exact hm) (pt X j) (hs _), fun σ F L H ok sl R q => ?_⟩
  refine vt σ F L H ok sl _ fun vs F1 L1 H1 n1 ok1 rs => ?_
  cases rs with
  | cons r t =>
    cases t; cases r
    exact ⟨i, rfl, h1, h2, q _ F1 L1 H1 n1 ok1 yld_range⟩
theorem it_range2 {i k : Int} (hm : c.mg "range" = none) (ha : EE c S a ρ O (.int i) O1) (hb : EE c S b ρ O1 (.int k) O2) (h1 : -(2 ^ 62) ≤ i := by decide) (h2 : i < 2 ^ 62 := by decide) (h3 : -(2 ^ 62) ≤ k := by decide) (h4 : k < 2 ^ 62 := by decide)
    (hg : glB S.sc "range" = true := by first | decide +kernel | kernel_rfl | exact of_decide_eq_true (by kernel_rfl)) (hs : ∀ env, starEach [a, b] env = [(false, eval a env), (false, eval b env)] := by intro _; rfl) (hs2 : ∀ env, starEach [b] env = [(false, eval b env)] := by intro _; rfl) :
    IT c S tg (.Call (.Name "range" p) [a, b] [] pos) ρ O (rangeD i (k - i).toNat) O2 := by
  obtain ⟨t, pt, vt⟩ := ea_cons ha (ea_cons hb ea_nil (by intro env; exact hs2 env)) (by intro env; rw [hs env, hs2 env])
  refine ⟨iRng2 t, fun X j => pi_range2 (j.gl hg) (by rw [j.mg]; exact hm) (pt X j) (hs _) (hs2 _), fun σ F L H ok sl R q => ?_⟩
  refine vt σ F L H ok sl _ fun vs F1 L1 H1 n1 ok1 rs => ?_
  cases rs with
  | cons r t =>
    cases t with
    | cons r' t =>
      cases t; cases r; cases r'
      exact ⟨i, k, rfl, ⟨h1, h2, h3, h4⟩, q _ F1 L1 H1 n1 ok1 yld_range⟩
/-- zip of two lists -/
theorem it_zip {xs ys : List D} {elts : List Expr} {kk : Nat} {tpos : Pos} (hm : c.mg "zip" = none) (ha : EE c S a ρ O (.lst xs) O1) (hb : EE c S b ρ O1 (.lst ys) O2) (hg : glB S.sc "zip" = true := by first | decide +kernel | kernel_rfl | exact of_decide_eq_true (by kernel_rfl))
    (hs : ∀ env, starEach [a, b] env = (false, eval a env) :: starEach [b] env := by intro _; rfl) (hs2 : ∀ env, starEach [b] env = [(false, eval b env)] := by intro _; rfl) (hpl : ∀ env, (backTo pos (starEach [b] env)).any (·.1) = false := by intro _; rfl) :
    IT c S (.Tuple elts kk tpos) (.Call (.Name "zip" p) [a, b] [] pos) ρ O (List.zipWith (fun x y => D.tup [x, y]) xs ys) O2 := by
  obtain ⟨t, pt, vt⟩ := ea_cons ha (ea_cons hb ea_nil (by intro env; exact hs2 env)) (by intro env; exact hs env)
  refine ⟨iZip c.K t, fun X j => by rw [← j.K]; exact pi_zip (j.gl hg) (by rw [j.mg]; exact hm) (pt X j) (hs _) (hpl _), fun σ F L H ok sl R q => ?_⟩
  refine vt σ F L H ok sl _ fun vs F1 L1 H1 n1 ok1 rs => ?_
  cases rs with
  | cons r t =>
    cases t with
    | cons r' t =>
      cases t
      cases r with
      | lst hq1' r1 =>
        have hq1 : SqL c.K F1 _ _ := .inl (.inl hq1')
        cases r' with
        | lst hq2' r2 =>
          have hq2 : SqL c.K F1 _ _ := .inl (.inl hq2')
          refine ⟨_, _, _, _, rfl, ok1.sub.sqL hq1, ok1.sub.sqL hq2, q _ F1 L1 H1 n1 ok1 ?_⟩
          intro F2 L2 H2 O2 sb pr ok
          have h1 := ok.sub.sqL (sb.sqL hq1)
          have h2 := ok.sub.sqL (sb.sqL hq2)
          refine ⟨fun i d e => ?_, fun i hi => ⟨_, _, h1, h2, ?_⟩⟩
          · rw [List.getElem?_zipWith] at e
            cases ex : xs[i]? with
            | none => rw [ex] at e; simp at e
            | some x =>
              cases ey : ys[i]? with
              | none => rw [ex, ey] at e; simp at e
              | some y =>
                rw [ex, ey] at e
                simp at e
                subst e
                obtain ⟨v1, g1, g2⟩ := r1.get ex
                obtain ⟨v2, g3, g4⟩ := r2.get ey
                refine ⟨⟨_, _, _, _, h1, h2, g1, g3⟩, fun w H3 yl => ?_⟩
                obtain ⟨T, u1, u2, rfl, hT, rfl, y1, y2⟩ := yl
                have z1 := y1 _ h1
                have z2 := y2 _ h2
                rw [g1] at z1; cases z1
                rw [g3] at z2; cases z2
                obtain ⟨ok3, n3⟩ := ok.put (o := .tup [v1, v2]) c.hI hT
                exact ⟨_, n3, ok3, .tup (.inl (.inl upd_same)) (.cons (g2.mono c.hI (sb.trans n3.sub) pr) (.cons (g4.mono c.hI (sb.trans n3.sub) pr) .nil))⟩
          · rw [List.length_zipWith] at hi
            have := r1.length
            have := r2.length
            omega
/-- enumerate of a list -/
theorem it_enum {xs : List D} {elts : List Expr} {kk : Nat} {tpos : Pos} (hm : c.mg "enumerate" = none) (ha : EE c S a ρ O (.lst xs) O1) (hg : glB S.sc "enumerate" = true := by first | decide +kernel | kernel_rfl | exact of_decide_eq_true (by kernel_rfl)) (hs : ∀ env, starEach [a] env = [(false, eval a env)] := by intro _; rfl) :
    IT c S (.Tuple elts kk tpos) (.Call (.Name "enumerate" p) [a] [] pos) ρ O (List.zipWith (fun (i : Nat) x => D.tup [.int i, x]) (List.range xs.length) xs) O1 := by
  obtain ⟨t, pt, vt⟩ := ea_cons ha ea_nil (by intro env; exact hs env)
  refine ⟨iEnum c.K t, fun X j => by rw [← j.K]; exact pi_enum (j.gl hg) (by rw [j.mg]; exact hm) (pt X j) (hs _), fun σ F L H ok sl R q => ?_⟩
  refine vt σ F L H ok sl _ fun vs F1 L1 H1 n1 ok1 rs => ?_
  cases rs with
  | cons r t =>
    cases t
    cases r with
    | lst hq1' r1 =>
      have hq1 : SqL c.K F1 _ _ := .inl (.inl hq1')
      refine ⟨_, _, rfl, ok1.sub.sqL hq1, q _ F1 L1 H1 n1 ok1 ?_⟩
      intro F2 L2 H2 O2 sb pr ok
      have h1 := ok.sub.sqL (sb.sqL hq1)
      refine ⟨fun i d e => ?_, fun i hi => ⟨_, h1, ?_⟩⟩
      · rw [List.getElem?_zipWith] at e
        cases ex : xs[i]? with
        | none => rw [ex] at e; simp at e
        | some x =>
          have hi : i < xs.length := (List.getElem?_eq_some_iff.mp ex).1
          rw [ex, List.getElem?_range hi] at e
          simp at e
          subst e
          obtain ⟨v1, g1, g2⟩ := r1.get ex
          refine ⟨⟨_, _, h1, g1⟩, fun w H3 yl => ?_⟩
          obtain ⟨T, u1, rfl, hT, rfl, y1⟩ := yl
          have z1 := y1 _ h1
          rw [g1] at z1; cases z1
          obtain ⟨ok3, n3⟩ := ok.put (o := .tup [.int (i : Nat), v1]) c.hI hT
          exact ⟨_, n3, ok3, .tup (.inl (.inl upd_same)) (.cons .int (.cons (g2.mono c.hI (sb.trans n3.sub) pr) .nil))⟩
      · rw [List.length_zipWith, List.length_range] at hi
        have := r1.length
        omega
/-- the signs of a text -/
theorem it_str {x : Str} (ha : EE c S iter ρ O (.str x) O1) : IT c S tg iter ρ O (x.cps.toList.map fun k => .str ⟨#[k]⟩) O1 := by
  obtain ⟨t, pt, vt⟩ := ha
  refine ⟨iStr t, fun X j => pi_str (pt X j), fun σ F L H ok sl R q => ?_⟩
  refine vt σ F L H ok sl _ fun v F1 L1 H1 n1 ok1 rv => ?_
  cases rv
  refine ⟨x, rfl, q _ F1 L1 H1 n1 ok1 ?_⟩
  intro F2 L2 H2 O2 sb pr ok
  refine ⟨fun i d e => ?_, fun i hi => by
    have : x.cps.size ≤ i := by simpa using hi
    exact this⟩
  rw [List.getElem?_map] at e
  have hx : x.cps.toList[i]? = x.cps[i]? := by simp
  rw [hx] at e
  cases ex : x.cps[i]? with
  | none => rw [ex] at e; cases e
  | some k =>
    rw [ex] at e
    simp at e
    subst e
    refine ⟨(Array.getElem?_eq_some_iff.mp ex).1, fun w H3 y => ?_⟩
    obtain ⟨rfl, k', h1, rfl⟩ := y
    rw [ex] at h1; cases h1
    exact ⟨F2, .refl _ _ _, ok, .str⟩

/-! ### for -/
inductive FR (c : Cn) (S : Sc) (tg : Expr) (body : List Stmt) : List D → Rho → Sto → Out → Prop
  | nil {ρ : Rho} {O : Sto} : FR c S tg body [] ρ O (.nx ρ O)
  | nx {d : D} {ds : List D} {is : List Nat} {ρ ρ1 ρ2 : Rho} {O O1 : Sto} {o : Out} : GT c S tg is ρ d ρ1 → SS c S body ρ1 O (.nx ρ2 O1) → FR c S tg body ds ρ2 O1 o → FR c S tg body (d :: ds) ρ O o
  | ct {d : D} {ds : List D} {is : List Nat} {ρ ρ1 ρ2 : Rho} {O O1 : Sto} {o : Out} : GT c S tg is ρ d ρ1 → SS c S body ρ1 O (.ct ρ2 O1) → FR c S tg body ds ρ2 O1 o → FR c S tg body (d :: ds) ρ O o
  | rt {d : D} {ds : List D} {is : List Nat} {ρ ρ1 : Rho} {O O1 : Sto} {r : D} : GT c S tg is ρ d ρ1 → SS c S body ρ1 O (.rt r O1) → FR c S tg body (d :: ds) ρ O (.rt r O1)
  | bk {d : D} {ds : List D} {is : List Nat} {ρ ρ1 ρ2 : Rho} {O O1 : Sto} : GT c S tg is ρ d ρ1 → SS c S body ρ1 O (.bk ρ2 O1) → FR c S tg body (d :: ds) ρ O (.nx ρ2 O1)
  | less {ds : List D} {ρ ρ1 : Rho} {O : Sto} {o : Out} : Les ρ ρ1 → FR c S tg body ds ρ1 O o → FR c S tg body ds ρ O o
theorem GT.sup {tg : Expr} (h : GT c S tg is ρ d ρ1) : TgS c.K c.I (supG c S tg) is ρ d ρ1 := let ⟨g, p, v⟩ := h; fun σ F L H x sb sl rv Q q => ⟨g, p, v σ F L H x sb sl rv Q q⟩
/-- one turn, as FR tells it -/
theorem FR.turn {body : List Stmt} {o : Out} : ∀ {ds : List D} {ρ : Rho} {O : Sto}, FR c S tg body ds ρ O o → ∀ {σ F L H} (_ : OkH c.K c.I F L H O) (_ : Sl c.K c.I F L ρ σ) {E : Ends}, EndOk c.K c.I F L H E o →
    (ds = [] ∧ E.nx σ H) ∨ ∃ d ds', ds = d :: ds' ∧ ∀ x F1 H1, Nxt F L H F1 L H1 → OkH c.K c.I F1 L H1 O → RV c.K c.I F1 L d x → supG c S tg x σ H1 fun σ2 H2 =>
      supS c S body { E with nx := fun σ' H' => ∃ ρ' O' F' L', FR c S tg body ds' ρ' O' o ∧ Nxt F L H F' L' H' ∧ OkH c.K c.I F' L' H' O' ∧ Sl c.K c.I F' L' ρ' σ', ct := fun σ' H' => ∃ ρ' O' F' L', FR c S tg body ds' ρ' O' o ∧ Nxt F L H F' L' H' ∧ OkH c.K c.I F' L' H' O' ∧ Sl c.K c.I F' L' ρ' σ', bk := E.nx } σ2 H2 := by
  intro ds ρ O h
  induction h with
  | nil => intro σ F L H ok sl E hE; exact .inl ⟨rfl, hE σ F L H (.refl _ _ _) ok sl⟩
  | nx hg hb hr ih =>
    intro σ F L H ok sl E hE
    refine .inr ⟨_, _, rfl, fun x F1 H1 n1 ok1 rv => ?_⟩
    refine hg.sup σ F1 L H1 x ok1.sub (sl.mono c.hI n1.sub (.refl _)) rv _ fun σ' sl' _ => ?_
    exact hb.sup σ' F1 L H1 ok1 sl' _ fun σ3 F3 L3 H3 n3 ok3 sl3 => ⟨_, _, F3, L3, hr, n1.trans n3, ok3, sl3⟩
  | ct hg hb hr ih =>
    intro σ F L H ok sl E hE
    refine .inr ⟨_, _, rfl, fun x F1 H1 n1 ok1 rv => ?_⟩
    refine hg.sup σ F1 L H1 x ok1.sub (sl.mono c.hI n1.sub (.refl _)) rv _ fun σ' sl' _ => ?_
    exact hb.sup σ' F1 L H1 ok1 sl' _ fun σ3 F3 L3 H3 n3 ok3 sl3 => ⟨_, _, F3, L3, hr, n1.trans n3, ok3, sl3⟩
  | rt hg hb =>
    intro σ F L H ok sl E hE
    refine .inr ⟨_, _, rfl, fun x F1 H1 n1 ok1 rv => ?_⟩
    refine hg.sup σ F1 L H1 x ok1.sub (sl.mono c.hI n1.sub (.refl _)) rv _ fun σ' sl' _ => ?_
    exact hb.sup σ' F1 L H1 ok1 sl' _ fun v F3 L3 H3 n3 ok3 rv => hE v F3 L3 H3 (n1.trans n3) ok3 rv
  | bk hg hb =>
    intro σ F L H ok sl E hE
    refine .inr ⟨_, _, rfl, fun x F1 H1 n1 ok1 rv => ?_⟩
    refine hg.sup σ F1 L H1 x ok1.sub (sl.mono c.hI n1.sub (.refl _)) rv _ fun σ' sl' _ => ?_
    exact hb.sup σ' F1 L H1 ok1 sl' _ fun σ3 F3 L3 H3 n3 ok3 sl3 => hE σ3 F3 L3 H3 (n1.trans n3) ok3 sl3
  | less l _ ih => intro σ F L H ok sl E hE; exact ih ok (sl.les l) hE
theorem s_for {body : List Stmt} {o : Out} (hi : IT c S tg iter ρ O ds O1) (hf : FR c S tg body ds ρ O1 o) (hs : ∀ env x, foldedSetIterable iter env x = pure x := by intro _ _; rfl) : S1 c S (.For tg iter body [] pos) ρ O o := by
  obtain ⟨wi, pi, vi⟩ := hi
  refine ⟨tFor wi (supG c S tg) (supS c S body), fun X j => ps_for (by rw [j.1.xe]; exact PassesOwn.never) j.1.calm (pi X j.1) (p_supG j.1) (p_supS j) (hs _), ?_⟩
  intro σ F L H ok sl E hE
  refine vi σ F L H ok sl _ fun J F1 L1 H1 n1 ok1 yl => ?_
  refine ⟨fun i m σ H => m = ds.length - i ∧ i ≤ ds.length ∧ ∃ ρ' O' F' L', FR c S tg body (ds.drop i) ρ' O' o ∧ Nxt F1 L1 H1 F' L' H ∧ OkH c.K c.I F' L' H O' ∧ Sl c.K c.I F' L' ρ' σ, ⟨ds.length, by simp, Nat.zero_le _, ρ, O1, F1, L1, hf, .refl _ _ _, ok1, sl.mono c.hI n1.sub n1.pre⟩, ?_⟩
  rintro i m σ H ⟨rfl, hi, ρ', O', F', L', hf', n', ok', sl'⟩
  obtain ⟨hgo, hst⟩ := yl F' L' H O' n'.sub n'.pre ok'
  rcases hf'.turn ok' sl' (EndOk.seq (n1.trans n') hE) with ⟨e, q⟩ | ⟨d, ds', e, step⟩
  · exact .inl ⟨hst i (List.drop_eq_nil_iff.mp e), q⟩
  · have hil : i < ds.length := by
      by_cases z : i < ds.length
      · exact z
      · rw [List.drop_eq_nil_iff.mpr (by omega)] at e; cases e
    have hd : ds[i]? = some d := by
      have := congrArg (fun l : List D => l[0]?) e
      simpa using this
    have hdr : ds.drop (i + 1) = ds' := by
      have := congrArg List.tail e
      simpa [List.tail_drop] using this
    obtain ⟨go, yld⟩ := hgo i d hd
    refine .inr ⟨go, fun σ' H' => ∃ ρ' O' F2 L2, FR c S tg body ds' ρ' O' o ∧ Nxt F' L' H F2 L2 H' ∧ OkH c.K c.I F2 L2 H' O' ∧ Sl c.K c.I F2 L2 ρ' σ', fun σ' H' q => ?_, fun x H3 y => ?_⟩
    rotate_left
    · obtain ⟨F3, n3, ok3, rv⟩ := yld x H3 y
      exact step x F3 H3 n3 ok3 rv
    · obtain ⟨ρ2, O2, F2, L2, f2, n2, ok2, sl2⟩ := q
      refine ⟨ds.length - (i + 1), by omega, rfl, hil, ρ2, O2, F2, L2, by rw [hdr]; exact f2, n'.trans n2, ok2, sl2⟩

/-! ### while -/
inductive WR (c : Cn) (S : Sc) (cnd : Expr) (body : List Stmt) : Nat → Rho → Sto → Out → Prop
  | stop {ρ : Rho} {O O1 : Sto} : ET c S cnd ρ O false O1 → WR c S cnd body 0 ρ O (.nx ρ O1)
  | nx {n : Nat} {ρ ρ1 : Rho} {O O1 O2 : Sto} {o : Out} : ET c S cnd ρ O true O1 → SS c S body ρ O1 (.nx ρ1 O2) → WR c S cnd body n ρ1 O2 o → WR c S cnd body (n + 1) ρ O o
  | ct {n : Nat} {ρ ρ1 : Rho} {O O1 O2 : Sto} {o : Out} : ET c S cnd ρ O true O1 → SS c S body ρ O1 (.ct ρ1 O2) → WR c S cnd body n ρ1 O2 o → WR c S cnd body (n + 1) ρ O o
  | rt {ρ : Rho} {O O1 O2 : Sto} {r : D} : ET c S cnd ρ O true O1 → SS c S body ρ O1 (.rt r O2) → WR c S cnd body 0 ρ O (.rt r O2)
  | bk {ρ ρ1 : Rho} {O O1 O2 : Sto} : ET c S cnd ρ O true O1 → SS c S body ρ O1 (.bk ρ1 O2) → WR c S cnd body 0 ρ O (.nx ρ1 O2)
theorem s_while {cnd : Expr} {body : List Stmt} {o : Out} {n : Nat} (h : WR c S cnd body n ρ O o) : S1 c S (.While cnd body [] pos) ρ O o := by
  refine ⟨tWhile (supT c S cnd) (supS c S body), fun X j => ps_while (by rw [j.1.xe]; exact PassesOwn.never) (p_supT j.1) (p_supS j), ?_⟩
  intro σ0 F L H0 ok sl E hE
  refine ⟨fun m σ H => ∃ ρ' O' F' L', WR c S cnd body m ρ' O' o ∧ Nxt F L H0 F' L' H ∧ OkH c.K c.I F' L' H O' ∧ Sl c.K c.I F' L' ρ' σ, ⟨n, ρ, O, F, L, h, ?_, ok, sl⟩, ?_⟩
  · exact .refl _ _ _
  rintro m σ H1 ⟨ρ', O', F', L', h', n', ok', sl'⟩
  have hE' := EndOk.seq n' hE
  cases h' with
  | stop ht =>
    refine ht.sup σ F' L' H1 ok' sl' _ fun F2 L2 H2 n2 ok2 => ?_
    rw [if_neg Bool.false_ne_true]
    exact hE' σ F2 L2 H2 n2 ok2 (sl'.mono c.hI n2.sub n2.pre)
  | nx ht hb hr =>
    refine ht.sup σ F' L' H1 ok' sl' _ fun F2 L2 H2 n2 ok2 => ?_
    rw [if_pos rfl]
    refine ⟨fun σ' H' => ∃ ρ' O' F' L', WR c S cnd body _ ρ' O' o ∧ Nxt F L H0 F' L' H' ∧ OkH c.K c.I F' L' H' O' ∧ Sl c.K c.I F' L' ρ' σ', fun σ' H' q => ⟨_, Nat.lt_succ_self _, q⟩, ?_⟩
    exact hb.sup σ F2 L2 H2 ok2 (sl'.mono c.hI n2.sub n2.pre) _ fun σ3 F3 L3 H3 n3 ok3 sl3 => ⟨_, _, F3, L3, hr, (n'.trans n2).trans n3, ok3, sl3⟩
  | ct ht hb hr =>
    refine ht.sup σ F' L' H1 ok' sl' _ fun F2 L2 H2 n2 ok2 => ?_
    rw [if_pos rfl]
    refine ⟨fun σ' H' => ∃ ρ' O' F' L', WR c S cnd body _ ρ' O' o ∧ Nxt F L H0 F' L' H' ∧ OkH c.K c.I F' L' H' O' ∧ Sl c.K c.I F' L' ρ' σ', fun σ' H' q => ⟨_, Nat.lt_succ_self _, q⟩, ?_⟩
    exact hb.sup σ F2 L2 H2 ok2 (sl'.mono c.hI n2.sub n2.pre) _ fun σ3 F3 L3 H3 n3 ok3 sl3 => ⟨_, _, F3, L3, hr, (n'.trans n2).trans n3, ok3, sl3⟩
  | rt ht hb =>
    refine ht.sup σ F' L' H1 ok' sl' _ fun F2 L2 H2 n2 ok2 => ?_
    rw [if_pos rfl]
    refine ⟨fun _ _ => False, fun _ _ q => q.elim, ?_⟩
    exact hb.sup σ F2 L2 H2 ok2 (sl'.mono c.hI n2.sub n2.pre) _ fun v F3 L3 H3 n3 ok3 rv => hE' v F3 L3 H3 (n2.trans n3) ok3 rv
  | bk ht hb =>
    refine ht.sup σ F' L' H1 ok' sl' _ fun F2 L2 H2 n2 ok2 => ?_
    rw [if_pos rfl]
    refine ⟨fun _ _ => False, fun _ _ q => q.elim, ?_⟩
    exact hb.sup σ F2 L2 H2 ok2 (sl'.mono c.hI n2.sub n2.pre) _ fun σ3 F3 L3 H3 n3 ok3 sl3 => hE' σ3 F3 L3 H3 (n2.trans n3) ok3 sl3
end
end DL
set_option maxRecDepth 100000
namespace DL
open PySem L2 PyProof.Rows PySem.Spec

/-! ### comprehensions -/
def Sc.blk (S : Sc) (scope : Scope) : Sc := ⟨S.N, relS scope S.sc, fun x => scope.names.lookup x == some .cell, none⟩
theorem InC.blk {c : Cn} {S : Sc} {X : Cx} (i : InC c S X) (s : Shared) (H : Hp) (scope : Scope) (C : Addr) (cl : List (Str × Addr)) (fp : List Addr) : InC c (S.blk scope) (X.blk s H scope (compEnvC scope cl C X.env) fp) :=
  ⟨i.P, i.w, i.K, i.mg, i.base, i.N, by show relS scope X.env.scope = relS scope S.sc; rw [i.sc], i.calm, i.room, rfl, i.gd, fun _ h => h, fun _ _ h => nomatch h⟩
def EI (c : Cn) (S : Sc) (ifs : List Expr) (ρ : Rho) (O : Sto) (b : Bool) (O' : Sto) : Prop := ∃ t, (∀ X, InC c S X → PTs X ifs t) ∧ EvT c.K c.I t ρ O b O'
def supI (c : Cn) (S : Sc) (ifs : List Expr) : TT := fun σ H Q => ∃ t, (∀ X, InC c S X → PTs X ifs t) ∧ t σ H Q
theorem OkH.wr {K : PySem.W.Frag} {I : Ob} (hI : IMono I) {F H : Hp} {L : List Addr} {O : Sto} {p : Addr} {o : HO} (ok : OkH K I F L H O) (hF : F p = none) (hn : p ∉ L) {o0 : HO} (h0 : H p = some o0) (ht : ∀ ps, o0 ≠ .tbl ps := by intro _ h; cases h) : OkH K I F L (upd H p o) O := by
  refine ⟨ok.sub.upd' hF, ok.nd, ok.len, fun k a e => ?_, fun t hm => let ⟨x1, x2, x3⟩ := ok.tab t hm; ⟨x1, x2, x3.mono (.refl _) (upd_ne fun z => by obtain ⟨ps, e, _⟩ := x3; rw [z, h0] at e; exact ht ps (Option.some.inj e))⟩, fun k a c e q => ?_⟩
  · obtain ⟨u, hu⟩ := ok.has k a e
    by_cases ha : a = p
    · exact absurd (ha ▸ mem_of_get e) hn
    · exact ⟨u, by rw [upd_ne ha]; exact hu⟩
  · have hne : a ≠ p := fun z => hn (z ▸ mem_of_get e)
    exact (ok.cell k a c e q).mono hI (.refl _) (.refl _) (fun _ h => h) (upd_ne hne)
/-- p is told now / becomes a cell -/
theorem OkH.tabTold {K : PySem.W.Frag} {I : Ob} {F H : Hp} {L : List Addr} {O : Sto} {p : Addr} {o : HO} (ok : OkH K I F L H O) (h0 : H p = some o) (hF : F p = none) (ht : ∀ ps, o ≠ .tbl ps := by intro _ h; cases h) : ∀ t ∈ I.T, upd F p o t.1 = none ∧ t.1 ∉ L ∧ TabD (upd F p o) H t.1 t.2 := fun t hm => by
  obtain ⟨x1, x2, x3⟩ := ok.tab t hm
  have hne : t.1 ≠ p := fun z => by obtain ⟨ps, e, _⟩ := x3; rw [z, h0] at e; exact ht ps (Option.some.inj e)
  exact ⟨by rw [upd_ne hne]; exact x1, x2, x3.mono (Sub.up hF) rfl⟩
theorem OkH.tabApp {K : PySem.W.Frag} {I : Ob} {F H : Hp} {L : List Addr} {O : Sto} {p : Addr} {o : HO} (ok : OkH K I F L H O) (h0 : H p = some o) (ht : ∀ ps, o ≠ .tbl ps := by intro _ h; cases h) : ∀ t ∈ I.T, F t.1 = none ∧ t.1 ∉ L ++ [p] ∧ TabD F H t.1 t.2 := fun t hm => by
  obtain ⟨x1, x2, x3⟩ := ok.tab t hm
  refine ⟨x1, fun z => ?_, x3⟩
  rcases List.mem_append.mp z with z | z
  · exact x2 z
  · obtain ⟨ps, e, _⟩ := x3; rw [List.mem_singleton.mp z, h0] at e; exact ht ps (Option.some.inj e)
inductive CR (c : Cn) (S : Sc) (tg : Expr) (ifs : List Expr) (elt : Expr) (vs : List Nat) (ρ : Rho) : List D → Sto → List D → Sto → Prop
  | nil {O : Sto} : CR c S tg ifs elt vs ρ [] O [] O
  | yes {d r : D} {ds rs : List D} {is : List Nat} {ρ1 : Rho} {O O1 O2 O3 : Sto} : GT c S tg is ρ d ρ1 → (∀ i ∈ is, i ∈ vs) → EI c S ifs ρ1 O true O1 → EE c S elt ρ1 O1 r O2 → CR c S tg ifs elt vs ρ ds O2 rs O3 → CR c S tg ifs elt vs ρ (d :: ds) O (r :: rs) O3
  | no {d : D} {ds rs : List D} {is : List Nat} {ρ1 : Rho} {O O1 O3 : Sto} : GT c S tg is ρ d ρ1 → (∀ i ∈ is, i ∈ vs) → EI c S ifs ρ1 O false O1 → CR c S tg ifs elt vs ρ ds O1 rs O3 → CR c S tg ifs elt vs ρ (d :: ds) O rs O3
section
variable {c : Cn} {S : Sc} {ρ ρ1 ρ2 : Rho} {O O1 O2 O3 : Sto} {a b e tg iter elt cnd : Expr} {es ifs : List Expr} {d z : D} {ds rs : List D} {pos p : Pos} {is js vs : List Nat}
theorem ei_nil : EI c S [] ρ O true O := ⟨tYes, fun _ _ => pts_nil, fun σ F L H ok sl Q q => q F L H (.refl _ _ _) ok⟩
theorem ei_one {k : Bool} (h : ET c S cnd ρ O k O1) : EI c S [cnd] ρ O k O1 := let ⟨t, p, v⟩ := h; ⟨t, fun X j => pts_one (p X j), v⟩
theorem EI.sup {k : Bool} (h : EI c S ifs ρ O k O1) : EvT c.K c.I (supI c S ifs) ρ O k O1 := let ⟨t, p, v⟩ := h; fun σ F L H ok sl Q q => ⟨t, p, v σ F L H ok sl Q q⟩
theorem p_supI {X : Cx} (i : InC c S X) : PTs X ifs (supI c S ifs) := ⟨fun pins s σ H Q I h => let ⟨t, p, q⟩ := h; (p X i).run pins s σ H Q I q⟩
theorem wipe_wipe (σ : L2.St) (vs : List Nat) : L2.wipe (L2.wipe σ vs) vs = L2.wipe σ vs := by
  refine List.ext_getElem? fun j => ?_
  rw [wipe_at', wipe_at', wipe_length]
  by_cases h : j ∈ vs ∧ j < σ.length
  · rw [if_pos h, if_pos h]
  · rw [if_neg h]
/-- what a comprehension reads, up to its list -/
theorem lc_ev {scope : Scope} {vs : List Nat} {wi : TI} (hw : ∀ (σ : L2.St) (F : Hp) (L : List Addr) (H : Hp), OkH c.K c.I F L H O → Sl c.K c.I F L ρ σ → ∀ R : It → Hp → Prop, (∀ J F' L' H', Nxt F L H F' L' H' → OkH c.K c.I F' L' H' O1 → YldOk c.K c.I J F' L' ds → R J H') → wi σ H R)
    (hc : CR c (S.blk scope) tg ifs elt vs (wipeR ρ vs) ds O1 rs O2) (hz : ds.length < 16777216) {σ : L2.St} {F : Hp} {L : List Addr} {H : Hp} (ok : OkH c.K c.I F L H O) (sl : Sl c.K c.I F L ρ σ) (Q : VK)
    (q : ∀ p F' L' H' acc, Nxt F L H F' L' H' → OkH c.K c.I F' L' H' O2 → p ∉ L' → F' p = none → H p = none → H' p = some (.lst acc) → RVs c.K c.I F' L' rs acc → Q (.ref p) H') :
    tLc wi (supG c (S.blk scope) tg) (supI c (S.blk scope) ifs) (supE c (S.blk scope) elt) vs σ H Q := by
  refine hw σ F L H ok sl _ fun J F1 L1 H1 n1 ok1 yl => fun D hD => ?_
  refine ⟨fun i m H => m = ds.length - i ∧ i ≤ ds.length ∧ ∃ O' F' L' acc r1 r2, CR c (S.blk scope) tg ifs elt vs (wipeR ρ vs) (ds.drop i) O' r2 O2 ∧ Nxt F1 L1 H1 F' L' H ∧ OkH c.K c.I F' L' H O' ∧ H D = some (.lst acc) ∧ acc.length ≤ i ∧ RVs c.K c.I F' L' r1 acc ∧ r1 ++ r2 = rs ∧ D ∉ L' ∧ F' D = none, ⟨ds.length, by simp, Nat.zero_le _, O1, F1, L1, [], [], rs, hc, (ok1.junk c.hI hD).2, (ok1.junk c.hI hD).1, upd_same, Nat.le_refl _, .nil, rfl, ok1.out hD, ok1.sub.none hD⟩, ?_⟩
  rintro i m H' ⟨rfl, hi, O', F', L', acc, r1, r2, hc', n', ok', hacc, hlen, hrs, hr, hDL, hDF⟩
  obtain ⟨hgo, hst⟩ := yl F' L' H' O' n'.sub n'.pre ok'
  have slw : Sl c.K c.I F' L' (wipeR ρ vs) (L2.wipe σ vs) := ((sl.mono c.hI (n1.trans n').sub (n1.trans n').pre)).wipe vs
  by_cases hil : i < ds.length
  · have hd : ds[i]? = some ds[i] := List.getElem?_eq_getElem hil
    have hdr : ds.drop i = ds[i] :: ds.drop (i + 1) := List.drop_eq_getElem_cons hil
    rw [hdr] at hc'
    obtain ⟨go, yld⟩ := hgo i _ hd
    refine .inr ⟨go, fun H2 => (i + 1 ≤ ds.length ∧ ∃ O' F' L' acc r1 r2, CR c (S.blk scope) tg ifs elt vs (wipeR ρ vs) (ds.drop (i + 1)) O' r2 O2 ∧ Nxt F1 L1 H1 F' L' H2 ∧ OkH c.K c.I F' L' H2 O' ∧ H2 D = some (.lst acc) ∧ acc.length ≤ i + 1 ∧ RVs c.K c.I F' L' r1 acc ∧ r1 ++ r2 = rs ∧ D ∉ L' ∧ F' D = none), fun H2 h2 => ⟨ds.length - (i + 1), by omega, rfl, h2⟩, fun x H3 y => ?_⟩
    obtain ⟨F3, n3, ok3, rv⟩ := yld x H3 y
    have D3 : F3 D = none ∧ H3 D = some (.lst acc) := by
      refine ⟨?_, n3.frm D _ hacc hDL (by intro _ h; cases h)⟩
      cases e : F3 D with
      | none => rfl
      | some o => have := n3.nwF D o e hDF hDL; rw [hacc] at this; cases this
    cases hc' with
    | yes hg his hif he hcr =>
      refine hg.sup _ F3 L' H3 x ok3.sub (slw.mono c.hI n3.sub (.refl _)) rv _ fun σ' sl' hwp => ⟨(hwp vs his).trans (wipe_wipe _ _), ?_⟩
      refine hif.sup σ' F3 L' H3 ok3 sl' _ fun F4 L4 H4 n4 ok4 => ?_
      rw [if_pos rfl]
      refine he.sup σ' F4 L4 H4 ok4 (sl'.mono c.hI n4.sub n4.pre) _ fun v F5 L5 H5 n5 ok5 rv5 => ?_
      have n35 := n4.trans n5
      have D5 : D ∉ L5 ∧ F5 D = none ∧ H5 D = some (.lst acc) := by
        refine ⟨fun z => ?_, ?_, n35.frm D _ D3.2 hDL (by intro _ h; cases h)⟩
        · have := n35.new D z hDL; rw [D3.2] at this; cases this
        · cases e : F5 D with
          | none => rfl
          | some o => have := n35.nwF D o e D3.1 hDL; rw [D3.2] at this; cases this
      refine ⟨acc, D5.2.2, by rw [sizeLine_eq]; omega, hil, _, F5, L5, acc ++ [v], r1 ++ [_], _, hcr, ?_, ok5.wr c.hI D5.2.1 D5.1 D5.2.2, upd_same, by simp; omega, (hrs.mono c.hI (n3.trans n35).sub (n3.trans n35).pre).append (.cons rv5 .nil), by rw [← hr]; simp, D5.1, D5.2.1⟩
      have nn := n'.trans (n3.trans n35)
      exact ⟨nn.sub, nn.pre, fun b o e n t => by rw [upd_ne (ne_of_none e hD)]; exact nn.frm b o e n t, fun b ps e n => by rw [upd_ne (ne_of_none e hD)]; exact nn.tbl b ps e n, nn.new, nn.nwF⟩
    | no hg his hif hcr =>
      refine hg.sup _ F3 L' H3 x ok3.sub (slw.mono c.hI n3.sub (.refl _)) rv _ fun σ' sl' hwp => ⟨(hwp vs his).trans (wipe_wipe _ _), ?_⟩
      refine hif.sup σ' F3 L' H3 ok3 sl' _ fun F4 L4 H4 n4 ok4 => ?_
      rw [if_neg Bool.false_ne_true]
      have D5 : D ∉ L4 ∧ F4 D = none ∧ H4 D = some (.lst acc) := by
        refine ⟨fun z => ?_, ?_, n4.frm D _ D3.2 hDL (by intro _ h; cases h)⟩
        · have := n4.new D z hDL; rw [D3.2] at this; cases this
        · cases e : F4 D with
          | none => rfl
          | some o => have := n4.nwF D o e D3.1 hDL; rw [D3.2] at this; cases this
      exact ⟨hil, _, F4, L4, acc, r1, _, hcr, n'.trans (n3.trans n4), ok4, D5.2.2, by omega, hrs.mono c.hI (n3.trans n4).sub (n3.trans n4).pre, hr, D5.1, D5.2.1⟩
  · refine .inl ⟨hst i (by omega), ?_⟩
    rw [List.drop_eq_nil_of_le (by omega)] at hc'
    cases hc'
    rw [List.append_nil] at hr
    subst hr
    have hHD : H D = none := by
      cases e : H D with
      | none => rfl
      | some o =>
        by_cases hm : D ∈ L
        · exact absurd ((n1.trans n').pre.mem hm) hDL
        · obtain ⟨u, this⟩ := n1.there e hm; rw [hD] at this; cases this
    exact q D F' L' H' acc (n1.trans n') ok' hDL hDF hHD hacc hrs
theorem lc_val {scope : Scope} {vs : List Nat} {wi : TI} (hw : ∀ (σ : L2.St) (F : Hp) (L : List Addr) (H : Hp), OkH c.K c.I F L H O → Sl c.K c.I F L ρ σ → ∀ R : It → Hp → Prop, (∀ J F' L' H', Nxt F L H F' L' H' → OkH c.K c.I F' L' H' O1 → YldOk c.K c.I J F' L' ds → R J H') → wi σ H R)
    (hc : CR c (S.blk scope) tg ifs elt vs (wipeR ρ vs) ds O1 rs O2) (hz : ds.length < 16777216) : Ev c.K c.I (tLc wi (supG c (S.blk scope) tg) (supI c (S.blk scope) ifs) (supE c (S.blk scope) elt) vs) ρ O (.lst rs) O2 := by
  intro σ F L H ok sl Q q
  refine lc_ev hw hc hz ok sl Q fun p F' L' H' acc n ok' hp hF hH hacc rs' => ?_
  have hL : p ∉ L := fun z => hp (n.pre.mem z)
  refine q _ (upd F' p (.lst acc)) L' H' ⟨n.sub.trans (Sub.up hF), n.pre, n.frm, n.tbl, n.new, fun a o e m z => ?_⟩ ⟨fun a o e => ?_, ok'.nd, ok'.len, ok'.has, ok'.tabTold hacc hF, fun k a cl e g => ?_⟩ (.lst upd_same (rs'.mono c.hI (Sub.up hF) (.refl _)))
  · by_cases ha : a = p
    · rw [ha]; exact hH
    · rw [upd_ne ha] at e; exact n.nwF a o e m z
  · by_cases ha : a = p
    · subst ha; rw [upd_same] at e; cases e; exact hacc
    · rw [upd_ne ha] at e; exact ok'.sub a o e
  · have ha : a ≠ p := fun z => hp (z ▸ mem_of_get e)
    exact (ok'.cell k a cl e g).mono c.hI (Sub.up hF) (.refl _) (fun _ h => by rw [upd_ne ha]; exact h) rfl
/-- the list as a value -/
theorem ee_lc {scope : Scope} (own : List (Str × Nat)) (hi : IT c S tg iter ρ O ds O1) (hc : CR c (S.blk scope) tg ifs elt (own.map (·.2)) (wipeR ρ (own.map (·.2))) ds O1 rs O2) (hz : ds.length < 16777216)
    (hb : blkC S.N S.sc scope own = true := by first | decide +kernel | kernel_rfl | exact of_decide_eq_true (by kernel_rfl)) (nd : S.N.Nodup := by first | decide +kernel | kernel_rfl | exact of_decide_eq_true (by kernel_rfl)) (hs : ∀ env x, foldedSetIterable iter env x = pure x := by intro _ _; rfl) :
    EE c S (.ListComp elt [{ target := tg, iter := iter, ifs := ifs, is_async := 0 }] scope pos) ρ O (.lst rs) O2 := by
  obtain ⟨wi, pi, vi⟩ := hi
  exact ⟨_, fun X j => pe_lc (own := own) j.calm (by rw [j.N]; exact nd) (pi X j) (by rw [j.N, j.sc]; exact blkOk_by hb) (fun s H C cl fp => p_supG (j.blk s H scope C cl fp)) (fun s H C cl fp => p_supI (j.blk s H scope C cl fp)) (fun s H C cl fp => p_supE (j.blk s H scope C cl fp)) (hs _), lc_val vi hc hz⟩
/-- x = [..], x a local name -/
theorem s_setLc {scope : Scope} (i : Nat) {y : Str} {py spos : Pos} (own : List (Str × Nat)) (hi : IT c S tg iter ρ O ds O1) (hc : CR c (S.blk scope) tg ifs elt (own.map (·.2)) (wipeR ρ (own.map (·.2))) ds O1 rs O2) (hz : ds.length < 16777216)
    (hN : S.N[i]? = some y := by rfl) (hl : locB S.sc y = true := by first | decide +kernel | kernel_rfl | exact of_decide_eq_true (by kernel_rfl)) (hb : blkC S.N S.sc scope own = true := by first | decide +kernel | kernel_rfl | exact of_decide_eq_true (by kernel_rfl)) (nd : S.N.Nodup := by first | decide +kernel | kernel_rfl | exact of_decide_eq_true (by kernel_rfl)) (hs : ∀ env x, foldedSetIterable iter env x = pure x := by intro _ _; rfl)
    (hsw : ∀ q L f cd, swapsWith (.ListComp elt [{ target := tg, iter := iter, ifs := ifs, is_async := 0 }] scope pos) (some (.Name y py)) spos.line (envOfC q S.sc L f cd) = pure true := by intro _ _ _ _; exact sw_true rfl rfl rfl (by decide +kernel)) :
    S1 c S (.Assign [.Name y py] (.ListComp elt [{ target := tg, iter := iter, ifs := ifs, is_async := 0 }] scope pos) spos) ρ O (.nx (ρ.set i (some (.lst rs))) O2) := by
  obtain ⟨wi, pi, vi⟩ := hi
  refine ⟨_, fun X jj => ps_setLc (i := i) (own := own) jj.1.calm (by rw [jj.1.N]; exact nd) (by rw [jj.1.N]; exact hN) (by rw [jj.1.sc]; exact locB.loc hl) (by obtain ⟨q, L, f, cd, e⟩ := jj.2; rw [e]; exact hsw _ _ _ _) (pi X jj.1) (by rw [jj.1.N, jj.1.sc]; exact blkOk_by hb) (fun s H C cl fp => p_supG (jj.1.blk s H scope C cl fp)) (fun s H C cl fp => p_supI (jj.1.blk s H scope C cl fp)) (fun s H C cl fp => p_supE (jj.1.blk s H scope C cl fp)) (hs _), ?_⟩
  intro σ F L H ok sl E hE
  exact lc_val vi hc hz σ F L H ok sl _ fun v F1 L1 H1 n1 ok1 rv => hE _ F1 L1 H1 n1 ok1 ((sl.mono c.hI n1.sub n1.pre).set rv)
/-- as a cell -/
theorem ee_lcN {scope : Scope} (own : List (Str × Nat)) (hi : IT c S tg iter ρ O ds O1) (hc : CR c (S.blk scope) tg ifs elt (own.map (·.2)) (wipeR ρ (own.map (·.2))) ds O1 rs O2) (hz : ds.length < 16777216)
    (hb : blkC S.N S.sc scope own = true := by first | decide +kernel | kernel_rfl | exact of_decide_eq_true (by kernel_rfl)) (nd : S.N.Nodup := by first | decide +kernel | kernel_rfl | exact of_decide_eq_true (by kernel_rfl)) (hs : ∀ env x, foldedSetIterable iter env x = pure x := by intro _ _; rfl) :
    EE c S (.ListComp elt [{ target := tg, iter := iter, ifs := ifs, is_async := 0 }] scope pos) ρ O (.loc O2.length) (O2 ++ [.lst rs]) := by
  obtain ⟨wi, pi, vi⟩ := hi
  refine ⟨_, fun X j => pe_lc (own := own) j.calm (by rw [j.N]; exact nd) (pi X j) (by rw [j.N, j.sc]; exact blkOk_by hb) (fun s H C cl fp => p_supG (j.blk s H scope C cl fp)) (fun s H C cl fp => p_supI (j.blk s H scope C cl fp)) (fun s H C cl fp => p_supE (j.blk s H scope C cl fp)) (hs _), ?_⟩
  intro σ F L H ok sl Q q
  refine lc_ev vi hc hz ok sl Q fun p F' L' H' acc n ok' hp hF hH hacc rs' => ?_
  have get : ∀ {k : Nat} {a : Addr}, (L' ++ [p])[k]? = some a → (L'[k]? = some a ∧ a ≠ p ∧ k < L'.length) ∨ (k = L'.length ∧ a = p) := fun {k a} e => by
    by_cases hk : k < L'.length
    · rw [List.getElem?_append_left hk] at e
      exact .inl ⟨e, fun z => hp (z ▸ mem_of_get e), hk⟩
    · rw [List.getElem?_append_right (by omega)] at e
      have : k - L'.length = 0 := by
        have := (List.getElem?_eq_some_iff.mp e).1
        simp at this; omega
      rw [this] at e
      simp at e
      exact .inr ⟨by omega, e.symm⟩
  refine q _ F' (L' ++ [p]) H' ⟨n.sub, n.pre.trans (.app _ _), n.frm, n.tbl, fun a h m => ?_, n.nwF⟩ ⟨ok'.sub, fun i j a h1 h2 => ?_, by simp [ok'.len], fun k a e => ?_, ok'.tabApp hacc, fun k a cl e g => ?_⟩ (.loc (by rw [← ok'.len]; simp))
  · rcases List.mem_append.mp h with z | z
    · exact n.new a z m
    · rw [List.mem_singleton.mp z]; exact hH
  · rcases get h1 with ⟨e1, n1, l1⟩ | ⟨e1, rfl⟩ <;> rcases get h2 with ⟨e2, n2, l2⟩ | ⟨e2, z⟩
    · exact ok'.nd i j a e1 e2
    · exact absurd z n1
    · exact absurd rfl n2
    · omega
  · rcases get e with ⟨e1, _, _⟩ | ⟨_, rfl⟩
    · exact ok'.has k a e1
    · exact ⟨_, hacc⟩
  · rcases get e with ⟨e1, n1, l1⟩ | ⟨e1, rfl⟩
    · rw [List.getElem?_append_left (by rw [← ok'.len]; exact l1)] at g
      exact (ok'.cell k a cl e1 g).mono c.hI (.refl _) (.app _ _) (fun _ h => h) rfl
    · have : k = O2.length := by rw [← ok'.len]; exact e1
      subst this
      simp at g
      subst g
      exact ⟨hF, acc, hacc, rs'.mono c.hI (.refl _) (.app _ _)⟩
end

/-! ### a def, by its body -/
theorem InS.cx {c : Cn} {N : List Str} {qual : Str} {scope : Scope} {f : Addr} {cd : Value} {A : Around} {outer : List Env} {s : Shared} {H : Hp} {E : XK} (hr : Room c.k (A.deeper (envOfC qual scope s.heap.objs.size f cd))) (hg : A.guards = some []) :
    InS c ⟨N, scope, fun _ => true, none⟩ (cxOf CX0 c.P c.w c.K c.mg c.base N qual scope f cd A outer s H E).nox :=
  ⟨⟨rfl, rfl, rfl, rfl, rfl, rfl, rfl, rfl, hr, rfl, hg, fun _ _ => rfl, fun _ _ h => nomatch h⟩, _, _, _, _, rfl⟩
theorem RVs.sl {K : PySem.W.Frag} {I : Ob} {F : Hp} {L : List Addr} {N : List Str} {ds : List D} {vs : List V} (r : RVs K I F L ds vs) : Sl K I F L (ds.map some ++ List.replicate (N.length - ds.length) none) (start N vs) := by
  have hl := r.length
  refine ⟨by unfold L2.start; simp [hl], fun i d e => ?_⟩
  unfold L2.start
  by_cases hi : i < ds.length
  · rw [List.getElem?_append_left (by simpa using hi)] at e
    rw [List.getElem?_map] at e
    cases q : ds[i]? with
    | none => rw [q] at e; cases e
    | some d' =>
      rw [q] at e
      simp at e
      subst e
      obtain ⟨v, h1, h2⟩ := r.get q
      exact ⟨v, by rw [List.getElem?_append_left (by rw [List.length_map, ← hl]; exact hi), List.getElem?_map, h1]; rfl, h2⟩
  · rw [List.getElem?_append_right (by simpa using hi)] at e
    rw [List.getElem?_replicate] at e
    split at e <;> cases e
/-- THE RULE of a def: for all arguments, the body comes to the answer -/
theorem def_ok {c : Cn} {x qual : Str} {st : Stmt} {f : Addr} {fd : FuncData} {N ps : List Str} {R : Fn} (F : Fun c.K x qual st f fd) (hm : c.mg x = some (.ref f)) (hb : Binds c.K fd ps []) (S : FnScope N ps (defScope st))
    (len : ∀ ds O d O', R ds O d O' → ds.length = ps.length)
    (body : ∀ ds O d O', R ds O d O' → SS c ⟨N, defScope st, fun _ => true, none⟩ (defBody st) (ds.map some ++ List.replicate (N.length - ds.length) none) O (.rt d O')) : DefOk c x R ps (c.k + 1) := by
  refine ⟨f, fd, ?_, hm, F.kp, hb⟩
  refine FnG.body F S (fun vs H Q E h => ?_) (fun cdv A outer s H vs Q E hr hgd h => ?_)
  · obtain ⟨F', L, O, ds, d, O', ok, r, hR, _⟩ := h
    rw [← r.length]; exact len _ _ _ _ hR
  · obtain ⟨F', L, O, ds, d, O', ok, r, hR, q⟩ := h
    obtain ⟨t, p, v⟩ := body ds O d O' hR
    exact ⟨t, PSs.nox (p _ (InS.cx hr hgd)), v (start N vs) F' L H ok r.sl _ fun v F2 L2 H2 n2 ok2 rv => q v F2 L2 H2 n2 ok2 rv⟩
end DL
set_option maxRecDepth 100000
namespace DL
open PySem L2 PyProof.Rows PySem.Spec

section
variable {c : Cn} {S : Sc} {ρ ρ1 ρ2 : Rho} {O O1 O2 O3 : Sto} {a b e : Expr} {es : List Expr} {d x y z : D} {ds rs xs ys : List D} {pos p : Pos} {i j : Int} {k : Nat}
theorem SemR.here {K : PySem.W.Frag} {I : Ob} {F : Hp} {L : List Addr} {H : Hp} {v : V} {R : Hp → VK → Prop} (ok : OkH K I F L H O) (r : RV K I F L z v) (h : ∀ Q : VK, Q v H → R H Q) : SemR K I F L H z O R := fun Q q => h Q (q v F L H (.refl _ _ _) ok r)
/-! ### ints -/
theorem od_int {op : Operator} {f : Int → Int → V} {g : Int → Int → Int} (h : ∀ X, OpR X (binaryOp op) (rI0 fun i j => .int (g i j))) : OpD c S (binaryOp op) (.int i) (.int j) O (.int (g i j)) O :=
  ⟨_, fun X _ => h X, fun F L H v u ok rv ru => by cases rv; cases ru; exact SemR.here ok .int fun Q q => ⟨i, j, rfl, rfl, q⟩⟩
theorem od_add : OpD c S (binaryOp .Add) (.int i) (.int j) O (.int (i + j)) O := od_int (f := fun _ _ => .non) (g := fun i j => i + j) fun X => op_add
theorem od_sub : OpD c S (binaryOp .Sub) (.int i) (.int j) O (.int (i - j)) O := od_int (f := fun _ _ => .non) (g := fun i j => i - j) fun X => op_sub
theorem od_cond {op : Operator} {C : Int → Int → Prop} {g : Int → Int → Int} (h : ∀ X, OpR X (binaryOp op) (rI C fun i j => .int (g i j))) (hc : C i j) : OpD c S (binaryOp op) (.int i) (.int j) O (.int (g i j)) O :=
  ⟨_, fun X _ => h X, fun F L H v u ok rv ru => by cases rv; cases ru; exact SemR.here ok .int fun Q q => ⟨i, j, rfl, rfl, hc, q⟩⟩
theorem od_mul (h : CMul i j) : OpD c S (binaryOp .Mult) (.int i) (.int j) O (.int (i * j)) O := od_cond (g := fun i j => i * j) (fun X => op_mul) h
theorem od_fdiv (h : CDiv i j) : OpD c S (binaryOp .FloorDiv) (.int i) (.int j) O (.int (i / j)) O := od_cond (g := fun i j => i / j) (fun X => op_fdiv) h
theorem od_mod (h : 0 < j) : OpD c S (binaryOp .Mod) (.int i) (.int j) O (.int (i % j)) O := od_cond (g := fun i j => i % j) (fun X => op_mod) h
theorem od_pow (h : CPow i j) : OpD c S (binaryOp .Pow) (.int i) (.int j) O (.int (i ^ j.toNat)) O := od_cond (g := fun i j => i ^ j.toNat) (fun X => op_pow) h
theorem ud_neg : UnD c S (unaryOp .USub) (.int i) O (.int (-i)) O := ⟨_, fun X _ => un_neg, fun F L H v ok rv => by cases rv; exact SemR.here ok .int fun Q q => ⟨i, rfl, q⟩⟩
theorem od_cmpI {op : CmpOp} {g : Int → Int → Bool} (h : ∀ X, OpR X (compareOp op) (rI0 fun i j => .bl (g i j))) : OpD c S (compareOp op) (.int i) (.int j) O (.bl (g i j)) O :=
  ⟨_, fun X _ => h X, fun F L H v u ok rv ru => by cases rv; cases ru; exact SemR.here ok .bl fun Q q => ⟨i, j, rfl, rfl, q⟩⟩
theorem od_lt : OpD c S (compareOp .Lt) (.int i) (.int j) O (.bl (decide (i < j))) O := od_cmpI (g := fun i j => decide (i < j)) fun X => op_lt
theorem od_le : OpD c S (compareOp .LtE) (.int i) (.int j) O (.bl (decide (i ≤ j))) O := od_cmpI (g := fun i j => decide (i ≤ j)) fun X => op_le
theorem od_gt : OpD c S (compareOp .Gt) (.int i) (.int j) O (.bl (decide (j < i))) O := od_cmpI (g := fun i j => decide (j < i)) fun X => op_gt
theorem od_ge : OpD c S (compareOp .GtE) (.int i) (.int j) O (.bl (decide (j ≤ i))) O := od_cmpI (g := fun i j => decide (j ≤ i)) fun X => op_ge
theorem od_eqI : OpD c S (compareOp .Eq) (.int i) (.int j) O (.bl (decide (i = j))) O :=
  ⟨_, fun X _ => op_eq, fun F L H v u ok rv ru => by cases rv; cases ru; exact SemR.here ok .bl fun Q q => ⟨rfl, by rw [show decide (V.int i = V.int j) = decide (i = j) by simp]; exact q⟩⟩
theorem od_neI : OpD c S (compareOp .NotEq) (.int i) (.int j) O (.bl (!decide (i = j))) O :=
  ⟨_, fun X _ => op_ne, fun F L H v u ok rv ru => by cases rv; cases ru; exact SemR.here ok .bl fun Q q => ⟨rfl, by rw [show decide (V.int i = V.int j) = decide (i = j) by simp]; exact q⟩⟩
theorem od_eqS {s t : Str} : OpD c S (compareOp .Eq) (.str s) (.str t) O (.bl (decide (s = t))) O :=
  ⟨_, fun X _ => op_eq, fun F L H v u ok rv ru => by cases rv; cases ru; exact SemR.here ok .bl fun Q q => ⟨rfl, by rw [show decide (V.str s = V.str t) = decide (s = t) by simp]; exact q⟩⟩
theorem od_neS {s t : Str} : OpD c S (compareOp .NotEq) (.str s) (.str t) O (.bl (!decide (s = t))) O :=
  ⟨_, fun X _ => op_ne, fun F L H v u ok rv ru => by cases rv; cases ru; exact SemR.here ok .bl fun Q q => ⟨rfl, by rw [show decide (V.str s = V.str t) = decide (s = t) by simp]; exact q⟩⟩
def D.isNon : D → Bool
  | .non => true
  | _ => false
theorem od_isN (hx : ∀ n q, x ≠ .ob n q) : OpD c S (compareOp .Is) x .non O (.bl x.isNon) O :=
  ⟨_, fun X _ => op_isN, fun F L H v u ok rv ru => by
    cases ru
    have : decide (v = V.non) = x.isNon := by cases rv <;> first | rfl | exact absurd rfl (hx _ _)
    exact SemR.here ok .bl fun Q q => ⟨rfl, by rw [this]; exact q⟩⟩
theorem od_notN (hx : ∀ n q, x ≠ .ob n q) : OpD c S (compareOp .IsNot) x .non O (.bl (!x.isNon)) O :=
  ⟨_, fun X _ => op_notN, fun F L H v u ok rv ru => by
    cases ru
    have : decide (v = V.non) = x.isNon := by cases rv <;> first | rfl | exact absurd rfl (hx _ _)
    exact SemR.here ok .bl fun Q q => ⟨rfl, by rw [this]; exact q⟩⟩
/-! ### built-ins of ints -/
theorem cd_int : CaD c S (.type "int") [.int i] O (.int i) O := ⟨_, fun X _ => call_int1, fun F L H vs ok rs => by cases rs with | cons r t => cases t; cases r; exact SemR.here ok .int fun Q q => .inl ⟨i, rfl, q⟩⟩
theorem cd_intB {k : Bool} : CaD c S (.type "int") [.bl k] O (.int (if k = true then 1 else 0)) O := ⟨_, fun X _ => call_int1, fun F L H vs ok rs => by cases rs with | cons r t => cases t; cases r; exact SemR.here ok .int fun Q q => .inr ⟨k, rfl, q⟩⟩
theorem max_if (i j : Int) : (if j > i then j else i) = max i j := by split <;> omega
theorem min_if (i j : Int) : (if j < i then j else i) = min i j := by split <;> omega
theorem abs_if (i : Int) : (if i < 0 then -i else i) = (i.natAbs : Int) := by split <;> omega
theorem cd_max : CaD c S (.builtin "max") [.int i, .int j] O (.int (max i j)) O := ⟨_, fun X h => call_max2 h.calm, fun F L H vs ok rs => by
  cases rs with | cons r t => cases t with | cons r' t => cases t; cases r; cases r'; exact SemR.here ok .int fun Q q => ⟨i, j, rfl, by rw [max_if]; exact q⟩⟩
theorem cd_min : CaD c S (.builtin "min") [.int i, .int j] O (.int (min i j)) O := ⟨_, fun X h => call_min2 h.calm, fun F L H vs ok rs => by
  cases rs with | cons r t => cases t with | cons r' t => cases t; cases r; cases r'; exact SemR.here ok .int fun Q q => ⟨i, j, rfl, by rw [min_if]; exact q⟩⟩
theorem cd_abs : CaD c S (.builtin "abs") [.int i] O (.int i.natAbs) O := ⟨_, fun X _ => call_abs, fun F L H vs ok rs => by
  cases rs with | cons r t => cases t; cases r; exact SemR.here ok .int fun Q q => ⟨i, rfl, by rw [abs_if]; exact q⟩⟩
/-! ### lengths -/
def rLen (K : PySem.W.Frag) : List V → Hp → VK → Prop := fun xs H Q => ∃ x n, xs = [x] ∧ LenV K x H n ∧ Q (.int n) H
theorem p_len {X : Cx} (j : InC c S X) : CallR X (.builtin "len") (rLen c.K) := by rw [← j.K]; exact call_len
theorem RVs.atI {K : PySem.W.Frag} {I : Ob} {F : Hp} {L : List Addr} {vs : List V} (r : RVs K I F L ds vs) (h : L2.atI ds i = some d) : ∃ w, L2.atI vs i = some w ∧ RV K I F L d w := by
  unfold L2.atI at h ⊢
  rw [← r.length]
  cases e : ixN ds.length i with
  | none => rw [e] at h; cases h
  | some n =>
    rw [e] at h
    exact r.get h
theorem cd_lenL : CaD c S (.builtin "len") [.lst ds] O (.int ds.length) O := ⟨rLen c.K, fun X j => p_len j, fun F L H vs ok rs => by
  cases rs with | cons r t => cases t; cases r with | lst h r => exact SemR.here ok .int fun Q q => ⟨_, _, rfl, .inl ⟨_, .inl (.inl (ok.sub _ _ h)), rfl⟩, by rw [r.length] at q; exact q⟩⟩
theorem cd_lenR : CaD c S (.builtin "len") [.rd ds] O (.int ds.length) O := ⟨rLen c.K, fun X j => p_len j, fun F L H vs ok rs => by
  cases rs with | cons r t => cases t; cases r with | rd h r => exact SemR.here ok .int fun Q q => ⟨_, _, rfl, .inl ⟨_, ok.sub.sqL h, rfl⟩, by rw [r.length] at q; exact q⟩⟩
theorem cd_lenT : CaD c S (.builtin "len") [.tup ds] O (.int ds.length) O := ⟨rLen c.K, fun X j => p_len j, fun F L H vs ok rs => by
  cases rs with | cons r t => cases t; cases r with | tup h r => exact SemR.here ok .int fun Q q => ⟨_, _, rfl, .inr ⟨_, ok.sub.sqT h, rfl⟩, by rw [r.length] at q; exact q⟩⟩
theorem cd_lenS {s : Str} (hs : s.length ≤ 16777216) : CaD c S (.builtin "len") [.str s] O (.int s.length) O := ⟨rLen c.K, fun X j => p_len j, fun F L H vs ok rs => by
  cases rs with | cons r t => cases t; cases r; exact SemR.here ok .int fun Q q => ⟨_, _, rfl, ⟨line_ok hs, rfl⟩, q⟩⟩
theorem OkH.cellL {K : PySem.W.Frag} {I : Ob} {F H : Hp} {L : List Addr} {a : Addr} (ok : OkH K I F L H O) (ha : L[k]? = some a) (hk : O[k]? = some (.lst ds)) : F a = none ∧ ∃ vs, H a = some (.lst vs) ∧ RVs K I F L ds vs := ok.cell k a _ ha hk
theorem OkH.cellD {K : PySem.W.Frag} {I : Ob} {F H : Hp} {L : List Addr} {a : Addr} {kvs : List (Key × D)} (ok : OkH K I F L H O) (ha : L[k]? = some a) (hk : O[k]? = some (.dct kvs)) : F a = none ∧ ∃ vs, H a = some (.dK vs) ∧ kvs.map (·.1) = vs.map (·.1) ∧ RVs K I F L (kvs.map (·.2)) (vs.map (·.2)) := ok.cell k a _ ha hk
theorem cd_lenC (hk : O[k]? = some (.lst ds)) : CaD c S (.builtin "len") [.loc k] O (.int ds.length) O := ⟨rLen c.K, fun X j => p_len j, fun F L H vs ok rs => by
  cases rs with
  | cons r t =>
    cases t
    cases r with
    | loc h =>
      obtain ⟨_, ws, h1, h2⟩ := ok.cellL h hk
      exact SemR.here ok .int fun Q q => ⟨_, _, rfl, .inl ⟨_, .inl (.inl h1), rfl⟩, by rw [h2.length] at q; exact q⟩⟩
/-! ### items -/
theorem ix_lst (h : atI ds i = some d) : IxD c S (.lst ds) (.int i) O d O := ⟨rIxL c.K, fun X j => by rw [← j.K]; exact ix_list, fun F L H v u ok rv ru => by
  cases ru
  cases rv with
  | lst hq rs =>
    obtain ⟨w, h1, h2⟩ := rs.atI h
    exact SemR.here ok h2 fun Q q => ⟨_, _, i, w, rfl, rfl, .inl (.inl (ok.sub _ _ hq)), h1, q⟩⟩
theorem ix_rd (h : atI ds i = some d) : IxD c S (.rd ds) (.int i) O d O := ⟨rIxL c.K, fun X j => by rw [← j.K]; exact ix_list, fun F L H v u ok rv ru => by
  cases ru
  cases rv with
  | rd hq rs =>
    obtain ⟨w, h1, h2⟩ := rs.atI h
    exact SemR.here ok h2 fun Q q => ⟨_, _, i, w, rfl, rfl, ok.sub.sqL hq, h1, q⟩⟩
theorem ix_tp (h : atI ds i = some d) : IxD c S (.tup ds) (.int i) O d O := ⟨rIxT c.K, fun X j => by rw [← j.K]; exact ix_tup, fun F L H v u ok rv ru => by
  cases ru
  cases rv with
  | tup hq rs =>
    obtain ⟨w, h1, h2⟩ := rs.atI h
    exact SemR.here ok h2 fun Q q => ⟨_, _, i, w, rfl, rfl, ok.sub.sqT hq, h1, q⟩⟩
theorem ix_st {s : Str} {m : Nat} (hs : s.length ≤ 16777216) (h : atI s.cps.toList i = some m) : IxD c S (.str s) (.int i) O (.str ⟨#[m]⟩) O := ⟨rIxS, fun X j => ix_str, fun F L H v u ok rv ru => by
  cases ru; cases rv
  exact SemR.here ok .str fun Q q => ⟨s, i, m, rfl, rfl, line_ok hs, h, q⟩⟩
theorem ix_cell (hk : O[k]? = some (.lst ds)) (h : atI ds i = some d) : IxD c S (.loc k) (.int i) O d O := ⟨rIxL c.K, fun X j => by rw [← j.K]; exact ix_list, fun F L H v u ok rv ru => by
  cases ru
  cases rv with
  | loc ha =>
    obtain ⟨_, ws, h1, rs⟩ := ok.cellL ha hk
    obtain ⟨w, h3, h2⟩ := rs.atI h
    exact SemR.here ok h2 fun Q q => ⟨_, _, i, w, rfl, rfl, .inl (.inl h1), h3, q⟩⟩
theorem atI_get {α : Type} {l : List α} {n : Nat} {v : α} (h : l[n]? = some v) : atI l (n : Int) = some v := by
  have hn := (List.getElem?_eq_some_iff.mp h).1
  unfold atI ixN
  rw [if_pos (by omega), if_pos (by omega)]
  simpa using h

/-! ### dicts that are cells -/
def keyD : Key → D
  | .inl i => .int i
  | .inr x => .str x
def valD (kvs : List (Key × D)) (k : Key) : Option D := (kvs.find? fun kv => decide (kv.1 = k)).map (·.2)
def putD (kvs : List (Key × D)) (k : Key) (v : D) : List (Key × D) := if (kvs.any fun kv => decide (kv.1 = k)) = true then kvs.map (fun kv => if kv.1 = k then (kv.1, v) else kv) else kvs ++ [(k, v)]
theorem keyD_rv {K : PySem.W.Frag} {I : Ob} {F : Hp} {L : List Addr} {q : Key} {v : V} (r : RV K I F L (keyD q) v) : v = kV q := by
  cases q <;> (cases r; rfl)
theorem valD_rv {K : PySem.W.Frag} {I : Ob} {F : Hp} {L : List Addr} {q : Key} : ∀ {kvs : List (Key × D)} {vs : List (Key × V)}, kvs.map (·.1) = vs.map (·.1) → RVs K I F L (kvs.map (·.2)) (vs.map (·.2)) →
    (∀ d, valD kvs q = some d → ∃ v, valV vs q = some v ∧ RV K I F L d v) ∧ (valD kvs q = none → valV vs q = none)
  | [], [], _, _ => ⟨fun d h => by simp [valD] at h, fun _ => rfl⟩
  | [], _ :: _, h, _ => by simp at h
  | _ :: _, [], h, _ => by simp at h
  | (k1, d1) :: kvs, (k2, v2) :: vs, h, r => by
    simp only [List.map_cons, List.cons.injEq] at h
    obtain ⟨rfl, h⟩ := h
    cases r with
    | cons r1 r2 =>
      obtain ⟨i1, i2⟩ := valD_rv (q := q) h r2
      by_cases hk : k1 = q
      · refine ⟨fun d e => ?_, fun e => ?_⟩
        · simp [valD, List.find?_cons, hk] at e
          subst e
          exact ⟨v2, valV_pos hk, r1⟩
        · simp [valD, List.find?_cons, hk] at e
      · have e1 : valD ((k1, d1) :: kvs) q = valD kvs q := by simp [valD, List.find?_cons, hk]
        rw [e1, valV_neg hk]
        exact ⟨i1, i2⟩
theorem putD_rv {K : PySem.W.Frag} {I : Ob} {F : Hp} {L : List Addr} {q : Key} {dv : D} {v : V} {kvs : List (Key × D)} {vs : List (Key × V)} (h : kvs.map (·.1) = vs.map (·.1)) (r : RVs K I F L (kvs.map (·.2)) (vs.map (·.2))) (rv : RV K I F L dv v) :
    (putD kvs q dv).map (·.1) = (putK vs q v).map (·.1) ∧ RVs K I F L ((putD kvs q dv).map (·.2)) ((putK vs q v).map (·.2)) := by
  have ea : (kvs.any fun kv => decide (kv.1 = q)) = (vs.any fun kv => decide (kv.1 = q)) := by
    have e1 : ∀ l : List (Key × D), (l.any fun kv => decide (kv.1 = q)) = (l.map (·.1)).any fun k => decide (k = q) := fun l => by simp [List.any_map]; rfl
    have e2 : ∀ l : List (Key × V), (l.any fun kv => decide (kv.1 = q)) = (l.map (·.1)).any fun k => decide (k = q) := fun l => by simp [List.any_map]; rfl
    rw [e1, e2, h]
  unfold putD putK
  rw [ea]
  by_cases hb : (vs.any fun kv => decide (kv.1 = q)) = true
  · rw [if_pos hb, if_pos hb]
    clear hb ea
    induction kvs generalizing vs with
    | nil => cases vs with
      | nil => exact ⟨rfl, .nil⟩
      | cons _ _ => simp at h
    | cons kd kvs ih =>
      cases vs with
      | nil => simp at h
      | cons kv vs =>
        simp only [List.map_cons, List.cons.injEq] at h
        cases r with
        | cons r1 r2 =>
          obtain ⟨i1, i2⟩ := ih h.2 r2
          obtain ⟨k1, d1⟩ := kd
          obtain ⟨k2, v2⟩ := kv
          obtain rfl : k1 = k2 := h.1
          by_cases hk : k1 = q
          · simp only [List.map_cons, hk, if_true]
            exact ⟨by rw [i1], .cons rv i2⟩
          · simp only [List.map_cons, hk, if_false]
            exact ⟨by rw [i1], .cons r1 i2⟩
  · rw [if_neg hb, if_neg hb]
    simp only [List.map_append, List.map_cons, List.map_nil]
    exact ⟨by rw [h], r.append (.cons rv .nil)⟩
theorem InC.hu {X : Cx} (h : InC c S X) : X.A.units + 1 < cLine := hu_of h.room
theorem ee_dget {kvs : List (Key × D)} (q : Key) (ho : EE c S a ρ O (.loc k) O1) (hi : EE c S b ρ O1 (keyD q) O2) (hk : O2[k]? = some (.dct kvs)) (hv : valD kvs q = some d) (hs : NoSl b := by exact fun _ _ => rfl) : EE c S (.Subscript a b pos) ρ O d O2 := by
  obtain ⟨ta, pa, va⟩ := ho
  obtain ⟨tb, pb, vb⟩ := hi
  refine ⟨_, fun X j => pe_dget j.hu (pa X j) (pb X j) hs, ?_⟩
  intro σ F L H ok sl Q qq
  refine va σ F L H ok sl _ fun v F1 L1 H1 n1 ok1 rv => ?_
  refine vb σ F1 L1 H1 ok1 (sl.mono c.hI n1.sub n1.pre) _ fun u F2 L2 H2 n2 ok2 ru => ?_
  cases rv with
  | loc ha =>
    have ha2 := n2.pre _ _ ha
    obtain ⟨_, vs, h1, h2, h3⟩ := ok2.cellD ha2 hk
    obtain ⟨w, hw, rw'⟩ := (valD_rv (q := q) h2 h3).1 d hv
    rw [keyD_rv ru]
    exact ⟨_, w, rfl, by rw [← hw]; exact DGet.k h1, qq w F2 L2 H2 (n1.trans n2) ok2 rw'⟩
theorem s_dput {kvs : List (Key × D)} {value : Expr} {pos' : Pos} (q : Key) (hv : EE c S value ρ O d O1) (ho : EE c S a ρ O1 (.loc k) O2) (hi : EE c S b ρ O2 (keyD q) O3) (hk : O3[k]? = some (.dct kvs)) (hz : kvs.length < 1000 := by exact Nat.le_of_ble_eq_true rfl)
    (hs : ∀ q L f cd, swapsWith value (some (.Subscript a b pos')) pos.line (envOfC q S.sc L f cd) = pure false := by intro _ _ _ _; rfl) : S1 c S (.Assign [.Subscript a b pos'] value pos) ρ O (.nx ρ (O3.set k (.dct (putD kvs q d)))) := by
  obtain ⟨tv, pv, vv⟩ := hv
  obtain ⟨ta, pa, va⟩ := ho
  obtain ⟨tb, pb, vb⟩ := hi
  refine ⟨_, fun X j => ps_dput j.1.hu (pa X j.1) (pb X j.1) (pv X j.1) (by obtain ⟨q, L, f, cd, e⟩ := j.2; rw [e]; exact hs _ _ _ _), ?_⟩
  intro σ F L H ok sl E hE
  refine vv σ F L H ok sl _ fun w F0 L0 H0 n0 ok0 rw' => ?_
  have sl0 := sl.mono c.hI n0.sub n0.pre
  refine va σ F0 L0 H0 ok0 sl0 _ fun v F1 L1 H1 n1 ok1 rv => ?_
  have sl1 := sl0.mono c.hI n1.sub n1.pre
  refine vb σ F1 L1 H1 ok1 sl1 _ fun u F2 L2 H2 n2 ok2 ru => ?_
  cases rv with
  | loc ha =>
    have ha2 := n2.pre _ _ ha
    obtain ⟨hF, vs, h1, h2, h3⟩ := ok2.cellD ha2 hk
    rw [keyD_rv ru]
    have hl : vs.length = kvs.length := by have := congrArg List.length h2; simpa using this.symm
    refine ⟨_, _, rfl, DPut.k (k := q) h1 (by rw [sizeLine_eq]; omega), ?_⟩
    obtain ⟨e1, e2⟩ := putD_rv (q := q) h2 h3 (rw'.mono c.hI (n1.trans n2).sub (n1.trans n2).pre)
    obtain ⟨ok3, n3⟩ := ok2.write (o := .dK (putK vs q w)) (cl := .dct (putD kvs q d)) c.hI ha2 hF ⟨hF, _, upd_same, e1, e2⟩
    exact hE σ F2 L2 _ (((n0.trans n1).trans n2).trans n3) ok3 ((sl1.mono c.hI n2.sub n2.pre).mono c.hI n3.sub n3.pre)

/-! ### lists that are cells -/
theorem ee_pop {apos cpos : Pos} (ho : EE c S a ρ O (.loc k) O1) (hk : O1[k]? = some (.lst (ds ++ [d]))) (hbase : ∀ env, attributeBase a "pop" env (eval a env) = eval a env := by intro _; rfl) (hline : (apos.endLine == cpos.line) = true := by rfl) :
    EE c S (.Call (.Attribute a "pop" apos) [] [] cpos) ρ O d (O1.set k (.lst ds)) := by
  obtain ⟨ta, pa, va⟩ := ho
  refine ⟨tBM0 c.K "list" rPop ta, fun X j => by rw [← j.K]; exact pe_bm0 PySem.F.plainAttrs_list PySem.F.slot_list_pop PySem.F.type_list_pop mt_pop (pa X j) (hbase _) hline, ?_⟩
  intro σ F L H ok sl Q q
  refine va σ F L H ok sl _ fun v F1 L1 H1 n1 ok1 rv => ?_
  cases rv with
  | loc ha =>
    obtain ⟨hF, vs, h1, h2⟩ := ok1.cellL ha hk
    have hlen := h2.length
    obtain ⟨w, hw, rw'⟩ := h2.get (i := ds.length) (d := d) (by simp)
    have hd : RVs c.K c.I F1 L1 ds vs.dropLast := by
      have := h2.take ds.length
      rw [List.take_left' rfl] at this
      have e : vs.dropLast = vs.take ds.length := by rw [List.dropLast_eq_take, ← hlen]; simp
      rw [e]; exact this
    refine ⟨.inl ⟨rfl, _, .inl (.inl h1)⟩, _, vs, w, rfl, rfl, h1, by rw [← hlen]; simpa using hw, ?_⟩
    obtain ⟨ok3, n3⟩ := ok1.write (o := .lst vs.dropLast) (cl := .lst ds) c.hI ha hF ⟨hF, _, upd_same, hd⟩
    exact q w F1 L1 _ (n1.trans n3) ok3 rw'
theorem ee_append {apos cpos : Pos} {ds1 : List D} (ho : EE c S a ρ O (.loc k) O1) (he : EE c S e ρ O1 d O2) (hk1 : O1[k]? = some (.lst ds1)) (hk : O2[k]? = some (.lst ds)) (hz : ds.length < 16777216)
    (hbase : ∀ env, attributeBase a "append" env (eval a env) = eval a env := by intro _; rfl)
    (hfew : ∀ env, ((backTo cpos (starEach (e :: []) env)).all (fun x => !x.1) && (backToKw cpos (keywordEach [] env)).all (fun x => x.1.isSome) && decide ((e :: []).length + ([] : List Keyword).length + (if ([] : List Keyword).isEmpty then 0 else 1) < 30)) = true := by intro _; rfl)
    (hline : (apos.endLine == cpos.line) = true := by rfl) (hs : ∀ env, starEach (e :: []) env = (false, eval e env) :: starEach [] env := by intro _; rfl) (hplain : ∀ env, (backTo cpos (starEach [] env)).any (·.1) = false := by intro _; rfl) :
    EE c S (.Call (.Attribute a "append" apos) [e] [] cpos) ρ O .non (O2.set k (.lst (ds ++ [d]))) := by
  obtain ⟨ta, pa, va⟩ := ho
  obtain ⟨te, pe, ve⟩ := ea_cons he ea_nil hs
  refine ⟨tBM c.K "list" rAppend ta te, fun X j => by rw [← j.K]; exact pe_bm PySem.F.plainAttrs_list PySem.F.slot_list_append PySem.F.type_list_append mt_append (pa X j) (pe X j) (hbase _) (hfew _) hline (hs _) (hplain _), ?_⟩
  intro σ F L H ok sl Q q
  refine va σ F L H ok sl _ fun v F1 L1 H1 n1 ok1 rv => ?_
  cases rv with
  | loc ha =>
    obtain ⟨hF1, ws, g1, g2⟩ := ok1.cellL ha hk1
    refine ⟨.inl ⟨rfl, _, .inl (.inl g1)⟩, ?_⟩
    refine ve σ F1 L1 H1 ok1 (sl.mono c.hI n1.sub n1.pre) _ fun us F2 L2 H2 n2 ok2 rs => ?_
    cases rs with
    | cons r t =>
      cases t
      have ha2 := n2.pre _ _ ha
      obtain ⟨hF, vs, h1, h2⟩ := ok2.cellL ha2 hk
      refine ⟨_, vs, _, rfl, rfl, h1, by rw [sizeLine_eq, ← h2.length]; exact hz, ?_⟩
      obtain ⟨ok3, n3⟩ := ok2.write (o := .lst (vs ++ [_])) (cl := .lst (ds ++ [d])) c.hI ha2 hF ⟨hF, _, upd_same, h2.append (.cons r .nil)⟩
      exact q _ F2 L2 _ ((n1.trans n2).trans n3) ok3 .non
end
end DL
set_option maxRecDepth 100000
namespace DL
open PySem L2 PyProof.Rows PySem.Spec
/-! ### parts of the text -/
def noPos : Pos := ⟨0, 0, 0, 0⟩
def stm (s : Stmt) (i : Nat) : Stmt := (defBody s).getD i (.Pass noPos)
def nthS (ss : List Stmt) (i : Nat) : Stmt := ss.getD i (.Pass noPos)
def loopB : Stmt → List Stmt
  | .While _ b _ _ => b
  | .For _ _ b _ _ => b
  | .If _ b _ _ => b
  | _ => []
def elseB : Stmt → List Stmt
  | .If _ _ b _ => b
  | _ => []
def loopT : Stmt → Expr
  | .While t _ _ _ => t
  | .For t _ _ _ _ => t
  | .If t _ _ _ => t
  | _ => .Constant .none 0 noPos
section
variable {c : Cn} {S : Sc} {ρ ρ1 ρ2 : Rho} {O O1 O2 O3 : Sto} {a b e cnd : Expr} {es : List Expr} {d d' x y z : D} {ds rs xs ys : List D} {pos p : Pos} {i j : Int} {k k1 k2 k' : Bool} {s1 s2 : List Stmt} {o : Out}
theorem ET.eq (h : ET c S e ρ O k O1) (q : k = k') : ET c S e ρ O k' O1 := q ▸ h
theorem EE.eq (h : EE c S e ρ O d O1) (q : d = d') : EE c S e ρ O d' O1 := q ▸ h
theorem EE.eqO (h : EE c S e ρ O d O1) (q : O1 = O2) : EE c S e ρ O d O2 := q ▸ h
theorem OpD.eq {f : Value → Value → Sem Value} (h : OpD c S f x y O z O1) {z' : D} (q : z = z') : OpD c S f x y O z' O1 := q ▸ h
theorem CaD.eq {f : Value} (h : CaD c S f ds O z O1) {z' : D} (q : z = z') : CaD c S f ds O z' O1 := q ▸ h
theorem ew_or2 (ha : ET c S a ρ O k1 O) (hb : k1 = false → EW c S (.BoolOp .Or (b :: es) pos) ρ O k2 O) : EW c S (.BoolOp .Or (a :: b :: es) pos) ρ O (k1 || k2) O := by
  cases k1 with
  | true => exact ew_orT ha
  | false => exact ew_orF ha (hb rfl)
theorem ew_and2 (ha : ET c S a ρ O k1 O) (hb : k1 = true → EW c S (.BoolOp .And (b :: es) pos) ρ O k2 O) : EW c S (.BoolOp .And (a :: b :: es) pos) ρ O (k1 && k2) O := by
  cases k1 with
  | true => exact ew_andT ha (hb rfl)
  | false => exact ew_andF ha
theorem ee_or2 (ha : EE c S a ρ O (.bl k1) O) (hb : k1 = false → EE c S (.BoolOp .Or (b :: es) pos) ρ O (.bl k2) O) : EE c S (.BoolOp .Or (a :: b :: es) pos) ρ O (.bl (k1 || k2)) O := by
  cases k1 with
  | true => exact ee_orT ha
  | false => exact ee_orF ha (hb rfl)
theorem ee_and2 (ha : EE c S a ρ O (.bl k1) O) (hb : k1 = true → EE c S (.BoolOp .And (b :: es) pos) ρ O (.bl k2) O) : EE c S (.BoolOp .And (a :: b :: es) pos) ρ O (.bl (k1 && k2)) O := by
  cases k1 with
  | true => exact ee_andT ha (hb rfl)
  | false => exact ee_andF ha
theorem s_if2 (ht : ET c S cnd ρ O k O1) (h1 : k = true → SS c S s1 ρ O1 o) (h2 : k = false → SS c S s2 ρ O1 o) : S1 c S (.If cnd s1 s2 pos) ρ O o := by
  cases k with
  | true => exact s_ifT ht (h1 rfl)
  | false => exact s_ifF ht (h2 rfl)
theorem ee_if2 (ht : ET c S cnd ρ O k O1) (h1 : k = true → EE c S a ρ O1 d O2) (h2 : k = false → EE c S b ρ O1 d O2) : EE c S (.IfExp cnd a b pos) ρ O d O2 := by
  cases k with
  | true => exact ee_ifT ht (h1 rfl)
  | false => exact ee_ifF ht (h2 rfl)
theorem SS.eqO (h : SS c S s1 ρ O o) (q : O = O1) : SS c S s1 ρ O1 o := q ▸ h
theorem S1.nxO {st : Stmt} (h : S1 c S st ρ O (.nx ρ1 O1)) (q : O1 = O2) : S1 c S st ρ O (.nx ρ1 O2) := q ▸ h
theorem S1.rtO {st : Stmt} (h : S1 c S st ρ O (.rt d O1)) (q : O1 = O2) (q' : d = d') : S1 c S st ρ O (.rt d' O2) := q ▸ q' ▸ h
end
end DL
set_option maxRecDepth 100000
namespace DL
open PySem L2 PyProof.Rows PySem.Spec

/-! ### data as the library's data -/
mutual
def D.py : D → PyData
  | .non => .none
  | .bl b => .bool b
  | .int i => .int i
  | .str s => .str s
  | .lst ds => .list (pyAll ds)
  | .tup ds => .tuple (pyAll ds)
  | .rd _ => .none
  | .loc _ => .none
  | .ob _ _ => .none
  | .ty _ => .none
  | .dct _ _ => .none
  | .ins _ _ _ => .none
def pyAll : List D → List PyData
  | [] => []
  | d :: ds => d.py :: pyAll ds
end
mutual
def D.dat : D → Bool
  | .non => true
  | .bl _ => true
  | .int _ => true
  | .str _ => true
  | .lst ds => datAll ds
  | .tup ds => datAll ds
  | .rd _ => false
  | .loc _ => false
  | .ob _ _ => false
  | .ty _ => false
  | .dct _ _ => false
  | .ins _ _ _ => false
def datAll : List D → Bool
  | [] => true
  | d :: ds => d.dat && datAll ds
end
mutual
theorem RV.dp {K : PySem.W.Frag} {I : Ob} {F H : Hp} {L : List Addr} (sb : Sub F H) : ∀ {d : D} {v : V}, d.dat = true → RV K I F L d v → Dp K H v d.py
  | _, _, _, .non => .non
  | _, _, _, .bl => .bl _
  | _, _, _, .int => .int _
  | _, _, _, .str => .str _
  | _, _, h, .lst q r => .lst (.inl (.inl (sb _ _ q))) (RVs.dp sb (by simpa [D.dat] using h) r)
  | _, _, h, .tup q r => .tup (sb.sqT q) (RVs.dp sb (by simpa [D.dat] using h) r)
  | _, _, h, .rd _ _ => by simp [D.dat] at h
  | _, _, h, .loc _ => by simp [D.dat] at h
  | _, _, h, .ob _ => by simp [D.dat] at h
  | _, _, h, .ty => by simp [D.dat] at h
  | _, _, h, .dct _ _ _ => by simp [D.dat] at h
  | _, _, h, .ins _ _ _ => by simp [D.dat] at h
theorem RVs.dp {K : PySem.W.Frag} {I : Ob} {F H : Hp} {L : List Addr} (sb : Sub F H) : ∀ {ds : List D} {vs : List V}, datAll ds = true → RVs K I F L ds vs → DpAll K H vs (pyAll ds)
  | _, _, _, .nil => .nil
  | d :: ds, _, h, .cons q r => by
    have h' : d.dat = true ∧ datAll ds = true := by simpa [datAll] using h
    exact .cons (RV.dp sb h'.1 q) (RVs.dp sb h'.2 r)
end
/-- small data: k deep, of b signs and items in all; ints below 10 ^ 60, signs below 2 ^ 32 -/
structure Sh (k b : Nat) (d : D) : Prop where
  dat : d.dat = true
  shw : d.py.showable = true
  leaf : d.py.leavesShort 64 = true
  dep : d.py.depth ≤ k
  blk : d.py.bulk ≤ b
theorem Sh.up {k b k' b' : Nat} {d : D} (h : Sh k b d) (hk : k ≤ k') (hb : b ≤ b') : Sh k' b' d := ⟨h.dat, h.shw, h.leaf, Nat.le_trans h.dep hk, Nat.le_trans h.blk hb⟩
theorem Sh.non : Sh 0 0 .non := ⟨rfl, rfl, rfl, Nat.le_refl _, Nat.le_refl _⟩
theorem Sh.bl {b : Bool} : Sh 0 0 (.bl b) := ⟨rfl, rfl, rfl, Nat.le_refl _, Nat.le_refl _⟩
def Big (i : Int) : Prop := i.natAbs < 10 ^ 60
theorem log2_lt_of {n m : Nat} (h : n < 2 ^ m) (hm : 0 < m) : n.log2 < m := by
  by_cases h0 : n = 0
  · subst h0; simpa using hm
  · exact (Nat.log2_lt h0).mpr h
theorem Sh.int {i : Int} (h : Big i) : Sh 0 0 (.int i) := by
  have h' : i.natAbs < 10 ^ 60 := h
  refine ⟨rfl, ?_, ?_, Nat.le_refl _, Nat.le_refl _⟩
  · show decide _ = true
    have : i.natAbs.log2 < 200 := log2_lt_of (Nat.lt_of_lt_of_le h' (by decide)) (by decide)
    exact decide_eq_true (by omega)
  · show decide _ = true
    have : (toString i).length ≤ 61 := int_text_length_le10 (by decide) h'
    refine decide_eq_true ?_
    show (Str.ofString (toString i)).length ≤ 64
    have e : (Str.ofString (toString i)).length = (toString i).length := PySem.ofString_length _
    omega
theorem Sh.str {s : Str} {b : Nat} (h : s.length ≤ b) (hc : ∀ c ∈ s.cps.toList, c < 16 ^ 8) : Sh 0 b (.str s) :=
  ⟨rfl, rfl, List.all_eq_true.mpr fun c hq => decide_eq_true (hc c hq), Nat.le_refl _, h⟩
theorem Sh.all {k b : Nat} : ∀ {ds : List D}, (∀ d ∈ ds, Sh k b d) → datAll ds = true ∧ PyData.showableAll (pyAll ds) = true ∧ PyData.leavesShortAll 64 (pyAll ds) = true ∧ PyData.depthAll (pyAll ds) ≤ k ∧ PyData.bulkAll (pyAll ds) ≤ ds.length * (b + 1)
  | [], _ => ⟨rfl, rfl, rfl, Nat.zero_le _, Nat.zero_le _⟩
  | d :: ds, h => by
    obtain ⟨a1, a2, a3, a4, a5⟩ := Sh.all (ds := ds) fun x hx => h x (List.mem_cons_of_mem _ hx)
    obtain ⟨b1, b2, b3, b4, b5⟩ := h d List.mem_cons_self
    refine ⟨by simp [datAll, b1, a1], by simp [pyAll, PyData.showableAll, b2, a2], by simp [pyAll, PyData.leavesShortAll, b3, a3], ?_, ?_⟩
    · show max _ _ ≤ k
      exact Nat.max_le.mpr ⟨b4, a4⟩
    · show _ + 1 + _ ≤ (ds.length + 1) * (b + 1)
      rw [Nat.succ_mul]
      omega
theorem Sh.lst {k b n : Nat} {ds : List D} (h : ∀ d ∈ ds, Sh k b d) (hn : ds.length ≤ n) : Sh (k + 1) (n * (b + 1)) (.lst ds) := by
  obtain ⟨a1, a2, a3, a4, a5⟩ := Sh.all h
  exact ⟨by simpa [D.dat] using a1, by simpa [D.py, PyData.showable] using a2, by simpa [D.py, PyData.leavesShort] using a3, by show PyData.depthAll _ + 1 ≤ k + 1; omega, Nat.le_trans a5 (Nat.mul_le_mul_right _ hn)⟩
theorem Sh.tup {k b n : Nat} {ds : List D} (h : ∀ d ∈ ds, Sh k b d) (hn : ds.length ≤ n) : Sh (k + 1) (n * (b + 1)) (.tup ds) := by
  obtain ⟨a1, a2, a3, a4, a5⟩ := Sh.all h
  exact ⟨by simpa [D.dat] using a1, by simpa [D.py, PyData.showable] using a2, by simpa [D.py, PyData.leavesShort] using a3, by show PyData.depthAll _ + 1 ≤ k + 1; omega, Nat.le_trans a5 (Nat.mul_le_mul_right _ hn)⟩

section
variable {c : Cn} {S : Sc} {ρ ρ1 ρ2 : Rho} {O O1 O2 O3 : Sto} {a b e : Expr} {es : List Expr} {d x y z : D} {ds rs xs ys : List D} {pos p : Pos} {i j : Int} {k n : Nat}

/-! ### repr, == -/
theorem cd_repr (h : Sh 40 200000 d) (hd : (∃ ds, d = .lst ds) ∨ ∃ ds, d = .tup ds) : CaD c S (.builtin "repr") [d] O (.str d.py.shown) O := by
  refine ⟨fun xs H Q => ∃ x, xs = [x] ∧ Dp c.K H x d.py ∧ (∃ a, x = V.ref a) ∧ Q (.str d.py.shown) H, fun X j => ?_, fun F L H vs ok rs => ?_⟩
  · intro pins s σ H xs us Q I r hq
    obtain ⟨x, rfl, dp, ⟨a, rfl⟩, q⟩ := hq
    obtain ⟨u, rfl, rx⟩ := vals1 r
    obtain ⟨as, rd⟩ := Dp.reads I d.py _ u (by rw [j.K]; exact dp) rx
    cases rx
    have hz : d.py.shown.length ≤ sizeLine := by
      have := PyData.shown_le_bulk 64 (by decide) d.py h.leaf
      have hb := h.blk
      rw [sizeLine_eq]
      omega
    have hdict : d.py.hasDict = false := by
      have : ∀ d : D, d.py.hasDict = false := by
        intro d
        induction d using D.rec (motive_2 := fun ds => PyData.hasDictAll (pyAll ds) = false) with
        | _ => first | rfl | (simp_all [D.py, pyAll, PyData.hasDict, PyData.hasDictAll])
      exact this d
    have hdp := h.dep
    have hu := j.room.units
    refine repr_of_reads' rd h.shw (PyData.noDict_hsm hdict) j.gd (by omega) (fun _ _ e => e) (fun h' u tk hk => ?_) hz
    exact ⟨.str d.py.shown, H, I.kept (t' := tk) hk, ⟨u, rfl⟩, q⟩
  · cases rs with
    | cons r t =>
      cases t
      have dp := r.dp ok.sub h.dat
      refine SemR.here ok .str fun Q q => ⟨_, rfl, dp, ?_, q⟩
      rcases hd with ⟨ds, rfl⟩ | ⟨ds, rfl⟩ <;> (cases r; exact ⟨_, rfl⟩)
theorem cd_reprI (h : Big i) : CaD c S (.builtin "repr") [.int i] O (.str (PyData.shown (.int i))) O := by
  refine ⟨fun xs H Q => xs = [.int i] ∧ Q (.str (toString i)) H, fun X j => ?_, fun F L H vs ok rs => by cases rs with | cons r t => cases t; cases r; exact SemR.here ok .str fun Q q => ⟨rfl, q⟩⟩
  intro pins s σ H xs us Q I r hq
  obtain ⟨rfl, q⟩ := hq
  obtain ⟨u, rfl, t, rfl⟩ := vals1 r
  have h' : i.natAbs < 10 ^ 60 := h
  have : i.natAbs.log2 < 200 := log2_lt_of (Nat.lt_of_lt_of_le h' (by decide)) (by decide)
  exact PySem.P.repr_of_int (by omega) ⟨.str _, H, I.tok _, ⟨_, rfl⟩, q⟩
/-- == and != of data -/
def LayD (d : D) : Prop := d.dat = true ∧ SeqAt.shaped d.py = true
theorem od_eqD (hx : LayD x) (hy : LayD y) : OpD c S (compareOp .Eq) x y O (.bl (PyData.eqv x.py y.py)) O :=
  ⟨rEqD c.K, fun X j => by rw [← j.K]; exact op_eqD j.room.units, fun F L H v u ok rv ru => SemR.here ok .bl fun Q q => ⟨_, _, rv.dp ok.sub hx.1, ru.dp ok.sub hy.1, hx.2, hy.2, q⟩⟩
theorem od_neD (hx : LayD x) (hy : LayD y) : OpD c S (compareOp .NotEq) x y O (.bl (!PyData.eqv x.py y.py)) O :=
  ⟨rNeD c.K, fun X j => by rw [← j.K]; exact op_neD j.room.units, fun F L H v u ok rv ru => SemR.here ok .bl fun Q q => ⟨_, _, rv.dp ok.sub hx.1, ru.dp ok.sub hy.1, hx.2, hy.2, q⟩⟩

/-! ### texts -/
theorem od_addS {s t : Str} (h : s.length + t.length ≤ 16777216) : OpD c S (binaryOp .Add) (.str s) (.str t) O (.str (s ++ t)) O :=
  ⟨_, fun X _ => op_add_str, fun F L H v u ok rv ru => by cases rv; cases ru; exact SemR.here ok .str fun Q q => ⟨s, t, rfl, rfl, line_ok h, q⟩⟩
theorem cd_strI (h : Big i) : CaD c S (.type "str") [.int i] O (.str (Str.ofString (toString i))) O := ⟨_, fun X _ => call_str_int, fun F L H vs ok rs => by
  have h' : i.natAbs < 10 ^ 60 := h
  have : i.natAbs.log2 < 200 := log2_lt_of (Nat.lt_of_lt_of_le h' (by decide)) (by decide)
  cases rs with | cons r t => cases t; cases r; exact SemR.here ok .str fun Q q => ⟨i, rfl, by omega, q⟩⟩
theorem od_inS {m : Nat} {t : Str} : OpD c S (compareOp .In) (.str ⟨#[m]⟩) (.str t) O (.bl (decide (m ∈ t.cps.toList))) O :=
  ⟨_, fun X _ => op_in_sign, fun F L H v u ok rv ru => by cases rv; cases ru; exact SemR.here ok .bl fun Q q => ⟨m, t, rfl, rfl, q⟩⟩
theorem od_notInS {m : Nat} {t : Str} : OpD c S (compareOp .NotIn) (.str ⟨#[m]⟩) (.str t) O (.bl (!decide (m ∈ t.cps.toList))) O :=
  ⟨_, fun X _ => op_notIn_sign, fun F L H v u ok rv ru => by cases rv; cases ru; exact SemR.here ok .bl fun Q q => ⟨m, t, rfl, rfl, q⟩⟩

/-! ### lists -/
theorem od_cat (h : xs.length + ys.length ≤ 16777216) : OpD c S (binaryOp .Add) (.lst xs) (.lst ys) O (.lst (xs ++ ys)) O :=
  ⟨rCat, fun X _ => op_cat, fun F L H v u ok rv ru => by
    cases rv with
    | lst q1 r1 =>
      cases ru with
      | lst q2 r2 =>
        intro Q q
        refine ⟨_, _, _, _, rfl, rfl, ok.sub _ _ q1, ok.sub _ _ q2, by rw [← r1.length, ← r2.length]; exact line_ok h, fun p hp => ?_⟩
        obtain ⟨ok2, n2⟩ := ok.put (o := .lst (_ ++ _)) c.hI hp
        exact q _ _ _ _ n2 ok2 (.lst upd_same ((r1.append r2).mono c.hI n2.sub n2.pre))⟩
theorem cd_sum {ns : List Int} : CaD c S (.builtin "sum") [.lst (ns.map .int)] O (.int ns.sum) O :=
  ⟨rSum c.K, fun X j => by rw [← j.K]; exact cr_sum j.calm, fun F L H vs ok rs => by
    cases rs with
    | cons r t =>
      cases t
      cases r with
      | lst q r =>
        refine SemR.here ok .int fun Q qq => ⟨_, ns, rfl, ?_, qq⟩
        have e : ∀ {ns : List Int} {ws : List V}, RVs c.K c.I F L (ns.map .int) ws → ws = ns.map V.int := by
          intro ns
          induction ns with
          | nil => intro ws r; cases r; rfl
          | cons n ns ih => intro ws r; cases r with | cons h t => cases h; rw [ih t]; rfl
        rw [e r] at q
        exact .inl (.inl (ok.sub _ _ q))⟩
theorem RVs.ints {K : PySem.W.Frag} {I : Ob} {F : Hp} {L : List Addr} : ∀ {ns : List Int} {ws : List V}, RVs K I F L (ns.map .int) ws → ws = ns.map V.int
  | [], _, r => by cases r; rfl
  | n :: ns, _, r => by cases r with | cons h t => cases h; rw [RVs.ints t]; rfl
theorem RVs.of_ints {K : PySem.W.Frag} {I : Ob} {F : Hp} {L : List Addr} : ∀ (ns : List Int), RVs K I F L (ns.map .int) (ns.map V.int)
  | [] => .nil
  | _ :: ns => .cons .int (RVs.of_ints ns)
/-- list(xs): a new one, as a value; tuple(xs) -/
theorem cd_listL : CaD c S (.type "list") [.lst ds] O (.lst ds) O :=
  ⟨_, fun X j => by have := call_list_of (X := X); rw [j.K] at this; exact this, fun F L H vs ok rs => by
    cases rs with
    | cons r t =>
      cases t
      cases r with
      | lst q r =>
        intro Q qq
        refine ⟨_, _, rfl, .inl (.inl (.inl (ok.sub _ _ q))), fun l hl => ?_⟩
        obtain ⟨ok2, n2⟩ := ok.put (o := .lst _) c.hI hl
        exact qq _ _ _ _ n2 ok2 (.lst upd_same (r.mono c.hI n2.sub n2.pre))⟩
theorem cd_listT : CaD c S (.type "list") [.tup ds] O (.lst ds) O :=
  ⟨_, fun X j => by have := call_list_of (X := X); rw [j.K] at this; exact this, fun F L H vs ok rs => by
    cases rs with
    | cons r t =>
      cases t
      cases r with
      | tup q r =>
        intro Q qq
        refine ⟨_, _, rfl, .inr (ok.sub.sqT q), fun l hl => ?_⟩
        obtain ⟨ok2, n2⟩ := ok.put (o := .lst _) c.hI hl
        exact qq _ _ _ _ n2 ok2 (.lst upd_same (r.mono c.hI n2.sub n2.pre))⟩
theorem cd_listLN : CaD c S (.type "list") [.lst ds] O (.loc O.length) (O ++ [.lst ds]) :=
  ⟨_, fun X j => by have := call_list_of (X := X); rw [j.K] at this; exact this, fun F L H vs ok rs => by
    cases rs with
    | cons r t =>
      cases t
      cases r with
      | lst q r =>
        intro Q qq
        refine ⟨_, _, rfl, .inl (.inl (.inl (ok.sub _ _ q))), fun l hl => ?_⟩
        obtain ⟨ok2, n2⟩ := ok.cellNew (o := .lst _) (cl := .lst ds) c.hI hl ⟨ok.sub.none hl, _, upd_same, r.mono c.hI (.refl _) (.app _ _)⟩
        exact qq _ _ _ _ n2 ok2 (.loc (by rw [← ok.len]; simp))⟩
theorem cd_listTN : CaD c S (.type "list") [.tup ds] O (.loc O.length) (O ++ [.lst ds]) :=
  ⟨_, fun X j => by have := call_list_of (X := X); rw [j.K] at this; exact this, fun F L H vs ok rs => by
    cases rs with
    | cons r t =>
      cases t
      cases r with
      | tup q r =>
        intro Q qq
        refine ⟨_, _, rfl, .inr (ok.sub.sqT q), fun l hl => ?_⟩
        obtain ⟨ok2, n2⟩ := ok.cellNew (o := .lst _) (cl := .lst ds) c.hI hl ⟨ok.sub.none hl, _, upd_same, r.mono c.hI (.refl _) (.app _ _)⟩
        exact qq _ _ _ _ n2 ok2 (.loc (by rw [← ok.len]; simp))⟩
theorem cd_tupL : CaD c S (.type "tuple") [.lst ds] O (.tup ds) O :=
  ⟨_, fun X j => by have := call_tuple_of (X := X); rw [j.K] at this; exact this, fun F L H vs ok rs => by
    cases rs with
    | cons r t =>
      cases t
      cases r with
      | lst q r =>
        intro Q qq
        refine ⟨_, _, rfl, .inl ⟨.inl (.inl (ok.sub _ _ q)), fun l hl => ?_⟩⟩
        obtain ⟨ok2, n2⟩ := ok.put (o := .tup _) c.hI hl
        exact qq _ _ _ _ n2 ok2 (.tup (.inl (.inl upd_same)) (r.mono c.hI n2.sub n2.pre))⟩
theorem cd_tupT : CaD c S (.type "tuple") [.tup ds] O (.tup ds) O :=
  ⟨_, fun X j => by have := call_tuple_of (X := X); rw [j.K] at this; exact this, fun F L H vs ok rs => by
    cases rs with
    | cons r t =>
      cases t
      cases r with
      | tup q r => exact SemR.here ok (.tup q r) fun Q qq => ⟨_, _, rfl, .inr ⟨ok.sub.sqT q, qq⟩⟩⟩
/-! ### slices -/
def cutD (xs : List D) (lo hi : Option Int) : List D := (xs.drop (HT.sIx xs.length 0 lo)).take (HT.sIx xs.length xs.length hi - HT.sIx xs.length 0 lo)
def EO (c : Cn) (S : Sc) (e : Option Expr) (ρ : Rho) (O : Sto) (o : Option Int) (O' : Sto) : Prop := ∃ t, (∀ X, InC c S X → PO X e t) ∧
  ∀ (σ : L2.St) (F : Hp) (L : List Addr) (H : Hp), OkH c.K c.I F L H O → Sl c.K c.I F L ρ σ → ∀ Q : Option Int → Hp → Prop, (∀ F' L' H', Nxt F L H F' L' H' → OkH c.K c.I F' L' H' O' → Q o H') → t σ H Q
theorem eo_none : EO c S none ρ O none O := ⟨tNoPart, fun _ _ => po_none, fun σ F L H ok sl Q q => q F L H (.refl _ _ _) ok⟩
theorem eo_some (h : EE c S e ρ O (.int i) O1) : EO c S (some e) ρ O (some i) O1 := by
  obtain ⟨t, p, v⟩ := h
  refine ⟨tPart t, fun X j => po_some (p X j), fun σ F L H ok sl Q q => v σ F L H ok sl _ fun w F1 L1 H1 n1 ok1 rw' => ?_⟩
  cases rw'
  exact ⟨i, rfl, q F1 L1 H1 n1 ok1⟩
def SlD (c : Cn) (S : Sc) (x : D) (lo hi : Option Int) (O : Sto) (z : D) (O' : Sto) : Prop :=
  ∃ r : V → Option Int → Option Int → Hp → VK → Prop, (∀ X, InC c S X → SlR X r) ∧ ∀ F L H v, OkH c.K c.I F L H O → RV c.K c.I F L x v → SemR c.K c.I F L H z O' (r v lo hi)
theorem ee_slice {lo hi : Option Expr} {l h : Option Int} {p2 : Pos} (ha : EE c S a ρ O x O1) (hl : EO c S lo ρ O1 l O2) (hh : EO c S hi ρ O2 h O3) {O4 : Sto} (hs : SlD c S x l h O3 z O4) : EE c S (.Subscript a (.Slice lo hi none p2) pos) ρ O z O4 := by
  obtain ⟨ta, pa, va⟩ := ha
  obtain ⟨tl, pl, vl⟩ := hl
  obtain ⟨th, ph, vh⟩ := hh
  obtain ⟨r, pr, vr⟩ := hs
  refine ⟨_, fun X j => pe_slice (pr X j) (pa X j) (pl X j) (ph X j), fun σ F L H ok sl Q q => ?_⟩
  refine va σ F L H ok sl _ fun v F1 L1 H1 n1 ok1 rv => ?_
  have sl1 := sl.mono c.hI n1.sub n1.pre
  refine vl σ F1 L1 H1 ok1 sl1 _ fun F2 L2 H2 n2 ok2 => ?_
  have sl2 := sl1.mono c.hI n2.sub n2.pre
  refine vh σ F2 L2 H2 ok2 sl2 _ fun F3 L3 H3 n3 ok3 => ?_
  exact vr F3 L3 H3 v ok3 ((rv.mono c.hI n2.sub n2.pre).mono c.hI n3.sub n3.pre) Q fun w F4 L4 H4 n4 ok4 rw' => q w F4 L4 H4 (((n1.trans n2).trans n3).trans n4) ok4 rw'
theorem RVs.cut {K : PySem.W.Frag} {I : Ob} {F : Hp} {L : List Addr} {vs : List V} (r : RVs K I F L xs vs) (lo hi : Option Int) : RVs K I F L (cutD xs lo hi) (cutV vs lo hi) := by
  unfold cutD cutV
  rw [r.length]
  exact (r.drop _).take _
theorem sd_list {lo hi : Option Int} : SlD c S (.lst xs) lo hi O (.lst (cutD xs lo hi)) O := ⟨rSlL c.K, fun X j => by rw [← j.K]; exact sl_list, fun F L H v ok rv => by
  cases rv with
  | lst q r =>
    intro Q qq
    refine ⟨_, _, rfl, .inl (.inl (ok.sub _ _ q)), fun p hp => ?_⟩
    obtain ⟨ok2, n2⟩ := ok.put (o := .lst _) c.hI hp
    exact qq _ _ _ _ n2 ok2 (.lst upd_same ((r.cut lo hi).mono c.hI n2.sub n2.pre))⟩
theorem sd_str {s : Str} {lo hi : Option Int} (h : s.length ≤ 16777216) : SlD c S (.str s) lo hi O (.str (cutS s lo hi)) O := ⟨rSlS, fun X j => sl_str, fun F L H v ok rv => by
  cases rv
  exact SemR.here ok .str fun Q qq => ⟨s, rfl, line_ok h, qq⟩⟩
/-- xs[::-1] -/
theorem ee_rev {kk : Nat} {p1 p2 p3 : Pos} (ha : EE c S a ρ O (.lst xs) O1) : EE c S (.Subscript a (.Slice none none (some (.UnaryOp .USub (.Constant (.int 1) kk p1) p2)) p3) pos) ρ O (.lst xs.reverse) O1 := by
  obtain ⟨ta, pa, va⟩ := ha
  refine ⟨tRevL c.K ta, fun X j => by rw [← j.K]; exact pe_revL (pa X j), fun σ F L H ok sl Q q => ?_⟩
  refine va σ F L H ok sl _ fun v F1 L1 H1 n1 ok1 rv => ?_
  cases rv with
  | lst h r =>
    refine ⟨_, _, rfl, .inl (.inl (ok1.sub _ _ h)), fun p hp => ?_⟩
    obtain ⟨ok2, n2⟩ := ok1.put (o := .lst _) c.hI hp
    exact q _ _ _ _ (n1.trans n2) ok2 (.lst upd_same (r.reverse.mono c.hI n2.sub n2.pre))
theorem ee_revN {kk : Nat} {p1 p2 p3 : Pos} (ha : EE c S a ρ O (.lst xs) O1) : EE c S (.Subscript a (.Slice none none (some (.UnaryOp .USub (.Constant (.int 1) kk p1) p2)) p3) pos) ρ O (.loc O1.length) (O1 ++ [.lst xs.reverse]) := by
  obtain ⟨ta, pa, va⟩ := ha
  refine ⟨tRevL c.K ta, fun X j => by rw [← j.K]; exact pe_revL (pa X j), fun σ F L H ok sl Q q => ?_⟩
  refine va σ F L H ok sl _ fun v F1 L1 H1 n1 ok1 rv => ?_
  cases rv with
  | lst h r =>
    refine ⟨_, _, rfl, .inl (.inl (ok1.sub _ _ h)), fun p hp => ?_⟩
    obtain ⟨ok2, n2⟩ := ok1.cellNew (o := .lst _) (cl := .lst xs.reverse) c.hI hp ⟨ok1.sub.none hp, _, upd_same, r.reverse.mono c.hI (.refl _) (.app _ _)⟩
    exact q _ _ _ _ (n1.trans n2) ok2 (.loc (by rw [← ok1.len]; simp))

/-! ### a name of the module -/
theorem ee_globS {fx : Str} {s : Str} (hm : ∃ t, c.mg fx = some (.str s t)) (hg : glB S.sc fx = true := by first | decide +kernel | kernel_rfl | exact of_decide_eq_true (by kernel_rfl)) (hd : (fx == ("__debug__" : Str)) = false := by first | decide +kernel | kernel_rfl | exact of_decide_eq_true (by kernel_rfl)) : EE c S (.Name fx p) ρ O (.str s) O := by
  obtain ⟨t, hm⟩ := hm
  exact ⟨tC (.str s), fun X j => pe_glob (v := .str s) (u := .str s t) (j.gl hg) (by rw [j.mg]; exact hm) ⟨t, rfl⟩ hd, fun _ F L H ok _ Q q => q _ F L H (.refl _ _ _) ok .str⟩
theorem ee_globI {fx : Str} (hm : ∃ t, c.mg fx = some (.int i t)) (hg : glB S.sc fx = true := by first | decide +kernel | kernel_rfl | exact of_decide_eq_true (by kernel_rfl)) (hd : (fx == ("__debug__" : Str)) = false := by first | decide +kernel | kernel_rfl | exact of_decide_eq_true (by kernel_rfl)) : EE c S (.Name fx p) ρ O (.int i) O := by
  obtain ⟨t, hm⟩ := hm
  exact ⟨tC (.int i), fun X j => pe_glob (v := .int i) (u := .int i t) (j.gl hg) (by rw [j.mg]; exact hm) ⟨t, rfl⟩ hd, fun _ F L H ok _ Q q => q _ F L H (.refl _ _ _) ok .int⟩
theorem ee_ty {fx : Str} {nm : String} (hm : c.mg fx = none) (hv : bootBuiltins fx = some (.type nm) := by first | decide +kernel | kernel_rfl | exact of_decide_eq_true (by kernel_rfl)) (hg : glB S.sc fx = true := by first | decide +kernel | kernel_rfl | exact of_decide_eq_true (by kernel_rfl)) (hn : fx ≠ "__name__" := by first | decide +kernel | kernel_rfl | exact of_decide_eq_true (by kernel_rfl)) (hd : (fx == ("__debug__" : Str)) = false := by first | decide +kernel | kernel_rfl | exact of_decide_eq_true (by kernel_rfl)) : EE c S (.Name fx p) ρ O (.ty nm) O :=
  ⟨_, fun X j => pe_bltn (v := .ty nm) (j.gl hg) (by rw [j.mg]; exact hm) hv rfl hn hd, fun _ F L H ok _ Q q => q _ F L H (.refl _ _ _) ok .ty⟩

/-! ### a, b = x, y -/
theorem s_par {i j : Nat} {x y : Str} {px py pt pt2 : Pos} {kt k2 : Nat} {d1 d2 : D} (hi : S.N[i]? = some x) (hj : S.N[j]? = some y) (ha : EA c S [a, b] ρ O [d1, d2] O1) (hij : i ≠ j := by decide) (hx : locB S.sc x = true := by first | decide +kernel | kernel_rfl | exact of_decide_eq_true (by kernel_rfl)) (hy : locB S.sc y = true := by first | decide +kernel | kernel_rfl | exact of_decide_eq_true (by kernel_rfl)) (nd : S.N.Nodup := by first | decide +kernel | kernel_rfl | exact of_decide_eq_true (by kernel_rfl))
    (hw : ∀ q L f cd, swappedStores [.Tuple [.Name x px, .Name y py] kt pt] (.Tuple [a, b] k2 pt2) (envOfC q S.sc L f cd) = pure (some [x, y]) := by intro _ _ _ _; rfl)
    (hs : ∀ q L f cd, swapsWithSole [.Tuple [.Name x px, .Name y py] kt pt] (.Tuple [a, b] k2 pt2) pos.line (envOfC q S.sc L f cd) = pure false := by intro _ _ _ _; rfl) :
    S1 c S (.Assign [.Tuple [.Name x px, .Name y py] kt pt] (.Tuple [a, b] k2 pt2) pos) ρ O (.nx ((ρ.set i (some d1)).set j (some d2)) O1) := by
  obtain ⟨ta, pa, va⟩ := ha
  refine ⟨tPar i j ta, fun X jj => ?_, ?_⟩
  · obtain ⟨jc, q, L, f, cd, e⟩ := jj
    have hx' : List.lookup x X.env.scope.names = some .local := by rw [jc.sc]; exact locB.loc hx
    have hy' : List.lookup y X.env.scope.names = some .local := by rw [jc.sc]; exact locB.loc hy
    exact ps_par jc.calm (by rw [jc.N]; exact nd) (by rw [jc.N]; exact hi) (by rw [jc.N]; exact hj) hij hx' hy' (pa X jc) (by rw [e]; exact hw _ _ _ _) (by rw [e]; exact hs _ _ _ _)
  · intro σ F L H ok sl E hE
    refine va σ F L H ok sl _ fun vs F1 L1 H1 n1 ok1 rs => ?_
    cases rs with
    | cons r1 t => cases t with | cons r2 t => cases t; exact ⟨_, _, rfl, hE _ F1 L1 H1 n1 ok1 (((sl.mono c.hI n1.sub n1.pre).set r1).set r2)⟩
theorem s_par3 {i j l : Nat} {x y z : Str} {b3 : Expr} {px py pz pt pt2 : Pos} {kt k2 : Nat} {d1 d2 d3 : D} (hi : S.N[i]? = some x) (hj : S.N[j]? = some y) (hl : S.N[l]? = some z) (ha : EA c S [a, b, b3] ρ O [d1, d2, d3] O1) (hij : i ≠ j := by decide) (hil : i ≠ l := by decide) (hjl : j ≠ l := by decide)
    (hx : locB S.sc x = true := by first | decide +kernel | kernel_rfl | exact of_decide_eq_true (by kernel_rfl)) (hy : locB S.sc y = true := by first | decide +kernel | kernel_rfl | exact of_decide_eq_true (by kernel_rfl)) (hz : locB S.sc z = true := by first | decide +kernel | kernel_rfl | exact of_decide_eq_true (by kernel_rfl)) (nd : S.N.Nodup := by first | decide +kernel | kernel_rfl | exact of_decide_eq_true (by kernel_rfl))
    (hw : ∀ q L f cd, swappedStores [.Tuple [.Name x px, .Name y py, .Name z pz] kt pt] (.Tuple [a, b, b3] k2 pt2) (envOfC q S.sc L f cd) = pure (some [x, y, z]) := by intro _ _ _ _; rfl)
    (hs : ∀ q L f cd, swapsWithSole [.Tuple [.Name x px, .Name y py, .Name z pz] kt pt] (.Tuple [a, b, b3] k2 pt2) pos.line (envOfC q S.sc L f cd) = pure false := by intro _ _ _ _; rfl) :
    S1 c S (.Assign [.Tuple [.Name x px, .Name y py, .Name z pz] kt pt] (.Tuple [a, b, b3] k2 pt2) pos) ρ O (.nx (((ρ.set i (some d1)).set j (some d2)).set l (some d3)) O1) := by
  obtain ⟨ta, pa, va⟩ := ha
  refine ⟨tPar3 i j l ta, fun X jj => ?_, ?_⟩
  · obtain ⟨jc, q, L, f, cd, e⟩ := jj
    have hx' : List.lookup x X.env.scope.names = some .local := by rw [jc.sc]; exact locB.loc hx
    have hy' : List.lookup y X.env.scope.names = some .local := by rw [jc.sc]; exact locB.loc hy
    have hz' : List.lookup z X.env.scope.names = some .local := by rw [jc.sc]; exact locB.loc hz
    exact ps_par3 jc.calm (by rw [jc.N]; exact nd) (by rw [jc.N]; exact hi) (by rw [jc.N]; exact hj) (by rw [jc.N]; exact hl) hij hil hjl hx' hy' hz' (pa X jc) (by rw [e]; exact hw _ _ _ _) (by rw [e]; exact hs _ _ _ _)
  · intro σ F L H ok sl E hE
    refine va σ F L H ok sl _ fun vs F1 L1 H1 n1 ok1 rs => ?_
    cases rs with
    | cons r1 t => cases t with | cons r2 t => cases t with | cons r3 t => cases t; exact ⟨_, _, _, rfl, hE _ F1 L1 H1 n1 ok1 ((((sl.mono c.hI n1.sub n1.pre).set r1).set r2).set r3)⟩
/-- a tuple that comes is taken apart -/
theorem s_unpack {tgs : List Expr} {is : List Nat} {kt : Nat} {pt : Pos} (ha : EE c S e ρ O d O1) (hg : GT c S (.Tuple tgs kt pt) is ρ d ρ1)
    (h1 : ∀ q L f cd, swapsWithSole [.Tuple tgs kt pt] e pos.line (envOfC q S.sc L f cd) = pure false := by intro _ _ _ _; rfl) (h2 : ∀ q L f cd, swappedStores [.Tuple tgs kt pt] e (envOfC q S.sc L f cd) = pure none := by intro _ _ _ _; rfl)
    (h3 : ∀ env, List.map (fun x => x.snd) (assignEach [.Tuple tgs kt pt] env) = [assign (.Tuple tgs kt pt) env] := by intro _; rfl) : S1 c S (.Assign [.Tuple tgs kt pt] e pos) ρ O (.nx ρ1 O1) := by
  obtain ⟨ta, pa, va⟩ := ha
  obtain ⟨g, pg, vg⟩ := hg
  refine ⟨tAsg ta g, fun X jj => ?_, fun σ F L H ok sl E hE => ?_⟩
  · obtain ⟨jc, q, L, f, cd, e⟩ := jj
    exact ps_asg (pa X jc) (pg X jc) (by rw [e]; exact h1 _ _ _ _) (by rw [e]; exact h2 _ _ _ _) (h3 _)
  · refine va σ F L H ok sl _ fun v F1 L1 H1 n1 ok1 rv => ?_
    exact vg σ F1 L1 H1 v ok1.sub (sl.mono c.hI n1.sub n1.pre) rv _ fun σ' sl' _ => hE σ' F1 L1 H1 n1 ok1 sl'
/-- x += e, ints -/
theorem s_augI (m : Nat) {x : Str} {pos' : Pos} (ha : EE c S e ρ O (.int j) O1) (hN : S.N[m]? = some x := by rfl) (hρ : ρ[m]? = some (some (.int i)) := by rfl) (hl : putB S x = true := by first | decide +kernel | kernel_rfl | exact of_decide_eq_true (by kernel_rfl)) (nd : S.N.Nodup := by first | decide +kernel | kernel_rfl | exact of_decide_eq_true (by kernel_rfl)) : S1 c S (.AugAssign (.Name x pos') .Add e pos) ρ O (.nx (ρ.set m (some (.int (i + j)))) O1) := by
  obtain ⟨ta, pa, va⟩ := ha
  refine ⟨tAug m ta (ipI fun i j => i + j), fun X jj => ?_, fun σ F L H ok sl E hE => ?_⟩
  · exact ps_aug (i := m) (by rw [jj.1.N]; exact nd) (by rw [jj.1.N]; exact hN) (jj.1.put hl).1 (pa X jj.1) ip_add (jj.1.put hl).2
  · obtain ⟨v, hv, rv⟩ := sl.2 m _ hρ
    cases rv
    refine ⟨_, hv, va σ F L H ok sl _ fun w F1 L1 H1 n1 ok1 rw' => ?_⟩
    cases rw'
    exact ⟨i, j, rfl, rfl, hE _ F1 L1 H1 n1 ok1 ((sl.mono c.hI n1.sub n1.pre).set .int)⟩
/-- SS with a list cell that is a value from now on -/
theorem SS.frz {ss : List Stmt} {o : Out} {m : Nat} (hk : O[k]? = some (.lst ds)) (hr : ρ[m]? = some (some (.loc k))) (h : SS c S ss (ρ.set m (some (.lst ds))) (O.set k .dead) o) : SS c S ss ρ O o := by
  obtain ⟨t, p, v⟩ := h
  refine ⟨t, p, fun σ F L H ok sl E hE => ?_⟩
  obtain ⟨a, vs, ha, ok2, n2, rv⟩ := ok.freeze c.hI hk
  have sl2 := sl.mono c.hI n2.sub n2.pre
  refine v σ _ L H ok2 ⟨by rw [List.length_set]; exact sl2.1, fun j d q => ?_⟩ E (EndOk.seq n2 hE)
  by_cases hj : m = j
  · subst hj
    have hm := (List.getElem?_eq_some_iff.mp hr).1
    rw [List.getElem?_set_self hm] at q
    cases q
    obtain ⟨w, h1, h2⟩ := sl.2 m _ hr
    cases h2 with
    | loc h2 => rw [ha] at h2; cases h2; exact ⟨_, h1, rv⟩
  · rw [List.getElem?_set_ne hj] at q
    exact sl2.2 j d q
end
end DL
set_option maxRecDepth 100000
set_option maxHeartbeats 4000000
namespace DL
open PySem L2 PyProof.Rows PySem.Spec

/-! ### set(xs) of a list of ints -/
abbrev set0 (w : World) : Obj := { cls := .type "set", dict := none, data := .set #[] 0 (.fresh 0 0 (!w.params.followText "set-order")) }
section
variable {P : Program} {w : World} {A : Around} {E : Value → Shared → Prop} {s : Shared} {l : Addr} {items : Array Value} {ns : List Int}
/-- what the new set is behind its __init__ -/
abbrev SetEnd (w : World) (s : Shared) (ns : List Int) : Value → Shared → Prop := fun r s2 => r = .none ∧ ∃ h' tk c, s2 = { s with heap := h', toks := tk } ∧ SetR w h' s.heap.objs.size (fun j => decide (j ∈ ns)) c ∧ c ≤ ns.length ∧ ∀ b o, s.heap.get? b = some o → h'.get? b = some o
theorem set_init_list (hh : A.handled = none) (hl : s.heap.IsList l items) (hit : IntsAre items.toList ns) (hb : ns.length + 1 < scanBound) :
    wpAny (model P w) A (Builtin.«set.__init__» ⟨[.ref s.heap.objs.size, .ref l], []⟩) (fun f s' => match f with | .done (.ret r) => SetEnd w s ns r s' | _ => False) E { s with heap := s.heap.push (set0 w) } := by
  have hsz : items.size = ns.length := by have q := IntsAre.length hit; rwa [Array.length_toList] at q
  have hS : (s.heap.push (set0 w)).get? s.heap.objs.size = some (set0 w) := Heap.get?_push_size _ rfl
  have hT : Shared.TypeIs { s with heap := s.heap.push (set0 w) } (.ref s.heap.objs.size) "set" := ⟨_, hS, rfl⟩
  obtain ⟨⟨oc, od, dd, os⟩, hol, hcl, nl, hdl⟩ := hl
  obtain rfl : oc = .type "list" := hcl
  obtain rfl : dd = .seq items nl := hdl
  have hol' : (s.heap.push (set0 w)).get? l = some ⟨.type "list", od, .seq items nl, os⟩ := Heap.get?_push_of_some _ hol
  have k1 := F.sub_list_set
  have k2 := F.sub_list_frozenset
  have k3 : (Value.type "list" == Value.type "dict") = false := by decide
  have hl1 : (s.heap.push (set0 w)).IsList l items := ⟨_, hol', rfl, nl, rfl⟩
  unfold Builtin.«set.__init__» noKeywords Builtin.Frozenset.updateFrom
  generalize hPI : pyIter = PI
  wp_walk
  subst hPI
  refine wpAny_pyIter_list hl1 (wpAny_bind (wpAny_runValue ?_))
  have lS : l < s.heap.objs.size := Heap.lt_size hol
  have z1 : (s.heap.push (set0 w)).objs.size = s.heap.objs.size + 1 := Heap.size_push ..
  have nI : l ≠ (s.heap.push (set0 w)).objs.size := by rw [z1]; exact Nat.ne_of_lt (Nat.lt_succ_of_lt lS)
  have nS : s.heap.objs.size ∉ [(s.heap.push (set0 w)).objs.size, l] := by
    rw [z1]
    intro q
    rcases List.mem_cons.mp q with q | q
    · exact Nat.ne_of_lt (Nat.lt_succ_self _) q
    · exact Nat.ne_of_gt lS (List.mem_singleton.mp q)
  have hv : ∀ (i : Nat) (v : Value), items[i]? = some v → ∃ k t, ns[i]? = some k ∧ v = .int k t := fun i v q => by
    have hi : i < ns.length := by rw [← hsz]; exact (Array.getElem?_eq_some_iff.mp q).1
    obtain ⟨t, e⟩ := PyProof.Rows.IntsAre.int_at hit i v (by rw [Array.getElem?_toList]; exact q)
    exact ⟨ns[i], t, List.getElem?_eq_getElem hi, by rw [e, List.getD_eq_getElem?_getD, List.getElem?_eq_getElem hi] <;> rfl⟩
  have hA : A.in1.handled = none := hh
  refine set_update_ints ((Walks.list (by simp [hh]) _ l nI items).toS) s.heap.objs.size nS ns hsz hb hv (items.size - 0) 0 _ (by omega) (Nat.zero_le _) ⟨⟨_, Heap.get?_push_size _ rfl, rfl, rfl⟩, hl1.push _⟩ ⟨0, Nat.le_refl 0, setR_new_at (Heap.get?_push_of_some _ hS)⟩ ?_
  intro s' c hm hc hR
  obtain ⟨h', g2, d', tk', os'⟩ := s'
  obtain rfl : g2 = s.gens := hm.gens
  obtain rfl : d' = s.drawn := hm.drawn
  obtain rfl : os' = s.os := hm.os
  refine wpAny_pure (wpAny_pure ⟨rfl, h', tk', c, rfl, hR, by rw [← hsz]; exact hc, fun b o e => ?_⟩)
  have b0 : b < s.heap.objs.size := Heap.lt_size e
  refine hm.heap b o (fun q => ?_) (Heap.get?_push_of_some _ (Heap.get?_push_of_some _ e))
  rcases List.mem_cons.mp q with q | q
  · exact Nat.ne_of_lt b0 q
  · have q' := List.mem_singleton.mp q
    rw [z1] at q'
    exact Nat.ne_of_lt (Nat.lt_succ_of_lt b0) q'
theorem set_init_code (hh : A.handled = none) (hl : s.heap.IsList l items) (hit : IntsAre items.toList ns) (hb : ns.length + 1 < scanBound) :
    codeAny (model P w) A (.call (.builtin "set.__init__") ⟨[.ref s.heap.objs.size, .ref l], []⟩) (wants (SetEnd w s ns) E) { s with heap := s.heap.push (set0 w) } := by
  have hT : Shared.TypeIs { s with heap := s.heap.push (set0 w) } (.ref s.heap.objs.size) "set" := ⟨_, Heap.get?_push_size _ rfl, rfl⟩
  refine codeAny_call_builtin F.called_set.init.plain F.entry_set_init (check_set_init_1 hT ?_)
  refine wpAny_mono (set_init_list (A := A.in1) (E := E) hh hl hit hb) (fun f s2 q => ?_) fun _ _ q => q
  cases f with
  | again cc => exact False.elim q
  | done fl =>
    cases fl with
    | ret r => exact q
    | next => exact False.elim q
    | brk => exact False.elim q
    | cont => exact False.elim q
theorem set_of_list {Q : Value → Shared → Prop} (hh : A.handled = none) (hl : s.heap.IsList l items) (hit : IntsAre items.toList ns) (hb : ns.length + 1 < scanBound)
    (h : ∀ (h' : Heap) (tk c : Nat), SetR w h' s.heap.objs.size (fun j => decide (j ∈ ns)) c → c ≤ ns.length → (∀ b o, s.heap.get? b = some o → h'.get? b = some o) → Q (.ref s.heap.objs.size) { s with heap := h', toks := tk }) :
    wpAny (model P w) A (call (.type "set") [.ref l]) Q E s := by
  obtain ⟨c0, tl, hmro⟩ := F.called_set.mro
  have f1 := F.called_set.made
  have f2 := F.called_set.sub
  have f3 := F.called_set.notType
  have f4 := F.called_set.canCreate
  have f5 := F.typeCall_set_1 (.ref l)
  refine wpAny_call (codeAny_of_tree (show wpAny _ _ (callAny (.type "set") _) _ _ _ from wpAny_pure ⟨Code.quiet_builtin _ (by decide +kernel), codeAny_builtin F.entry_type_call ?_⟩))
  rw [Around.under_plain (weight_type_call_type "set" [.ref l] []) rfl]
  repeat (any_goals (first | assumption | wp_step))
  refine codeAny_mono (code_set_led1 (.ref l) (E := E) (Q₁ := fun obj s1 => obj = .ref s.heap.objs.size ∧ s1 = { s with heap := s.heap.push (set0 w) }) ⟨rfl, rfl⟩) fun r s1 hr => ?_
  cases r with
  | error e => exact hr
  | ok fl =>
   cases fl with
   | next => exact False.elim hr
   | brk => exact False.elim hr
   | cont => exact False.elim hr
   | ret obj =>
    obtain ⟨rfl, rfl⟩ := hr
    have hS : (s.heap.push (set0 w)).get? s.heap.objs.size = some (set0 w) := Heap.get?_push_size _ rfl
    have hT : Shared.TypeIs { s with heap := s.heap.push (set0 w) } (.ref s.heap.objs.size) "set" := ⟨_, hS, rfl⟩
    have g1 := F.called_set.init.lookup
    have g2 := F.called_set.init.bind (.ref s.heap.objs.size)
    repeat (any_goals (first | assumption | wp_step))
    refine codeAny_mono (set_init_code (E := E) (by first | exact hh | simp [hh]) hl hit hb) fun r2 s2 hr2 => ?_
    cases r2 with
    | error e => exact hr2
    | ok fl2 =>
      cases fl2 with
      | ret r =>
        obtain ⟨rfl, h', tk', c', rfl, hS', hc', hk'⟩ := hr2
        repeat (any_goals (first | assumption | wp_step))
        exact h _ _ _ hS' hc' hk'
      | next => exact False.elim hr2
      | brk => exact False.elim hr2
      | cont => exact False.elim hr2
end
/-! ### sorted(set(xs)) -/
section
variable {c : Cn} {S : Sc} {ρ : Rho} {O O1 : Sto} {a : Expr} {p pos : Pos}
/-- the members, ascending, each once -/
structure Spots (ns ps : List Int) : Prop where
  srt : ps.Pairwise (· < ·)
  mem : ∀ k, k ∈ ps ↔ k ∈ ns
theorem Spots.eq {ns ps qs : List Int} (h : Spots ns ps) (g : Spots ns qs) : ps = qs := by
  have key : ∀ (ps qs : List Int), ps.Pairwise (· < ·) → qs.Pairwise (· < ·) → (∀ k, k ∈ ps ↔ k ∈ qs) → ps = qs := by
    intro ps
    induction ps with
    | nil =>
      intro qs _ _ h
      cases qs with
      | nil => rfl
      | cons q qs => exact absurd ((h q).2 List.mem_cons_self) (by simp)
    | cons p ps ih =>
      intro qs h1 h2 h
      cases qs with
      | nil => exact absurd ((h p).1 List.mem_cons_self) (by simp)
      | cons q qs =>
        have a1 := List.pairwise_cons.mp h1
        have a2 := List.pairwise_cons.mp h2
        have e : p = q := by
          rcases List.mem_cons.mp ((h p).1 List.mem_cons_self) with e | e
          · exact e
          · rcases List.mem_cons.mp ((h q).2 List.mem_cons_self) with e2 | e2
            · exact e2.symm
            · have := a1.1 q e2
              have := a2.1 p e
              omega
        subst e
        rw [ih qs a1.2 a2.2 fun k => ?_]
        have hk := h k
        simp only [List.mem_cons] at hk
        constructor
        · intro z
          rcases hk.1 (.inr z) with e | e
          · subst e; have := a1.1 k z; omega
          · exact e
        · intro z
          rcases hk.2 (.inr z) with e | e
          · subst e; have := a2.1 k z; omega
          · exact e
  exact key ps qs h.srt g.srt fun k => (h.mem k).trans (g.mem k).symm
/-- the spots of a list -/
def insU (k : Int) : List Int → List Int
  | [] => [k]
  | p :: ps => if k < p then k :: p :: ps else if k = p then p :: ps else p :: insU k ps
def spots (ns : List Int) : List Int := ns.foldr insU []
theorem insU_mem (k x : Int) : ∀ ps : List Int, x ∈ insU k ps ↔ x = k ∨ x ∈ ps
  | [] => by simp [insU]
  | p :: ps => by
    unfold insU
    by_cases h1 : k < p
    · simp [h1]
    · by_cases h2 : k = p
      · subst h2; simp
      · rw [if_neg h1, if_neg h2, List.mem_cons, insU_mem k x ps, List.mem_cons]
        constructor
        · rintro (h | h | h) <;> simp [h]
        · rintro (h | h | h) <;> simp [h]
theorem insU_srt (k : Int) : ∀ ps : List Int, ps.Pairwise (· < ·) → (insU k ps).Pairwise (· < ·)
  | [], _ => by simp [insU]
  | p :: ps, h => by
    have a := List.pairwise_cons.mp h
    unfold insU
    by_cases h1 : k < p
    · rw [if_pos h1]
      refine List.pairwise_cons.mpr ⟨fun x hx => ?_, h⟩
      rcases List.mem_cons.mp hx with e | e
      · subst e; exact h1
      · have := a.1 x e; omega
    · by_cases h2 : k = p
      · rw [if_neg h1, if_pos h2]; exact h
      · rw [if_neg h1, if_neg h2]
        refine List.pairwise_cons.mpr ⟨fun x hx => ?_, insU_srt k ps a.2⟩
        rcases (insU_mem k x ps).1 hx with e | e
        · subst e; omega
        · exact a.1 x e
theorem spots_ok : ∀ ns : List Int, Spots ns (spots ns)
  | [] => ⟨List.Pairwise.nil, fun _ => Iff.rfl⟩
  | n :: ns => by
    obtain ⟨a, b⟩ := spots_ok ns
    exact ⟨insU_srt n _ a, fun k => by show k ∈ insU n (spots ns) ↔ _; rw [insU_mem, b, List.mem_cons]⟩
def rSetL (K : PySem.W.Frag) (w : World) : List V → Hp → VK → Prop := fun xs H Q => ∃ (l : Addr) (ns : List Int), xs = [.ref l] ∧ SqL K H l (ns.map V.int) ∧ ns.length + 1 < scanBound ∧ ∀ a c, H a = none → c ≤ ns.length → Q (.ref a) (upd H a (SetO w a (fun j => decide (j ∈ ns)) c))
theorem cr_setL {X : Cx} (hc : X.calm = true) : CallR X (.type "set") (rSetL X.K X.w) := by
  intro pins s σ H xs us Q I r h
  obtain ⟨l, ns, rfl, hl, hb, q⟩ := h
  rw [Vals.ref1 r]
  obtain ⟨its, rv, pl, hz⟩ := I.list hl
  have hn : H s.heap.objs.size = none := I.hok.fresh (Nat.le_refl _)
  refine set_of_list (P := X.prog) (w := X.w) (ns := ns) (I.ok.hd hc) pl.isList (by simpa using intsAre_of rv) hb fun h' tk cc R hcc k => ?_
  exact ⟨.ref s.heap.objs.size, upd H s.heap.objs.size (SetO X.w s.heap.objs.size (fun j => decide (j ∈ ns)) cc), I.laid (t' := tk) k (Nat.le_refl _) (setO_new R), rfl, q _ cc hn hcc⟩
theorem ee_sortedSet {ns : List Int} {p2 pos2 : Pos} (hm : c.mg "sorted" = none) (hm2 : c.mg "set" = none) (ha : EE c S a ρ O (.lst (ns.map .int)) O1) (hz : ns.length < 64)
    (hg : glB S.sc "sorted" = true := by first | decide +kernel | kernel_rfl | exact of_decide_eq_true (by kernel_rfl)) (hg2 : glB S.sc "set" = true := by first | decide +kernel | kernel_rfl | exact of_decide_eq_true (by kernel_rfl))
    (he : ∀ env, starEach (.Call (.Name "set" p2) [a] [] pos2 :: []) env = (false, eval (.Call (.Name "set" p2) [a] [] pos2) env) :: starEach [] env := by intro _; rfl) (he2 : ∀ env, starEach (a :: []) env = (false, eval a env) :: starEach [] env := by intro _; rfl)
    (hpl : ∀ env, (backTo pos (starEach [] env)).any (·.1) = false := by intro _; rfl) (hpl2 : ∀ env, (backTo pos2 (starEach [] env)).any (·.1) = false := by intro _; rfl) :
    EE c S (.Call (.Name "sorted" p) [.Call (.Name "set" p2) [a] [] pos2] [] pos) ρ O (.lst ((spots ns).map .int)) O1 := by
  obtain ⟨ta, pa, va⟩ := ha
  refine ⟨tCB (rSortedSet c.w) (tCons (tCB (rSetL c.K c.w) (tCons ta tNil)) tNil), fun X j => ?_, ?_⟩
  · exact pe_callB (by rw [← j.w]; exact cr_sortedSet j.calm) (j.gl hg) (by rw [j.mg]; exact hm) (by decide +kernel) (pa_cons (pe_callTy (by rw [← j.w, ← j.K]; exact cr_setL j.calm) (j.gl hg2) (by rw [j.mg]; exact hm2) (by decide +kernel) (pa_cons (pa X j) pa_nil (he2 _)) (by decide) (by decide) (he2 _) (hpl2 _)) pa_nil (he _)) (by decide) (by decide) (he _) (hpl _)
  · intro σ F L H ok sl Q q
    refine va σ F L H ok sl _ fun v F1 L1 H1 n1 ok1 rv => ?_
    cases rv with
    | lst h r =>
      rw [RVs.ints r] at h
      refine ⟨_, ns, rfl, .inl (.inl (ok1.sub _ _ h)), by unfold scanBound; omega, fun b m hb hm => ?_⟩
      obtain ⟨ok2, n2⟩ := ok1.junk (o := SetO c.w b (fun j => decide (j ∈ ns)) m) c.hI hb
      refine ⟨b, _, m, rfl, upd_same, by omega, fun ps x h1 h2 h3 hx => ?_⟩
      have e : ps = spots ns := Spots.eq (ns := ns) ⟨h1, fun k => (h2 k).trans (by simp)⟩ (spots_ok ns)
      obtain ⟨ok3, n3⟩ := ok2.put (o := .lst (ps.map V.int)) c.hI hx
      refine q _ _ _ _ ((n1.trans n2).trans n3) ok3 (.lst upd_same ?_)
      rw [e]; exact RVs.of_ints _
/-- sorted(d) of a dict of ints that is a cell -/
theorem cd_sortedD {kvs : List (Key × D)} {ks : List Int} {k : Nat} (hk : O[k]? = some (.dct kvs)) (e : kvs.map (·.1) = ks.map Sum.inl) (nd : ks.Nodup) (hz : ks.length < 64) : CaD c S (.builtin "sorted") [.loc k] O (.lst ((spots ks).map .int)) O :=
  ⟨_, fun X j => call_sortedDI j.calm, fun F L H vs ok rs => by
    cases rs with
    | cons r t =>
      cases t
      cases r with
      | loc ha =>
        obtain ⟨hF, ws, h1, h2, h3⟩ := ok.cellD ha hk
        intro Q q
        refine ⟨_, ws, ks, rfl, .inl h1, h2.symm.trans e, hz, fun ys p pm pw hp => ?_⟩
        obtain ⟨ok3, n3⟩ := ok.put (o := .lst (ys.map V.int)) c.hI hp
        have ey : ys = spots ks := by
          refine Spots.eq (ns := ks) ⟨?_, fun k => pm.mem_iff⟩ (spots_ok ks)
          have nd' : ys.Nodup := pm.nodup_iff.mpr nd
          have := pw.and nd'
          exact this.imp fun {a b} h => by
            have h1 : a ≤ b := h.1
            have h2 : a ≠ b := h.2
            omega
        refine q _ _ _ _ n3 ok3 (.lst upd_same ?_)
        rw [ey]; exact RVs.of_ints _⟩
end
end DL
set_option maxRecDepth 100000
namespace DL
open PySem L2 PyProof.Rows PySem.Spec
/-! ### dict displays -/
def EPs (c : Cn) (S : Sc) (pos : Pos) (ks : List (Option Expr)) (vs : List Expr) (ρ : Rho) (O : Sto) (kvs : List (Key × D)) (O' : Sto) : Prop := ∃ trs, (∀ X, InC c S X → PPs X pos ks vs trs) ∧
  ∀ (σ : L2.St) (F : Hp) (L : List Addr) (H : Hp), OkH c.K c.I F L H O → Sl c.K c.I F L ρ σ → ∀ Q : List (V × V) → Hp → Prop, (∀ (ws : List (Key × V)) F' L' H', Nxt F L H F' L' H' → OkH c.K c.I F' L' H' O' → kvs.map (·.1) = ws.map (·.1) → RVs c.K c.I F' L' (kvs.map (·.2)) (ws.map (·.2)) → Q (ws.map fun kv => (kV kv.1, kv.2)) H') → tPairs trs σ H Q
section
variable {c : Cn} {S : Sc} {ρ ρ1 ρ2 : Rho} {O O1 O2 O3 : Sto} {a b e : Expr} {d x y z : D} {pos p : Pos} {kes : List (Option Expr)} {ves : List Expr} {kvs : List (Key × D)} {k : Nat}
theorem eps_nil : EPs c S pos [] [] ρ O [] O := ⟨[], fun _ _ => pps_nil, fun σ F L H ok sl Q q => q [] F L H (.refl _ _ _) ok rfl .nil⟩
theorem eps_cons (q : Key) (hk : EE c S a ρ O (keyD q) O1) (hv : EE c S b ρ O1 d O2) (hr : EPs c S pos kes ves ρ O2 kvs O3) : EPs c S pos (some a :: kes) (b :: ves) ρ O ((q, d) :: kvs) O3 := by
  obtain ⟨ta, pa, va⟩ := hk
  obtain ⟨tb, pb, vb⟩ := hv
  obtain ⟨trs, pt, vt⟩ := hr
  refine ⟨(ta, tb) :: trs, fun X j => pps_cons (pa X j) (pb X j) (pt X j), fun σ F L H ok sl Q qq => ?_⟩
  refine va σ F L H ok sl _ fun v F1 L1 H1 n1 ok1 rv => ?_
  have sl1 := sl.mono c.hI n1.sub n1.pre
  refine vb σ F1 L1 H1 ok1 sl1 _ fun u F2 L2 H2 n2 ok2 ru => ?_
  refine vt σ F2 L2 H2 ok2 (sl1.mono c.hI n2.sub n2.pre) _ fun ws F3 L3 H3 n3 ok3 e1 e2 => ?_
  rw [keyD_rv rv]
  exact qq ((q, u) :: ws) F3 L3 H3 ((n1.trans n2).trans n3) ok3 (by rw [List.map_cons, List.map_cons, e1]) (.cons (ru.mono c.hI n3.sub n3.pre) e2)
theorem mergeK_nd : ∀ {kvs acc : List (Key × V)}, ((acc ++ kvs).map (·.1)).Nodup → mergeK acc kvs = acc ++ kvs
  | [], acc, _ => by simp [mergeK]
  | (q, v) :: kvs, acc, h => by
    have hq : (acc.any fun kv => decide (kv.1 = q)) = false := by
      rw [List.any_eq_false]
      intro kv hkv z
      have z' : kv.1 = q := by simpa using z
      rw [List.map_append, List.nodup_append] at h
      exact h.2.2 kv.1 (List.mem_map_of_mem hkv) q (by simp) z'
    show mergeK (putK acc q v) kvs = _
    have e : putK acc q v = acc ++ [(q, v)] := by unfold putK; rw [if_neg (by rw [hq]; exact Bool.false_ne_true)]
    rw [e, mergeK_nd (by simpa using h)]
    simp
/-- {k: v, ..} as a cell -/
theorem ee_dictN (h : EPs c S pos kes ves ρ O kvs O1) (keys : List Key) (hk : kvs.map (·.1) = keys := by rfl) (nd : keys.Nodup := by first | decide +kernel | kernel_rfl | exact of_decide_eq_true (by kernel_rfl)) (h1 : (kes.all fun x => x.isSome) = true := by rfl) (h2 : kes.length = ves.length := by rfl) (h3 : kes ≠ [] := by simp) (h4 : kes.length ≤ 15 := by exact Nat.le_of_ble_eq_true rfl) (h5 : kvs.length ≤ 15 := by exact Nat.le_of_ble_eq_true rfl) :
    EE c S (.Dict kes ves pos) ρ O (.loc O1.length) (O1 ++ [.dct kvs]) := by
  obtain ⟨trs, pt, vt⟩ := h
  refine ⟨tDisp trs, fun X j => pe_disp (pt X j) h1 h2 h3 h4, fun σ F L H ok sl Q q => fun p hp => ?_⟩
  obtain ⟨ok0, n0⟩ := ok.junk (o := .dK []) c.hI hp
  refine vt σ F L _ ok0 sl _ fun ws F1 L1 H1 n1 ok1 ee1 e2 => ?_
  have hpL : p ∉ L := ok.out hp
  have hF : F p = none := ok.sub.none hp
  have hp1 : H1 p = some (.dK []) := n1.frm p _ upd_same hpL (by intro _ h; cases h)
  have hpL1 : p ∉ L1 := fun z => by have := n1.new p z hpL; rw [upd_same] at this; cases this
  have hF1 : F1 p = none := by
    cases e : F1 p with
    | none => rfl
    | some o => have := n1.nwF p o e hF hpL; rw [upd_same] at this; cases this
  have hl : ws.length = kvs.length := by have := congrArg List.length ee1; simpa using this.symm
  have hm : mergeK [] ws = ws := by
    have := mergeK_nd (kvs := ws) (acc := []) (by rw [List.nil_append, ← ee1, hk]; exact nd)
    simpa using this
  refine ⟨hp1, ws, rfl, by rw [hl]; exact h5, ?_⟩
  rw [hm]
  -- p becomes a cell
  have okw := ok1.wr (o := .dK ws) c.hI hF1 hpL1 hp1
  have get : ∀ {k : Nat} {a : Addr}, (L1 ++ [p])[k]? = some a → (L1[k]? = some a ∧ a ≠ p ∧ k < L1.length) ∨ (k = L1.length ∧ a = p) := fun {k a} e => by
    by_cases hk : k < L1.length
    · rw [List.getElem?_append_left hk] at e
      exact .inl ⟨e, fun z => hpL1 (z ▸ mem_of_get e), hk⟩
    · rw [List.getElem?_append_right (by omega)] at e
      have : k - L1.length = 0 := by
        have := (List.getElem?_eq_some_iff.mp e).1
        simp at this; omega
      rw [this] at e
      simp at e
      exact .inr ⟨by omega, e.symm⟩
  have nn := n0.trans n1
  refine q _ F1 (L1 ++ [p]) _ ⟨nn.sub, nn.pre.trans (.app _ _), fun b o e n t => ?_, fun b ps e n => by rw [upd_ne (ne_of_none e hp)]; exact nn.tbl b ps e n, fun a h m => ?_, nn.nwF⟩ ⟨okw.sub, fun i j a h1 h2 => ?_, by simp [ok1.len], fun k a e => ?_, okw.tabApp upd_same, fun k a cl e g => ?_⟩ (.loc (by rw [← ok1.len]; simp))
  · rw [upd_ne (ne_of_none e hp)]; exact nn.frm b o e n t
  · rcases List.mem_append.mp h with z | z
    · exact nn.new a z m
    · rw [List.mem_singleton.mp z]; exact hp
  · rcases get h1 with ⟨e1, n1, l1⟩ | ⟨e1, rfl⟩ <;> rcases get h2 with ⟨e2, n2, l2⟩ | ⟨e2, z⟩
    · exact ok1.nd i j a e1 e2
    · exact absurd z n1
    · exact absurd rfl n2
    · omega
  · rcases get e with ⟨e1, _, _⟩ | ⟨_, rfl⟩
    · exact okw.has k a e1
    · exact ⟨_, upd_same⟩
  · rcases get e with ⟨e1, n1, l1⟩ | ⟨e1, rfl⟩
    · rw [List.getElem?_append_left (by rw [← ok1.len]; exact l1)] at g
      exact (okw.cell k a cl e1 g).mono c.hI (.refl _) (.app _ _) (fun _ h => h) rfl
    · have : k = O1.length := by rw [← ok1.len]; exact e1
      subst this
      simp at g
      subst g
      exact ⟨hF1, ws, upd_same, ee1, e2.mono c.hI (.refl _) (.app _ _)⟩
end
end DL
set_option maxRecDepth 100000
namespace DL
open PySem L2 PyProof.Rows PySem.Spec
/-! ### data without places of the store -/
mutual
def D.free : D → Bool
  | .loc _ => false
  | .lst ds => freeAll ds
  | .tup ds => freeAll ds
  | .rd ds => freeAll ds
  | .non => true
  | .bl _ => true
  | .int _ => true
  | .str _ => true
  | .ob _ _ => true
  | .ty _ => true
  | .dct _ ds => freeAll ds
  | .ins _ _ ds => freeAll ds
def freeAll : List D → Bool
  | [] => true
  | d :: ds => d.free && freeAll ds
end
theorem freeAll_iff : ∀ {ds : List D}, freeAll ds = true ↔ ∀ d ∈ ds, d.free = true
  | [] => by simp [freeAll]
  | d :: ds => by simp [freeAll, freeAll_iff (ds := ds)]
theorem free_lst {ds : List D} (h : ∀ d ∈ ds, d.free = true) : (D.lst ds).free = true := by simpa [D.free] using freeAll_iff.mpr h
theorem free_tup {ds : List D} (h : ∀ d ∈ ds, d.free = true) : (D.tup ds).free = true := by simpa [D.free] using freeAll_iff.mpr h
mutual
theorem RV.anyL {K : PySem.W.Frag} {I : Ob} {F : Hp} {L L' : List Addr} : ∀ {d : D} {v : V}, d.free = true → RV K I F L d v → RV K I F L' d v
  | .non, _, _, .non => .non
  | .bl _, _, _, .bl => .bl
  | .int _, _, _, .int => .int
  | .str _, _, _, .str => .str
  | .lst ds, _, h, .lst q r => .lst q (RVs.anyL (by simpa [D.free] using h) r)
  | .tup ds, _, h, .tup q r => .tup q (RVs.anyL (by simpa [D.free] using h) r)
  | .rd ds, _, h, .rd q r => .rd q (RVs.anyL (by simpa [D.free] using h) r)
  | .loc _, _, h, _ => by simp [D.free] at h
  | .ob _ _, _, _, .ob q => .ob q
  | .ty _, _, _, .ty => .ty
  | .dct _ ds, _, h, .dct q e r => .dct q e (RVs.anyL (by simpa [D.free] using h) r)
  | .ins _ _ ds, _, h, .ins q e r => .ins q e (RVs.anyL (by simpa [D.free] using h) r)
theorem RVs.anyL {K : PySem.W.Frag} {I : Ob} {F : Hp} {L L' : List Addr} : ∀ {ds : List D} {vs : List V}, freeAll ds = true → RVs K I F L ds vs → RVs K I F L' ds vs
  | [], _, _, .nil => .nil
  | d :: ds, _, h, .cons q r => by
    have h' : d.free = true ∧ freeAll ds = true := by simpa [freeAll] using h
    exact .cons (RV.anyL h'.1 q) (RVs.anyL h'.2 r)
end
/-! places of the store below n alone -/
mutual
def D.lk (n : Nat) : D → Bool
  | .loc k => decide (k < n)
  | .lst ds => lkAll n ds
  | .tup ds => lkAll n ds
  | .rd ds => lkAll n ds
  | .non => true
  | .bl _ => true
  | .int _ => true
  | .str _ => true
  | .ob _ _ => true
  | .ty _ => true
  | .dct _ ds => lkAll n ds
  | .ins _ _ ds => lkAll n ds
def lkAll (n : Nat) : List D → Bool
  | [] => true
  | d :: ds => d.lk n && lkAll n ds
end
mutual
theorem RV.cut {K : PySem.W.Frag} {I : Ob} {F : Hp} {L : List Addr} {n : Nat} : ∀ {d : D} {v : V}, d.lk n = true → RV K I F L d v → RV K I F (L.take n) d v
  | .non, _, _, .non => .non
  | .bl _, _, _, .bl => .bl
  | .int _, _, _, .int => .int
  | .str _, _, _, .str => .str
  | .lst ds, _, h, .lst q r => .lst q (RVs.cut1 (by simpa [D.lk] using h) r)
  | .tup ds, _, h, .tup q r => .tup q (RVs.cut1 (by simpa [D.lk] using h) r)
  | .rd ds, _, h, .rd q r => .rd q (RVs.cut1 (by simpa [D.lk] using h) r)
  | .loc k, _, h, .loc q => .loc (by rw [List.getElem?_take_of_lt (by simpa [D.lk] using h)]; exact q)
  | .ob _ _, _, _, .ob q => .ob q
  | .ty _, _, _, .ty => .ty
  | .dct _ ds, _, h, .dct q e r => .dct q e (RVs.cut1 (by simpa [D.lk] using h) r)
  | .ins _ _ ds, _, h, .ins q e r => .ins q e (RVs.cut1 (by simpa [D.lk] using h) r)
theorem RVs.cut1 {K : PySem.W.Frag} {I : Ob} {F : Hp} {L : List Addr} {n : Nat} : ∀ {ds : List D} {vs : List V}, lkAll n ds = true → RVs K I F L ds vs → RVs K I F (L.take n) ds vs
  | [], _, _, .nil => .nil
  | d :: ds, _, h, .cons q r => by
    have h' : d.lk n = true ∧ lkAll n ds = true := by simpa [lkAll] using h
    exact .cons (RV.cut h'.1 q) (RVs.cut1 h'.2 r)
end
mutual
theorem D.free_lk (n : Nat) : ∀ d : D, d.free = true → d.lk n = true
  | .non, _ => rfl
  | .bl _, _ => rfl
  | .int _, _ => rfl
  | .str _, _ => rfl
  | .lst ds, h => by simpa [D.lk] using freeAll_lk n ds (by simpa [D.free] using h)
  | .tup ds, h => by simpa [D.lk] using freeAll_lk n ds (by simpa [D.free] using h)
  | .rd ds, h => by simpa [D.lk] using freeAll_lk n ds (by simpa [D.free] using h)
  | .loc _, h => by simp [D.free] at h
  | .ob _ _, _ => rfl
  | .ty _, _ => rfl
  | .dct _ ds, h => by simpa [D.lk] using freeAll_lk n ds (by simpa [D.free] using h)
  | .ins _ _ ds, h => by simpa [D.lk] using freeAll_lk n ds (by simpa [D.free] using h)
theorem freeAll_lk (n : Nat) : ∀ ds : List D, freeAll ds = true → lkAll n ds = true
  | [], _ => rfl
  | d :: ds, h => by
    have h' : d.free = true ∧ freeAll ds = true := by simpa [freeAll] using h
    simp [lkAll, D.free_lk n d h'.1, freeAll_lk n ds h'.2]
end
def Cell.lk (n : Nat) : Cell → Bool
  | .dead => true
  | .lst ds => lkAll n ds
  | .dct kvs => lkAll n (kvs.map (·.2))
  | .ins _ fs => lkAll n (fs.map (·.2))
def stoBelow (n : Nat) (O : Sto) : Bool := O.all fun c => c.lk n
def stoLk (O : Sto) : Bool := stoBelow O.length O
mutual
theorem RV.isLk {K : PySem.W.Frag} {I : Ob} {F : Hp} {L : List Addr} : ∀ {d : D} {v : V}, RV K I F L d v → d.lk L.length = true
  | .non, _, .non => rfl
  | .bl _, _, .bl => rfl
  | .int _, _, .int => rfl
  | .str _, _, .str => rfl
  | .lst ds, _, .lst q r => by simpa [D.lk] using RVs.isLk r
  | .tup ds, _, .tup q r => by simpa [D.lk] using RVs.isLk r
  | .rd ds, _, .rd q r => by simpa [D.lk] using RVs.isLk r
  | .loc k, _, .loc q => by simpa [D.lk] using (List.getElem?_eq_some_iff.mp q).1
  | .ob _ _, _, .ob q => rfl
  | .ty _, _, .ty => rfl
  | .dct _ ds, _, .dct q e r => by simpa [D.lk] using RVs.isLk r
  | .ins _ _ ds, _, .ins q e r => by simpa [D.lk] using RVs.isLk r
theorem RVs.isLk {K : PySem.W.Frag} {I : Ob} {F : Hp} {L : List Addr} : ∀ {ds : List D} {vs : List V}, RVs K I F L ds vs → lkAll L.length ds = true
  | [], _, .nil => rfl
  | d :: ds, _, .cons q r => by simp [lkAll, RV.isLk q, RVs.isLk r]
end
theorem OkH.isLk {K : PySem.W.Frag} {I : Ob} {F H : Hp} {L : List Addr} {O : Sto} (ok : OkH K I F L H O) : stoLk O = true := by
  refine List.all_eq_true.mpr fun c hc => ?_
  obtain ⟨k, hk⟩ := List.getElem?_of_mem hc
  have hl : k < L.length := by rw [ok.len]; exact (List.getElem?_eq_some_iff.mp hk).1
  have h := ok.cell k _ c (List.getElem?_eq_getElem hl) hk
  rw [← ok.len]
  cases c with
  | dead => rfl
  | lst ds => obtain ⟨_, vs, _, r⟩ := h; exact RVs.isLk r
  | dct kvs => obtain ⟨_, vs, _, _, r⟩ := h; exact RVs.isLk r
  | ins C fs => obtain ⟨_, dx, vs, _, _, r⟩ := h; exact RVs.isLk r

section
variable {c : Cn} {S : Sc} {ρ : Rho} {O O1 J : Sto} {d : D} {ss : List Stmt}
theorem OkH.cut {K : PySem.W.Frag} {I : Ob} {F H : Hp} {L : List Addr} (ok : OkH K I F L H (O ++ J)) (hb : stoBelow O.length O = true) : OkH K I F (L.take O.length) H O := by
  have hl : O.length ≤ L.length := by rw [ok.len]; simp
  have get : ∀ {k : Nat} {a : Addr}, (L.take O.length)[k]? = some a → L[k]? = some a ∧ k < O.length := fun {k a} e => by
    have hk := (List.getElem?_eq_some_iff.mp e).1
    rw [List.length_take] at hk
    have : k < O.length := by omega
    rw [List.getElem?_take_of_lt this] at e
    exact ⟨e, this⟩
  refine ⟨ok.sub, fun i j a h1 h2 => ok.nd i j a (get h1).1 (get h2).1, by rw [List.length_take]; omega, fun k a e => ok.has k a (get e).1, fun t ht => let ⟨x1, x2, x3⟩ := ok.tab t ht; ⟨x1, fun z => x2 (List.mem_of_mem_take z), x3⟩, fun k a cl e q => ?_⟩
  obtain ⟨e1, hk⟩ := get e
  have h := ok.cell k a cl e1 (by rw [List.getElem?_append_left hk]; exact q)
  have hcl : cl.lk O.length = true := (List.all_eq_true.mp hb) cl (List.mem_of_getElem? q)
  cases cl with
  | dead => trivial
  | lst ds => obtain ⟨h0, vs, h1, h2⟩ := h; exact ⟨h0, vs, h1, RVs.cut1 hcl h2⟩
  | dct kvs => obtain ⟨h0, vs, h1, h2, h3⟩ := h; exact ⟨h0, vs, h1, h2, RVs.cut1 hcl h3⟩
  | ins C fs => obtain ⟨h0, dx, vs, h1, h2, h3⟩ := h; exact ⟨h0, dx, vs, h1, h2, RVs.cut1 hcl h3⟩
theorem Nxt.cut {F H F' H' : Hp} {L L' : List Addr} {n : Nat} (h : Nxt F L H F' L' H') (hn : L.length ≤ n) : Nxt F L H F' (L'.take n) H' :=
  ⟨h.sub, fun k a e => by have := (List.getElem?_eq_some_iff.mp e).1; rw [List.getElem?_take_of_lt (by omega)]; exact h.pre k a e, h.frm, h.tbl, fun a m => h.new a (List.mem_of_mem_take m), h.nwF⟩
/-- cells that are of no more use are let go at the end -/
theorem SS.drop (h : SS c S ss ρ O (.rt d (O1 ++ J))) (hl : O.length ≤ O1.length) (hd : d.lk O1.length = true) (hb : stoLk O = true → stoLk O1 = true) : SS c S ss ρ O (.rt d O1) := by
  obtain ⟨t, p, v⟩ := h
  refine ⟨t, p, fun σ F L H ok sl E hE => v σ F L H ok sl E fun x F' L' H' n ok' rv => ?_⟩
  exact hE x F' (L'.take O1.length) H' (n.cut (by rw [ok.len]; exact hl)) (ok'.cut (hb ok.isLk)) (rv.cut hd)
/-- an expression's fresh cells -/
theorem EE.drop {e : Expr} (h : EE c S e ρ O d (O1 ++ J)) (hl : O.length ≤ O1.length) (hd : d.lk O1.length = true) (hb : stoLk O = true → stoLk O1 = true) : EE c S e ρ O d O1 := by
  obtain ⟨t, p, v⟩ := h
  refine ⟨t, p, fun σ F L H ok sl Q q => v σ F L H ok sl Q fun x F' L' H' n ok' rv => ?_⟩
  exact q x F' (L'.take O1.length) H' (n.cut (by rw [ok.len]; exact hl)) (ok'.cut (hb ok.isLk)) (rv.cut hd)
/-- a fresh list that comes last is a value -/
theorem EE.frz {e : Expr} {ds : List D} (h : EE c S e ρ O (.loc O1.length) (O1 ++ [.lst ds])) (hl : O.length ≤ O1.length) (hd : freeAll ds = true) (hb : stoLk O = true → stoLk O1 = true) : EE c S e ρ O (.lst ds) O1 := by
  obtain ⟨t, p, v⟩ := h
  refine ⟨t, p, fun σ F L H ok sl Q q => v σ F L H ok sl Q fun x F' L' H' n ok' rv => ?_⟩
  obtain ⟨a, vs, ha, ok2, n2, rv2⟩ := ok'.freeze (k := O1.length) (ds := ds) c.hI (by simp)
  have e : (O1 ++ [Cell.lst ds]).set O1.length .dead = O1 ++ [.dead] := by simp [List.set_append]
  rw [e] at ok2
  cases rv with
  | loc hx =>
    rw [ha] at hx; cases hx
    refine q _ _ (L'.take O1.length) H' ((n.trans n2).cut (by rw [ok.len]; exact hl)) (ok2.cut (hb ok.isLk)) (RV.anyL (by simpa [D.free] using hd) rv2)
end

theorem DefOk.up {c : Cn} {x : Str} {R : Fn} {ps : List Str} {i j : Nat} (h : DefOk c x R ps i) (hij : i ≤ j) : DefOk c x R ps j := let ⟨f, fd, F, r⟩ := h; ⟨f, fd, F.up hij, r⟩
/-! ### what is drawn one after the other -/
def mapS {σ α β : Type} (f : σ → α → β × σ) : σ → List α → List β × σ
  | s, [] => ([], s)
  | s, a :: as => ((f s a).1 :: (mapS f (f s a).2 as).1, (mapS f (f s a).2 as).2)
theorem mapS_len {σ α β : Type} (f : σ → α → β × σ) : ∀ (s : σ) (as : List α), (mapS f s as).1.length = as.length
  | _, [] => rfl
  | s, a :: as => by show (_ :: _).length = _; simp [mapS_len f _ as]
theorem mapS_all {σ α β : Type} (f : σ → α → β × σ) (P : β → Prop) (h : ∀ s a, P (f s a).1) : ∀ (s : σ) (as : List α), ∀ b ∈ (mapS f s as).1, P b
  | _, [], b, hb => by simp [mapS] at hb
  | s, a :: as, b, hb => by
    rcases List.mem_cons.mp (show b ∈ (f s a).1 :: (mapS f (f s a).2 as).1 from hb) with e | e
    · subst e; exact h s a
    · exact mapS_all f P h _ as b e
theorem cr_mapS {c : Cn} {S : Sc} {tg elt : Expr} {vs : List Nat} {ρ : Rho} {σ α β : Type} (f : σ → α → β × σ) (g : α → D) (h : β → D) (st : σ → Sto)
    (H : ∀ s a, ∃ is ρ1, GT c S tg is ρ (g a) ρ1 ∧ (∀ i ∈ is, i ∈ vs) ∧ EE c S elt ρ1 (st s) (h (f s a).1) (st (f s a).2)) : ∀ (s : σ) (as : List α), CR c S tg [] elt vs ρ (as.map g) (st s) ((mapS f s as).1.map h) (st (mapS f s as).2)
  | s, [] => .nil
  | s, a :: as => by
    obtain ⟨is, ρ1, h1, h2, h3⟩ := H s a
    exact .yes h1 h2 ei_nil h3 (cr_mapS f g h st H _ as)
/-- plain: each item by itself, the store as it is -/
theorem cr_map {c : Cn} {S : Sc} {tg elt : Expr} {vs : List Nat} {ρ : Rho} {O : Sto} {α : Type} (g h : α → D) : ∀ (as : List α)
    (H : ∀ a ∈ as, ∃ is ρ1, GT c S tg is ρ (g a) ρ1 ∧ (∀ i ∈ is, i ∈ vs) ∧ EE c S elt ρ1 O (h a) O), CR c S tg [] elt vs ρ (as.map g) O (as.map h) O
  | [], _ => .nil
  | a :: as, H => by
    obtain ⟨is, ρ1, h1, h2, h3⟩ := H a List.mem_cons_self
    exact .yes h1 h2 ei_nil h3 (cr_map g h as fun b hb => H b (List.mem_cons_of_mem _ hb))
/-- with an if -/
theorem cr_filter {c : Cn} {S : Sc} {tg elt : Expr} {ifs : List Expr} {vs : List Nat} {ρ : Rho} {O : Sto} {α : Type} (g h : α → D) (t : α → Bool) : ∀ (as : List α)
    (H : ∀ a ∈ as, ∃ is ρ1, GT c S tg is ρ (g a) ρ1 ∧ (∀ i ∈ is, i ∈ vs) ∧ EI c S ifs ρ1 O (t a) O ∧ (t a = true → EE c S elt ρ1 O (h a) O)), CR c S tg ifs elt vs ρ (as.map g) O ((as.filter t).map h) O
  | [], _ => .nil
  | a :: as, H => by
    obtain ⟨is, ρ1, h1, h2, h3, h4⟩ := H a List.mem_cons_self
    have ih := cr_filter (c := c) (S := S) (tg := tg) (elt := elt) (ifs := ifs) (vs := vs) (ρ := ρ) (O := O) g h t as fun b hb => H b (List.mem_cons_of_mem _ hb)
    cases e : t a with
    | true => rw [List.filter_cons_of_pos e]; exact .yes h1 h2 (e ▸ h3) (h4 e) ih
    | false => rw [List.filter_cons_of_neg (by simp [e])]; exact .no h1 h2 (e ▸ h3) ih
/-- the cell that came last -/
theorem own_get {A R : Sto} {x : Cell} : (A ++ (R ++ [x]))[A.length + R.length]? = some x := by
  rw [← List.append_assoc, ← List.length_append]; simp
theorem own_set {A R : Sto} {x y : Cell} : (A ++ (R ++ [x])).set (A.length + R.length) y = A ++ (R ++ [y]) := by
  rw [← List.append_assoc, ← List.length_append, List.set_append]; simp
end DL
set_option maxRecDepth 100000
namespace DL
open PySem L2 PyProof.Rows PySem.Spec

/-! ### attributes -/
def putFD (f : Str) (d : D) : List (Str × D) → List (Str × D)
  | [] => [(f, d)]
  | (g, x) :: r => if g = f then (g, d) :: r else (g, x) :: putFD f d r
theorem putFD_rv {K : PySem.W.Frag} {I : Ob} {F : Hp} {L : List Addr} {f : Str} {d : D} {v : V} (rv : RV K I F L d v) : ∀ {fs : List (Str × D)} {vs : List (Str × V)}, fs.map (·.1) = vs.map (·.1) → RVs K I F L (fs.map (·.2)) (vs.map (·.2)) →
    (putFD f d fs).map (·.1) = (putF f v vs).map (·.1) ∧ RVs K I F L ((putFD f d fs).map (·.2)) ((putF f v vs).map (·.2))
  | [], [], _, _ => ⟨rfl, .cons rv .nil⟩
  | [], _ :: _, h, _ => by simp at h
  | _ :: _, [], h, _ => by simp at h
  | (g, x) :: fs, (g', y) :: vs, h, r => by
    simp only [List.map_cons, List.cons.injEq] at h
    obtain ⟨e, h⟩ := h
    have e : g = g' := e
    subst e
    have r' : RVs K I F L (x :: fs.map (·.2)) (y :: vs.map (·.2)) := r
    cases r' with
    | cons r1 r2 =>
      unfold putFD putF
      by_cases hg : g = f
      · rw [if_pos hg, if_pos hg]; exact ⟨by simp [h], .cons rv r2⟩
      · rw [if_neg hg, if_neg hg]
        obtain ⟨a, b⟩ := putFD_rv rv h r2
        exact ⟨by simp [a], .cons r1 b⟩
theorem ins_get' {K : PySem.W.Frag} {I : Ob} {F : Hp} {L : List Addr} {f : Str} : ∀ {ks : List Str} {ds : List D} {fs : List (Str × V)}, fs.map (·.1) = ks → RVs K I F L ds (fs.map (·.2)) →
    (∀ d, (ks.zip ds).lookup f = some d → ∃ v, fs.lookup f = some v ∧ RV K I F L d v) ∧ (ks.contains f = false → fs.lookup f = none)
  | _, _, [], h, r => by
    subst h
    exact ⟨fun d e => by simp at e, fun _ => rfl⟩
  | _, _, (g, y) :: fs, h, r => by
    subst h
    have r' : RVs K I F L _ (y :: fs.map (·.2)) := r
    cases r' with
    | cons r1 r2 =>
      obtain ⟨a, b⟩ := ins_get' (f := f) (ks := fs.map (·.1)) rfl r2
      refine ⟨fun d e => ?_, fun e => ?_⟩
      · simp only [List.map_cons, List.zip_cons_cons, List.lookup_cons] at e ⊢
        by_cases hg : (f == g) = true
        · rw [hg] at e ⊢; cases e; exact ⟨y, rfl, r1⟩
        · have hg' : (f == g) = false := by simpa using hg
          rw [hg'] at e ⊢; exact a d e
      · simp only [List.map_cons, List.contains_cons, Bool.or_eq_false_iff] at e
        rw [List.lookup_cons, e.1]
        exact b e.2
section
variable {c : Cn} {S : Sc} {ρ ρ1 ρ2 : Rho} {O O1 O2 O3 O4 J : Sto} {a b e o value tg iter kx vx : Expr} {es ifs : List Expr} {d x y z r : D} {ds rs xs ys : List D} {pos p pos' apos cpos : Pos} {i j : Int} {k n : Nat} {C : Addr} {ks : List Str} {f m : Str} {fs : List (Str × D)}
/-- e.f of an instance that stays -/
theorem ee_fld (ha : EE c S a ρ O (.ins C ks ds) O1) (hc : Cls c.K C) (hn : NoAttr c.K C f) (hl : (ks.zip ds).lookup f = some d) (hb : ∀ env, attributeBase a f env (eval a env) = eval a env := by intro _; rfl) : EE c S (.Attribute a f pos) ρ O d O1 := by
  obtain ⟨ta, pa, va⟩ := ha
  refine ⟨tFld c.K ta f, fun X j => by rw [← j.K]; exact pe_fld (pa X j) (hb _), fun σ F L H ok sl Q q => ?_⟩
  refine va σ F L H ok sl _ fun v F1 L1 H1 n1 ok1 rv => ?_
  cases rv with
  | @ins ad _ dx _ _ fs h e r =>
    obtain ⟨w, hw, rw'⟩ := (ins_get' (f := f) e r).1 d hl
    exact ⟨ad, C, dx, fs, w, rfl, ok1.sub _ _ h, hc, hn, hw, q w F1 L1 H1 n1 ok1 rw'⟩
/-- e.f of an instance that is a cell -/
theorem ee_fldC (ha : EE c S a ρ O (.loc k) O1) (hk : O1[k]? = some (.ins C fs)) (hc : Cls c.K C) (hn : NoAttr c.K C f) (hl : ((fs.map (·.1)).zip (fs.map (·.2))).lookup f = some d) (hb : ∀ env, attributeBase a f env (eval a env) = eval a env := by intro _; rfl) : EE c S (.Attribute a f pos) ρ O d O1 := by
  obtain ⟨ta, pa, va⟩ := ha
  refine ⟨tFld c.K ta f, fun X j => by rw [← j.K]; exact pe_fld (pa X j) (hb _), fun σ F L H ok sl Q q => ?_⟩
  refine va σ F L H ok sl _ fun v F1 L1 H1 n1 ok1 rv => ?_
  cases rv with
  | @loc _ ad ha =>
    obtain ⟨_, dx, vs, h1, e, r⟩ := ok1.cell k ad _ ha hk
    obtain ⟨w, hw, rw'⟩ := (ins_get' (f := f) e.symm r).1 d hl
    exact ⟨ad, C, dx, vs, w, rfl, h1, hc, hn, hw, q w F1 L1 H1 n1 ok1 rw'⟩
/-- e.f = value, e a cell -/
theorem s_fld (hv : EE c S value ρ O d O1) (ho : EE c S o ρ O1 (.loc k) O2) (hk : O2[k]? = some (.ins C fs)) (hc : Cls c.K C) (hn : NoAttr c.K C f) (hz : fs.length < 1000 := by exact Nat.le_of_ble_eq_true rfl)
    (hs : ∀ q L cf cd, swapsWith value (some (.Attribute o f pos')) pos.line (envOfC q S.sc L cf cd) = pure false := by intro _ _ _ _; rfl) : S1 c S (.Assign [.Attribute o f pos'] value pos) ρ O (.nx ρ (O2.set k (.ins C (putFD f d fs)))) := by
  obtain ⟨tv, pv, vv⟩ := hv
  obtain ⟨ta, pa, va⟩ := ho
  refine ⟨sFld c.K ta tv f, fun X j => by rw [← j.1.K]; exact ps_fld (pa X j.1) (pv X j.1) (by obtain ⟨q, L, f, cd, e⟩ := j.2; rw [e]; exact hs _ _ _ _), fun σ F L H ok sl E hE => ?_⟩
  refine vv σ F L H ok sl _ fun w F0 L0 H0 n0 ok0 rw' => ?_
  have sl0 := sl.mono c.hI n0.sub n0.pre
  refine va σ F0 L0 H0 ok0 sl0 _ fun v F1 L1 H1 n1 ok1 rv => ?_
  cases rv with
  | @loc _ ad ha =>
    obtain ⟨hF, dx, vs, h1, h2, h3⟩ := ok1.cell k ad _ ha hk
    have hl : vs.length = fs.length := by have := congrArg List.length h2; simpa using this.symm
    refine ⟨ad, C, dx, vs, rfl, h1, hc, hn, by omega, ?_⟩
    obtain ⟨e1, e2⟩ := putFD_rv (f := f) (rw'.mono c.hI n1.sub n1.pre) h2 h3
    obtain ⟨ok3, n3⟩ := ok1.write (o := .ins C dx (putF f w vs)) (cl := .ins C (putFD f d fs)) c.hI ha hF ⟨hF, dx, _, upd_same, e1, e2⟩
    exact hE σ F1 L1 _ ((n0.trans n1).trans n3) ok3 ((sl0.mono c.hI n1.sub n1.pre).mono c.hI n3.sub n3.pre)

/-! ### methods -/
/-- a method that answers by R, the object ahead of the arguments -/
def MethOk (c : Cn) (C : Addr) (m : Str) (R : Fn) (ps : List Str) (j : Nat) : Prop :=
  ∃ f fd, FnG c.P c.w c.K c.mg c.base CX0 j f fd ps (spD c.K c.I R) ∧ Meth c.K C m f ∧ Binds c.K fd ps []
theorem MethOk.up {R : Fn} {ps : List Str} {i j : Nat} (h : MethOk c C m R ps i) (hij : i ≤ j) : MethOk c C m R ps j := let ⟨f, fd, F, r⟩ := h; ⟨f, fd, F.up hij, r⟩
theorem ee_meth0 {pl : Env → Sem Bool} {R : Fn} {ps : List Str} {j : Nat} (ho : EE c S o ρ O (.ins C ks ds) O1) (hc : Cls c.K C) (G : MethOk c C m R ps j) (hm : ks.contains m = false) (hR : R [.ins C ks ds] O1 z O2) (hj : j ≤ c.k := by exact Nat.le_refl _)
    (ht : ∀ env, eval (.Call (.Attribute o m apos) [] [] pos) env = (do let ov ← eval o env; standAt apos.atName; let (f, first) ← holding [ov] (getMethod ov m (pl env)); callWith pos f first (backTo pos (starEach [] env)) (backToKw pos (keywordEach [] env))) := by intro _; rfl) :
    EE c S (.Call (.Attribute o m apos) [] [] pos) ρ O z O2 := by
  obtain ⟨f, fd, FO, hM, hb⟩ := G
  obtain ⟨ta, pa, va⟩ := ho
  refine ⟨tMeth C m (spD c.K c.I R) [] E0 ta tNil, fun X i => ?_, fun σ F L H ok sl Q q => ?_⟩
  · have F' : FnG X.prog X.w X.K X.mg X.base CX0 c.k f fd ps (spD c.K c.I R) := by
      rw [i.P, i.w, i.K, i.mg, i.base]; exact FO.up hj
    exact pe_methG0 (pl := pl X.env) (pa X i) (by rw [i.K]; exact hc) (by rw [i.K]; exact hM) F' i.room i.gd (by rw [i.K]; exact hb) pass0 (ht _)
  · refine va σ F L H ok sl _ fun v F1 L1 H1 n1 ok1 rv => ?_
    cases rv with
    | @ins ad _ dx _ _ fs h e r =>
      refine ⟨ad, dx, fs, rfl, ok1.sub _ _ h, (ins_get' (f := m) e r).2 hm, ?_⟩
      exact ⟨F1, L1, O1, [.ins C ks ds], z, O2, ok1, .cons (.ins h e r) .nil, hR, fun v F2 L2 H2 n2 ok2 rv => q v F2 L2 H2 (n1.trans n2) ok2 rv⟩
theorem ee_meth {pl : Env → Sem Bool} {R : Fn} {ps : List Str} {j : Nat} (ho : EE c S o ρ O (.ins C ks ds) O1) (ha : EA c S (e :: es) ρ O1 xs O2) (hc : Cls c.K C) (G : MethOk c C m R ps j) (hm : ks.contains m = false) (hR : R (.ins C ks ds :: xs) O2 z O3) (hj : j ≤ c.k := by exact Nat.le_refl _)
    (hst : ∀ env, starEach (e :: es) env = (false, eval e env) :: starEach es env := by intro _; rfl) (hpl : ∀ env, (backTo pos (starEach es env)).any (·.1) = false := by intro _; rfl)
    (ht : ∀ env, eval (.Call (.Attribute o m apos) (e :: es) [] pos) env = (do let ov ← eval o env; standAt apos.atName; let (f, first) ← holding [ov] (getMethod ov m (pl env)); callWith pos f first (backTo pos (starEach (e :: es) env)) (backToKw pos (keywordEach [] env))) := by intro _; rfl) :
    EE c S (.Call (.Attribute o m apos) (e :: es) [] pos) ρ O z O3 := by
  obtain ⟨f, fd, FO, hM, hb⟩ := G
  obtain ⟨ta, pa, va⟩ := ho
  obtain ⟨tb, pb, vb⟩ := ha
  refine ⟨tMeth C m (spD c.K c.I R) [] E0 ta tb, fun X i => ?_, fun σ F L H ok sl Q q => ?_⟩
  · have F' : FnG X.prog X.w X.K X.mg X.base CX0 c.k f fd ps (spD c.K c.I R) := by
      rw [i.P, i.w, i.K, i.mg, i.base]; exact FO.up hj
    exact pe_methG (pl := pl X.env) (pa X i) (by rw [i.K]; exact hc) (by rw [i.K]; exact hM) F' i.room i.gd (by rw [i.K]; exact hb) pass0 (pb X i) (hst _) (hpl _) (ht _)
  · refine va σ F L H ok sl _ fun v F1 L1 H1 n1 ok1 rv => ?_
    cases rv with
    | @ins ad _ dx _ _ fs h e r =>
      refine ⟨ad, dx, fs, rfl, ok1.sub _ _ h, (ins_get' (f := m) e r).2 hm, ?_⟩
      refine vb σ F1 L1 H1 ok1 (sl.mono c.hI n1.sub n1.pre) _ fun us F2 L2 H2 n2 ok2 rs => ?_
      rw [List.append_nil]
      exact ⟨F2, L2, O2, .ins C ks ds :: xs, z, O3, ok2, .cons ((RV.ins h e r).mono c.hI n2.sub n2.pre) rs, hR, fun v F3 L3 H3 n3 ok3 rv => q v F3 L3 H3 ((n1.trans n2).trans n3) ok3 rv⟩
/-! ### instances -/
def MakeOk (c : Cn) (C : Addr) (R : Fn) (ps : List Str) (j : Nat) : Prop :=
  ∃ f fd, FnG c.P c.w c.K c.mg c.base CX0 j f fd ps (spD c.K c.I R) ∧ Mk c.K C f ∧ Binds c.K fd ps []
/-- C(e, ..): the new instance is the cell that comes last -/
theorem ee_make {fx : Str} {R : Fn} {ps : List Str} {j : Nat} (G : MakeOk c C R ps j) (hm : c.mg fx = some (.ref C)) (ha : EA c S (e :: es) ρ O xs O1) (hR : R (.loc O1.length :: xs) (O1 ++ [.ins C []]) .non O2) (hj : j + 1 ≤ c.k) (hg : glB S.sc fx = true := by first | decide +kernel | kernel_rfl | exact of_decide_eq_true (by kernel_rfl))
    (hdb : (fx == ("__debug__" : Str)) = false := by first | decide +kernel | kernel_rfl | exact of_decide_eq_true (by kernel_rfl)) (he : ∀ env, starEach (e :: es) env = (false, eval e env) :: starEach es env := by intro _; rfl) (hpl : ∀ env, (backTo pos (starEach es env)).any (·.1) = false := by intro _; rfl) (hl : O1.length < O2.length) :
    EE c S (.Call (.Name fx p) (e :: es) [] pos) ρ O (.loc O1.length) O2 := by
  obtain ⟨f, fd, FO, hM, hb⟩ := G
  obtain ⟨ta, pa, va⟩ := ha
  refine ⟨tMake C (spD c.K c.I R) [] E0 ta, fun X i => ?_, fun σ F L H ok sl Q q => ?_⟩
  · have F' : FnG X.prog X.w X.K X.mg X.base CX0 j f fd ps (spD c.K c.I R) := by
      rw [i.P, i.w, i.K, i.mg, i.base]; exact FO
    exact pe_makeG (by rw [i.K]; exact hM) F' (i.room.mono hj) i.gd (i.gl hg) (by rw [i.mg]; exact hm) (by rw [i.K]; exact hb) pass0 (pa X i) hdb (he _) (hpl _)
  · refine va σ F L H ok sl _ fun vs F1 L1 H1 n1 ok1 rs => fun ax dx hx hdx hne => ?_
    rw [List.append_nil]
    obtain ⟨ok2, n2⟩ := ok1.junk (o := .own ax) c.hI hdx
    have hx2 : upd H1 dx (.own ax) ax = none := by rw [upd_ne (Ne.symm hne)]; exact hx
    obtain ⟨ok3, n3⟩ := ok2.cellNew (o := .ins C dx []) (cl := .ins C []) c.hI hx2 ⟨ok2.sub.none hx2, dx, [], upd_same, rfl, .nil⟩
    have hL : (L1 ++ [ax])[O1.length]? = some ax := by rw [← ok1.len]; simp
    refine ⟨F1, L1 ++ [ax], O1 ++ [.ins C []], .loc O1.length :: xs, .non, O2, ok3, .cons (.loc hL) (rs.mono c.hI n3.sub n3.pre), hR, fun v F4 L4 H4 n4 ok4 rv => ?_⟩
    cases rv
    exact ⟨rfl, q _ F4 L4 H4 (((n1.trans n2).trans n3).trans n4) ok4 (.loc (n4.pre _ _ hL))⟩
/-- an instance that comes last and is not changed any more is a value -/
theorem EE.frzI {e : Expr} (h : EE c S e ρ O (.loc O1.length) (O1 ++ [.ins C fs])) (hl : O.length ≤ O1.length) (hd : freeAll (fs.map (·.2)) = true) (hb : stoLk O = true → stoLk O1 = true) : EE c S e ρ O (.ins C (fs.map (·.1)) (fs.map (·.2))) O1 := by
  obtain ⟨t, p, v⟩ := h
  refine ⟨t, p, fun σ F L H ok sl Q q => v σ F L H ok sl Q fun w F1 L1 H1 n1 ok1 rv => ?_⟩
  cases rv with
  | @loc _ ad ha =>
    obtain ⟨hF, dx, vs, h1, h2, h3⟩ := ok1.cell O1.length ad (.ins C fs) ha (by simp)
    have hsub : Sub F1 (upd F1 ad (.ins C dx vs)) := Sub.up hF
    have ok2 : OkH c.K c.I (upd F1 ad (.ins C dx vs)) L1 H1 (O1 ++ [.dead]) := by
      refine ⟨fun b u e => ?_, ok1.nd, by simpa using ok1.len, ok1.has, ok1.tabTold h1 hF, fun j b cl e g => ?_⟩
      · by_cases hb : b = ad
        · subst hb; rw [upd_same] at e; cases e; exact h1
        · rw [upd_ne hb] at e; exact ok1.sub b u e
      · by_cases hj : j < O1.length
        · rw [List.getElem?_append_left hj] at g
          have hb : b ≠ ad := fun z => by have := ok1.nd j O1.length b e (z ▸ ha); omega
          exact (ok1.cell j b cl e (by rw [List.getElem?_append_left hj]; exact g)).mono c.hI hsub (.refl _) (fun _ h => by rw [upd_ne hb]; exact h) rfl
        · rw [List.getElem?_append_right (by omega)] at g
          have : j - O1.length = 0 := by
            have := (List.getElem?_eq_some_iff.mp g).1
            simp at this; omega
          rw [this] at g
          simp at g
          subst g
          trivial
    have n2 : Nxt F1 L1 H1 (upd F1 ad (.ins C dx vs)) L1 H1 := ⟨hsub, .refl _, fun _ _ e _ _ => e, fun _ ps e _ => ⟨ps, e⟩, fun _ h n => absurd h n, fun b u e n m => by
      by_cases hb : b = ad
      · exact absurd (hb ▸ mem_of_get ha) m
      · rw [upd_ne hb, n] at e; cases e⟩
    refine q _ _ (L1.take O1.length) H1 ((n1.trans n2).cut (by rw [ok.len]; exact hl)) (ok2.cut (hb ok.isLk)) (.ins upd_same h2.symm (RVs.anyL hd (h3.mono c.hI hsub (.refl _))))
/-- a def that falls through: it answers None -/
theorem fn_body {qual : Str} {x : Str} {st : Stmt} {f : Addr} {fd : FuncData} {N ps : List Str} {R : Fn} (F : Fun c.K x qual st f fd) (S : FnScope N ps (defScope st))
    (len : ∀ ds O d O', R ds O d O' → ds.length = ps.length)
    (body : ∀ ds O d O', R ds O d O' → ∃ ρ', d = .non ∧ SS c ⟨N, defScope st, fun _ => true, none⟩ (defBody st) (ds.map some ++ List.replicate (N.length - ds.length) none) O (.nx ρ' O')) : FnG c.P c.w c.K c.mg c.base CX0 (c.k + 1) f fd ps (spD c.K c.I R) := by
  refine FnG.body F S (fun vs H Q E h => ?_) (fun cdv A outer s H vs Q E hr hgd h => ?_)
  · obtain ⟨F', L, O, ds, d, O', ok, r, hR, _⟩ := h
    rw [← r.length]; exact len _ _ _ _ hR
  · obtain ⟨F', L, O, ds, d, O', ok, r, hR, q⟩ := h
    obtain ⟨ρ', hd, t, p, v⟩ := body ds O d O' hR
    subst hd
    exact ⟨t, PSs.nox (p _ (InS.cx hr hgd)), v (start N vs) F' L H ok r.sl _ fun σ F2 L2 H2 n2 ok2 sl => q .non F2 L2 H2 n2 ok2 .non⟩
/-- a def that returns -/
theorem fn_bodyR {qual : Str} {x : Str} {st : Stmt} {f : Addr} {fd : FuncData} {N ps : List Str} {R : Fn} (F : Fun c.K x qual st f fd) (S : FnScope N ps (defScope st))
    (len : ∀ ds O d O', R ds O d O' → ds.length = ps.length)
    (body : ∀ ds O d O', R ds O d O' → SS c ⟨N, defScope st, fun _ => true, none⟩ (defBody st) (ds.map some ++ List.replicate (N.length - ds.length) none) O (.rt d O')) : FnG c.P c.w c.K c.mg c.base CX0 (c.k + 1) f fd ps (spD c.K c.I R) := by
  refine FnG.body F S (fun vs H Q E h => ?_) (fun cdv A outer s H vs Q E hr hgd h => ?_)
  · obtain ⟨F', L, O, ds, d, O', ok, r, hR, _⟩ := h
    rw [← r.length]; exact len _ _ _ _ hR
  · obtain ⟨F', L, O, ds, d, O', ok, r, hR, q⟩ := h
    obtain ⟨t, p, v⟩ := body ds O d O' hR
    exact ⟨t, PSs.nox (p _ (InS.cx hr hgd)), v (start N vs) F' L H ok r.sl _ fun v F2 L2 H2 n2 ok2 rv => q v F2 L2 H2 n2 ok2 rv⟩
end
end DL
set_option maxRecDepth 100000
namespace DL
open PySem L2 PyProof.Rows PySem.Spec

/-! ### dict comprehensions -/
inductive DR (c : Cn) (S : Sc) (tg : Expr) (ifs : List Expr) (kx vx : Expr) (vs : List Nat) (ρ : Rho) : List D → Sto → List (Key × D) → List (Key × D) → Sto → Prop
  | nil {O : Sto} {acc : List (Key × D)} : DR c S tg ifs kx vx vs ρ [] O acc acc O
  | yes {d r : D} {q : Key} {ds : List D} {acc out : List (Key × D)} {is : List Nat} {ρ1 : Rho} {O O1 O2 O3 O4 : Sto} : GT c S tg is ρ d ρ1 → (∀ i ∈ is, i ∈ vs) → EI c S ifs ρ1 O true O1 → EE c S kx ρ1 O1 (keyD q) O2 → EE c S vx ρ1 O2 r O3 →
      DR c S tg ifs kx vx vs ρ ds O3 (putD acc q r) out O4 → DR c S tg ifs kx vx vs ρ (d :: ds) O acc out O4
  | no {d : D} {ds : List D} {acc out : List (Key × D)} {is : List Nat} {ρ1 : Rho} {O O1 O3 : Sto} : GT c S tg is ρ d ρ1 → (∀ i ∈ is, i ∈ vs) → EI c S ifs ρ1 O false O1 → DR c S tg ifs kx vx vs ρ ds O1 acc out O3 → DR c S tg ifs kx vx vs ρ (d :: ds) O acc out O3
section
variable {c : Cn} {S : Sc} {ρ ρ1 ρ2 : Rho} {O O1 O2 O3 : Sto} {a b e tg iter kx vx cnd : Expr} {es ifs : List Expr} {d x y z : D} {ds rs : List D} {out : List (Key × D)} {pos p : Pos} {is js vs : List Nat} {k : Nat}
theorem dc_ev {scope : Scope} {vs : List Nat} {wi : TI} (hw : ∀ (σ : L2.St) (F : Hp) (L : List Addr) (H : Hp), OkH c.K c.I F L H O → Sl c.K c.I F L ρ σ → ∀ R : It → Hp → Prop, (∀ J F' L' H', Nxt F L H F' L' H' → OkH c.K c.I F' L' H' O1 → YldOk c.K c.I J F' L' ds → R J H') → wi σ H R)
    (hc : DR c (S.blk scope) tg ifs kx vx vs (wipeR ρ vs) ds O1 [] out O2) (hz : ds.length < 16777216) {σ : L2.St} {F : Hp} {L : List Addr} {H : Hp} (ok : OkH c.K c.I F L H O) (sl : Sl c.K c.I F L ρ σ) (Q : VK)
    (q : ∀ p F' L' H' acc, Nxt F L H F' L' H' → OkH c.K c.I F' L' H' O2 → p ∉ L' → F' p = none → H p = none → H' p = some (.dK acc) → out.map (·.1) = acc.map (·.1) → RVs c.K c.I F' L' (out.map (·.2)) (acc.map (·.2)) → Q (.ref p) H') :
    tDc wi (supG c (S.blk scope) tg) (supI c (S.blk scope) ifs) (supE c (S.blk scope) kx) (supE c (S.blk scope) vx) vs σ H Q := by
  refine hw σ F L H ok sl _ fun J F1 L1 H1 n1 ok1 yl => fun D hD => ?_
  refine ⟨fun i m H => m = ds.length - i ∧ i ≤ ds.length ∧ ∃ O' F' L' acc r1, DR c (S.blk scope) tg ifs kx vx vs (wipeR ρ vs) (ds.drop i) O' r1 out O2 ∧ Nxt F1 L1 H1 F' L' H ∧ OkH c.K c.I F' L' H O' ∧ H D = some (.dK acc) ∧ acc.length ≤ i ∧ r1.map (·.1) = acc.map (·.1) ∧ RVs c.K c.I F' L' (r1.map (·.2)) (acc.map (·.2)) ∧ D ∉ L' ∧ F' D = none, ⟨ds.length, by simp, Nat.zero_le _, O1, F1, L1, [], [], hc, (ok1.junk c.hI hD).2, (ok1.junk c.hI hD).1, upd_same, Nat.le_refl _, rfl, .nil, ok1.out hD, ok1.sub.none hD⟩, ?_⟩
  rintro i m H' ⟨rfl, hi, O', F', L', acc, r1, hc', n', ok', hacc, hlen, hr, hrs, hDL, hDF⟩
  obtain ⟨hgo, hst⟩ := yl F' L' H' O' n'.sub n'.pre ok'
  have slw : Sl c.K c.I F' L' (wipeR ρ vs) (L2.wipe σ vs) := ((sl.mono c.hI (n1.trans n').sub (n1.trans n').pre)).wipe vs
  by_cases hil : i < ds.length
  · have hd : ds[i]? = some ds[i] := List.getElem?_eq_getElem hil
    have hdr : ds.drop i = ds[i] :: ds.drop (i + 1) := List.drop_eq_getElem_cons hil
    rw [hdr] at hc'
    obtain ⟨go, yld⟩ := hgo i _ hd
    refine .inr ⟨go, fun H2 => (i + 1 ≤ ds.length ∧ ∃ O' F' L' acc r1, DR c (S.blk scope) tg ifs kx vx vs (wipeR ρ vs) (ds.drop (i + 1)) O' r1 out O2 ∧ Nxt F1 L1 H1 F' L' H2 ∧ OkH c.K c.I F' L' H2 O' ∧ H2 D = some (.dK acc) ∧ acc.length ≤ i + 1 ∧ r1.map (·.1) = acc.map (·.1) ∧ RVs c.K c.I F' L' (r1.map (·.2)) (acc.map (·.2)) ∧ D ∉ L' ∧ F' D = none), fun H2 h2 => ⟨ds.length - (i + 1), by omega, rfl, h2⟩, fun x H3 y => ?_⟩
    obtain ⟨F3, n3, ok3, rv⟩ := yld x H3 y
    have D3 : F3 D = none ∧ H3 D = some (.dK acc) := by
      refine ⟨?_, n3.frm D _ hacc hDL (by intro _ h; cases h)⟩
      cases e : F3 D with
      | none => rfl
      | some o => have := n3.nwF D o e hDF hDL; rw [hacc] at this; cases this
    cases hc' with
    | @yes _ r q _ _ _ _ _ _ _ _ _ _ hg his hif hk he hcr =>
      refine hg.sup _ F3 L' H3 x ok3.sub (slw.mono c.hI n3.sub (.refl _)) rv _ fun σ' sl' hwp => ⟨(hwp vs his).trans (wipe_wipe _ _), ?_⟩
      refine hif.sup σ' F3 L' H3 ok3 sl' _ fun F4 L4 H4 n4 ok4 => ?_
      rw [if_pos rfl]
      refine hk.sup σ' F4 L4 H4 ok4 (sl'.mono c.hI n4.sub n4.pre) _ fun u F5 L5 H5 n5 ok5 ru => ?_
      refine he.sup σ' F5 L5 H5 ok5 ((sl'.mono c.hI n4.sub n4.pre).mono c.hI n5.sub n5.pre) _ fun v F6 L6 H6 n6 ok6 rv6 => ?_
      have n36 := (n4.trans n5).trans n6
      have D6 : D ∉ L6 ∧ F6 D = none ∧ H6 D = some (.dK acc) := by
        refine ⟨fun z => ?_, ?_, n36.frm D _ D3.2 hDL (by intro _ h; cases h)⟩
        · have := n36.new D z hDL; rw [D3.2] at this; cases this
        · cases e : F6 D with
          | none => rfl
          | some o => have := n36.nwF D o e D3.1 hDL; rw [D3.2] at this; cases this
      obtain ⟨p1, p2⟩ := putD_rv (q := q) hr (hrs.mono c.hI (n3.trans n36).sub (n3.trans n36).pre) rv6
      refine ⟨acc, q, keyD_rv ru, D6.2.2, by rw [sizeLine_eq]; omega, hil, _, F6, L6, putK acc q v, _, hcr, ?_, ok6.wr c.hI D6.2.1 D6.1 D6.2.2, upd_same, Nat.le_trans (length_putK acc q v) (by omega), p1, p2, D6.1, D6.2.1⟩
      have nn := n'.trans (n3.trans n36)
      exact ⟨nn.sub, nn.pre, fun b o e n t => by rw [upd_ne (ne_of_none e hD)]; exact nn.frm b o e n t, fun b ps e n => by rw [upd_ne (ne_of_none e hD)]; exact nn.tbl b ps e n, nn.new, nn.nwF⟩
    | no hg his hif hcr =>
      refine hg.sup _ F3 L' H3 x ok3.sub (slw.mono c.hI n3.sub (.refl _)) rv _ fun σ' sl' hwp => ⟨(hwp vs his).trans (wipe_wipe _ _), ?_⟩
      refine hif.sup σ' F3 L' H3 ok3 sl' _ fun F4 L4 H4 n4 ok4 => ?_
      rw [if_neg Bool.false_ne_true]
      have D5 : D ∉ L4 ∧ F4 D = none ∧ H4 D = some (.dK acc) := by
        refine ⟨fun z => ?_, ?_, n4.frm D _ D3.2 hDL (by intro _ h; cases h)⟩
        · have := n4.new D z hDL; rw [D3.2] at this; cases this
        · cases e : F4 D with
          | none => rfl
          | some o => have := n4.nwF D o e D3.1 hDL; rw [D3.2] at this; cases this
      exact ⟨hil, _, F4, L4, acc, r1, hcr, n'.trans (n3.trans n4), ok4, D5.2.2, by omega, hr, hrs.mono c.hI (n3.trans n4).sub (n3.trans n4).pre, D5.1, D5.2.1⟩
  · refine .inl ⟨hst i (by omega), ?_⟩
    rw [List.drop_eq_nil_of_le (by omega)] at hc'
    cases hc'
    have hHD : H D = none := by
      cases e : H D with
      | none => rfl
      | some o =>
        by_cases hm : D ∈ L
        · exact absurd ((n1.trans n').pre.mem hm) hDL
        · obtain ⟨u, this⟩ := n1.there e hm; rw [hD] at this; cases this
    exact q D F' L' H' acc (n1.trans n') ok' hDL hDF hHD hacc hr hrs
/-- the dict as a value that stays -/
theorem ee_dc {scope : Scope} (own : List (Str × Nat)) (hi : IT c S tg iter ρ O ds O1) (hc : DR c (S.blk scope) tg ifs kx vx (own.map (·.2)) (wipeR ρ (own.map (·.2))) ds O1 [] out O2) (hz : ds.length < 16777216)
    (hb : blkC S.N S.sc scope own = true := by first | decide +kernel | kernel_rfl | exact of_decide_eq_true (by kernel_rfl)) (nd : S.N.Nodup := by first | decide +kernel | kernel_rfl | exact of_decide_eq_true (by kernel_rfl)) (hs : ∀ env x, foldedSetIterable iter env x = pure x := by intro _ _; rfl) :
    EE c S (.DictComp kx vx [{ target := tg, iter := iter, ifs := ifs, is_async := 0 }] scope pos) ρ O (.dct (out.map (·.1)) (out.map (·.2))) O2 := by
  obtain ⟨wi, pi, vi⟩ := hi
  refine ⟨_, fun X j => pe_dc (own := own) j.calm (by rw [j.N]; exact nd) (pi X j) (by rw [j.N, j.sc]; exact blkOk_by hb) (fun s H C cl fp => p_supG (j.blk s H scope C cl fp)) (fun s H C cl fp => p_supI (j.blk s H scope C cl fp)) (fun s H C cl fp => p_supE (j.blk s H scope C cl fp)) (fun s H C cl fp => p_supE (j.blk s H scope C cl fp)) (hs _), ?_⟩
  intro σ F L H ok sl Q q
  refine dc_ev vi hc hz ok sl Q fun p F' L' H' acc n ok' hp hF hH hacc hk rs' => ?_
  refine q _ (upd F' p (.dK acc)) L' H' ⟨n.sub.trans (Sub.up hF), n.pre, n.frm, n.tbl, n.new, fun a o e m z => ?_⟩ ⟨fun a o e => ?_, ok'.nd, ok'.len, ok'.has, ok'.tabTold hacc hF, fun k a cl e g => ?_⟩ (.dct upd_same hk.symm (rs'.mono c.hI (Sub.up hF) (.refl _)))
  · by_cases ha : a = p
    · rw [ha]; exact hH
    · rw [upd_ne ha] at e; exact n.nwF a o e m z
  · by_cases ha : a = p
    · subst ha; rw [upd_same] at e; cases e; exact hacc
    · rw [upd_ne ha] at e; exact ok'.sub a o e
  · have ha : a ≠ p := fun z => hp (z ▸ mem_of_get e)
    exact (ok'.cell k a cl e g).mono c.hI (Sub.up hF) (.refl _) (fun _ h => by rw [upd_ne ha]; exact h) rfl
/-! ### reading dicts -/
theorem zip_fst : ∀ {kvs : List (Key × V)}, kvs = (kvs.map (·.1)).zip (kvs.map (·.2))
  | [] => rfl
  | kv :: kvs => by rw [List.map_cons, List.map_cons, List.zip_cons_cons, ← zip_fst (kvs := kvs)]
theorem dct_rv {K : PySem.W.Frag} {I : Ob} {F : Hp} {L : List Addr} {ks : List Key} {ds : List D} {kvs : List (Key × V)} {q : Key} (h : kvs.map (·.1) = ks) (r : RVs K I F L ds (kvs.map (·.2))) :
    (∀ d, valD (ks.zip ds) q = some d → ∃ v, valV kvs q = some v ∧ RV K I F L d v) ∧ (valD (ks.zip ds) q = none → valV kvs q = none) := by
  have hl : ks.length = ds.length := by rw [← h, r.length]; simp
  refine valD_rv ?_ ?_
  · rw [h]; exact List.map_fst_zip (Nat.le_of_eq hl)
  · rw [List.map_snd_zip (Nat.le_of_eq hl.symm)]; exact r
theorem ee_dgetF {ks : List Key} (q : Key) (ho : EE c S a ρ O (.dct ks ds) O1) (hi : EE c S b ρ O1 (keyD q) O2) (hv : valD (ks.zip ds) q = some d) (hs : NoSl b := by exact fun _ _ => rfl) : EE c S (.Subscript a b pos) ρ O d O2 := by
  obtain ⟨ta, pa, va⟩ := ho
  obtain ⟨tb, pb, vb⟩ := hi
  refine ⟨_, fun X j => pe_dget j.hu (pa X j) (pb X j) hs, fun σ F L H ok sl Q qq => ?_⟩
  refine va σ F L H ok sl _ fun v F1 L1 H1 n1 ok1 rv => ?_
  refine vb σ F1 L1 H1 ok1 (sl.mono c.hI n1.sub n1.pre) _ fun u F2 L2 H2 n2 ok2 ru => ?_
  cases (rv.mono c.hI n2.sub n2.pre) with
  | @dct ad _ _ kvs h e r =>
    obtain ⟨w, hw, rw'⟩ := (dct_rv (q := q) e r).1 d hv
    rw [keyD_rv ru]
    exact ⟨_, w, rfl, by rw [← hw]; exact DGet.k (ok2.sub _ _ h), qq w F2 L2 H2 (n1.trans n2) ok2 rw'⟩
theorem pc_rv {K : PySem.W.Frag} {I : Ob} {F : Hp} {L : List Addr} {kvs : List (Key × D)} {vs : List (Key × V)} {q : Key} (h : kvs.map (·.1) = vs.map (·.1)) (r : RVs K I F L (kvs.map (·.2)) (vs.map (·.2))) : (valV vs q).isSome = (valD kvs q).isSome := by
  cases e : valD kvs q with
  | none => rw [(valD_rv (q := q) h r).2 e]; rfl
  | some d => obtain ⟨v, hv, _⟩ := (valD_rv (q := q) h r).1 d e; rw [hv]; rfl
/-- y in d, d a cell -/
theorem ev_din {kvs : List (Key × D)} (q : Key) {ta td : TE} (vi : Ev c.K c.I ta ρ O (keyD q) O1) (vo : Ev c.K c.I td ρ O1 (.loc k) O2) (hk : O2[k]? = some (.dct kvs)) : Ev c.K c.I (tDIn ta td) ρ O (.bl (valD kvs q).isSome) O2 := by
  intro σ F L H ok sl Q qq
  refine vi σ F L H ok sl _ fun u F1 L1 H1 n1 ok1 ru => ?_
  refine vo σ F1 L1 H1 ok1 (sl.mono c.hI n1.sub n1.pre) _ fun v F2 L2 H2 n2 ok2 rv => ?_
  cases rv with
  | loc ha =>
    obtain ⟨_, vs, h1, h2, h3⟩ := ok2.cellD ha hk
    rw [keyD_rv ru]
    exact ⟨_, _, rfl, DGet.k h1, qq _ F2 L2 H2 (n1.trans n2) ok2 (by rw [pc_rv h2 h3]; exact .bl)⟩
theorem ee_din {kvs : List (Key × D)} (q : Key) (hi : EE c S b ρ O (keyD q) O1) (ho : EE c S a ρ O1 (.loc k) O2) (hk : O2[k]? = some (.dct kvs)) (hm : behindInMarks .In a = false := by rfl) : EE c S (.Compare b [.In] [a] pos) ρ O (.bl (valD kvs q).isSome) O2 := by
  obtain ⟨ta, pa, va⟩ := hi
  obtain ⟨tb, pb, vb⟩ := ho
  exact ⟨_, fun X j => pe_cmp (pc_din j.hu (pa X j) (pb X j)) hm, ev_din q va vb hk⟩
theorem et_din {kvs : List (Key × D)} (q : Key) (hi : EE c S b ρ O (keyD q) O1) (ho : EE c S a ρ O1 (.loc k) O2) (hk : O2[k]? = some (.dct kvs)) (hm : behindInMarks .In a = false := by rfl) : ET c S (.Compare b [.In] [a] pos) ρ O (valD kvs q).isSome O2 := by
  obtain ⟨ta, pa, va⟩ := hi
  obtain ⟨tb, pb, vb⟩ := ho
  refine ⟨_, fun X j => pt_cmp (pc_din j.hu (pa X j) (pb X j)) hm, fun σ F L H ok sl Q q' => ?_⟩
  refine ev_din q va vb hk σ F L H ok sl _ fun v F1 L1 H1 n1 ok1 rv => ?_
  cases rv
  exact ⟨_, rfl, q' F1 L1 H1 n1 ok1⟩
/-- d.get(y, x), d a cell -/
theorem ee_dget2 {kvs kvs1 : List (Key × D)} {apos cpos : Pos} (q : Key) (ho : EE c S a ρ O (.loc k) O1) (hk1 : O1[k]? = some (.dct kvs1)) (hi : EE c S b ρ O1 (keyD q) O2) (hf : EE c S e ρ O2 x O3) (hk : O3[k]? = some (.dct kvs))
    (h1 : ∀ env, attributeBase a "get" env (eval a env) = eval a env := by intro _; rfl)
    (h2 : ∀ env, ((backTo cpos (starEach [b, e] env)).all (fun x => !x.1) && (backToKw cpos (keywordEach [] env)).all (fun x => x.1.isSome) && decide (([b, e] : List Expr).length + ([] : List Keyword).length + (if ([] : List Keyword).isEmpty then 0 else 1) < 30)) = true := by intro _; rfl)
    (h3 : (apos.endLine == cpos.line) = true := by rfl) (h4 : ∀ env, backTo cpos (starEach [b, e] env) = [(false, eval b env), (false, eval e env)] := by intro _; rfl) : EE c S (.Call (.Attribute a "get" apos) [b, e] [] cpos) ρ O ((valD kvs q).getD x) O3 := by
  obtain ⟨ta, pa, va⟩ := ho
  obtain ⟨tb, pb, vb⟩ := hi
  obtain ⟨te, pe, ve⟩ := hf
  refine ⟨_, fun X j => pe_dget2 j.hu (pa X j) (pb X j) (pe X j) ⟨h1 _, h2 _, h3, h4 _⟩, fun σ F L H ok sl Q qq => ?_⟩
  refine va σ F L H ok sl _ fun v F1 L1 H1 n1 ok1 rv => ?_
  cases rv with
  | @loc _ ad ha =>
    obtain ⟨_, vs1, g1, _⟩ := ok1.cellD ha hk1
    refine ⟨ad, rfl, .inl ⟨_, .inl g1⟩, ?_⟩
    have sl1 := sl.mono c.hI n1.sub n1.pre
    refine vb σ F1 L1 H1 ok1 sl1 _ fun u F2 L2 H2 n2 ok2 ru => ?_
    refine ve σ F2 L2 H2 ok2 (sl1.mono c.hI n2.sub n2.pre) _ fun w F3 L3 H3 n3 ok3 rw' => ?_
    obtain ⟨_, vs, h1, h2, h3⟩ := ok3.cellD (n3.pre _ _ (n2.pre _ _ ha)) hk
    rw [keyD_rv ru]
    refine ⟨_, DGet.k h1, qq _ F3 L3 H3 ((n1.trans n2).trans n3) ok3 ?_⟩
    cases e : valD kvs q with
    | none => rw [(valD_rv (q := q) h2 h3).2 e]; exact rw'
    | some d => obtain ⟨v', hv, r⟩ := (valD_rv (q := q) h2 h3).1 d e; rw [hv]; exact r
end
end DL
set_option maxRecDepth 100000
namespace DL
open PySem L2 PyProof.Rows PySem.Spec

/-! ### isinstance -/
def D.tyN : D → Option String
  | .non => some "NoneType"
  | .bl _ => some "bool"
  | .int _ => some "int"
  | .str _ => some "str"
  | .lst _ => some "list"
  | .tup _ => some "tuple"
  | .dct _ _ => some "dict"
  | _ => none
theorem RV.tyx {K : PySem.W.Frag} {I : Ob} {F H : Hp} {L : List Addr} (sb : Sub F H) {d : D} {v : V} {n : String} (r : RV K I F L d v) (h : d.tyN = some n) : TyX K H v (.type n) := by
  cases r with
  | non => cases h; exact .base .non
  | bl => cases h; exact .base (.bl _)
  | int => cases h; exact .base (.int _)
  | str => cases h; exact .base (.str _)
  | lst q _ => cases h; exact .base (.lst (sb _ _ q))
  | tup q _ =>
    cases h
    rcases sb.sqT q with (q | ⟨o, q⟩) | ⟨o, its, n, q, hc, _⟩
    · exact .base (.tup q)
    · exact .fTuple q
    · exact .kTuple q hc
  | dct q _ _ => cases h; exact .base (.dK (sb _ _ q))
  | rd _ _ => cases h
  | loc _ => cases h
  | ob _ => cases h
  | ty => cases h
  | ins _ _ _ => cases h
section
variable {c : Cn} {S : Sc} {ρ ρ1 ρ2 : Rho} {O O1 O2 O3 : Sto} {a b e cc : Expr} {es : List Expr} {d x y z : D} {ds rs : List D} {pos p pA pB pt : Pos} {k k' : Bool} {i : Int}
theorem cd_isi {t n : String} (hx : x.tyN = some t) (hk : kitB t n = some k) : CaD c S (.builtin "isinstance") [x, .ty n] O (.bl k) O := ⟨rIsi c.K, fun X j => by rw [← j.K]; exact call_isi, fun F L H vs ok rs => by
  cases rs with
  | cons r t' =>
    cases t' with
    | cons r2 t2 =>
      cases t2; cases r2
      exact SemR.here ok .bl fun Q q => ⟨_, _, _, _, k, rfl, .ty n, r.tyx ok.sub hx, kit_ty hk, q⟩⟩
theorem ee_isiT {A B : Str} {nA nB t : String} {kt : Nat} {k1 k2 : Bool} (hm : c.mg "isinstance" = none) (hx : EE c S a ρ O x O1) (hA : c.mg A = none) (hB : c.mg B = none) (ht : x.tyN = some t) (h1 : kitB t nA = some k1) (h2 : kitB t nB = some k2)
    (vA : bootBuiltins A = some (.type nA) := by first | decide +kernel | kernel_rfl | exact of_decide_eq_true (by kernel_rfl)) (vB : bootBuiltins B = some (.type nB) := by first | decide +kernel | kernel_rfl | exact of_decide_eq_true (by kernel_rfl)) (gA : glB S.sc A = true := by first | decide +kernel | kernel_rfl | exact of_decide_eq_true (by kernel_rfl)) (gB : glB S.sc B = true := by first | decide +kernel | kernel_rfl | exact of_decide_eq_true (by kernel_rfl)) (hg : glB S.sc "isinstance" = true := by first | decide +kernel | kernel_rfl | exact of_decide_eq_true (by kernel_rfl))
    (nn : A ≠ "__name__" ∧ B ≠ "__name__" ∧ (A == ("__debug__" : Str)) = false ∧ (B == ("__debug__" : Str)) = false := by first | decide +kernel | kernel_rfl | exact of_decide_eq_true (by kernel_rfl))
    (hs : ∀ env, starEach [a, .Tuple [.Name A pA, .Name B pB] kt pt] env = [(false, eval a env), (false, eval (.Tuple [.Name A pA, .Name B pB] kt pt) env)] := by intro _; rfl) :
    EE c S (.Call (.Name "isinstance" p) [a, .Tuple [.Name A pA, .Name B pB] kt pt] [] pos) ρ O (.bl (k1 || k2)) O1 := by
  obtain ⟨ta, pa, va⟩ := hx
  refine ⟨_, fun X j => pe_callB (id := "isinstance") (r := rIsiT c.K) (by rw [← j.K]; exact call_isiT) (j.gl hg) (by rw [j.mg]; exact hm) (by decide +kernel) (pa_cons (pa X j) (pa_cons (pe_tup (pa_cons (pe_bltn (v := .ty nA) (j.gl gA) (by rw [j.mg]; exact hA) vA rfl nn.1 nn.2.2.1) (pa_cons (pe_bltn (v := .ty nB) (j.gl gB) (by rw [j.mg]; exact hB) vB rfl nn.2.1 nn.2.2.2) pa_nil))) pa_nil) (hs _)) (by decide +kernel) (by decide +kernel) (hs _) rfl, fun σ F L H ok sl Q q => ?_⟩
  refine va σ F L H ok sl _ fun v F1 L1 H1 n1 ok1 rv => ⟨line_ok (Nat.le_of_ble_eq_true rfl), fun pp hp => ?_⟩
  obtain ⟨ok2, n2⟩ := ok1.put (o := .tup [.ty nA, .ty nB]) c.hI hp
  refine ⟨v, pp, [.ty nA, .ty nB], .type t, [.type nA, .type nB], k1 || k2, rfl, upd_same, .cons (.ty nA) (.cons (.ty nB) .nil), (rv.mono c.hI n2.sub n2.pre).tyx ok2.sub ht, ?_, q _ _ _ _ (n1.trans n2) ok2 .bl⟩
  refine kitAny_cons (kit_ty h1) (fun e => ?_) fun e => by rw [e]; rfl
  refine kitAny_cons (kit_ty h2) (fun e2 => by rw [e, e2]; exact kitAny_nil) fun e2 => by rw [e, e2]; rfl
/-! ### a op b op c -/
theorem ev_chain {r r' : R2} {ta tb tc : TE} (va : Ev c.K c.I ta ρ O x O1) (vb : Ev c.K c.I tb ρ O1 y O2) (vc : Ev c.K c.I tc ρ O2 z O3)
    (h1 : ∀ F L H v u, OkH c.K c.I F L H O2 → RV c.K c.I F L x v → RV c.K c.I F L y u → SemR c.K c.I F L H (.bl k) O2 (r v u))
    (h2 : ∀ F L H v u, OkH c.K c.I F L H O3 → RV c.K c.I F L y v → RV c.K c.I F L z u → SemR c.K c.I F L H (.bl k') O3 (r' v u)) (h3 : k = false → O2 = O3) : Ev c.K c.I (tChain r r' ta tb tc) ρ O (.bl (k && k')) O3 := by
  intro σ F L H ok sl Q q
  refine va σ F L H ok sl _ fun v F1 L1 H1 n1 ok1 rv => ?_
  have sl1 := sl.mono c.hI n1.sub n1.pre
  refine vb σ F1 L1 H1 ok1 sl1 _ fun u F2 L2 H2 n2 ok2 ru => ?_
  refine h1 F2 L2 H2 v u ok2 (rv.mono c.hI n2.sub n2.pre) ru _ fun w F3 L3 H3 n3 ok3 rw' => ?_
  cases rw'
  refine ⟨k, rfl, ?_⟩
  cases k with
  | false =>
    rw [if_neg Bool.false_ne_true]
    rw [h3 rfl] at ok3
    exact q _ F3 L3 H3 ((n1.trans n2).trans n3) ok3 .bl
  | true =>
    rw [if_pos rfl]
    refine vc σ F3 L3 H3 ok3 ((sl1.mono c.hI n2.sub n2.pre).mono c.hI n3.sub n3.pre) _ fun t F4 L4 H4 n4 ok4 rt => ?_
    exact h2 F4 L4 H4 u t ok4 ((ru.mono c.hI n3.sub n3.pre).mono c.hI n4.sub n4.pre) rt Q fun w F5 L5 H5 n5 ok5 rw5 => q w F5 L5 H5 (((n1.trans n2).trans n3).trans (n4.trans n5)) ok5 rw5
theorem et_chain {op op' : CmpOp} (ha : EE c S a ρ O x O1) (hb : EE c S b ρ O1 y O2) (hc : EE c S cc ρ O2 z O3) (ho : OpD c S (compareOp op) x y O2 (.bl k) O2) (ho' : OpD c S (compareOp op') y z O3 (.bl k') O3) (h3 : k = false → O2 = O3 := by intro _; rfl) (hm : lastMarks [op, op'] [b, cc] = false := by with_unfolding_all rfl) :
    ET c S (.Compare a [op, op'] [b, cc] pos) ρ O (k && k') O3 := by
  obtain ⟨ta, pa, va⟩ := ha
  obtain ⟨tb, pb, vb⟩ := hb
  obtain ⟨tc, pc, vc⟩ := hc
  obtain ⟨r, pr, vr⟩ := ho
  obtain ⟨r', pr', vr'⟩ := ho'
  refine ⟨_, fun X j => pt_chain (pr X j) (pr' X j) (pa X j) (pb X j) (pc X j) hm, fun σ F L H ok sl Q q => ?_⟩
  refine ev_chain va vb vc vr vr' h3 σ F L H ok sl _ fun v F1 L1 H1 n1 ok1 rv => ?_
  cases rv
  exact ⟨_, rfl, q F1 L1 H1 n1 ok1⟩
/-! ### all, any; a number in a tuple -/
theorem RVs.bls {K : PySem.W.Frag} {I : Ob} {F : Hp} {L : List Addr} : ∀ {bs : List Bool} {vs : List V}, RVs K I F L (bs.map .bl) vs → vs = bs.map V.bl
  | [], _, .nil => rfl
  | b :: bs, _, .cons r t => by cases r; rw [RVs.bls t]; rfl
theorem cd_all {bs : List Bool} : CaD c S (.builtin "all") [.lst (bs.map .bl)] O (.bl (bs.all id)) O := ⟨rAll c.K, fun X j => by rw [← j.K]; exact cr_all j.calm, fun F L H vs ok rs => by
  cases rs with
  | cons r t =>
    cases t
    cases r with
    | lst h r => exact SemR.here ok .bl fun Q q => ⟨_, bs, rfl, .inl (.inl (by rw [← r.bls]; exact ok.sub _ _ h)), q⟩⟩
theorem RVs.intsV {K : PySem.W.Frag} {I : Ob} {F : Hp} {L : List Addr} : ∀ {ns : List Int} {vs : List V}, RVs K I F L (ns.map .int) vs → vs = ns.map V.int
  | [], _, .nil => rfl
  | n :: ns, _, .cons r t => by cases r; rw [RVs.intsV t]; rfl
theorem inV_ints (i : Int) : ∀ ns : List Int, inV (.int i) (ns.map V.int) = decide (i ∈ ns) ∧ (ns.map V.int).all flatV = true
  | [] => ⟨rfl, rfl⟩
  | n :: ns => by
    obtain ⟨a, b⟩ := inV_ints i ns
    refine ⟨?_, by simpa [flatV] using b⟩
    show (eqV (.int n) (.int i) || inV (.int i) (ns.map V.int)) = _
    rw [a]
    have : eqV (.int n) (.int i) = decide (n = i) := rfl
    rw [this]
    by_cases h : n = i
    · subst h; simp
    · have h' : ¬ i = n := fun z => h z.symm
      simp [h, h']
theorem od_notInT {ns : List Int} : OpD c S (compareOp .NotIn) (.int i) (.tup (ns.map .int)) O (.bl (!decide (i ∈ ns))) O := ⟨rIn c.K true, fun X j => by rw [← j.K]; exact op_notIn_seq, fun F L H v u ok rv ru => by
  cases rv
  cases ru with
  | tup h r =>
    have e := r.intsV
    subst e
    obtain ⟨h1, h2⟩ := inV_ints i ns
    exact SemR.here ok .bl fun Q q => ⟨_, _, rfl, .inr (ok.sub.sqT h), rfl, h2, by rw [if_pos rfl, h1]; exact q⟩⟩
end
end DL
set_option maxRecDepth 100000
namespace DL
open PySem L2 PyProof.Rows PySem.Spec
section
variable {c : Cn} {S : Sc} {ρ ρ1 ρ2 : Rho} {O O1 O2 O3 J : Sto} {a b e : Expr} {es : List Expr} {d d' x y z : D} {ds rs xs ys : List D} {pos p : Pos} {i j : Int} {k n : Nat} {ss : List Stmt} {kvs : List (Key × D)}
/-- {} -/
theorem ee_dict0 : EE c S (.Dict [] [] pos) ρ O (.loc O.length) (O ++ [.dct []]) := by
  refine ⟨tDNewK, fun X j => pe_dnewK, fun σ F L H ok sl Q q => fun p hp => ?_⟩
  obtain ⟨ok2, n2⟩ := ok.cellNew (o := .dK []) (cl := .dct []) c.hI hp ⟨ok.sub.none hp, [], upd_same, rfl, .nil⟩
  exact q _ _ _ _ n2 ok2 (.loc (by rw [← ok.len]; simp))
/-- slots that tell of no cell from n on -/
def rhoLk (n : Nat) (ρ : Rho) : Bool := ρ.all fun o => match o with | some d => d.lk n | none => true
theorem Sl.cut {K : PySem.W.Frag} {I : Ob} {F : Hp} {L : List Addr} {σ : L2.St} {n : Nat} (h : Sl K I F L ρ σ) (hb : rhoLk n ρ = true) : Sl K I F (L.take n) ρ σ := by
  refine ⟨h.1, fun i d e => ?_⟩
  obtain ⟨v, h1, h2⟩ := h.2 i d e
  have := (List.all_eq_true.mp hb) (some d) (List.mem_of_getElem? e)
  exact ⟨v, h1, h2.cut this⟩
/-- cells that are of no more use are let go -/
theorem SS.dropN (h : SS c S ss ρ O (.nx ρ1 (O1 ++ J))) (hl : O.length ≤ O1.length) (hd : rhoLk O1.length ρ1 = true) (hb : stoLk O = true → stoLk O1 = true) : SS c S ss ρ O (.nx ρ1 O1) := by
  obtain ⟨t, p, v⟩ := h
  refine ⟨t, p, fun σ F L H ok sl E hE => v σ F L H ok sl E fun σ1 F1 L1 H1 n1 ok1 sl1 => ?_⟩
  exact hE σ1 F1 (L1.take O1.length) H1 (n1.cut (by rw [ok.len]; exact hl)) (ok1.cut (hb ok.isLk)) (sl1.cut hd)
theorem valD_app {ps : List (Key × D)} {q : Key} {v : D} (h : valD ps q = none) : putD ps q v = ps ++ [(q, v)] := by
  unfold putD
  have e : (ps.any fun kv => decide (kv.1 = q)) = false := by
    unfold valD at h
    simp only [Option.map_eq_none_iff, List.find?_eq_none] at h
    simpa using h
  rw [e]; rfl
theorem valD_none {α : Type} (f : α → Key) (g : α → D) {l : List α} {q : Key} (h : ∀ x ∈ l, f x ≠ q) : valD (l.map fun x => (f x, g x)) q = none := by
  unfold valD
  simp only [Option.map_eq_none_iff, List.find?_eq_none, List.mem_map]
  rintro kv ⟨x, hx, rfl⟩
  simpa using h x hx
/-- repr, by what the library reads -/
theorem cd_reprG (h : Sh 40 200000 d') (hdp : ∀ F L H v, OkH c.K c.I F L H O → RV c.K c.I F L d v → Dp c.K H v d'.py ∧ ∃ a, v = V.ref a) : CaD c S (.builtin "repr") [d] O (.str d'.py.shown) O := by
  refine ⟨fun xs H Q => ∃ x, xs = [x] ∧ Dp c.K H x d'.py ∧ (∃ a, x = V.ref a) ∧ Q (.str d'.py.shown) H, fun X j => ?_, fun F L H vs ok rs => ?_⟩
  · intro pins s σ H xs us Q I r hq
    obtain ⟨x, rfl, dp, ⟨a, rfl⟩, q⟩ := hq
    obtain ⟨u, rfl, rx⟩ := vals1 r
    obtain ⟨as, rd⟩ := Dp.reads I d'.py _ u (by rw [j.K]; exact dp) rx
    cases rx
    have hz : d'.py.shown.length ≤ sizeLine := by
      have := PyData.shown_le_bulk 64 (by decide) d'.py h.leaf
      have hb := h.blk
      rw [sizeLine_eq]
      omega
    have hdict : d'.py.hasDict = false := by
      have : ∀ d : D, d.py.hasDict = false := by
        intro d
        induction d using D.rec (motive_2 := fun ds => PyData.hasDictAll (pyAll ds) = false) with
        | _ => first | rfl | (simp_all [D.py, pyAll, PyData.hasDict, PyData.hasDictAll])
      exact this d'
    have hdp := h.dep
    have hu := j.room.units
    refine repr_of_reads' rd h.shw (PyData.noDict_hsm hdict) j.gd (by omega) (fun _ _ e => e) (fun h' u tk hk => ?_) hz
    exact ⟨.str d'.py.shown, H, I.kept (t' := tk) hk, ⟨u, rfl⟩, q⟩
  · cases rs with
    | cons r t =>
      cases t
      obtain ⟨h1, h2⟩ := hdp F L H _ ok r
      exact SemR.here ok .str fun Q q => ⟨_, rfl, h1, h2, q⟩
/-- repr([told, x, y]), told a list that is a cell -/
theorem cd_repr3 {gs : List D} (hk : O[k]? = some (.lst gs)) (hx : x.dat = true) (hy : y.dat = true) (h : Sh 40 200000 (.lst [.lst gs, x, y])) : CaD c S (.builtin "repr") [.lst [.loc k, x, y]] O (.str (D.lst [.lst gs, x, y]).py.shown) O := by
  refine cd_reprG h fun F L H v ok r => ?_
  have hg : datAll gs = true := by have := h.dat; simp [D.dat, datAll] at this; exact this.1
  cases r with
  | lst q r =>
    refine ⟨?_, _, rfl⟩
    cases r with
    | cons r1 r =>
      cases r with
      | cons r2 r =>
        cases r with
        | cons r3 r =>
          cases r
          cases r1 with
          | loc ha =>
            obtain ⟨_, ws, h1, h2⟩ := ok.cellL ha hk
            exact .lst (.inl (.inl (ok.sub _ _ q))) (.cons (.lst (.inl (.inl h1)) (RVs.dp ok.sub hg h2)) (.cons (RV.dp ok.sub hx r2) (.cons (RV.dp ok.sub hy r3) .nil)))
end
mutual
theorem D.lk_up {n m : Nat} (h : n ≤ m) : ∀ d : D, d.lk n = true → d.lk m = true
  | .non, _ => rfl
  | .bl _, _ => rfl
  | .int _, _ => rfl
  | .str _, _ => rfl
  | .lst ds, q => by simpa [D.lk] using lkAll_up h ds (by simpa [D.lk] using q)
  | .tup ds, q => by simpa [D.lk] using lkAll_up h ds (by simpa [D.lk] using q)
  | .rd ds, q => by simpa [D.lk] using lkAll_up h ds (by simpa [D.lk] using q)
  | .loc k, q => by simp [D.lk] at q ⊢; omega
  | .ob _ _, _ => rfl
  | .ty _, _ => rfl
  | .dct _ ds, q => by simpa [D.lk] using lkAll_up h ds (by simpa [D.lk] using q)
  | .ins _ _ ds, q => by simpa [D.lk] using lkAll_up h ds (by simpa [D.lk] using q)
theorem lkAll_up {n m : Nat} (h : n ≤ m) : ∀ ds : List D, lkAll n ds = true → lkAll m ds = true
  | [], _ => rfl
  | d :: ds, q => by
    have q' : d.lk n = true ∧ lkAll n ds = true := by simpa [lkAll] using q
    simp [lkAll, D.lk_up h d q'.1, lkAll_up h ds q'.2]
end
theorem cell_lk_up {n m : Nat} (h : n ≤ m) {c : Cell} (q : c.lk n = true) : c.lk m = true := by
  cases c with
  | dead => rfl
  | lst ds => exact lkAll_up h _ q
  | dct kvs => exact lkAll_up h _ q
  | ins C fs => exact lkAll_up h _ q
end DL
set_option maxRecDepth 100000
set_option maxHeartbeats 2000000
namespace DL
open PySem L2 PyProof.Rows PySem.Spec
/-! ### {e for target in iter if ..}, e a whole number -/
section
variable {X : Cx}
def tSi (w : World) (wi : TI) (g : TG) (tt : TT) (te : TE) (vs : List Nat) : TE := fun σ H Q => wi σ H fun J H1 => ∀ A, H1 A = none → ∃ T : Nat → Nat → Hp → Prop, (∃ m, T 0 m (upd H1 A (SetO w A (fun _ => false) 0))) ∧
  ∀ i m H, T i m H → (J.stop i H ∧ Q (.ref A) H) ∨ (J.go i H ∧ ∃ B : Hp → Prop, (∀ H', B H' → ∃ m', m' < m ∧ T (i + 1) m' H') ∧ ∀ x H', J.yld i H x H' → g x (L2.wipe σ vs) H' fun σ2 H2 => L2.wipe σ2 vs = L2.wipe σ vs ∧ tt σ2 H2 fun b H3 =>
    if b = true then te σ2 H3 fun y H4 => ∃ (c : Int) (P : Int → Bool) (n : Nat), y = .int c ∧ H4 A = some (SetO w A P n) ∧ n + 1 < scanBound ∧ B (upd H4 A (SetO w A (fun j => P j || decide (j = c)) (if P c = true then n else n + 1))) else B H3)
theorem set_added {pins : List (Addr × Obj)} {σ : L2.St} {H : Hp} {s : Shared} {E : Value → Shared → Prop} {A : Addr} {P : Int → Bool} {n : Nat} {c : Int} {tk : Tok} {Q : Value → Shared → Prop} (inv : Inv X pins σ H s) (hA : H A = some (SetO X.w A P n)) (room : n + 1 < scanBound)
    (h : ∀ s', Inv X pins σ (upd H A (SetO X.w A (fun j => P j || decide (j = c)) (if P c = true then n else n + 1))) s' → Q .none s') : wpAny (model X.prog X.w) X.A (call (.builtin "set.add") [.ref A, .int c tk]) Q E s := by
  refine setR_add (setO_get inv hA) room fun h' but new => h _ ?_
  obtain ⟨o, _, _, _, ho, _⟩ := id new
  refine inv.write (e := A) (t' := s.toks + 1) ?_ (.inl rfl) (fun b u hb hu => (but.2 b hb).trans hu) ⟨o, ho⟩ (setO_new new)
  rw [hA]; trivial
theorem pe_si {elt tg iter : Expr} {ifs : List Expr} {scope : Scope} {own : List (Str × Nat)} {pos : Pos} {wi : TI} {g : TG} {tt : TT} {te : TE} (calm : X.calm = true) (nd : X.N.Nodup) (hi : PI X tg iter wi) (blk : BlkOk X.N X.env.scope scope own)
    (pg : ∀ (s : Shared) (H : Hp) (C : Addr) (cl : List (Str × Addr)) (fp : List Addr), PG (X.blk s H scope (compEnvC scope cl C X.env) fp) tg g) (pt : ∀ (s : Shared) (H : Hp) (C : Addr) (cl : List (Str × Addr)) (fp : List Addr), PTs (X.blk s H scope (compEnvC scope cl C X.env) fp) ifs tt)
    (pe : ∀ (s : Shared) (H : Hp) (C : Addr) (cl : List (Str × Addr)) (fp : List Addr), PE (X.blk s H scope (compEnvC scope cl C X.env) fp) elt te) (fold : ∀ x, foldedSetIterable iter X.env x = pure x) : PE X (.SetComp elt [⟨tg, iter, ifs, 0⟩] scope pos) (tSi X.w wi g tt te (own.map (·.2))) := by
  refine ⟨fun pins s σ H Q inv hyp => ?_⟩
  rw [PpSet.eval_SetComp]
  have caps : ∀ y ∈ scope.names, y.2 = .free → ∃ c, X.env.cells.lookup y.1 = some c := fun y hy e => (blk.free y hy e).elim (fun k => inv.ok.has _ (.inl k)) fun k => inv.ok.has _ (.inr k)
  refine wpAny_comprehension_free rfl fold (closure_ok caps) blk.kind (fun y hy e => by rw [blk.uniq y hy, e]) (thn (hi.run pins s σ H _ inv hyp) fun xv u1 hx => thn hx fun itv u2 hu2 => ?_)
  obtain ⟨it, fp, tn, J, H2, rfl, inv2, run, at0, out, q⟩ := hu2
  refine PpSet.newSet_ok (newEnv_comp ?_)
  generalize eA : u2.heap.objs.size = A
  obtain ⟨T, ⟨m0, t0⟩, turn⟩ := q A (inv2.hok.fresh (Nat.le_of_eq eA))
  generalize eu3 : ({ u2 with heap := u2.heap.push { cls := .type "set", dict := none, data := .set #[] 0 (.fresh 0 0 (!X.w.params.followText "set-order")) } } : Shared) = u3
  have hu3 : u3.heap = u2.heap.push { cls := .type "set", dict := none, data := .set #[] 0 (.fresh 0 0 (!X.w.params.followText "set-order")) } := by rw [← eu3]
  have keep3 : ∀ b o, u2.heap.get? b = some o → u3.heap.get? b = some o := fun b o e => by rw [hu3]; exact Heap.get?_push_of_some _ e
  generalize eH3 : upd H2 A (SetO X.w A (fun _ => false) 0) = H3 at t0
  have inv3 : Inv X pins σ H3 u3 := by
    rw [← eu3, ← eH3]
    refine inv2.laid (t' := u2.toks) (fun b o e => Heap.get?_push_of_some _ e) (Nat.le_of_eq eA) ?_
    rw [← eA]; exact setO_new (setR_fresh X.w)
  have small : ∀ b ∈ fp, b < u2.heap.objs.size := fun b hb => let ⟨o, e, _⟩ := run.obj _ _ at0 b hb; Heap.lt_size e
  have out3 : ∀ b ∈ fp, FpOk X pins H3 b ∧ b < u3.heap.objs.size := fun b hb => by
    refine ⟨⟨?_, (out b hb).2⟩, by rw [hu3, Heap.size_push]; exact Nat.lt_succ_of_lt (small b hb)⟩
    rw [← eH3, upd_ne (by rw [← eA]; exact Nat.ne_of_lt (small b hb))]; exact (out b hb).1
  have at3 : tn 0 u3.heap := run.keep _ _ _ at0 fun b _ o e => keep3 b o e
  have inv4 := block_start inv3 blk nd out3
  have hg := pg u3 H3 u3.heap.objs.size (cellsFrom (u3.heap.objs.size + 1) scope.names (cloFrom X.env.cells scope.names [])) fp
  have ht := pt u3 H3 u3.heap.objs.size (cellsFrom (u3.heap.objs.size + 1) scope.names (cloFrom X.env.cells scope.names [])) fp
  have he := pe u3 H3 u3.heap.objs.size (cellsFrom (u3.heap.objs.size + 1) scope.names (cloFrom X.env.cells scope.names [])) fp
  change codeAny (model X.prog X.w) X.A (.compStart (.SetComp elt [⟨tg, iter, ifs, 0⟩] scope pos) 0 (.ref it) (.ref A) (compEnvC scope (cellsFrom (u3.heap.objs.size + 1) scope.names (cloFrom X.env.cells scope.names [])) u3.heap.objs.size X.env))
    (compPost (model X.prog X.w) X.A X.xe none (EP X pins σ Q) (.ref A) u3.heap.objs.size) { u3 with heap := pushCells (u3.heap.push { cls := .type "dict", data := .dict #[] }) scope.names }
  generalize ec : compEnvC scope (cellsFrom (u3.heap.objs.size + 1) scope.names (cloFrom X.env.cells scope.names [])) u3.heap.objs.size X.env = ce at inv4 hg ht he ⊢
  have cl : ce.locals = u3.heap.objs.size := by rw [← ec]; rfl
  generalize eu4 : ({ u3 with heap := pushCells (u3.heap.push { cls := .type "dict", data := .dict #[] }) scope.names } : Shared) = u4 at inv4 ⊢
  have at4 : tn 0 u4.heap := run.keep _ _ _ at3 fun b _ o e => by rw [← eu4]; exact pushCells_keeps _ _ _ _ (Heap.get?_push_of_some _ e)
  have held : ∀ {σ' : L2.St} {H' : Hp} {s' : Shared}, Inv (X.blk u3 H3 scope ce fp) [] σ' H' s' → (∀ b ∈ fp, H' b = none) → ∀ b ∈ fp, FpOk (X.blk u3 H3 scope ce fp) [] H' b := fun {σ' H' s'} v hn b hb =>
    ⟨hn b hb, (v.ok.exf b hb).1, v.ok.exfs b hb, .inl hb, fun x c e => (v.ok.exf b hb).2 x c e, fun p hp => nomatch (show p ∈ [] from (List.append_nil ([] : List (Addr × Obj))) ▸ hp)⟩
  refine PpSet.codeAny_compStart_set ?body (run.self X.A 0 _ _ _ ?st ?body)
  case st => exact at4
  case body =>
    refine PpSet.compLoopS_any (fun n v => ∃ i H', Inv (X.blk u3 H3 scope ce fp) [] (L2.wipe σ (own.map (·.2))) H' v ∧ tn i v.heap ∧ (∀ b ∈ fp, H' b = none) ∧ T i n H') ?_ m0 ⟨0, H3, inv4, at4, fun b hb => (out3 b hb).1.1, t0⟩
    rintro n v5 ⟨i, H5, inv5, at5, no5, t5⟩
    rcases turn i n H5 t5 with ⟨stop, ans⟩ | ⟨go, B, back, step⟩
    · refine thnF (run.done (X.blk u3 H3 scope ce fp) rfl rfl rfl calm i [] v5 _ H5 (fun _ _ => False) inv5 (held inv5 no5) at5 stop) fun r v6 ⟨hr, inv6⟩ => ?_
      subst hr
      have inv7 : Inv X pins σ H5 v6 := inv3.call' (ch := fp) inv6.os inv6.base inv6.hok inv6.bare fun b hb => ⟨(out3 b hb).1.2.2.2.1, (out3 b hb).1.2.1, (out3 b hb).1.2.2.2.2.1, (out3 b hb).1.2.2.2.2.2⟩
      have noC : H5 u3.heap.objs.size = none := cl ▸ inv6.free
      obtain ⟨m, hn, _⟩ := inv6.loc
      have hn : v6.heap.Ns ce.locals m := hn
      rw [cl] at hn
      obtain ⟨f0, f1, f2, f3, f4, f5⟩ := inv3.fpOk (Nat.le_refl _) noC
      exact ⟨m, hn, fun h2 sb => ⟨.ref A, H5, inv7.turned (t' := v6.toks) (fun b o hb e => (sb.2 b hb).trans e) f0 f1 f3 f4 f5, rfl, ans⟩⟩
    · refine thnF (run.item (X.blk u3 H3 scope ce fp) rfl rfl rfl calm i [] v5 _ H5 (fun _ _ => False) inv5 (held inv5 no5) at5 go) fun r v6 ⟨u, hr, h6⟩ => ?_
      subst hr
      refine thnF h6 fun _ v7 ⟨x, H7, inv7, r7, y7, at7, no7⟩ => ?_
      refine thnF (hg.run _ v7 _ H7 x u _ (inv7.pinned (held inv7 no7) (run.obj _ _ at7)) r7 (step x H7 y7)) fun _ v8 ⟨σ8, H8, inv8, w8, q8⟩ => ?_
      refine thnF (ht.run _ v8 σ8 H8 _ inv8 q8) fun b v9 ⟨H9, inv9, q9⟩ => ?_
      have next : ∀ {v : Shared} {H' : Hp}, Inv (X.blk u3 H3 scope ce fp) ([] ++ pinsAt fp v7.heap) σ8 H' v → B H' → ∃ m, m < n ∧ ∃ i H', Inv (X.blk u3 H3 scope ce fp) [] (L2.wipe σ (own.map (·.2))) H' v ∧ tn i v.heap ∧ (∀ b ∈ fp, H' b = none) ∧ T i m H' := fun {v H'} inv' nb => by
        obtain ⟨m', hm, t'⟩ := back H' nb
        have pinned : ∀ b ∈ fp, ∀ o, v7.heap.get? b = some o → v.heap.get? b = some o ∧ H' b = none := fun b hb o e =>
          have z := inv'.pin (b, o) (List.mem_append_right _ (List.mem_append_right _ (mem_pinsAt hb e)))
          ⟨z.1, z.2.1⟩
        refine ⟨m', hm, i + 1, H', (inv'.unpinned (pins := [])).weak (by rw [← w8, wipe_length]) (fun j z e => ?_), run.keep _ _ _ at7 fun b hb o e => (pinned b hb o e).1, fun b hb => ?_, t'⟩
        · rw [← w8] at e; exact (wipe_some e).1
        · obtain ⟨o, e, _⟩ := run.obj _ _ at7 b hb; exact (pinned b hb o e).2
      cases b with
      | false => exact next inv9 (by rw [if_neg Bool.false_ne_true] at q9; exact q9)
      | true =>
        rw [if_pos rfl] at q9
        refine thnF (he.run _ v9 σ8 H9 _ inv9 q9) fun z v10 ⟨y, H10, inv10, r10, c, P, k, ey, hA, room, nb⟩ => ?_
        subst ey
        obtain ⟨tk, rfl⟩ := r10
        exact set_added (X := X.blk u3 H3 scope ce fp) inv10 hA room fun v11 inv11 => next inv11 nb
end
end DL
set_option maxRecDepth 100000
namespace DL
open PySem L2 PyProof.Rows PySem.Spec
section
variable {c : Cn} {S : Sc} {ρ ρ1 ρ2 : Rho} {O O1 O2 O3 : Sto} {a b e tg iter elt cnd : Expr} {es ifs : List Expr} {d x y z : D} {ds rs : List D} {pos p pos2 : Pos} {is js vs : List Nat} {k : Nat} {ns : List Int}
theorem int_in {ns r1 : List Int} {r : D} {rs : List D} (h : r1.map .int ++ r :: rs = ns.map .int) : ∃ k, r = .int k := by
  obtain ⟨l1, l2, e1, e2, e3⟩ := List.map_eq_append_iff.mp h.symm
  cases l2 with
  | nil => cases e3
  | cons k l => exact ⟨k, (List.cons.inj e3).1.symm⟩
theorem si_ev {scope : Scope} {vs : List Nat} {wi : TI} (hw : ∀ (σ : L2.St) (F : Hp) (L : List Addr) (H : Hp), OkH c.K c.I F L H O → Sl c.K c.I F L ρ σ → ∀ R : It → Hp → Prop, (∀ J F' L' H', Nxt F L H F' L' H' → OkH c.K c.I F' L' H' O1 → YldOk c.K c.I J F' L' ds → R J H') → wi σ H R)
    (hc : CR c (S.blk scope) tg ifs elt vs (wipeR ρ vs) ds O1 (ns.map .int) O2) (hz : ds.length < 1000) {σ : L2.St} {F : Hp} {L : List Addr} {H : Hp} (ok : OkH c.K c.I F L H O) (sl : Sl c.K c.I F L ρ σ) (Q : VK)
    (q : ∀ p n F' L' H', Nxt F L H F' L' H' → OkH c.K c.I F' L' H' O2 → n ≤ ns.length → H' p = some (SetO c.w p (fun j => decide (j ∈ ns)) n) → Q (.ref p) H') :
    tSi c.w wi (supG c (S.blk scope) tg) (supI c (S.blk scope) ifs) (supE c (S.blk scope) elt) vs σ H Q := by
  refine hw σ F L H ok sl _ fun J F1 L1 H1 n1 ok1 yl => fun A hA => ?_
  refine ⟨fun i m H => m = ds.length - i ∧ i ≤ ds.length ∧ ∃ (O' : Sto) (F' : Hp) (L' : List Addr) (r1 : List Int) (r2 : List D) (n : Nat), CR c (S.blk scope) tg ifs elt vs (wipeR ρ vs) (ds.drop i) O' r2 O2 ∧ Nxt F1 L1 H1 F' L' H ∧ OkH c.K c.I F' L' H O' ∧ H A = some (SetO c.w A (fun j => decide (j ∈ r1)) n) ∧ n ≤ r1.length ∧ r1.length ≤ i ∧ r1.map .int ++ r2 = ns.map .int ∧ A ∉ L' ∧ F' A = none, ⟨ds.length, by simp, Nat.zero_le _, O1, F1, L1, [], _, 0, hc, (ok1.junk c.hI hA).2, (ok1.junk c.hI hA).1, by rw [upd_same]; simp, Nat.le_refl _, Nat.le_refl _, rfl, ok1.out hA, ok1.sub.none hA⟩, ?_⟩
  rintro i m H' ⟨rfl, hi, O', F', L', r1, r2, n, hc', n', ok', hset, hn, hlen, hr, hAL, hAF⟩
  obtain ⟨hgo, hst⟩ := yl F' L' H' O' n'.sub n'.pre ok'
  have slw : Sl c.K c.I F' L' (wipeR ρ vs) (L2.wipe σ vs) := ((sl.mono c.hI (n1.trans n').sub (n1.trans n').pre)).wipe vs
  by_cases hil : i < ds.length
  · have hd : ds[i]? = some ds[i] := List.getElem?_eq_getElem hil
    rw [List.drop_eq_getElem_cons hil] at hc'
    obtain ⟨go, yld⟩ := hgo i _ hd
    refine .inr ⟨go, fun H2 => (i + 1 ≤ ds.length ∧ ∃ (O' : Sto) (F' : Hp) (L' : List Addr) (r1 : List Int) (r2 : List D) (n : Nat), CR c (S.blk scope) tg ifs elt vs (wipeR ρ vs) (ds.drop (i + 1)) O' r2 O2 ∧ Nxt F1 L1 H1 F' L' H2 ∧ OkH c.K c.I F' L' H2 O' ∧ H2 A = some (SetO c.w A (fun j => decide (j ∈ r1)) n) ∧ n ≤ r1.length ∧ r1.length ≤ i + 1 ∧ r1.map .int ++ r2 = ns.map .int ∧ A ∉ L' ∧ F' A = none), fun H2 h2 => ⟨ds.length - (i + 1), by omega, rfl, h2⟩, fun x H3 y => ?_⟩
    obtain ⟨F3, n3, ok3, rv⟩ := yld x H3 y
    have A3 : F3 A = none ∧ H3 A = some (SetO c.w A (fun j => decide (j ∈ r1)) n) := by
      refine ⟨?_, n3.frm A _ hset hAL (by intro _ h; cases h)⟩
      cases e : F3 A with
      | none => rfl
      | some o => have := n3.nwF A o e hAF hAL; rw [hset] at this; cases this
    have stay : ∀ {F4 : Hp} {L4 : List Addr} {H4 : Hp}, Nxt F3 L' H3 F4 L4 H4 → A ∉ L4 ∧ F4 A = none ∧ H4 A = some (SetO c.w A (fun j => decide (j ∈ r1)) n) := fun {F4 L4 H4} n4 => by
      refine ⟨fun z => ?_, ?_, n4.frm A _ A3.2 hAL (by intro _ h; cases h)⟩
      · have := n4.new A z hAL; rw [A3.2] at this; cases this
      · cases e : F4 A with
        | none => rfl
        | some o => have := n4.nwF A o e A3.1 hAL; rw [A3.2] at this; cases this
    cases hc' with
    | yes hg his hif he hcr =>
      refine hg.sup _ F3 L' H3 x ok3.sub (slw.mono c.hI n3.sub (.refl _)) rv _ fun σ' sl' hwp => ⟨(hwp vs his).trans (wipe_wipe _ _), ?_⟩
      refine hif.sup σ' F3 L' H3 ok3 sl' _ fun F4 L4 H4 n4 ok4 => ?_
      rw [if_pos rfl]
      refine he.sup σ' F4 L4 H4 ok4 (sl'.mono c.hI n4.sub n4.pre) _ fun v F5 L5 H5 n5 ok5 rv5 => ?_
      obtain ⟨kk, rfl⟩ := int_in hr
      cases rv5
      have n35 := n4.trans n5
      have A5 := stay n35
      have nn := n'.trans (n3.trans n35)
      have hfun : (fun j : Int => decide (j ∈ r1) || decide (j = kk)) = fun j => decide (j ∈ r1 ++ [kk]) := by funext j; simp
      refine ⟨kk, _, n, rfl, A5.2.2, by unfold scanBound; omega, hil, _, F5, L5, r1 ++ [kk], _, _, hcr, ⟨nn.sub, nn.pre, fun b o e m t => by rw [upd_ne (ne_of_none e hA)]; exact nn.frm b o e m t, fun b ps e m => by rw [upd_ne (ne_of_none e hA)]; exact nn.tbl b ps e m, nn.new, nn.nwF⟩, ok5.wr c.hI A5.2.1 A5.1 A5.2.2, by rw [upd_same, hfun], ?_, by simp; omega, by simpa using hr, A5.1, A5.2.1⟩
      rw [List.length_append]; simp only [List.length_cons, List.length_nil]; split <;> omega
    | no hg his hif hcr =>
      refine hg.sup _ F3 L' H3 x ok3.sub (slw.mono c.hI n3.sub (.refl _)) rv _ fun σ' sl' hwp => ⟨(hwp vs his).trans (wipe_wipe _ _), ?_⟩
      refine hif.sup σ' F3 L' H3 ok3 sl' _ fun F4 L4 H4 n4 ok4 => ?_
      rw [if_neg Bool.false_ne_true]
      have A4 := stay n4
      exact ⟨hil, _, F4, L4, r1, _, n, hcr, n'.trans (n3.trans n4), ok4, A4.2.2, hn, by omega, hr, A4.1, A4.2.1⟩
  · refine .inl ⟨hst i (by omega), ?_⟩
    rw [List.drop_eq_nil_of_le (by omega)] at hc'
    cases hc'
    rw [List.append_nil] at hr
    have e : r1 = ns := by
      have inj : ∀ l l' : List Int, l.map D.int = l'.map D.int → l = l' := fun l => by
        induction l with
        | nil => intro l' h; cases l' with | nil => rfl | cons _ _ => cases h
        | cons a l ih => intro l' h; cases l' with | nil => cases h | cons b l' => injection h with h1 h2; injection h1 with h1; rw [h1, ih l' h2]
      exact inj _ _ hr
    subst e
    exact q A n F' L' H' (n1.trans n') ok' hn hset
/-- sorted({..}) -/
theorem ee_sortedSc {scope : Scope} (own : List (Str × Nat)) (hm : c.mg "sorted" = none) (hi : IT c S tg iter ρ O ds O1) (hc : CR c (S.blk scope) tg ifs elt (own.map (·.2)) (wipeR ρ (own.map (·.2))) ds O1 (ns.map .int) O2) (hz : ds.length < 1000) (hz2 : ns.length < 64)
    (hg : glB S.sc "sorted" = true := by first | decide +kernel | kernel_rfl | exact of_decide_eq_true (by kernel_rfl)) (hb : blkC S.N S.sc scope own = true := by first | decide +kernel | kernel_rfl | exact of_decide_eq_true (by kernel_rfl)) (nd : S.N.Nodup := by first | decide +kernel | kernel_rfl | exact of_decide_eq_true (by kernel_rfl)) (hs : ∀ env x, foldedSetIterable iter env x = pure x := by intro _ _; rfl)
    (he : ∀ env, starEach (.SetComp elt [{ target := tg, iter := iter, ifs := ifs, is_async := 0 }] scope pos2 :: []) env = (false, eval (.SetComp elt [{ target := tg, iter := iter, ifs := ifs, is_async := 0 }] scope pos2) env) :: starEach [] env := by intro _; rfl)
    (hpl : ∀ env, (backTo pos (starEach [] env)).any (·.1) = false := by intro _; rfl) :
    EE c S (.Call (.Name "sorted" p) [.SetComp elt [{ target := tg, iter := iter, ifs := ifs, is_async := 0 }] scope pos2] [] pos) ρ O (.lst ((spots ns).map .int)) O2 := by
  obtain ⟨wi, pi, vi⟩ := hi
  refine ⟨tCB (rSortedSet c.w) (tCons (tSi c.w wi (supG c (S.blk scope) tg) (supI c (S.blk scope) ifs) (supE c (S.blk scope) elt) (own.map (·.2))) tNil), fun X j => ?_, fun σ F L H ok sl Q q => ?_⟩
  · refine pe_callB (by rw [← j.w]; exact cr_sortedSet j.calm) (j.gl hg) (by rw [j.mg]; exact hm) (by decide +kernel) (pa_cons (by rw [← j.w]; exact pe_si (own := own) j.calm (by rw [j.N]; exact nd) (pi X j) (by rw [j.N, j.sc]; exact blkOk_by hb) (fun s H C cl fp => p_supG (j.blk s H scope C cl fp)) (fun s H C cl fp => p_supI (j.blk s H scope C cl fp)) (fun s H C cl fp => p_supE (j.blk s H scope C cl fp)) (hs _)) pa_nil (he _)) (by decide) (by decide) (he _) (hpl _)
  · show tSi c.w wi (supG c (S.blk scope) tg) (supI c (S.blk scope) ifs) (supE c (S.blk scope) elt) (own.map (·.2)) σ H fun v H1 => rSortedSet c.w [v] H1 Q
    refine si_ev vi hc hz ok sl _ fun A n F1 L1 H1 n1 ok1 hn hA => ?_
    refine ⟨A, _, n, rfl, hA, by omega, fun ps x h1 h2 h3 hx => ?_⟩
    have e : ps = spots ns := Spots.eq (ns := ns) ⟨h1, fun k => (h2 k).trans (by simp)⟩ (spots_ok ns)
    obtain ⟨ok3, n3⟩ := ok1.put (o := .lst (ps.map V.int)) c.hI hx
    refine q _ _ _ _ (n1.trans n3) ok3 (.lst upd_same ?_)
    rw [e]; exact RVs.of_ints _
end
end DL
set_option maxRecDepth 100000
namespace DL
open PySem L2 PyProof.Rows PySem.Spec
/-! ### x == y where x is an instance with its own __eq__, which answers True or False -/
def rEqM (K : PySem.W.Frag) (I : Ob) (C : Addr) (R : Fn) : R2 := fun x y H Q => ∃ (a b dx dy : Addr) (fs gs : List (Str × V)), x = .ref a ∧ y = .ref b ∧ H a = some (.ins C dx fs) ∧ H b = some (.ins C dy gs) ∧ spD K I R [.ref a, .ref b] H (fun v H' => (∃ k, v = .bl k) ∧ Q v H') E0
theorem op_eqM {X : Cx} {I : Ob} {C f : Addr} {fd : FuncData} {ps : List Str} {R : Fn} {k : Nat} (F : FnG X.prog X.w X.K X.mg X.base CX0 k f fd ps (spD X.K I R)) (hr : Room k X.A) (hgd : X.A.guards = some [])
    (hs : PySem.W.findIn X.K (.ref C) "__eq__" = some (some (.ref f))) (hf : PySem.W.isFn X.K (.ref f) = true) (hb : Binds X.K fd ps []) : OpR X (compareOp .Eq) (rEqM X.K I C R) := by
  intro pins s σ H x y v u Q inv rx ry hq
  obtain ⟨a, b, dx, dy, fs, gs, rfl, rfl, ha, hb', hsp⟩ := hq
  obtain rfl : v = Value.ref a := rx
  obtain rfl : u = Value.ref b := ry
  obtain ⟨mA, JA, _⟩ := ins_get inv.hok ha
  obtain ⟨mB, JB, _⟩ := ins_get inv.hok hb'
  obtain ⟨oa, JA, _⟩ := JA.look
  obtain ⟨ob, JB, _⟩ := JB.look
  obtain ⟨m, hF⟩ := inv.fr
  show wpAny (model X.prog X.w) X.A (richCompare .Eq (.ref a) (.ref b)) (EP X pins σ Q) X.xe s
  refine PySem.W.cmp_K (op := .Eq) (tb := .ref C) hr.units0 hF inv.ok.mod.kin JA JB.type (by simp [PySem.W.notFirst]) hs hf ?_
  refine wpAny_mono (F.go hr hgd hb (pass0 (X := X)) inv (show Vals [V.ref a, V.ref b] [Value.ref a, Value.ref b] from .cons rfl (.cons rfl .nil)) hsp) (fun r s' z => ?_) fun _ _ e => e
  obtain ⟨w, H', inv', rw', ⟨k', rfl⟩, q⟩ := z
  obtain rfl : r = Value.bool k' := rw'
  exact ⟨.bl k', H', inv', rfl, q⟩
section
variable {c : Cn} {S : Sc} {O O' : Sto} {C : Addr} {ks ks' : List Str} {ds ds' : List D} {k : Bool}
theorem od_eqM {R : Fn} {ps : List Str} {j : Nat} (G : MethOk c C "__eq__" R ps j) (hR : R [.ins C ks ds, .ins C ks' ds'] O (.bl k) O') (hj : j ≤ c.k := by exact Nat.le_refl _) : OpD c S (compareOp .Eq) (.ins C ks ds) (.ins C ks' ds') O (.bl k) O' := by
  obtain ⟨f, fd, FO, hM, hb⟩ := G
  refine ⟨rEqM c.K c.I C R, fun X i => ?_, fun F L H v u ok rv ru => ?_⟩
  · have F' : FnG X.prog X.w X.K X.mg X.base CX0 c.k f fd ps (spD X.K c.I R) := by
      rw [i.P, i.w, i.K, i.mg, i.base]; exact FO.up hj
    rw [← i.K]
    exact op_eqM F' i.room i.gd (by rw [i.K]; exact hM.at_) (by rw [i.K]; exact hM.fn) (by rw [i.K]; exact hb)
  · cases rv with
    | @ins a _ dx _ _ fs h1 e1 r1 =>
      cases ru with
      | @ins b _ dy _ _ gs h2 e2 r2 =>
        intro Q q
        refine ⟨a, b, dx, dy, fs, gs, rfl, rfl, ok.sub _ _ h1, ok.sub _ _ h2, F, L, O, [.ins C ks ds, .ins C ks' ds'], .bl k, O', ok, .cons (.ins h1 e1 r1) (.cons (.ins h2 e2 r2) .nil), hR, fun w F2 L2 H2 n2 ok2 rw' => ?_⟩
        cases rw'
        exact ⟨⟨k, rfl⟩, q _ F2 L2 H2 n2 ok2 .bl⟩
/-- what the walk must know to ask isinstance about an instance of C -/
structure ClsIs (K : PySem.W.Frag) (C : Addr) : Prop where
  cl : Cls K C
  ha : PySem.W.findIn K (.ref C) "__class__" = some (some (.builtin "object.__class__"))
  hn : PySem.W.specialIn K (.builtin "object.__class__") "__get__" = some (some (.builtin "getset_descriptor.__get__"))
  tk : PySem.W.takesIn K (.builtin "object.__class__") = some true
  ob : PySem.W.mroIn K C (.type "object") = some true
  one : PySem.W.kitOne K (.ref C) (.ref C) = some true
/-- isinstance(x, A), A an own class, x an instance of it -/
theorem ee_isiO {ρ : Rho} {O1 : Sto} {A : Str} {e : Expr} {p pA pos : Pos} (hm : c.mg "isinstance" = none) (hx : EE c S e ρ O (.ins C ks ds) O1) (hC : c.mg A = some (.ref C)) (T : ClsIs c.K C)
    (gA : glB S.sc A = true := by first | decide +kernel | kernel_rfl | exact of_decide_eq_true (by kernel_rfl)) (hg : glB S.sc "isinstance" = true := by first | decide +kernel | kernel_rfl | exact of_decide_eq_true (by kernel_rfl)) (hd : (A == ("__debug__" : Str)) = false := by first | decide +kernel | kernel_rfl | exact of_decide_eq_true (by kernel_rfl))
    (hs : ∀ env, starEach [e, .Name A pA] env = [(false, eval e env), (false, eval (.Name A pA) env)] := by intro _; rfl) : EE c S (.Call (.Name "isinstance" p) [e, .Name A pA] [] pos) ρ O (.bl true) O1 := by
  obtain ⟨ta, pa, va⟩ := hx
  refine ⟨_, fun X j => pe_callB (id := "isinstance") (r := rIsi c.K) (by rw [← j.K]; exact call_isi) (j.gl hg) (by rw [j.mg]; exact hm) (by decide +kernel) (pa_cons (pa X j) (pa_cons (pe_glob (v := .ref C) (j.gl gA) (by rw [j.mg]; exact hC) rfl hd) pa_nil) (hs _)) (by decide +kernel) (by decide +kernel) (hs _) rfl, fun σ F L H ok sl Q q => ?_⟩
  refine va σ F L H ok sl _ fun v F1 L1 H1 n1 ok1 rv => ?_
  cases rv with
  | @ins a _ dx _ _ fs h1 e1 r1 => exact ⟨.ref a, .ref C, .ref C, .ref C, true, rfl, .own C, .base (.ins (ok1.sub _ _ h1) T.cl T.ha T.hn T.tk T.ob), T.one, q _ F1 L1 H1 n1 ok1 .bl⟩
/-- of a built-in type: it is none -/
theorem ee_isiN {ρ : Rho} {O1 : Sto} {A : Str} {x : D} {t : String} {e : Expr} {p pA pos : Pos} (hm : c.mg "isinstance" = none) (hx : EE c S e ρ O x O1) (ht : x.tyN = some t) (hC : c.mg A = some (.ref C)) (hk : PySem.W.kitOne c.K (.type t) (.ref C) = some false)
    (gA : glB S.sc A = true := by first | decide +kernel | kernel_rfl | exact of_decide_eq_true (by kernel_rfl)) (hg : glB S.sc "isinstance" = true := by first | decide +kernel | kernel_rfl | exact of_decide_eq_true (by kernel_rfl)) (hd : (A == ("__debug__" : Str)) = false := by first | decide +kernel | kernel_rfl | exact of_decide_eq_true (by kernel_rfl))
    (hs : ∀ env, starEach [e, .Name A pA] env = [(false, eval e env), (false, eval (.Name A pA) env)] := by intro _; rfl) : EE c S (.Call (.Name "isinstance" p) [e, .Name A pA] [] pos) ρ O (.bl false) O1 := by
  obtain ⟨ta, pa, va⟩ := hx
  refine ⟨_, fun X j => pe_callB (id := "isinstance") (r := rIsi c.K) (by rw [← j.K]; exact call_isi) (j.gl hg) (by rw [j.mg]; exact hm) (by decide +kernel) (pa_cons (pa X j) (pa_cons (pe_glob (v := .ref C) (j.gl gA) (by rw [j.mg]; exact hC) rfl hd) pa_nil) (hs _)) (by decide +kernel) (by decide +kernel) (hs _) rfl, fun σ F L H ok sl Q q => ?_⟩
  refine va σ F L H ok sl _ fun v F1 L1 H1 n1 ok1 rv => ?_
  exact ⟨v, .ref C, .type t, .ref C, false, rfl, .own C, rv.tyx ok1.sub ht, hk, q _ F1 L1 H1 n1 ok1 .bl⟩
end
end DL
set_option maxRecDepth 100000
namespace DL
open PySem L2 PyProof.Rows PySem.Spec
/-! ### x != y where the class has its own __eq__ and no __ne__ -/
theorem ns_some {K : PySem.W.Frag} {h : Heap} {N : Addr} {mg : Str → Option Value} {n : Str} {v : Value} (X : K.In h) (G : h.Ns N mg) (e : PySem.W.nsIn K N n = some (some v)) : mg n = some v := by
  obtain ⟨o, es, ep, ho, hd, _, hf⟩ := G
  unfold PySem.W.nsIn at e
  split at e
  · rename_i c d es' n' sl q
    obtain rfl : o = _ := Option.some.inj (ho.symm.trans (X _ _ q))
    cases hd
    split at e
    · rename_i en he
      rw [← hf]
      unfold nsFind findBy
      rw [← Array.find?_toList, he]
      simpa using e
    · split at e <;> cases e
  · cases e
structure NeTxt (K : PySem.W.Frag) (C f : Addr) : Prop where
  cls : ∃ (nm q : Str) (N : Addr) (bs : List Value) (hdct : Bool) (sn : List Str) (sub : List Value) (ab : Bool) (col : Option Bool) (dd : Option Addr) (k0 k1 k2 k3 k5 : Option Value) (newId : String),
    K.lookup C = some (excClassObj nm q C N bs [.type "object"] hdct sn sub ab col dd k0 k1 k2 k3 k5 newId) ∧ PySem.W.nsOkIn K N = true ∧ PySem.W.nsIn K N "__eq__" = some (some (.ref f)) ∧ PySem.W.nsIn K N "__ne__" = some none
  fn : ∃ o, K.lookup f = some o ∧ o.cls = .type "function"
theorem obj_eq_there : ∃ y, typeLookup (.type "object") "__eq__" = pure y := ⟨_, PySem.F.cmp_object.eq.lookup⟩
theorem op_neM {X : Cx} {I : Ob} {C f : Addr} {fd : FuncData} {ps : List Str} {R : Fn} {k : Nat} (F : FnG X.prog X.w X.K X.mg X.base CX0 k f fd ps (spD X.K I R)) (hr : Room (k + 1) X.A) (hgd : X.A.guards = some [])
    (T : NeTxt X.K C f) (hb : Binds X.K fd ps []) : OpR X (compareOp .NotEq) (fun x y H Q => rEqM X.K I C R x y H fun v H' => ∃ k, v = .bl k ∧ Q (.bl (!k)) H') := by
  intro pins s σ H x y v u Q inv rx ry hq
  obtain ⟨a, b, dx, dy, fs, gs, rfl, rfl, ha, hb', hsp⟩ := hq
  obtain rfl : v = Value.ref a := rx
  obtain rfl : u = Value.ref b := ry
  obtain ⟨mA, JA, _⟩ := ins_get inv.hok ha
  obtain ⟨mB, JB, _⟩ := ins_get inv.hok hb'
  obtain ⟨oa, JA, _⟩ := JA.look
  obtain ⟨ob, JB, _⟩ := JB.look
  obtain ⟨nm, q, N, bs, hdct, sn, sub, ab, col, dd, k0, k1, k2, k3, k5, newId, hC, nsok, heq, hne⟩ := T.cls
  obtain ⟨of, hf, hfc⟩ := T.fn
  obtain ⟨y, hy⟩ := obj_eq_there
  have KX := inv.kIn
  have G : s.heap.Ns N (s.heap.nsMap N) := .of_isNs (PySem.W.isNs_of_in KX nsok)
  have own : s.heap.OwnEqNoNe a C f "object" [.type "object"] :=
    ⟨_, of, nm, q, N, bs, hdct, sn, sub, ab, col, dd, k0, k1, k2, k3, k5, newId, _, y, JA.at_, JA.cls, KX _ _ hC, G, ns_some KX G heq, KX _ _ hf, hfc, PySem.F.cmp_object.mro, hy, PySem.W.ns_none_of KX G hne⟩
  have un := hr.un
  obtain ⟨hp, g, d, tk, os⟩ := s
  refine compareOp_ne_ownEq PySem.F.cmp_object own JB.at_ JB.cls (by omega) ?_
  have e0 : Env0 X.prog X.w X.K X.mg X.base X.A.in1 X.stack ⟨hp, g, d, tk, os⟩ H := by
    have e := inv.env0
    exact ⟨e.frames, e.mod, e.bs, e.bsz, e.funs, e.frf, e.hok, e.bare⟩
  have hl := F.len _ _ _ _ hsp
  have bd := hb ⟨hp, g, d, tk, os⟩ [.ref a, .ref b] KX (by simpa using hl)
  refine wpAny_call (codeAny_mono (F.run X.A.in1 X.stack _ H ⟨[.ref a, .ref b], []⟩ [.ref a, .ref b] [.ref a, .ref b] _ E0 hr.in1 hgd e0 (by simpa using bd) (show Vals [V.ref a, V.ref b] [Value.ref a, Value.ref b] from .cons rfl (.cons rfl .nil)) hsp) fun r s' hq => ?_)
  match r, hq with
  | .error e, hq => exact False.elim hq
  | .ok .next, hq => exact hq.elim
  | .ok .brk, hq => exact hq.elim
  | .ok .cont, hq => exact hq.elim
  | .ok (.ret w), hq =>
    obtain ⟨z, H', inv', rz, _, k', rfl, q⟩ := inv.after hq
    obtain rfl : w = Value.bool k' := rz
    exact ⟨k', rfl, .bl (!k'), H', inv', rfl, q⟩
section
variable {c : Cn} {S : Sc} {O O' : Sto} {C : Addr} {ks ks' : List Str} {ds ds' : List D} {k : Bool}
theorem od_neM {R : Fn} {ps : List Str} {j : Nat} {f : Addr} {fd : FuncData} (FO : FnG c.P c.w c.K c.mg c.base CX0 j f fd ps (spD c.K c.I R)) (T : NeTxt c.K C f) (hb : Binds c.K fd ps []) (hR : R [.ins C ks ds, .ins C ks' ds'] O (.bl k) O') (hj : j + 1 ≤ c.k) :
    OpD c S (compareOp .NotEq) (.ins C ks ds) (.ins C ks' ds') O (.bl (!k)) O' := by
  refine ⟨fun x y H Q => rEqM c.K c.I C R x y H fun v H' => ∃ k, v = .bl k ∧ Q (.bl (!k)) H', fun X i => ?_, fun F L H v u ok rv ru => ?_⟩
  · have F' : FnG X.prog X.w X.K X.mg X.base CX0 j f fd ps (spD X.K c.I R) := by
      rw [i.P, i.w, i.K, i.mg, i.base]; exact FO
    rw [← i.K]
    exact op_neM F' (i.room.mono hj) i.gd (by rw [i.K]; exact T) (by rw [i.K]; exact hb)
  · cases rv with
    | @ins a _ dx _ _ fs h1 e1 r1 =>
      cases ru with
      | @ins b _ dy _ _ gs h2 e2 r2 =>
        intro Q q
        refine ⟨a, b, dx, dy, fs, gs, rfl, rfl, ok.sub _ _ h1, ok.sub _ _ h2, F, L, O, [.ins C ks ds, .ins C ks' ds'], .bl k, O', ok, .cons (.ins h1 e1 r1) (.cons (.ins h2 e2 r2) .nil), hR, fun w F2 L2 H2 n2 ok2 rw' => ?_⟩
        cases rw'
        exact ⟨⟨k, rfl⟩, k, rfl, q _ F2 L2 H2 n2 ok2 .bl⟩
/-- y in d, d a dict that stays -/
theorem ee_dinF {ρ : Rho} {O1 O2 : Sto} {a b : Expr} {pos : Pos} {qs : List Key} (q : Key) (hi : EE c S b ρ O (keyD q) O1) (ho : EE c S a ρ O1 (.dct qs ds) O2) (hm : behindInMarks .In a = false := by rfl) : EE c S (.Compare b [.In] [a] pos) ρ O (.bl (valD (qs.zip ds) q).isSome) O2 := by
  obtain ⟨ta, pa, va⟩ := hi
  obtain ⟨tb, pb, vb⟩ := ho
  refine ⟨_, fun X j => pe_cmp (pc_din j.hu (pa X j) (pb X j)) hm, fun σ F L H ok sl Q qq => ?_⟩
  refine va σ F L H ok sl _ fun u F1 L1 H1 n1 ok1 ru => ?_
  refine vb σ F1 L1 H1 ok1 (sl.mono c.hI n1.sub n1.pre) _ fun v F2 L2 H2 n2 ok2 rv => ?_
  cases rv with
  | @dct ad _ _ kvs h e r =>
    rw [keyD_rv ru]
    refine ⟨ad, _, rfl, DGet.k (ok2.sub _ _ h), qq _ F2 L2 H2 (n1.trans n2) ok2 ?_⟩
    have hz := dct_rv (q := q) e r
    cases hv : valD (qs.zip ds) q with
    | none => rw [hz.2 hv]; exact .bl
    | some d => obtain ⟨w, hw, _⟩ := hz.1 d hv; rw [hw]; exact .bl
/-- plain, whole numbers come out -/
theorem cr_mapI {tg elt : Expr} {vs : List Nat} {ρ : Rho} {α : Type} (g : α → D) (h : α → Int) (as : List α) (H : ∀ a ∈ as, ∃ is ρ1, GT c S tg is ρ (g a) ρ1 ∧ (∀ i ∈ is, i ∈ vs) ∧ EE c S elt ρ1 O (.int (h a)) O) : CR c S tg [] elt vs ρ (as.map g) O ((as.map h).map .int) O := by
  have := cr_map g (fun a => .int (h a)) as H
  rw [List.map_map]; exact this
end
end DL
set_option maxRecDepth 100000
/-! From a law's def to the row: the caller shows nothing, so the empty guards are there. -/
namespace DL
open PySem PySem.Spec PyProof.Rows L2

/-- a tracked heap for the script alone: told by its object, or not at all where the module itself holds it -/
theorem script_heap {P : Program} {w : World} {K : PySem.W.Frag} {h : Heap} {a : Addr} {vs : List Value} {ns : List Int} (KX : K.In h) (ha : h.get? a = some { cls := .type "list", data := .seq vs.toArray }) (hi : IntsAre vs ns) (hl : ns.length ≤ sizeLine) :
    ∃ H : Hp, (∀ b u, H b = some u → b = a ∧ ∃ o xs, u = .frz o (.lst xs)) ∧ (∀ b o, K.lookup b = some o → H b = none) ∧ SqL K H a (ns.map V.int) ∧ HOk P w H h := by
  have rv := vals_ints hi
  cases hk : K.lookup a with
  | some o =>
    obtain rfl : o = _ := Option.some.inj ((KX a o hk).symm.trans ha)
    refine ⟨fun _ => none, fun b u z => (nomatch (show (none : Option HO) = some u from z)), fun _ _ _ => rfl, .inr ⟨_, vs.toArray, _, hk, rfl, rfl, rfl, ?_, by simpa using rv⟩, fun b u z => (nomatch (show (none : Option HO) = some u from z))⟩
    rw [List.size_toArray, hi.length]; exact hl
  | none =>
    let ob : Obj := { cls := .type "list", data := .seq vs.toArray }
    let H : Hp := fun b => if b = a then some (.frz ob (.lst (ns.map V.int))) else none
    have at_ : ∀ {b u}, H b = some u → b = a ∧ u = .frz ob (.lst (ns.map V.int)) := fun {b u} z => by
      by_cases hb : b = a
      · exact ⟨hb, (Option.some.inj ((if_pos hb).symm.trans z)).symm⟩
      · exact nomatch ((if_neg hb).symm.trans z)
    refine ⟨H, fun b u z => ⟨(at_ z).1, _, _, (at_ z).2⟩, fun b o z => ?_, .inl (.inr ⟨ob, if_pos rfl⟩), fun b u z => ?_⟩
    · by_cases hb : b = a
      · subst hb; rw [hk] at z; cases z
      · exact if_neg hb
    · obtain ⟨rfl, rfl⟩ := at_ z
      exact ⟨ha, by rw [List.length_map]; exact hl, vs, _, rv, ha⟩
theorem call_law {P : Program} {w : World} {K : PySem.W.Frag} {I : Ob} {mg mb : Str → Option Value} {k : Nat} {fa a : Addr} {fd : FuncData} {x : Str} {R : Fn} {s : Shared} {vs : List Value} {ns : List Int} {O' : Sto}
    (KX : K.In s.heap) (hns : s.heap.Ns mainGlobals mg) (hb : s.heap.Ns builtinsNs mb) (hbb : ∀ x : Str, x ≠ "__name__" → mb x = bootBuiltins x) (hlim : s.heap.NoLimit) (hg : s.gens = #[])
    (ha : s.heap.get? a = some { cls := .type "list", data := .seq vs.toArray }) (hi : IntsAre vs ns) (hl : ns.length ≤ sizeLine) (hr : Room k callerA) (hgd : callerA.guards = some [])
    (F : ∀ base : Heap, K.In base → base.Ns mainGlobals mg → FnG P w K mg base CX0 k fa fd [x] (spD K I R)) (hbind : ∀ (s : Shared) (u : Value), BindsTo s fd ⟨[u], []⟩ [(x, u)]) (hR : R [.rd (ns.map .int)] [] (.bl true) O') (hT : I.T = []) :
    codeAny (model P w) callerA (.call (.ref fa) ⟨[.ref a], []⟩) (fun r s' => r = .ok (.ret (.bool true)) ∧ OldK s.heap s'.heap ∧ s'.os = s.os ∧ AllBare s'.gens) s := by
  obtain ⟨H, hA, hK, hS, hok⟩ := script_heap (P := P) (w := w) KX ha hi hl
  have free : ∀ {b : Addr} {o : Obj} {es : Array DictEntry} {n : Nat}, s.heap.get? b = some o → o.data = .dict es n → H b = none := fun {b o es n} e d => by
    cases q : H b with
    | none => rfl
    | some u =>
      obtain ⟨rfl, _⟩ := hA b u q
      obtain rfl : o = _ := Option.some.inj (e.symm.trans ha)
      exact nomatch (show Data.seq vs.toArray _ = Data.dict es n from d)
  have names : ∀ {b : Addr} {m : Str → Option Value}, s.heap.Ns b m → (hidT s.heap H).Ns b m := fun ⟨o, es, n, e, d, r⟩ => ⟨o, es, n, hidT_get e (free e d), d, r⟩
  have kin : K.In (hidT s.heap H) := fun b o e => hidT_get (KX b o e) (hK b o e)
  have env : Env0 P w K mg (hidT s.heap H) callerA [] s H :=
    ⟨rfl, ⟨kin, names hns, ⟨mb, names hb, hbb⟩, let ⟨mc, h1, h2⟩ := hlim; ⟨mc, names h1, h2⟩⟩, fun b o e => of_hidT e, Nat.le_of_eq (hidT_size _ _), trivial, fun b hb => absurd (show b ∈ ([] : List Addr) from hb) (by simp), hok, .of_eq hg⟩
  have sp : spD K I R [.ref a] H (fun v _ => v = .bl true) E0 := by
    refine ⟨H, [], [], [.rd (ns.map .int)], .bl true, O', ⟨.refl _, fun i j b e => by simp at e, rfl, fun k b e => by simp at e, fun t ht => (by rw [hT] at ht; cases ht), fun k b c e => by simp at e⟩, .cons (.rd hS (RVs.of_ints ns)) .nil, hR, fun v F' L' H' _ _ rv => ?_⟩
    cases rv; rfl
  refine codeAny_mono ((F _ kin (names hns)).run callerA [] s H ⟨[.ref a], []⟩ [.ref a] [.ref a] _ _ hr hgd env (hbind s (.ref a)) (.cons rfl .nil) sp) fun r s' h => ?_
  match r, h with
  | .error e, h => exact False.elim h
  | .ok .next, h => exact h.elim
  | .ok .brk, h => exact h.elim
  | .ok .cont, h => exact h.elim
  | .ok (.ret u), ⟨v, H', os, bare, un, hok', r', q⟩ =>
    have q : v = .bl true := q
    subst q
    obtain rfl : u = Value.bool true := r'
    refine ⟨rfl, OldK.of_keep fun b o e => ?_, os, bare⟩
    cases z : H b with
    | none => exact un.keep b o e z (fun m => absurd (show b ∈ ([] : List Addr) from m) (by simp)) (by simp)
    | some u =>
      obtain ⟨rfl, ob, xs, rfl⟩ := hA b u z
      obtain ⟨e1, _⟩ := hok b _ z
      obtain ⟨e2, _⟩ := hok' b _ (un.frzs b ob _ z)
      rw [e] at e1; cases e1; exact e2
/-- what k_head leaves, from the law's def -/
theorem walk_law {l : PySem.W.OpenLaw} {n k : Nat} {q : Program} {loose : List Str} {XP : (Str → Option Value) → Heap → Prop} {YP : World → Heap → Prop} {d : DefRec} {K : Params → PySem.W.Frag} {I : Ob} {R : Fn} {x : Str}
    (hn : l.most = some n) (hn2 : n ≤ sizeLine) (hdf : d.params.defaults = []) (hr : Room k callerA) (hgd : callerA.guards = some []) (hY : ∀ (w : World) (h : Heap), YP w h → (K w.params).In h)
    (F : ∀ (w : World) (mg : Str → Option Value) (fa : Addr) (h : Heap), (K w.params).In h → h.Ns mainGlobals mg → mg d.name = some (.ref fa) →
      ∃ fd : FuncData, (∀ (s : Shared) (u : Value), BindsTo s fd ⟨[u], []⟩ [(x, u)]) ∧ ∀ base : Heap, (K w.params).In base → base.Ns mainGlobals mg → FnG l.prog w (K w.params) mg base CX0 k fa fd [x] (spD (K w.params) I R))
    (hR : ∀ ns : List Int, ns.length ≤ n → ∃ O', R [.rd (ns.map .int)] [] (.bl true) O') (hT : I.T = []) : PySem.W.WalkO q loose XP YP l.row.toRowW d [] (fun f vs => PySem.call f vs) := by
  refine Att.attach_call hn hdf fun w s₀ s₁ mg mb fa o pm cd doc a vs ns G Y ho hd hcd hmg hobj hints hlen hg => ?_
  have KX := hY w _ Y
  obtain ⟨fd, hb, hF⟩ := F w mg fa _ KX G.T.g hmg
  obtain ⟨O', hR'⟩ := hR ns hlen
  exact call_law KX G.T.g G.T.b G.T.builtins G.T.nolimit hg hobj hints (Nat.le_trans hlen hn2) hr hgd hF hb hR' hT
end DL
set_option maxRecDepth 100000
namespace DL
open PySem L2 PyProof.Rows PySem.Spec
section
variable {c : Cn} {S : Sc} {ρ ρ1 ρ2 : Rho} {O O1 O2 O3 : Sto} {a b e : Expr} {es : List Expr} {d x y z : D} {ds rs xs ys : List D} {pos p : Pos} {i j : Int} {k : Nat}
/-- xs * n -/
theorem od_rep {n : Int} (h0 : n < 2 ^ 63) (h1 : -(2 ^ 63) ≤ n) (h : xs.length * n.toNat ≤ 16777216) : OpD c S (binaryOp .Mult) (.lst xs) (.int n) O (.lst (List.replicate n.toNat xs).flatten) O :=
  ⟨rRep, fun X _ => op_rep, fun F L H v u ok rv ru => by
    cases rv with
    | lst q1 r1 =>
      cases ru
      intro Q q
      rename_i a vs
      have rr : ∀ m : Nat, RVs c.K c.I F L (List.replicate m xs).flatten (List.replicate m vs).flatten := fun m => by
        induction m with
        | zero => exact .nil
        | succ m ih => simp only [List.replicate_succ, List.flatten_cons]; exact r1.append ih
      refine ⟨a, n, vs, rfl, rfl, ok.sub _ _ q1, h1, h0, ?_, fun p hp => ?_⟩
      · rw [← r1.length]; exact line_ok h
      · obtain ⟨ok2, nx⟩ := ok.put c.hI hp (o := .lst (List.replicate n.toNat vs).flatten)
        exact q _ _ _ _ nx ok2 (.lst (upd_same ..) ((rr _).mono c.hI nx.sub nx.pre))⟩
/-- i // j, j below 10 ^ 41 -/
theorem od_fdivW (h0 : 0 < j) (h : j < 10 ^ 41) : OpD c S (binaryOp .FloorDiv) (.int i) (.int j) O (.int (i / j)) O :=
  od_cond (g := fun i j => i / j) (C := CDivW) (fun X => op_fdivW) ⟨h0, Nat.lt_trans (log2_lt_of (m := 140) (Nat.lt_trans (show j.natAbs < 10 ^ 41 by omega) (by decide)) (by decide)) (by decide)⟩
theorem flat1 (x : D) (k : Bool) : (List.replicate (if k = true then (1 : Int) else 0).toNat [x]).flatten = if k = true then [x] else [] := by
  cases k <;> rfl
/-- max, min of a list of ints -/
theorem cd_maxL {ns : List Int} {m : Int} (hm : m ∈ ns) (hb : ∀ y ∈ ns, y ≤ m) : CaD c S (.builtin "max") [.lst (ns.map .int)] O (.int m) O :=
  ⟨rMax c.K, fun X j => by rw [← j.K]; exact cr_max j.calm, fun F L H vs ok rs => by
    cases rs with
    | cons r t =>
      cases t
      cases r with
      | lst q r =>
        intro Q q2
        have e := RVs.ints r
        subst e
        refine ⟨_, ns, rfl, .inl (.inl (ok.sub _ _ q)), List.length_pos_of_mem hm, fun m' h1 h2 => ?_⟩
        have : m' = m := Int.le_antisymm (hb _ h1) (h2 _ hm)
        subst this
        exact q2 _ _ _ _ (Nxt.refl _ _ _) ok .int⟩
theorem cd_minL {ns : List Int} {m : Int} (hm : m ∈ ns) (hb : ∀ y ∈ ns, m ≤ y) : CaD c S (.builtin "min") [.lst (ns.map .int)] O (.int m) O :=
  ⟨rMin c.K, fun X j => by rw [← j.K]; exact cr_min j.calm, fun F L H vs ok rs => by
    cases rs with
    | cons r t =>
      cases t
      cases r with
      | lst q r =>
        intro Q q2
        have e := RVs.ints r
        subst e
        refine ⟨_, ns, rfl, .inl (.inl (ok.sub _ _ q)), List.length_pos_of_mem hm, fun m' h1 h2 => ?_⟩
        have : m' = m := Int.le_antisymm (h2 _ hm) (hb _ h1)
        subst this
        exact q2 _ _ _ _ (Nxt.refl _ _ _) ok .int⟩
/-- sorted(xs) of ints: the list that is sorted and has the same members as often -/
def srt (ns : List Int) : List Int := ns.mergeSort (fun a b => decide (a ≤ b))
theorem srt_perm (ns : List Int) : (srt ns).Perm ns := List.mergeSort_perm ns _
theorem srt_pw (ns : List Int) : (srt ns).Pairwise (· ≤ ·) := by
  have h := List.pairwise_mergeSort (le := fun a b : Int => decide (a ≤ b)) (fun a b c h1 h2 => by simp at *; omega) (fun a b => by simp; omega) ns
  exact h.imp fun {a b} q => by simpa using q
theorem srt_uniq {ns ms : List Int} (h1 : ms.Perm ns) (h2 : ms.Pairwise (· ≤ ·)) : ms = srt ns :=
  (h1.trans (srt_perm ns).symm).eq_of_pairwise (fun a b _ _ p q => Int.le_antisymm p q) h2 (srt_pw ns)
theorem cd_sortedI {ns : List Int} : CaD c S (.builtin "sorted") [.lst (ns.map .int)] O (.lst ((srt ns).map .int)) O :=
  ⟨rSortedI c.K, fun X j => by rw [← j.K]; exact cr_sortedI, fun F L H vs ok rs => by
    cases rs with
    | cons r t =>
      cases t
      cases r with
      | lst q r =>
        intro Q q2
        have e := RVs.ints r
        subst e
        refine ⟨_, ns, rfl, .inl (.inl (ok.sub _ _ q)), fun ms p h1 h2 hp => ?_⟩
        have := srt_uniq h1 h2
        subst this
        obtain ⟨ok2, nx⟩ := ok.put c.hI hp (o := .lst ((srt ns).map V.int))
        exact q2 _ _ _ _ nx ok2 (.lst (upd_same ..) (RVs.of_ints _))⟩
end
end DL
set_option maxRecDepth 100000
namespace DL
open PySem L2 PyProof.Rows PySem.Spec
section
variable {c : Cn} {S : Sc} {ρ ρ1 ρ2 : Rho} {O O1 O2 O3 : Sto} {a b e : Expr} {es : List Expr} {d x y z : D} {ds rs xs ys : List D} {pos p : Pos} {i j : Int} {k : Nat}
/-- repr of a list that is a cell -/
theorem cd_reprC {gs : List D} (hk : O[k]? = some (.lst gs)) (h : Sh 40 200000 (.lst gs)) : CaD c S (.builtin "repr") [.loc k] O (.str (D.lst gs).py.shown) O :=
  cd_reprG (d' := .lst gs) h fun F L H v ok r => by
    cases r with
    | loc ha =>
      obtain ⟨hF, vs, h1, h2⟩ := ok.cellL ha hk
      exact ⟨.lst (.inl (.inl h1)) (RVs.dp ok.sub (by have := h.dat; simpa [D.dat] using this) h2), _, rfl⟩
/-- a call that leaves a dict and then its list: the list as a value -/
theorem frz2 {kvs : List (Key × D)} (h : EE c S e ρ O (.loc (O.length + 1)) (O ++ [.dct kvs, .lst rs])) (hv : freeAll (kvs.map (·.2)) = true) (hr : freeAll rs = true) : EE c S e ρ O (.lst rs) O := by
  have e1 : O.length + 1 = (O ++ [Cell.dct kvs]).length := by simp
  have e2 : O ++ [Cell.dct kvs, .lst rs] = (O ++ [Cell.dct kvs]) ++ [.lst rs] := by simp
  rw [e1, e2] at h
  refine EE.drop (J := [.dct kvs]) (EE.frz h (by simp) hr fun hO => ?_) (Nat.le_refl _) (D.free_lk _ _ (by simpa [D.free] using hr)) id
  unfold stoLk stoBelow at hO ⊢
  rw [List.all_append, List.all_cons, List.all_nil, Bool.and_true]
  refine Bool.and_eq_true_iff.mpr ⟨List.all_eq_true.mpr fun x hx => ?_, freeAll_lk _ _ hv⟩
  exact cell_lk_up (by simp) ((List.all_eq_true.mp hO) x hx)
end
theorem freeAll_map' {α : Type} (f : α → D) (h : ∀ a, (f a).free = true) (l : List α) : freeAll (l.map f) = true := freeAll_iff.mpr fun d hd => by obtain ⟨a, _, rfl⟩ := List.mem_map.mp hd; exact h a
theorem freeI (l : List Int) : freeAll (l.map .int) = true := freeAll_map' _ (fun _ => rfl) l
/-! lists of ints as data -/
theorem lay_ints (l : List Int) : LayD (.lst (l.map .int)) := by
  have hd : datAll (l.map .int) = true := by induction l with | nil => rfl | cons x l ih => simp [datAll, D.dat, ih]
  have hc : PyData.canLayAll0 (pyAll (l.map .int)) = true := by induction l with | nil => rfl | cons x l ih => simp [pyAll, D.py, PyData.canLayAll0, PyData.canLay0, ih (by simp [datAll] at hd; exact hd.2)]
  have hq : PyData.depthAll (pyAll (l.map .int)) ≤ 0 := by
    clear hd hc
    induction l with
    | nil => exact Nat.zero_le _
    | cons p ps ih => exact Nat.max_le.mpr ⟨Nat.le_of_ble_eq_true rfl, ih⟩
  refine ⟨by simpa [D.dat] using hd, ?_⟩
  unfold SeqAt.shaped
  refine Bool.and_eq_true_iff.mpr ⟨hc, decide_eq_true ?_⟩
  show PyData.depthAll (pyAll (l.map .int)) + 1 ≤ 64
  omega
theorem eqv_ints : ∀ l m : List Int, PyData.eqv (D.lst (l.map .int)).py (D.lst (m.map .int)).py = decide (l = m) := by
  intro l m
  show PyData.eqvAll (pyAll (l.map .int)) (pyAll (m.map .int)) = _
  induction l generalizing m with
  | nil => cases m with
    | nil => rfl
    | cons y m => simp [pyAll, PyData.eqvAll]
  | cons x l ih => cases m with
    | nil => simp [pyAll, PyData.eqvAll]
    | cons y m =>
      show (PyData.eqv (.int x) (.int y) && PyData.eqvAll (pyAll (l.map .int)) (pyAll (m.map .int))) = _
      rw [ih m, Bool.eq_iff_iff]
      simp [PyData.eqv]
theorem lay_bl (b : Bool) : LayD (.bl b) := ⟨rfl, by cases b <;> decide +kernel⟩
theorem eqv_bl (a b : Bool) : PyData.eqv (D.bl a).py (D.bl b).py = decide (a = b) := by cases a <;> cases b <;> decide +kernel
theorem sh_ints {l : List Int} (h : ∀ x ∈ l, Big x) (hn : l.length ≤ 1000) : Sh 1 1000 (.lst (l.map .int)) := by
  refine (Sh.lst (n := 1000) (k := 0) (b := 0) (fun x hx => ?_) (by simpa using hn)).up (by decide) (by decide)
  obtain ⟨i, hi, rfl⟩ := List.mem_map.mp hx
  exact Sh.int (h i hi)
theorem atI_neg {α : Type} {l : List α} {v : α} (h : l.getLast? = some v) : atI l (-1) = some v := by
  cases l with
  | nil => simp at h
  | cons x l =>
    have hl : (x :: l).getLast? = (x :: l)[(x :: l).length - 1]? := List.getLast?_eq_getElem?
    rw [hl] at h
    unfold atI ixN
    have h1 : ¬ (0 : Int) ≤ -1 := by decide
    have h2 : -((x :: l).length : Int) ≤ -1 := by simp; omega
    rw [if_neg h1]
    simp only [List.length_cons] at h h2 ⊢
    have h3 : ((-1 : Int) + ((l.length + 1 : Nat) : Int)).toNat = l.length := by omega
    simp_all
end DL
set_option maxRecDepth 100000
namespace DL
open PySem L2 PyProof.Rows PySem.Spec
section
variable {c : Cn} {S : Sc} {ρ ρ1 ρ2 : Rho} {O O1 O2 O3 : Sto} {a b e tg iter elt : Expr} {es ifs : List Expr} {d x y z : D} {ds rs xs ys : List D} {pos p : Pos} {i j : Int} {k : Nat}
theorem lc_cell {scope : Scope} {vs : List Nat} {wi : TI} (vi : ∀ (σ : L2.St) (F : Hp) (L : List Addr) (H : Hp), OkH c.K c.I F L H O → Sl c.K c.I F L ρ σ → ∀ R : It → Hp → Prop, (∀ J F' L' H', Nxt F L H F' L' H' → OkH c.K c.I F' L' H' O1 → YldOk c.K c.I J F' L' ds → R J H') → wi σ H R)
    (hc : CR c (S.blk scope) tg ifs elt vs (wipeR ρ vs) ds O1 rs O2) (hz : ds.length < 16777216) : Ev c.K c.I (tLc wi (supG c (S.blk scope) tg) (supI c (S.blk scope) ifs) (supE c (S.blk scope) elt) vs) ρ O (.loc O2.length) (O2 ++ [.lst rs]) := by
  intro σ F L H ok sl Q q
  refine lc_ev vi hc hz ok sl Q fun p F' L' H' acc n ok' hp hF hH hacc rs' => ?_
  have get : ∀ {k : Nat} {a : Addr}, (L' ++ [p])[k]? = some a → (L'[k]? = some a ∧ a ≠ p ∧ k < L'.length) ∨ (k = L'.length ∧ a = p) := fun {k a} e => by
    by_cases hk : k < L'.length
    · rw [List.getElem?_append_left hk] at e
      exact .inl ⟨e, fun z => hp (z ▸ mem_of_get e), hk⟩
    · rw [List.getElem?_append_right (by omega)] at e
      have : k - L'.length = 0 := by
        have := (List.getElem?_eq_some_iff.mp e).1
        simp at this; omega
      rw [this] at e
      simp at e
      exact .inr ⟨by omega, e.symm⟩
  refine q _ F' (L' ++ [p]) H' ⟨n.sub, n.pre.trans (.app _ _), n.frm, n.tbl, fun a h m => ?_, n.nwF⟩ ⟨ok'.sub, fun i j a h1 h2 => ?_, by simp [ok'.len], fun k a e => ?_, ok'.tabApp hacc, fun k a cl e g => ?_⟩ (.loc (by rw [← ok'.len]; simp))
  · rcases List.mem_append.mp h with z | z
    · exact n.new a z m
    · rw [List.mem_singleton.mp z]; exact hH
  · rcases get h1 with ⟨e1, n1, l1⟩ | ⟨e1, rfl⟩ <;> rcases get h2 with ⟨e2, n2, l2⟩ | ⟨e2, z⟩
    · exact ok'.nd i j a e1 e2
    · exact absurd z n1
    · exact absurd rfl n2
    · omega
  · rcases get e with ⟨e1, _, _⟩ | ⟨_, rfl⟩
    · exact ok'.has k a e1
    · exact ⟨_, hacc⟩
  · rcases get e with ⟨e1, n1, l1⟩ | ⟨e1, rfl⟩
    · rw [List.getElem?_append_left (by rw [← ok'.len]; exact l1)] at g
      exact (ok'.cell k a cl e1 g).mono c.hI (.refl _) (.app _ _) (fun _ h => h) rfl
    · have : k = O2.length := by rw [← ok'.len]; exact e1
      subst this
      simp at g
      subst g
      exact ⟨hF, acc, hacc, rs'.mono c.hI (.refl _) (.app _ _)⟩
/-- x = [..], x a local name, the list a cell -/
theorem s_setLcN {scope : Scope} (i : Nat) {y : Str} {py spos : Pos} (own : List (Str × Nat)) (hi : IT c S tg iter ρ O ds O1) (hc : CR c (S.blk scope) tg ifs elt (own.map (·.2)) (wipeR ρ (own.map (·.2))) ds O1 rs O2) (hz : ds.length < 16777216)
    (hN : S.N[i]? = some y := by rfl) (hl : locB S.sc y = true := by first | decide +kernel | kernel_rfl | exact of_decide_eq_true (by kernel_rfl)) (hb : blkC S.N S.sc scope own = true := by first | decide +kernel | kernel_rfl | exact of_decide_eq_true (by kernel_rfl)) (nd : S.N.Nodup := by first | decide +kernel | kernel_rfl | exact of_decide_eq_true (by kernel_rfl)) (hs : ∀ env x, foldedSetIterable iter env x = pure x := by intro _ _; rfl)
    (hsw : ∀ q L f cd, swapsWith (.ListComp elt [{ target := tg, iter := iter, ifs := ifs, is_async := 0 }] scope pos) (some (.Name y py)) spos.line (envOfC q S.sc L f cd) = pure true := by intro _ _ _ _; exact sw_true rfl rfl rfl (by decide +kernel)) :
    S1 c S (.Assign [.Name y py] (.ListComp elt [{ target := tg, iter := iter, ifs := ifs, is_async := 0 }] scope pos) spos) ρ O (.nx (ρ.set i (some (.loc O2.length))) (O2 ++ [.lst rs])) := by
  obtain ⟨wi, pi, vi⟩ := hi
  refine ⟨_, fun X jj => ps_setLc (i := i) (own := own) jj.1.calm (by rw [jj.1.N]; exact nd) (by rw [jj.1.N]; exact hN) (by rw [jj.1.sc]; exact locB.loc hl) (by obtain ⟨q, L, f, cd, e⟩ := jj.2; rw [e]; exact hsw _ _ _ _) (pi X jj.1) (by rw [jj.1.N, jj.1.sc]; exact blkOk_by hb) (fun s H C cl fp => p_supG (jj.1.blk s H scope C cl fp)) (fun s H C cl fp => p_supI (jj.1.blk s H scope C cl fp)) (fun s H C cl fp => p_supE (jj.1.blk s H scope C cl fp)) (hs _), ?_⟩
  intro σ F L H ok sl E hE
  exact lc_cell vi hc hz σ F L H ok sl _ fun v F1 L1 H1 n1 ok1 rv => hE _ F1 L1 H1 n1 ok1 ((sl.mono c.hI n1.sub n1.pre).set rv)
/-- a list as a test -/
theorem et_truL (ha : EE c S e ρ O (.lst xs) O1) (h : ∀ env whole, PySem.isTrue e env whole = (do let v ← whole; standAt e.pos; holding [v] (truthy v)) := by intro _ _; rfl) : ET c S e ρ O (!xs.isEmpty) O1 := by
  obtain ⟨ta, pa, va⟩ := ha
  refine ⟨fun σ H Q => ta σ H fun x H' => ∃ k, TruV c.K x H' k ∧ Q k H', fun X j => by have := pt_truth (pa X j) (h _); rw [j.K] at this; exact this, ?_⟩
  intro σ F L H ok sl Q q
  refine va σ F L H ok sl _ fun v F1 L1 H1 n1 ok1 rv => ?_
  cases rv with
  | lst hq rs =>
    rename_i a vs
    refine ⟨!xs.isEmpty, .inl ⟨vs, .inl (.inl (ok1.sub _ _ hq)), ?_⟩, q F1 L1 H1 n1 ok1⟩
    have := rs.length
    cases xs <;> cases vs <;> simp_all
end
/-! a slice up to n, up to -n -/
theorem cutTo (xs : List D) (n : Nat) : cutD xs none (some (n : Int)) = xs.take n := by
  unfold cutD
  rw [HT.sIx_nat]
  simp only [HT.sIx_none, List.drop_zero, Nat.sub_zero]
  rw [← List.take_take, List.take_length]
theorem cutTo2 (xs : List D) (x y : D) : cutD (xs ++ [x, y]) none (some (-2)) = xs := by
  unfold cutD HT.sIx
  have e : ((-2 : Int) + ((xs ++ [x, y]).length : Int)).toNat = xs.length := by simp; omega
  simp only [if_pos (show (-2 : Int) < 0 by decide), e, List.drop_zero, Nat.sub_zero]
  exact List.take_left' rfl
def intsFrom (x : Int) : Nat → List Int
  | 0 => []
  | n + 1 => x :: intsFrom (x + 1) n
theorem ints_from (x : Int) : ∀ n, rangeD x n = (intsFrom x n).map .int := by
  intro n
  unfold rangeD
  induction n generalizing x with
  | zero => rfl
  | succ n ih =>
    rw [List.range_succ_eq_map, List.map_cons, List.map_map, intsFrom, List.map_cons, ← ih (x + 1)]
    simp
    intro i _
    omega
end DL
set_option maxRecDepth 100000
namespace DL
open PySem L2 PyProof.Rows PySem.Spec
section
variable {c : Cn} {S : Sc} {ρ ρ1 ρ2 : Rho} {O O1 O2 O3 : Sto} {a b e tg iter elt : Expr} {es ifs : List Expr} {d x y z : D} {ds rs xs ys : List D} {pos p : Pos} {i j : Int} {k : Nat}
theorem cd_reprN : CaD c S (.builtin "repr") [.non] O (.str (D.py .non).shown) O := by
  refine ⟨fun xs H Q => xs = [.non] ∧ Q (.str "None") H, fun X j => ?_, fun F L H vs ok rs => by cases rs with | cons r t => cases t; cases r; exact SemR.here ok .str fun Q q => ⟨rfl, q⟩⟩
  intro pins s σ H xs us Q I r hq
  obtain ⟨rfl, q⟩ := hq
  obtain ⟨u, rfl, ru⟩ := vals1 r
  cases ru
  exact PySem.P.repr_of_none ⟨.str _, H, I.tok _, ⟨_, rfl⟩, q⟩
theorem cd_reprB {k : Bool} : CaD c S (.builtin "repr") [.bl k] O (.str (D.py (.bl k)).shown) O := by
  refine ⟨fun xs H Q => xs = [.bl k] ∧ Q (.str (if k then "True" else "False")) H, fun X j => ?_, fun F L H vs ok rs => by cases rs with | cons r t => cases t; cases r; exact SemR.here ok .str fun Q q => ⟨rfl, by cases k <;> exact q⟩⟩
  intro pins s σ H xs us Q I r hq
  obtain ⟨rfl, q⟩ := hq
  obtain ⟨u, rfl, ru⟩ := vals1 r
  cases ru
  exact PySem.P.repr_of_bool ⟨.str _, H, I.tok _, ⟨_, rfl⟩, q⟩
end
theorem cutFrom (xs : List D) (n : Nat) : cutD xs (some (n : Int)) none = xs.drop n := by
  unfold cutD
  rw [HT.sIx_nat]
  simp only [HT.sIx_none]
  rcases Nat.le_total n xs.length with h | h
  · rw [Nat.min_eq_left h]; exact List.take_of_length_le (by simp)
  · rw [Nat.min_eq_right h, List.drop_eq_nil_of_le (Nat.le_refl _), List.drop_eq_nil_of_le h]; simp
end DL
set_option maxRecDepth 100000
namespace DL
open PySem L2 PyProof.Rows PySem.Spec
section
variable {c : Cn} {S : Sc} {ρ ρ1 ρ2 : Rho} {O O1 O2 O3 J : Sto} {a b e tg iter elt : Expr} {es ifs : List Expr} {d x y z : D} {ds rs xs ys : List D} {pos p : Pos} {i j : Int} {k : Nat} {C : Addr} {ks : List Str}
/-- a dict that comes last and is not changed any more is a value -/
theorem EE.frzD {e : Expr} {kvs : List (Key × D)} (h : EE c S e ρ O (.loc O1.length) (O1 ++ [.dct kvs])) (hl : O.length ≤ O1.length) (hd : freeAll (kvs.map (·.2)) = true) (hb : stoLk O = true → stoLk O1 = true) : EE c S e ρ O (.dct (kvs.map (·.1)) (kvs.map (·.2))) O1 := by
  obtain ⟨t, p, v⟩ := h
  refine ⟨t, p, fun σ F L H ok sl Q q => v σ F L H ok sl Q fun w F1 L1 H1 n1 ok1 rv => ?_⟩
  cases rv with
  | @loc _ ad ha =>
    obtain ⟨hF, vs, h1, h2, h3⟩ := ok1.cell O1.length ad (.dct kvs) ha (by simp)
    have hsub : Sub F1 (upd F1 ad (.dK vs)) := Sub.up hF
    have ok2 : OkH c.K c.I (upd F1 ad (.dK vs)) L1 H1 (O1 ++ [.dead]) := by
      refine ⟨fun b u e => ?_, ok1.nd, by simpa using ok1.len, ok1.has, ok1.tabTold h1 hF, fun j b cl e g => ?_⟩
      · by_cases hb : b = ad
        · subst hb; rw [upd_same] at e; cases e; exact h1
        · rw [upd_ne hb] at e; exact ok1.sub b u e
      · by_cases hj : j < O1.length
        · rw [List.getElem?_append_left hj] at g
          have hb : b ≠ ad := fun z => by have := ok1.nd j O1.length b e (z ▸ ha); omega
          exact (ok1.cell j b cl e (by rw [List.getElem?_append_left hj]; exact g)).mono c.hI hsub (.refl _) (fun _ h => by rw [upd_ne hb]; exact h) rfl
        · rw [List.getElem?_append_right (by omega)] at g
          have : j - O1.length = 0 := by
            have := (List.getElem?_eq_some_iff.mp g).1
            simp at this; omega
          rw [this] at g
          simp at g
          subst g
          trivial
    have n2 : Nxt F1 L1 H1 (upd F1 ad (.dK vs)) L1 H1 := ⟨hsub, .refl _, fun _ _ e _ _ => e, fun _ ps e _ => ⟨ps, e⟩, fun _ h n => absurd h n, fun b u e n m => by
      by_cases hb : b = ad
      · exact absurd (hb ▸ mem_of_get ha) m
      · rw [upd_ne hb, n] at e; cases e⟩
    refine q _ _ (L1.take O1.length) H1 ((n1.trans n2).cut (by rw [ok.len]; exact hl)) (ok2.cut (hb ok.isLk)) (.dct upd_same h2.symm (RVs.anyL hd (h3.mono c.hI hsub (.refl _))))
/-- d.get(y, x), d a dict that stays -/
theorem ee_dget2F {qs : List Key} {apos cpos : Pos} (q : Key) (ho : EE c S a ρ O (.dct qs ds) O1) (hi : EE c S b ρ O1 (keyD q) O2) (hf : EE c S e ρ O2 x O3)
    (h1 : ∀ env, attributeBase a "get" env (eval a env) = eval a env := by intro _; rfl)
    (h2 : ∀ env, ((backTo cpos (starEach [b, e] env)).all (fun x => !x.1) && (backToKw cpos (keywordEach [] env)).all (fun x => x.1.isSome) && decide (([b, e] : List Expr).length + ([] : List Keyword).length + (if ([] : List Keyword).isEmpty then 0 else 1) < 30)) = true := by intro _; rfl)
    (h3 : (apos.endLine == cpos.line) = true := by rfl) (h4 : ∀ env, backTo cpos (starEach [b, e] env) = [(false, eval b env), (false, eval e env)] := by intro _; rfl) : EE c S (.Call (.Attribute a "get" apos) [b, e] [] cpos) ρ O ((valD (qs.zip ds) q).getD x) O3 := by
  obtain ⟨ta, pa, va⟩ := ho
  obtain ⟨tb, pb, vb⟩ := hi
  obtain ⟨te, pe, ve⟩ := hf
  refine ⟨_, fun X j => pe_dget2 j.hu (pa X j) (pb X j) (pe X j) ⟨h1 _, h2 _, h3, h4 _⟩, fun σ F L H ok sl Q qq => ?_⟩
  refine va σ F L H ok sl _ fun v F1 L1 H1 n1 ok1 rv => ?_
  cases rv with
  | @dct ad _ _ kvs g1 g2 g3 =>
    refine ⟨ad, rfl, .inl ⟨_, .inl (ok1.sub _ _ g1)⟩, ?_⟩
    have sl1 := sl.mono c.hI n1.sub n1.pre
    refine vb σ F1 L1 H1 ok1 sl1 _ fun u F2 L2 H2 n2 ok2 ru => ?_
    refine ve σ F2 L2 H2 ok2 (sl1.mono c.hI n2.sub n2.pre) _ fun w F3 L3 H3 n3 ok3 rw' => ?_
    rw [keyD_rv ru]
    have g3' := (g3.mono c.hI n2.sub n2.pre).mono c.hI n3.sub n3.pre
    refine ⟨_, DGet.k (ok3.sub _ _ (n3.sub _ _ (n2.sub _ _ g1))), qq _ F3 L3 H3 ((n1.trans n2).trans n3) ok3 ?_⟩
    cases e : valD (qs.zip ds) q with
    | none => rw [(dct_rv (q := q) g2 g3').2 e]; exact rw'
    | some d => obtain ⟨v', hv, r⟩ := (dct_rv (q := q) g2 g3').1 d e; rw [hv]; exact r
/-- dict(xs), xs a list of pairs (key, value) with different keys: as a value -/
theorem cd_dictP {kvs : List (Key × D)} (nd : (kvs.map (·.1)).Nodup) : CaD c S (.type "dict") [.lst (kvs.map fun kv => .tup [keyD kv.1, kv.2])] O (.dct (kvs.map (·.1)) (kvs.map (·.2))) O :=
  ⟨_, fun X j => by have := call_dictP (X := X) j.calm; rw [j.K] at this; exact this, fun F L H vs ok rs => by
    cases rs with
    | cons r t =>
      cases t
      cases r with
      | @lst ad _ ws q r =>
        have hx : ∀ {kvs : List (Key × D)} {ws : List V}, RVs c.K c.I F L (kvs.map fun kv => .tup [keyD kv.1, kv.2]) ws → ∃ (ps : List Addr) (us : List (Key × V)), ws = ps.map V.ref ∧ kvs.map (·.1) = us.map (·.1) ∧ RVs c.K c.I F L (kvs.map (·.2)) (us.map (·.2)) ∧ Paired (fun p kv => SqT c.K H p [kV kv.1, kv.2]) ps us := by
          intro kvs
          induction kvs with
          | nil => intro ws r; cases r; exact ⟨[], [], rfl, rfl, .nil, .nil⟩
          | cons kv kvs ih =>
            intro ws r
            cases r with
            | cons h t =>
              obtain ⟨ps, us, e1, e2, e3, e4⟩ := ih t
              cases h with
              | @tup b _ vs h1 h2 =>
                cases h2 with
                | cons g1 g2 =>
                  cases g2 with
                  | cons g2 g3 =>
                    cases g3
                    have ek := keyD_rv g1
                    subst ek
                    rename_i w
                    exact ⟨b :: ps, (kv.1, w) :: us, by rw [e1]; rfl, by simp [e2], .cons g2 e3, .cons (ok.sub.sqT h1) e4⟩
        obtain ⟨ps, us, e1, e2, e3, e4⟩ := hx r
        subst e1
        intro Q qq
        refine ⟨ad, ps, us, rfl, .inl (.inl (ok.sub _ _ q)), e4, fun p hp => ?_⟩
        rw [mergeK_nd (acc := []) (by simpa [← e2] using nd), List.nil_append]
        obtain ⟨ok2, nx⟩ := ok.put c.hI hp (o := .dK us)
        exact qq _ _ _ _ nx ok2 (.dct (upd_same ..) e2.symm (e3.mono c.hI nx.sub nx.pre))⟩
/-- isinstance(x, T), x an instance of an own class, T built in -/
theorem cd_isiI {n : String} (T : ClsIs c.K C) (hk : PySem.W.kitOne c.K (.ref C) (.type n) = some false) : CaD c S (.builtin "isinstance") [.ins C ks ds, .ty n] O (.bl false) O := ⟨rIsi c.K, fun X j => by rw [← j.K]; exact call_isi, fun F L H vs ok rs => by
  cases rs with
  | cons r t' =>
    cases t' with
    | cons r2 t2 =>
      cases t2; cases r2
      cases r with
      | @ins a _ dx _ _ fs h1 e1 r1 => exact SemR.here ok .bl fun Q q => ⟨_, _, _, _, false, rfl, .ty n, .base (.ins (ok.sub _ _ h1) T.cl T.ha T.hn T.tk T.ob), hk, q⟩⟩
end
end DL
set_option maxRecDepth 100000
namespace DL
open PySem L2 PyProof.Rows PySem.Spec
open PySem.W (minD AlikeAll dataLt min_list_data readsAll_at)
section
variable {c : Cn} {S : Sc} {ρ ρ1 ρ2 : Rho} {O O1 O2 O3 J : Sto} {a b e tg iter elt : Expr} {es ifs : List Expr} {d x y z : D} {ds rs xs ys : List D} {pos p : Pos} {i j : Int} {k : Nat}
/-- min of a list of alike data -/
def rMinD (K : PySem.W.Frag) (d0 : PyData) (dl : List PyData) : List V → Hp → VK → Prop := fun vs H Q => ∃ (a : Addr) (xs : List V), vs = [V.ref a] ∧ SqL K H a xs ∧ DpAll K H xs (d0 :: dl) ∧ ∀ (n : Nat) (x : V), xs[n]? = some x → (d0 :: dl)[n]? = some (minD d0 dl) → Q x H
theorem cr_minD {X : Cx} {d0 : PyData} {dl : List PyData} (hc : X.calm = true) (ha : AlikeAll (d0 :: dl)) (hu : X.A.units + 1 + PyData.depthAll (d0 :: dl) < cLine) : CallR X (.builtin "min") (rMinD X.K d0 dl) := by
  intro pins s σ H vs us Q I r h
  obtain ⟨a, xs, rfl, hs, hd, q⟩ := h
  obtain ⟨its, rv, hl, hz⟩ := I.list hs
  rw [Vals.ref1 r]
  obtain ⟨as, hr⟩ := Dp.readsAll I (d0 :: dl) xs its hd rv
  refine min_list_data (I.ok.hd hc) hl.isList (by simpa using hr) ha hu fun n v h' tk bs hv hm hk => ?_
  have hv' : its[n]? = some v := by simpa using hv
  obtain ⟨bs1, r1, hn, _, _⟩ := readsAll_at hr n v hv'
  have e := (reads_det (fun b o e _ => hk b o e) r1 hm).1
  have hlen : xs.length = its.length := rv.length
  have hx : n < xs.length := by rw [hlen]; exact (List.getElem?_eq_some_iff.mp hv').1
  have rx : RelV (xs[n]) v := by
    obtain ⟨u, h1, h2⟩ := rv.get (List.getElem?_eq_getElem hx)
    rw [hv'] at h1; cases h1; exact h2
  refine ⟨xs[n], H, I.kept hk, rx, q n _ (List.getElem?_eq_getElem hx) ?_⟩
  rw [e, List.getElem?_eq_getElem hn, List.getD_eq_getElem?_getD, List.getElem?_eq_getElem hn]; rfl
theorem cd_minD {d0 : D} (hd : datAll (d0 :: ds) = true) (ha : AlikeAll (pyAll (d0 :: ds))) (hu : PyData.depthAll (pyAll (d0 :: ds)) ≤ 30) (inj : ∀ d ∈ d0 :: ds, d.py = minD d0.py (pyAll ds) → d = z) : CaD c S (.builtin "min") [.lst (d0 :: ds)] O z O :=
  ⟨rMinD c.K d0.py (pyAll ds), fun X j => by rw [← j.K]; exact cr_minD j.calm ha (by have := j.room.units; show _ + PyData.depthAll (pyAll (d0 :: ds)) < cLine; omega), fun F L H vs ok rs => by
    cases rs with
    | cons r t =>
      cases t
      cases r with
      | @lst a _ ws q r =>
        intro Q qq
        refine ⟨a, ws, rfl, .inl (.inl (ok.sub _ _ q)), RVs.dp ok.sub hd r, fun n x hx hm => ?_⟩
        obtain ⟨d, hd1, hd2⟩ := r.get' hx
        have hp : ∀ (l : List D) (n : Nat) (d : D), l[n]? = some d → (pyAll l)[n]? = some d.py := by
          intro l
          induction l with
          | nil => intro n d h; simp at h
          | cons y l ih => intro n d h; cases n with
            | zero => simp at h; subst h; rfl
            | succ n => exact ih n d (by simpa using h)
        have e1 := hp (d0 :: ds) n d hd1
        have e2 : d.py = minD d0.py (pyAll ds) := Option.some.inj (e1.symm.trans hm)
        have := inj d (List.mem_of_getElem? hd1) e2
        subst this
        exact qq _ _ _ _ (Nxt.refl _ _ _) ok hd2⟩
/-- a slice of a list that is a cell -/
theorem sd_cell {lo hi : Option Int} (hk : O[k]? = some (.lst xs)) : SlD c S (.loc k) lo hi O (.lst (cutD xs lo hi)) O :=
  ⟨rSlL c.K, fun X j => by rw [← j.K]; exact sl_list, fun F L H v ok rv => by
    cases rv with
    | loc ha =>
      obtain ⟨hF, ws, h1, h2⟩ := ok.cellL ha hk
      intro Q q
      refine ⟨_, ws, rfl, .inl (.inl h1), fun p hp => ?_⟩
      obtain ⟨ok2, nx⟩ := ok.put c.hI hp (o := .lst (cutV ws lo hi))
      exact q _ _ _ _ nx ok2 (.lst (upd_same ..) ((h2.cut lo hi).mono c.hI nx.sub nx.pre))⟩
end
/-! triples of ints -/
def triP (t : Int × Int × Int) : D := .tup [.int t.1, .int t.2.1, .int t.2.2]
def lt3 (a b : Int × Int × Int) : Bool := decide (a.1 < b.1 ∨ (a.1 = b.1 ∧ (a.2.1 < b.2.1 ∨ (a.2.1 = b.2.1 ∧ a.2.2 < b.2.2))))
theorem lex_i (a b : Int) (l m : List (Int ⊕ List Nat)) : PyProof.Rows.lexLt itemOrd (.inl a :: l) (.inl b :: m) = (decide (a < b) || (decide (a = b) && PyProof.Rows.lexLt itemOrd l m)) := by
  by_cases h : a = b
  · subst h; rw [lex_self]; simp
  · rw [lex_diff (O := itemOrd) (fun z => h (Sum.inl.inj z))]
    show decide (a < b) = _
    simp [h]
theorem lt_tri (a b : Int × Int × Int) : dataLt (triP a).py (triP b).py = lt3 a b := by
  show PyProof.Rows.lexLt itemOrd [.inl 1, .inl a.1, .inl 1, .inl a.2.1, .inl 1, .inl a.2.2, .inl 0] [.inl 1, .inl b.1, .inl 1, .inl b.2.1, .inl 1, .inl b.2.2, .inl 0] = _
  rw [lex_i, lex_i, lex_i, lex_i, lex_i, lex_i, lex_i]
  have e : PyProof.Rows.lexLt itemOrd ([] : List (Int ⊕ List Nat)) [] = false := rfl
  rw [e, Bool.eq_iff_iff]
  unfold lt3
  simp
theorem min_tri : ∀ (l : List (Int × Int × Int)) (a : Int × Int × Int), minD (triP a).py (pyAll (l.map triP)) = (triP (l.foldl (fun a y => if lt3 y a = true then y else a) a)).py
  | [], _ => rfl
  | y :: l, a => by
    show minD (if dataLt (triP y).py (triP a).py then (triP y).py else (triP a).py) (pyAll (l.map triP)) = (triP (l.foldl _ (if lt3 y a = true then y else a))).py
    rw [lt_tri]
    by_cases h : lt3 y a = true
    · rw [if_pos h, if_pos h]; exact min_tri l y
    · rw [if_neg h, if_neg h]; exact min_tri l a
theorem least_tri : ∀ (l : List (Int × Int × Int)) (a : Int × Int × Int), (l.foldl (fun a y => if lt3 y a = true then y else a) a) ∈ a :: l ∧ ∀ y ∈ a :: l, lt3 y (l.foldl (fun a y => if lt3 y a = true then y else a) a) = false
  | [], a => ⟨List.mem_cons_self, fun y hy => by rw [List.mem_singleton.mp hy]; simp [lt3]⟩
  | y :: l, a => by
    have tr : ∀ {u v w : Int × Int × Int}, lt3 v u = false → lt3 w v = false → lt3 w u = false := fun {u v w} h g => by
      unfold lt3 at *
      simp only [decide_eq_false_iff_not] at *
      omega
    have le : ∀ {u v : Int × Int × Int}, lt3 u v = true → lt3 v u = false := fun {u v} h => by
      unfold lt3 at *
      simp only [decide_eq_false_iff_not, decide_eq_true_eq] at *
      omega
    show (l.foldl _ (if lt3 y a = true then y else a)) ∈ a :: y :: l ∧ ∀ z ∈ a :: y :: l, lt3 z (l.foldl _ (if lt3 y a = true then y else a)) = false
    by_cases h : lt3 y a = true
    · rw [if_pos h]
      obtain ⟨m, t⟩ := least_tri l y
      refine ⟨List.mem_cons_of_mem _ m, fun z hz => ?_⟩
      rcases List.mem_cons.mp hz with e | e
      · subst e; exact tr (t y List.mem_cons_self) (le h)
      · exact t z e
    · rw [if_neg h]
      obtain ⟨m, t⟩ := least_tri l a
      have h' : lt3 y a = false := by simpa using h
      refine ⟨?_, fun z hz => ?_⟩
      · rcases List.mem_cons.mp m with e | e
        · rw [e]; exact List.mem_cons_self
        · exact List.mem_cons_of_mem _ (List.mem_cons_of_mem _ e)
      · rcases List.mem_cons.mp hz with e | e
        · rw [e]; exact t a List.mem_cons_self
        · rcases List.mem_cons.mp e with e | e
          · subst e; exact tr (t a List.mem_cons_self) h'
          · exact t z (List.mem_cons_of_mem _ e)
theorem cd_min3 {c : Cn} {S : Sc} {O : Sto} {l : List (Int × Int × Int)} {m : Int × Int × Int} (hm : m ∈ l) (hl : ∀ y ∈ l, lt3 y m = false) : CaD c S (.builtin "min") [.lst (l.map triP)] O (triP m) O := by
  cases l with
  | nil => cases hm
  | cons a l =>
    have hal : ∀ (r : List (Int × Int × Int)), datAll (r.map triP) = true ∧ PyData.depthAll (pyAll (r.map triP)) ≤ 1 ∧ ∀ x ∈ pyAll (r.map triP), ∃ t, x = (triP t).py := fun r => by
      induction r with
      | nil => exact ⟨rfl, Nat.zero_le _, fun x hx => by cases hx⟩
      | cons t r ih =>
        refine ⟨by simp [datAll, D.dat, triP, ih.1], Nat.max_le.mpr ⟨Nat.le_of_ble_eq_true rfl, ih.2.1⟩, fun x hx => ?_⟩
        rcases List.mem_cons.mp hx with e | e
        · exact ⟨t, e⟩
        · exact ih.2.2 x e
    obtain ⟨h1, h2, h3⟩ := hal (a :: l)
    have hu : ∀ {u v : Int × Int × Int}, lt3 u v = false → lt3 v u = false → u = v := fun {u v} g h => by
      unfold lt3 at *
      simp only [decide_eq_false_iff_not] at *
      obtain ⟨u1, u2, u3⟩ := u
      obtain ⟨v1, v2, v3⟩ := v
      simp only [Prod.mk.injEq] at *
      omega
    obtain ⟨g1, g2⟩ := least_tri l a
    refine cd_minD (d0 := triP a) (ds := l.map triP) h1 ⟨fun x hx y hy => ?_, fun x hx => ?_⟩ (by have : PyData.depthAll (pyAll ((a :: l).map triP)) ≤ 1 := h2; exact Nat.le_trans this (by decide)) fun d hd e => ?_
    · obtain ⟨t, rfl⟩ := h3 x hx
      obtain ⟨u, rfl⟩ := h3 y hy
      rfl
    · obtain ⟨t, rfl⟩ := h3 x hx
      intro z; cases z
    · rw [min_tri] at e
      obtain ⟨t, ht, rfl⟩ := List.mem_map.mp (show d ∈ (a :: l).map triP from hd)
      have et : t = l.foldl (fun a y => if lt3 y a = true then y else a) a := by
        generalize l.foldl (fun a y => if lt3 y a = true then y else a) a = w at e
        obtain ⟨t1, t2, t3⟩ := t
        obtain ⟨w1, w2, w3⟩ := w
        simp only [triP, D.py, pyAll, PyData.tuple.injEq, List.cons.injEq, PyData.int.injEq] at e
        simp only [Prod.mk.injEq]
        exact ⟨e.1, e.2.1, e.2.2.1⟩
      rw [et, hu (hl _ g1) (g2 m hm)]
end DL
set_option maxRecDepth 100000
set_option maxHeartbeats 2000000
namespace DL
open PySem L2 PyProof.Rows PySem.Spec
/-! ### set(xs) of a tuple of ints -/
section
variable {P : Program} {w : World} {A : Around} {E : Value → Shared → Prop} {s : Shared} {l : Addr} {items : Array Value} {ns : List Int}
theorem setT_init (hh : A.handled = none) (hl : s.heap.IsTuple l items) (hit : IntsAre items.toList ns) (hb : ns.length + 1 < scanBound) :
    wpAny (model P w) A (Builtin.«set.__init__» ⟨[.ref s.heap.objs.size, .ref l], []⟩) (fun f s' => match f with | .done (.ret r) => SetEnd w s ns r s' | _ => False) E { s with heap := s.heap.push (set0 w) } := by
  have hsz : items.size = ns.length := by have q := IntsAre.length hit; rwa [Array.length_toList] at q
  have hS : (s.heap.push (set0 w)).get? s.heap.objs.size = some (set0 w) := Heap.get?_push_size _ rfl
  have hT : Shared.TypeIs { s with heap := s.heap.push (set0 w) } (.ref s.heap.objs.size) "set" := ⟨_, hS, rfl⟩
  obtain ⟨⟨oc, od, dd, os⟩, hol, hcl, nl, hdl⟩ := hl
  obtain rfl : oc = .type "tuple" := hcl
  obtain rfl : dd = .seq items nl := hdl
  have hol' : (s.heap.push (set0 w)).get? l = some ⟨.type "tuple", od, .seq items nl, os⟩ := Heap.get?_push_of_some _ hol
  have k1 := F.sub_tuple_set
  have k2 := F.sub_tuple_frozenset
  have k3 : (Value.type "tuple" == Value.type "dict") = false := by decide
  have hl1 : (s.heap.push (set0 w)).IsTuple l items := ⟨_, hol', rfl, nl, rfl⟩
  unfold Builtin.«set.__init__» noKeywords Builtin.Frozenset.updateFrom
  generalize hPI : pyIter = PI
  wp_walk
  subst hPI
  refine wpAny_pyIter_tuple hl1 (wpAny_bind (wpAny_runValue ?_))
  have lS : l < s.heap.objs.size := Heap.lt_size hol
  have z1 : (s.heap.push (set0 w)).objs.size = s.heap.objs.size + 1 := Heap.size_push ..
  have nI : l ≠ (s.heap.push (set0 w)).objs.size := by rw [z1]; exact Nat.ne_of_lt (Nat.lt_succ_of_lt lS)
  have nS : s.heap.objs.size ∉ [(s.heap.push (set0 w)).objs.size, l] := by
    rw [z1]
    intro q
    rcases List.mem_cons.mp q with q | q
    · exact Nat.ne_of_lt (Nat.lt_succ_self _) q
    · exact Nat.ne_of_gt lS (List.mem_singleton.mp q)
  have hv : ∀ (i : Nat) (v : Value), items[i]? = some v → ∃ k t, ns[i]? = some k ∧ v = .int k t := fun i v q => by
    have hi : i < ns.length := by rw [← hsz]; exact (Array.getElem?_eq_some_iff.mp q).1
    obtain ⟨t, e⟩ := PyProof.Rows.IntsAre.int_at hit i v (by rw [Array.getElem?_toList]; exact q)
    exact ⟨ns[i], t, List.getElem?_eq_getElem hi, by rw [e, List.getD_eq_getElem?_getD, List.getElem?_eq_getElem hi] <;> rfl⟩
  have hA : A.in1.handled = none := hh
  refine set_update_ints ((Walks.tuple (A := A.in1) (by simp [hh]) _ l nI items).toS) s.heap.objs.size nS ns hsz hb hv (items.size - 0) 0 _ (by omega) (Nat.zero_le _) ⟨⟨_, Heap.get?_push_size _ rfl, rfl, rfl⟩, hl1.push _⟩ ⟨0, Nat.le_refl 0, setR_new_at (Heap.get?_push_of_some _ hS)⟩ ?_
  intro s' c hm hc hR
  obtain ⟨h', g2, d', tk', os'⟩ := s'
  obtain rfl : g2 = s.gens := hm.gens
  obtain rfl : d' = s.drawn := hm.drawn
  obtain rfl : os' = s.os := hm.os
  refine wpAny_pure (wpAny_pure ⟨rfl, h', tk', c, rfl, hR, by rw [← hsz]; exact hc, fun b o e => ?_⟩)
  have b0 : b < s.heap.objs.size := Heap.lt_size e
  refine hm.heap b o (fun q => ?_) (Heap.get?_push_of_some _ (Heap.get?_push_of_some _ e))
  rcases List.mem_cons.mp q with q | q
  · exact Nat.ne_of_lt b0 q
  · have q' := List.mem_singleton.mp q
    rw [z1] at q'
    exact Nat.ne_of_lt (Nat.lt_succ_of_lt b0) q'
theorem setT_code (hh : A.handled = none) (hl : s.heap.IsTuple l items) (hit : IntsAre items.toList ns) (hb : ns.length + 1 < scanBound) :
    codeAny (model P w) A (.call (.builtin "set.__init__") ⟨[.ref s.heap.objs.size, .ref l], []⟩) (wants (SetEnd w s ns) E) { s with heap := s.heap.push (set0 w) } := by
  have hT : Shared.TypeIs { s with heap := s.heap.push (set0 w) } (.ref s.heap.objs.size) "set" := ⟨_, Heap.get?_push_size _ rfl, rfl⟩
  refine codeAny_call_builtin F.called_set.init.plain F.entry_set_init (check_set_init_1 hT ?_)
  refine wpAny_mono (setT_init (A := A.in1) (E := E) hh hl hit hb) (fun f s2 q => ?_) fun _ _ q => q
  cases f with
  | again cc => exact False.elim q
  | done fl =>
    cases fl with
    | ret r => exact q
    | next => exact False.elim q
    | brk => exact False.elim q
    | cont => exact False.elim q
theorem set_of_tup {Q : Value → Shared → Prop} (hh : A.handled = none) (hl : s.heap.IsTuple l items) (hit : IntsAre items.toList ns) (hb : ns.length + 1 < scanBound)
    (h : ∀ (h' : Heap) (tk c : Nat), SetR w h' s.heap.objs.size (fun j => decide (j ∈ ns)) c → c ≤ ns.length → (∀ b o, s.heap.get? b = some o → h'.get? b = some o) → Q (.ref s.heap.objs.size) { s with heap := h', toks := tk }) :
    wpAny (model P w) A (call (.type "set") [.ref l]) Q E s := by
  obtain ⟨c0, tl, hmro⟩ := F.called_set.mro
  have f1 := F.called_set.made
  have f2 := F.called_set.sub
  have f3 := F.called_set.notType
  have f4 := F.called_set.canCreate
  have f5 := F.typeCall_set_1 (.ref l)
  refine wpAny_call (codeAny_of_tree (show wpAny _ _ (callAny (.type "set") _) _ _ _ from wpAny_pure ⟨Code.quiet_builtin _ (by decide +kernel), codeAny_builtin F.entry_type_call ?_⟩))
  rw [Around.under_plain (weight_type_call_type "set" [.ref l] []) rfl]
  repeat (any_goals (first | assumption | wp_step))
  refine codeAny_mono (code_set_led1 (.ref l) (E := E) (Q₁ := fun obj s1 => obj = .ref s.heap.objs.size ∧ s1 = { s with heap := s.heap.push (set0 w) }) ⟨rfl, rfl⟩) fun r s1 hr => ?_
  cases r with
  | error e => exact hr
  | ok fl =>
   cases fl with
   | next => exact False.elim hr
   | brk => exact False.elim hr
   | cont => exact False.elim hr
   | ret obj =>
    obtain ⟨rfl, rfl⟩ := hr
    have hS : (s.heap.push (set0 w)).get? s.heap.objs.size = some (set0 w) := Heap.get?_push_size _ rfl
    have hT : Shared.TypeIs { s with heap := s.heap.push (set0 w) } (.ref s.heap.objs.size) "set" := ⟨_, hS, rfl⟩
    have g1 := F.called_set.init.lookup
    have g2 := F.called_set.init.bind (.ref s.heap.objs.size)
    repeat (any_goals (first | assumption | wp_step))
    refine codeAny_mono (setT_code (E := E) (by first | exact hh | simp [hh]) hl hit hb) fun r2 s2 hr2 => ?_
    cases r2 with
    | error e => exact hr2
    | ok fl2 =>
      cases fl2 with
      | ret r =>
        obtain ⟨rfl, h', tk', c', rfl, hS', hc', hk'⟩ := hr2
        repeat (any_goals (first | assumption | wp_step))
        exact h _ _ _ hS' hc' hk'
      | next => exact False.elim hr2
      | brk => exact False.elim hr2
      | cont => exact False.elim hr2
end
section
variable {c : Cn} {S : Sc} {ρ ρ1 ρ2 : Rho} {O O1 O2 O3 J : Sto} {a b e tg iter elt : Expr} {es ifs : List Expr} {d x y z : D} {ds rs xs ys : List D} {pos p : Pos} {i j : Int} {k : Nat} {ns : List Int}
def rSetT (K : PySem.W.Frag) (w : World) : List V → Hp → VK → Prop := fun xs H Q => ∃ (l : Addr) (ns : List Int), xs = [.ref l] ∧ SqT K H l (ns.map V.int) ∧ ns.length + 1 < scanBound ∧ ∀ a c, H a = none → c ≤ ns.length → Q (.ref a) (upd H a (SetO w a (fun j => decide (j ∈ ns)) c))
theorem cr_setT {X : Cx} (hc : X.calm = true) : CallR X (.type "set") (rSetT X.K X.w) := by
  intro pins s σ H xs us Q I r h
  obtain ⟨l, ns, rfl, hl, hb, q⟩ := h
  rw [Vals.ref1 r]
  obtain ⟨its, rv, pl, hz⟩ := I.tuple hl
  have hn : H s.heap.objs.size = none := I.hok.fresh (Nat.le_refl _)
  refine set_of_tup (P := X.prog) (w := X.w) (items := its.toArray) (ns := ns) (I.ok.hd hc) pl (by simpa using intsAre_of rv) hb fun h' tk cc R hcc k => ?_
  exact ⟨.ref s.heap.objs.size, upd H s.heap.objs.size (SetO X.w s.heap.objs.size (fun j => decide (j ∈ ns)) cc), I.laid (t' := tk) k (Nat.le_refl _) (setO_new R), rfl, q _ cc hn hcc⟩
/-- sorted(set(xs)), xs a tuple -/
theorem ee_sortedSetT {p2 pos2 : Pos} (hm : c.mg "sorted" = none) (hm2 : c.mg "set" = none) (ha : EE c S a ρ O (.tup (ns.map .int)) O1) (hz : ns.length < 64)
    (hg : glB S.sc "sorted" = true := by first | decide +kernel | kernel_rfl | exact of_decide_eq_true (by kernel_rfl)) (hg2 : glB S.sc "set" = true := by first | decide +kernel | kernel_rfl | exact of_decide_eq_true (by kernel_rfl))
    (he : ∀ env, starEach (.Call (.Name "set" p2) [a] [] pos2 :: []) env = (false, eval (.Call (.Name "set" p2) [a] [] pos2) env) :: starEach [] env := by intro _; rfl) (he2 : ∀ env, starEach (a :: []) env = (false, eval a env) :: starEach [] env := by intro _; rfl)
    (hpl : ∀ env, (backTo pos (starEach [] env)).any (·.1) = false := by intro _; rfl) (hpl2 : ∀ env, (backTo pos2 (starEach [] env)).any (·.1) = false := by intro _; rfl) :
    EE c S (.Call (.Name "sorted" p) [.Call (.Name "set" p2) [a] [] pos2] [] pos) ρ O (.lst ((spots ns).map .int)) O1 := by
  obtain ⟨ta, pa, va⟩ := ha
  refine ⟨tCB (rSortedSet c.w) (tCons (tCB (rSetT c.K c.w) (tCons ta tNil)) tNil), fun X j => ?_, ?_⟩
  · exact pe_callB (by rw [← j.w]; exact cr_sortedSet j.calm) (j.gl hg) (by rw [j.mg]; exact hm) (by decide +kernel) (pa_cons (pe_callTy (by rw [← j.w, ← j.K]; exact cr_setT j.calm) (j.gl hg2) (by rw [j.mg]; exact hm2) (by decide +kernel) (pa_cons (pa X j) pa_nil (he2 _)) (by decide) (by decide) (he2 _) (hpl2 _)) pa_nil (he _)) (by decide) (by decide) (he _) (hpl _)
  · intro σ F L H ok sl Q q
    refine va σ F L H ok sl _ fun v F1 L1 H1 n1 ok1 rv => ?_
    cases rv with
    | tup h r =>
      rw [RVs.ints r] at h
      refine ⟨_, ns, rfl, ok1.sub.sqT h, by unfold scanBound; omega, fun b m hb hm => ?_⟩
      obtain ⟨ok2, n2⟩ := ok1.junk (o := SetO c.w b (fun j => decide (j ∈ ns)) m) c.hI hb
      refine ⟨b, _, m, rfl, upd_same, by omega, fun ps x h1 h2 h3 hx => ?_⟩
      have e : ps = spots ns := Spots.eq (ns := ns) ⟨h1, fun k => (h2 k).trans (by simp)⟩ (spots_ok ns)
      obtain ⟨ok3, n3⟩ := ok2.put (o := .lst (ps.map V.int)) c.hI hx
      refine q _ _ _ _ ((n1.trans n2).trans n3) ok3 (.lst upd_same ?_)
      rw [e]; exact RVs.of_ints _
/-- xs.pop(i), xs a cell -/
theorem ee_popI {apos cpos : Pos} {ds1 : List D} {n : Nat} (ho : EE c S a ρ O (.loc k) O1) (he : EE c S e ρ O1 (.int n) O2) (hk1 : O1[k]? = some (.lst ds1)) (hk : O2[k]? = some (.lst ds)) (hd : ds[n]? = some d) (hz : ds.length < 16777216)
    (hbase : ∀ env, attributeBase a "pop" env (eval a env) = eval a env := by intro _; rfl)
    (hfew : ∀ env, ((backTo cpos (starEach (e :: []) env)).all (fun x => !x.1) && (backToKw cpos (keywordEach [] env)).all (fun x => x.1.isSome) && decide ((e :: []).length + ([] : List Keyword).length + (if ([] : List Keyword).isEmpty then 0 else 1) < 30)) = true := by intro _; rfl)
    (hline : (apos.endLine == cpos.line) = true := by rfl) (hs : ∀ env, starEach (e :: []) env = (false, eval e env) :: starEach [] env := by intro _; rfl) (hplain : ∀ env, (backTo cpos (starEach [] env)).any (·.1) = false := by intro _; rfl) :
    EE c S (.Call (.Attribute a "pop" apos) [e] [] cpos) ρ O d (O2.set k (.lst (ds.eraseIdx n))) := by
  obtain ⟨ta, pa, va⟩ := ho
  obtain ⟨te, pe, ve⟩ := ea_cons he ea_nil hs
  refine ⟨tBM c.K "list" rPopAt ta te, fun X j => by rw [← j.K]; exact pe_bm PySem.F.plainAttrs_list PySem.F.slot_list_pop PySem.F.type_list_pop mt_popAt (pa X j) (pe X j) (hbase _) (hfew _) hline (hs _) (hplain _), ?_⟩
  intro σ F L H ok sl Q q
  refine va σ F L H ok sl _ fun v F1 L1 H1 n1 ok1 rv => ?_
  cases rv with
  | loc ha =>
    obtain ⟨hF1, ws, g1, g2⟩ := ok1.cellL ha hk1
    refine ⟨.inl ⟨rfl, _, .inl (.inl g1)⟩, ?_⟩
    refine ve σ F1 L1 H1 ok1 (sl.mono c.hI n1.sub n1.pre) _ fun us F2 L2 H2 n2 ok2 rs => ?_
    cases rs with
    | cons r t =>
      cases t
      cases r
      have ha2 := n2.pre _ _ ha
      obtain ⟨hF, vs, h1, h2⟩ := ok2.cellL ha2 hk
      obtain ⟨w, hw, rw'⟩ := h2.get hd
      have hlt : n < ds.length := (List.getElem?_eq_some_iff.mp hd).1
      have hlen := h2.length
      have her : RVs c.K c.I F2 L2 (ds.eraseIdx n) (vs.eraseIdx n) := by
        rw [List.eraseIdx_eq_take_drop_succ, List.eraseIdx_eq_take_drop_succ]
        exact (h2.take n).append (h2.drop (n + 1))
      refine ⟨_, vs, (n : Int), n, w, rfl, rfl, h1, by omega, by omega, ?_, hw, ?_⟩
      · exact seqIndex_of (by omega) (by omega)
      · obtain ⟨ok3, n3⟩ := ok2.write (o := .lst (vs.eraseIdx n)) (cl := .lst (ds.eraseIdx n)) c.hI ha2 hF ⟨hF, _, upd_same, her⟩
        exact q w F2 L2 _ ((n1.trans n2).trans n3) ok3 rw'
/-- i in xs, xs a list or a tuple of ints -/
theorem od_inI : OpD c S (compareOp .In) (.int i) (.lst (ns.map .int)) O (.bl (decide (i ∈ ns))) O :=
  ⟨rIn c.K false, fun X j => by rw [← j.K]; exact op_in_seq, fun F L H v u ok rv ru => by
    cases rv
    cases ru with
    | lst q r =>
      have e := RVs.intsV r
      subst e
      obtain ⟨e1, e2⟩ := inV_ints i ns
      exact SemR.here ok .bl fun Q qq => ⟨_, ns.map V.int, rfl, .inl (.inl (.inl (ok.sub _ _ q))), rfl, e2, by rw [e1]; exact qq⟩⟩
theorem od_inIT : OpD c S (compareOp .In) (.int i) (.tup (ns.map .int)) O (.bl (decide (i ∈ ns))) O :=
  ⟨rIn c.K false, fun X j => by rw [← j.K]; exact op_in_seq, fun F L H v u ok rv ru => by
    cases rv
    cases ru with
    | tup q r =>
      have e := RVs.intsV r
      subst e
      obtain ⟨e1, e2⟩ := inV_ints i ns
      exact SemR.here ok .bl fun Q qq => ⟨_, ns.map V.int, rfl, .inr (ok.sub.sqT q), rfl, e2, by rw [e1]; exact qq⟩⟩
end
end DL
set_option maxRecDepth 100000
namespace DL
open PySem L2 PyProof.Rows PySem.Spec
section
variable {c : Cn} {S : Sc} {ρ ρ1 ρ2 : Rho} {O O1 O2 O3 J : Sto} {a b e tg iter elt value : Expr} {es ifs : List Expr} {d x y z : D} {ds rs xs ys : List D} {pos p pos' : Pos} {i j : Int} {k n : Nat} {ns : List Int}
/-- xs[i] = e, xs a cell -/
theorem s_lput (hv : EE c S value ρ O d O1) (ho : EE c S a ρ O1 (.loc k) O2) (hi : EE c S b ρ O2 (.int i) O3) (hk : O3[k]? = some (.lst ds)) (hx : ixN ds.length i = some n)
    (h1 : ∀ q L f cd, swapsWithSole [.Subscript a b pos'] value pos.line (envOfC q S.sc L f cd) = pure false := by intro _ _ _ _; rfl) (h2 : ∀ q L f cd, swappedStores [.Subscript a b pos'] value (envOfC q S.sc L f cd) = pure none := by intro _ _ _ _; rfl)
    (h3 : ∀ env, List.map (fun x => x.snd) (assignEach [.Subscript a b pos'] env) = [assign (.Subscript a b pos') env] := by intro _; rfl)
    (h4 : ∀ env v, assign (.Subscript a b pos') env v = (do let ov ← holding [v] (eval a env); let iv ← holding [v, ov] (eval b env); standAt pos'; holding [v, ov, iv] (setItem ov iv v); release [v, ov, iv] []) := by intro _ _; rfl) : S1 c S (.Assign [.Subscript a b pos'] value pos) ρ O (.nx ρ (O3.set k (.lst (ds.set n d)))) := by
  obtain ⟨tv, pv, vv⟩ := hv
  obtain ⟨to, po, vo⟩ := ho
  obtain ⟨ti, pi, vi⟩ := hi
  refine ⟨tAsg tv (gSub to ti L2.rSetL), fun X jj => ?_, fun σ F L H ok sl E hE => ?_⟩
  · obtain ⟨jc, q, L, f, cd, e⟩ := jj
    exact ps_asg (pv X jc) (pg_sub (po X jc) (pi X jc) set_list (h4 _)) (by rw [e]; exact h1 _ _ _ _) (by rw [e]; exact h2 _ _ _ _) (h3 _)
  · refine vv σ F L H ok sl _ fun v F1 L1 H1 n1 ok1 rv => ?_
    have sl1 := sl.mono c.hI n1.sub n1.pre
    refine vo σ F1 L1 H1 ok1 sl1 _ fun u F2 L2 H2 n2 ok2 ru => ?_
    have sl2 := sl1.mono c.hI n2.sub n2.pre
    refine vi σ F2 L2 H2 ok2 sl2 _ fun w F3 L3 H3 n3 ok3 rw' => ?_
    cases ru with
    | loc ha =>
      cases rw'
      have ha3 := n3.pre _ _ ha
      obtain ⟨hF, vs, g1, g2⟩ := ok3.cellL ha3 hk
      have rv3 := (rv.mono c.hI n2.sub n2.pre).mono c.hI n3.sub n3.pre
      refine ⟨_, vs, i, n, rfl, rfl, g1, by rw [← g2.length]; exact hx, ?_⟩
      obtain ⟨ok4, n4⟩ := ok3.write (o := .lst (vs.set n v)) (cl := .lst (ds.set n d)) c.hI ha3 hF ⟨hF, _, upd_same, g2.set n rv3⟩
      exact hE σ F3 L3 _ (((n1.trans n2).trans n3).trans n4) ok4 (sl2.mono c.hI n3.sub n3.pre)
end
section
variable {c : Cn} {S : Sc} {ρ : Rho} {O O1 : Sto} {tg iter : Expr} {ds : List D} {k : Nat}
/-- a loop over a cell that is not changed in it -/
theorem yld_cell {K : PySem.W.Frag} {I : Ob} : True := trivial
end
theorem ixN_neg {n : Nat} (h : 0 < n) : ixN n (-1) = some (n - 1) := by
  unfold ixN
  rw [if_neg (by decide), if_pos (by omega)]
  congr 1
  omega
end DL
set_option maxRecDepth 100000
namespace DL
open PySem L2 PyProof.Rows PySem.Spec
/-! a comprehension over a list that is a cell: at each turn the cell k holds it still -/
def YldC (K : PySem.W.Frag) (I : Ob) (J : It) (F : Hp) (L : List Addr) (k : Nat) (ds : List D) : Prop := ∀ F2 L2 H2 O2, Sub F F2 → Pre L L2 → OkH K I F2 L2 H2 O2 → O2[k]? = some (.lst ds) →
  (∀ i d, ds[i]? = some d → J.go i H2 ∧ ∀ x H3, J.yld i H2 x H3 → ∃ F3, Nxt F2 L2 H2 F3 L2 H3 ∧ OkH K I F3 L2 H3 O2 ∧ RV K I F3 L2 d x) ∧ ∀ i, ds.length ≤ i → J.stop i H2
def ITC (c : Cn) (S : Sc) (tg iter : Expr) (ρ : Rho) (O : Sto) (k : Nat) (ds : List D) (O' : Sto) : Prop := ∃ wi : TI, (∀ X, InC c S X → PI X tg iter wi) ∧
  ∀ (σ : L2.St) (F : Hp) (L : List Addr) (H : Hp), OkH c.K c.I F L H O → Sl c.K c.I F L ρ σ → ∀ R : It → Hp → Prop, (∀ J F' L' H', Nxt F L H F' L' H' → OkH c.K c.I F' L' H' O' → YldC c.K c.I J F' L' k ds → R J H') → wi σ H R
inductive CRK (c : Cn) (S : Sc) (tg : Expr) (ifs : List Expr) (elt : Expr) (vs : List Nat) (ρ : Rho) (k : Nat) (all : List D) : List D → Sto → List D → Sto → Prop
  | nil {O : Sto} : O[k]? = some (.lst all) → CRK c S tg ifs elt vs ρ k all [] O [] O
  | yes {d r : D} {ds rs : List D} {is : List Nat} {ρ1 : Rho} {O O1 O2 O3 : Sto} : O[k]? = some (.lst all) → GT c S tg is ρ d ρ1 → (∀ i ∈ is, i ∈ vs) → EI c S ifs ρ1 O true O1 → EE c S elt ρ1 O1 r O2 → CRK c S tg ifs elt vs ρ k all ds O2 rs O3 → CRK c S tg ifs elt vs ρ k all (d :: ds) O (r :: rs) O3
  | no {d : D} {ds rs : List D} {is : List Nat} {ρ1 : Rho} {O O1 O3 : Sto} : O[k]? = some (.lst all) → GT c S tg is ρ d ρ1 → (∀ i ∈ is, i ∈ vs) → EI c S ifs ρ1 O false O1 → CRK c S tg ifs elt vs ρ k all ds O1 rs O3 → CRK c S tg ifs elt vs ρ k all (d :: ds) O rs O3
section
variable {c : Cn} {S : Sc} {ρ ρ1 ρ2 : Rho} {O O1 O2 O3 : Sto} {a b e tg iter elt : Expr} {es ifs : List Expr} {d x y z : D} {ds rs xs ys : List D} {pos p : Pos} {i j : Int} {k : Nat} {is js vs : List Nat}
theorem CRK.has {all : List D} (h : CRK c S tg ifs elt vs ρ k all ds O rs O2) : O[k]? = some (.lst all) := by
  cases h <;> assumption
theorem crk_map {α : Type} (f g : α → D) {all : List D} (hO : O[k]? = some (.lst all)) : ∀ xs : List α, (∀ x ∈ xs, ∃ is ρ1, GT c S tg is ρ (f x) ρ1 ∧ (∀ i ∈ is, i ∈ vs) ∧ EE c S elt ρ1 O (g x) O) → CRK c S tg [] elt vs ρ k all (xs.map f) O (xs.map g) O
  | [], _ => .nil hO
  | x :: xs, h => let ⟨is, ρ1, h1, h2, h3⟩ := h x (by simp); .yes hO h1 h2 ei_nil h3 (crk_map f g hO xs fun x hx => h x (by simp [hx]))
theorem it_cell (ha : EE c S iter ρ O (.loc k) O1) (hO : O1[k]? = some (.lst ds)) : ITC c S tg iter ρ O k ds O1 := by
  obtain ⟨t, pt, vt⟩ := ha
  refine ⟨iList c.K t, fun X j => by rw [← j.K]; exact pi_list (pt X j), fun σ F L H ok sl R q => ?_⟩
  refine vt σ F L H ok sl _ fun v F1 L1 H1 n1 ok1 rv => ?_
  cases rv with
  | loc hL =>
    have hq : ∀ {F2 : Hp} {L2 : List Addr} {H2 : Hp} {O2 : Sto} {a : Addr}, L1[k]? = some a → Pre L1 L2 → OkH c.K c.I F2 L2 H2 O2 → O2[k]? = some (.lst ds) → ∃ vs, SqL c.K H2 a vs ∧ RVs c.K c.I F2 L2 ds vs := fun {F2 L2 H2 O2 a} hL pr ok hO => by
      obtain ⟨_, vs, h1, h2⟩ := ok.cell k _ _ (pr _ _ hL) hO
      exact ⟨vs, .inl (.inl h1), h2⟩
    obtain ⟨vs0, h0, _⟩ := hq hL (.refl _) ok1 hO
    refine ⟨_, rfl, ⟨_, h0⟩, q _ F1 L1 H1 n1 ok1 ?_⟩
    intro F2 L2 H2 O2 sb pr ok hO2
    obtain ⟨vs, hq2, hr⟩ := hq hL pr ok hO2
    refine ⟨fun i d e => ?_, fun i hi => ⟨vs, hq2, by rw [← hr.length]; exact hi⟩⟩
    obtain ⟨v, h1, h2⟩ := hr.get e
    refine ⟨⟨vs, v, hq2, h1⟩, fun x H3 y => ?_⟩
    obtain ⟨rfl, y⟩ := y
    have := y vs hq2
    rw [h1] at this; cases this
    exact ⟨F2, .refl _ _ _, ok, h2⟩
theorem lck_ev {scope : Scope} {vs : List Nat} {wi : TI} (hw : ∀ (σ : L2.St) (F : Hp) (L : List Addr) (H : Hp), OkH c.K c.I F L H O → Sl c.K c.I F L ρ σ → ∀ R : It → Hp → Prop, (∀ J F' L' H', Nxt F L H F' L' H' → OkH c.K c.I F' L' H' O1 → YldC c.K c.I J F' L' k ds → R J H') → wi σ H R)
    (hc : CRK c (S.blk scope) tg ifs elt vs (wipeR ρ vs) k ds ds O1 rs O2) (hz : ds.length < 16777216) {σ : L2.St} {F : Hp} {L : List Addr} {H : Hp} (ok : OkH c.K c.I F L H O) (sl : Sl c.K c.I F L ρ σ) (Q : VK)
    (q : ∀ p F' L' H' acc, Nxt F L H F' L' H' → OkH c.K c.I F' L' H' O2 → p ∉ L' → F' p = none → H p = none → H' p = some (.lst acc) → RVs c.K c.I F' L' rs acc → Q (.ref p) H') :
    tLc wi (supG c (S.blk scope) tg) (supI c (S.blk scope) ifs) (supE c (S.blk scope) elt) vs σ H Q := by
  refine hw σ F L H ok sl _ fun J F1 L1 H1 n1 ok1 yl => fun D hD => ?_
  refine ⟨fun i m H => m = ds.length - i ∧ i ≤ ds.length ∧ ∃ O' F' L' acc r1 r2, CRK c (S.blk scope) tg ifs elt vs (wipeR ρ vs) k ds (ds.drop i) O' r2 O2 ∧ Nxt F1 L1 H1 F' L' H ∧ OkH c.K c.I F' L' H O' ∧ H D = some (.lst acc) ∧ acc.length ≤ i ∧ RVs c.K c.I F' L' r1 acc ∧ r1 ++ r2 = rs ∧ D ∉ L' ∧ F' D = none, ⟨ds.length, by simp, Nat.zero_le _, O1, F1, L1, [], [], rs, hc, (ok1.junk c.hI hD).2, (ok1.junk c.hI hD).1, upd_same, Nat.le_refl _, .nil, rfl, ok1.out hD, ok1.sub.none hD⟩, ?_⟩
  rintro i m H' ⟨rfl, hi, O', F', L', acc, r1, r2, hc', n', ok', hacc, hlen, hrs, hr, hDL, hDF⟩
  obtain ⟨hgo, hst⟩ := yl F' L' H' O' n'.sub n'.pre ok' hc'.has
  have slw : Sl c.K c.I F' L' (wipeR ρ vs) (L2.wipe σ vs) := ((sl.mono c.hI (n1.trans n').sub (n1.trans n').pre)).wipe vs
  by_cases hil : i < ds.length
  · have hd : ds[i]? = some ds[i] := List.getElem?_eq_getElem hil
    have hdr : ds.drop i = ds[i] :: ds.drop (i + 1) := List.drop_eq_getElem_cons hil
    rw [hdr] at hc'
    obtain ⟨go, yld⟩ := hgo i _ hd
    refine .inr ⟨go, fun H2 => (i + 1 ≤ ds.length ∧ ∃ O' F' L' acc r1 r2, CRK c (S.blk scope) tg ifs elt vs (wipeR ρ vs) k ds (ds.drop (i + 1)) O' r2 O2 ∧ Nxt F1 L1 H1 F' L' H2 ∧ OkH c.K c.I F' L' H2 O' ∧ H2 D = some (.lst acc) ∧ acc.length ≤ i + 1 ∧ RVs c.K c.I F' L' r1 acc ∧ r1 ++ r2 = rs ∧ D ∉ L' ∧ F' D = none), fun H2 h2 => ⟨ds.length - (i + 1), by omega, rfl, h2⟩, fun x H3 y => ?_⟩
    obtain ⟨F3, n3, ok3, rv⟩ := yld x H3 y
    have D3 : F3 D = none ∧ H3 D = some (.lst acc) := by
      refine ⟨?_, n3.frm D _ hacc hDL (by intro _ h; cases h)⟩
      cases e : F3 D with
      | none => rfl
      | some o => have := n3.nwF D o e hDF hDL; rw [hacc] at this; cases this
    cases hc' with
    | yes hO hg his hif he hcr =>
      refine hg.sup _ F3 L' H3 x ok3.sub (slw.mono c.hI n3.sub (.refl _)) rv _ fun σ' sl' hwp => ⟨(hwp vs his).trans (wipe_wipe _ _), ?_⟩
      refine hif.sup σ' F3 L' H3 ok3 sl' _ fun F4 L4 H4 n4 ok4 => ?_
      rw [if_pos rfl]
      refine he.sup σ' F4 L4 H4 ok4 (sl'.mono c.hI n4.sub n4.pre) _ fun v F5 L5 H5 n5 ok5 rv5 => ?_
      have n35 := n4.trans n5
      have D5 : D ∉ L5 ∧ F5 D = none ∧ H5 D = some (.lst acc) := by
        refine ⟨fun z => ?_, ?_, n35.frm D _ D3.2 hDL (by intro _ h; cases h)⟩
        · have := n35.new D z hDL; rw [D3.2] at this; cases this
        · cases e : F5 D with
          | none => rfl
          | some o => have := n35.nwF D o e D3.1 hDL; rw [D3.2] at this; cases this
      refine ⟨acc, D5.2.2, by rw [sizeLine_eq]; omega, hil, _, F5, L5, acc ++ [v], r1 ++ [_], _, hcr, ?_, ok5.wr c.hI D5.2.1 D5.1 D5.2.2, upd_same, by simp; omega, (hrs.mono c.hI (n3.trans n35).sub (n3.trans n35).pre).append (.cons rv5 .nil), by rw [← hr]; simp, D5.1, D5.2.1⟩
      have nn := n'.trans (n3.trans n35)
      exact ⟨nn.sub, nn.pre, fun b o e n t => by rw [upd_ne (ne_of_none e hD)]; exact nn.frm b o e n t, fun b ps e n => by rw [upd_ne (ne_of_none e hD)]; exact nn.tbl b ps e n, nn.new, nn.nwF⟩
    | no hO hg his hif hcr =>
      refine hg.sup _ F3 L' H3 x ok3.sub (slw.mono c.hI n3.sub (.refl _)) rv _ fun σ' sl' hwp => ⟨(hwp vs his).trans (wipe_wipe _ _), ?_⟩
      refine hif.sup σ' F3 L' H3 ok3 sl' _ fun F4 L4 H4 n4 ok4 => ?_
      rw [if_neg Bool.false_ne_true]
      have D5 : D ∉ L4 ∧ F4 D = none ∧ H4 D = some (.lst acc) := by
        refine ⟨fun z => ?_, ?_, n4.frm D _ D3.2 hDL (by intro _ h; cases h)⟩
        · have := n4.new D z hDL; rw [D3.2] at this; cases this
        · cases e : F4 D with
          | none => rfl
          | some o => have := n4.nwF D o e D3.1 hDL; rw [D3.2] at this; cases this
      exact ⟨hil, _, F4, L4, acc, r1, _, hcr, n'.trans (n3.trans n4), ok4, D5.2.2, by omega, hrs.mono c.hI (n3.trans n4).sub (n3.trans n4).pre, hr, D5.1, D5.2.1⟩
  · refine .inl ⟨hst i (by omega), ?_⟩
    rw [List.drop_eq_nil_of_le (by omega)] at hc'
    cases hc'
    rw [List.append_nil] at hr
    subst hr
    have hHD : H D = none := by
      cases e : H D with
      | none => rfl
      | some o =>
        by_cases hm : D ∈ L
        · exact absurd ((n1.trans n').pre.mem hm) hDL
        · obtain ⟨u, this⟩ := n1.there e hm; rw [hD] at this; cases this
    exact q D F' L' H' acc (n1.trans n') ok' hDL hDF hHD hacc hrs
/-- [.. for .. in cell] as a value -/
theorem ee_lcC {scope : Scope} (own : List (Str × Nat)) (hi : ITC c S tg iter ρ O k ds O1) (hc : CRK c (S.blk scope) tg ifs elt (own.map (·.2)) (wipeR ρ (own.map (·.2))) k ds ds O1 rs O2) (hz : ds.length < 16777216)
    (hb : blkC S.N S.sc scope own = true := by first | decide +kernel | kernel_rfl | exact of_decide_eq_true (by kernel_rfl)) (nd : S.N.Nodup := by first | decide +kernel | kernel_rfl | exact of_decide_eq_true (by kernel_rfl)) (hs : ∀ env x, foldedSetIterable iter env x = pure x := by intro _ _; rfl) :
    EE c S (.ListComp elt [{ target := tg, iter := iter, ifs := ifs, is_async := 0 }] scope pos) ρ O (.lst rs) O2 := by
  obtain ⟨wi, pi, vi⟩ := hi
  refine ⟨_, fun X j => pe_lc (own := own) j.calm (by rw [j.N]; exact nd) (pi X j) (by rw [j.N, j.sc]; exact blkOk_by hb) (fun s H C cl fp => p_supG (j.blk s H scope C cl fp)) (fun s H C cl fp => p_supI (j.blk s H scope C cl fp)) (fun s H C cl fp => p_supE (j.blk s H scope C cl fp)) (hs _), ?_⟩
  intro σ F L H ok sl Q q
  refine lck_ev vi hc hz ok sl Q fun p F' L' H' acc n ok' hp hF hH hacc rs' => ?_
  have hL : p ∉ L := fun z => hp (n.pre.mem z)
  refine q _ (upd F' p (.lst acc)) L' H' ⟨n.sub.trans (Sub.up hF), n.pre, n.frm, n.tbl, n.new, fun a o e m z => ?_⟩ ⟨fun a o e => ?_, ok'.nd, ok'.len, ok'.has, ok'.tabTold hacc hF, fun k a cl e g => ?_⟩ (.lst upd_same (rs'.mono c.hI (Sub.up hF) (.refl _)))
  · by_cases ha : a = p
    · rw [ha]; exact hH
    · rw [upd_ne ha] at e; exact n.nwF a o e m z
  · by_cases ha : a = p
    · subst ha; rw [upd_same] at e; cases e; exact hacc
    · rw [upd_ne ha] at e; exact ok'.sub a o e
  · have ha : a ≠ p := fun z => hp (z ▸ mem_of_get e)
    exact (ok'.cell k a cl e g).mono c.hI (Sub.up hF) (.refl _) (fun _ h => by rw [upd_ne ha]; exact h) rfl
end
end DL
set_option maxRecDepth 100000
namespace DL
open PySem L2 PyProof.Rows PySem.Spec
/-! every second member -/
def ev2 {α : Type} : List α → List α
  | [] => []
  | [x] => [x]
  | x :: _ :: r => x :: ev2 r
theorem ev2_map {α β : Type} (f : α → β) : ∀ l : List α, ev2 (l.map f) = (ev2 l).map f
  | [] => rfl
  | [_] => rfl
  | x :: y :: r => by simp [ev2, ev2_map f r]
theorem ev2_len {α : Type} : ∀ l : List α, (ev2 l).length ≤ l.length
  | [] => Nat.le_refl _
  | [_] => Nat.le_refl _
  | x :: y :: r => by have := ev2_len r; simp [ev2]; omega
theorem fm_congr {α β : Type} {f g : α → Option β} : ∀ {l : List α}, (∀ x ∈ l, f x = g x) → l.filterMap f = l.filterMap g
  | [], _ => rfl
  | x :: l, h => by rw [List.filterMap_cons, List.filterMap_cons, h x List.mem_cons_self, fm_congr fun y hy => h y (List.mem_cons_of_mem _ hy)]
theorem ev2_pick {α : Type} : ∀ l : List α, (List.range ((l.length + 1) / 2)).filterMap (fun k => l[2 * k]?) = ev2 l
  | [] => by
    have e : (([] : List α).length + 1) / 2 = 0 := by simp
    rw [e]; rfl
  | [x] => by
    have e : (([x] : List α).length + 1) / 2 = 1 := by simp
    rw [e]; rfl
  | x :: y :: r => by
    have ih := ev2_pick r
    have e : ((x :: y :: r).length + 1) / 2 = (r.length + 1) / 2 + 1 := by simp; omega
    rw [e, List.range_succ_eq_map, List.filterMap_cons]
    show x :: ((List.range ((r.length + 1) / 2)).map Nat.succ).filterMap _ = x :: ev2 r
    rw [List.filterMap_map, ← ih]
    congr 1
theorem ev2_slice (its : Array Value) (lo : Option Int) (a : Nat) (hb : sliceBounds lo none (some 2) its.size = (((min a its.size : Nat) : Int), (its.size : Int), 2)) : slicePick its lo none (some 2) = (ev2 (its.toList.drop a)).toArray := by
  unfold slicePick
  rw [hb]
  simp only []
  congr 1
  rw [← ev2_pick]
  have hc : sliceRange ((min a its.size : Nat) : Int) (its.size : Int) 2 = (List.range (((its.toList.drop a).length + 1) / 2)).map fun k => a + 2 * k := by
    unfold sliceRange
    simp only [show (2 : Int) > 0 by decide, if_true, List.length_drop, Array.length_toList]
    by_cases h : a < its.size
    · rw [if_pos (by omega)]
      have e : (((its.size : Int) - ((min a its.size : Nat) : Int) + 2 - 1) / 2).toNat = (its.size - a + 1) / 2 := by omega
      rw [e]
      refine List.map_congr_left fun k hk => ?_
      omega
    · rw [if_neg (by omega)]
      have e : (its.size - a + 1) / 2 = 0 := by omega
      rw [e]; rfl
  rw [hc, List.filterMap_map]
  refine fm_congr fun k _ => ?_
  simp only [Function.comp_def, List.getElem?_drop, Array.getElem?_toList]
theorem vals_drop {xs : List V} {us : List Value} (h : Vals xs us) : ∀ a, Vals (xs.drop a) (us.drop a) := by
  intro a
  induction a generalizing xs us with
  | zero => exact h
  | succ a ih => cases h with
    | nil => exact .nil
    | cons r t => exact ih t
theorem vals_ev2 : ∀ {xs : List V} {us : List Value}, Vals xs us → Vals (ev2 xs) (ev2 us)
  | _, _, .nil => .nil
  | _, _, .cons r .nil => .cons r .nil
  | _, _, .cons r (.cons _ t) => .cons r (vals_ev2 t)
theorem RVs.ev2 {K : PySem.W.Frag} {I : Ob} {F : Hp} {L : List Addr} : ∀ {ds : List D} {vs : List V}, RVs K I F L ds vs → RVs K I F L (ev2 ds) (ev2 vs)
  | _, _, .nil => .nil
  | _, _, .cons r .nil => .cons r .nil
  | _, _, .cons r (.cons _ t) => .cons r (RVs.ev2 t)
def tSkip (K : PySem.W.Frag) (a : Nat) (te : TE) : TE := fun σ H Q => te σ H fun v G => ∃ l vs, v = .ref l ∧ SqL K G l vs ∧ ∀ q, G q = none → Q (.ref q) (upd G q (.lst (ev2 (vs.drop a))))
section
variable {X : Cx}
theorem pe_skip {e : Expr} {te : TE} {ol : Option Expr} {tl : TO} {lo : Option Int} {a j : Nat} {p2 p3 pos : Pos} (he : PE X e te) (hl : PO X ol tl) (hq : ∀ (σ : L2.St) (H : Hp) (Q : Option Int → Hp → Prop), Q lo H → tl σ H Q)
    (hb : ∀ n : Nat, sliceBounds lo none (some 2) n = (((min a n : Nat) : Int), (n : Int), 2)) : PE X (.Subscript e (.Slice ol none (some (.Constant (.int 2) j p2)) p3) pos) (tSkip X.K a te) := by
  constructor
  intro pins s σ H Q inv h
  apply Subscript_
  refine thn (he.run pins s σ H _ inv h) ?_
  rintro v s1 ⟨w, G, i1, rw1, l, vs, rfl, hsq, fin⟩
  cases rw1
  apply wpAny_Slice
  refine thn (hl.run pins s1 σ G (fun o G2 => o = lo ∧ G2 = G) i1 (hq _ _ _ ⟨rfl, rfl⟩)) ?_
  rintro v1 s2 ⟨o1, G1, i2, k1, rfl, rfl⟩
  refine thn (po_none.run pins s2 σ G1 (fun o G2 => o = none ∧ G2 = G1) i2 ⟨rfl, rfl⟩) ?_
  rintro v2 s3 ⟨o2, G2, i3, k2, rfl, rfl⟩
  have two : PO X (some (.Constant (.int 2) j p2)) (tPart (tC (.int 2))) := po_some pe_int
  refine thn (two.run pins s3 σ G2 (fun o G3 => o = some 2 ∧ G3 = G2) i3 ⟨2, rfl, rfl, rfl⟩) ?_
  rintro v3 s4 ⟨o3, G3, i4, k3, rfl, rfl⟩
  have up : ∀ (b : Addr) (u : Obj), s4.heap.get? b = some u → (s4.heap.push { cls := .type "slice", data := .fields #[v1, v2, v3] }).get? b = some u := fun b u z => Heap.get?_push_of_some _ z
  have i5 := i4.kept (t' := s4.toks) up
  obtain ⟨its, rs, pl, sz⟩ := i5.list hsq
  have len := rs.length
  refine tail_any (ops := [.ref l, .ref s4.heap.objs.size]) pl.isList.typeIs PySem.slot_list_getitem.lookup ?_ (by with_unfolding_all rfl)
  refine wpAny_getItem_list_slice pl.isList (.new _ v1 v2 v3) k1 k2 k3 (by simp) ?_ (by rw [List.size_toArray]; omega)
  rw [ev2_slice _ _ a (hb _)]
  refine ⟨.ref _, _, i5.laid (t' := s4.toks) (o := .lst (ev2 (vs.drop a))) (fun b u z => Heap.get?_push_of_some _ z) (Nat.le_refl _) ⟨?_, _, 0, vals_ev2 (vals_drop rs a), Heap.get?_push_size _ rfl⟩, rfl, fin _ (i5.hok.fresh (Nat.le_refl _))⟩
  have h1 := ev2_len (vs.drop a)
  have h2 : (vs.drop a).length ≤ vs.length := by rw [List.length_drop]; omega
  omega
end
section
variable {c : Cn} {S : Sc} {ρ : Rho} {O O1 : Sto} {a : Expr} {xs : List D} {pos : Pos}
theorem ev_skip {te : TE} {n : Nat} (va : Ev c.K c.I te ρ O (.lst xs) O1) : Ev c.K c.I (tSkip c.K n te) ρ O (.lst (ev2 (xs.drop n))) O1 := by
  intro σ F L H ok sl Q q
  refine va σ F L H ok sl _ ?_
  intro v F1 L1 H1 n1 ok1 rv
  cases rv with
  | lst h r =>
    refine ⟨_, _, rfl, .inl (.inl (ok1.sub _ _ h)), ?_⟩
    intro p hp
    obtain ⟨ok2, n2⟩ := ok1.put (o := .lst _) c.hI hp
    exact q _ _ _ _ (n1.trans n2) ok2 (.lst upd_same ((r.drop n).ev2.mono c.hI n2.sub n2.pre))
/-- xs[::2] -/
theorem ee_ev2 {j : Nat} {p2 p3 : Pos} (ha : EE c S a ρ O (.lst xs) O1) : EE c S (.Subscript a (.Slice none none (some (.Constant (.int 2) j p2)) p3) pos) ρ O (.lst (ev2 xs)) O1 := by
  obtain ⟨ta, pa, va⟩ := ha
  refine ⟨tSkip c.K 0 ta, fun X i => ?_, ?_⟩
  · rw [← i.K]
    exact pe_skip (lo := none) (a := 0) (pa X i) po_none (fun _ _ _ h => h) fun n => by simp [sliceBounds]
  · have := ev_skip (n := 0) va
    rwa [List.drop_zero] at this
/-- xs[1::2] -/
theorem ee_od2 {j j1 : Nat} {p1 p2 p3 : Pos} (ha : EE c S a ρ O (.lst xs) O1) : EE c S (.Subscript a (.Slice (some (.Constant (.int 1) j1 p1)) none (some (.Constant (.int 2) j p2)) p3) pos) ρ O (.lst (ev2 (xs.drop 1))) O1 := by
  obtain ⟨ta, pa, va⟩ := ha
  refine ⟨tSkip c.K 1 ta, fun X i => ?_, ev_skip (n := 1) va⟩
  rw [← i.K]
  exact pe_skip (lo := some 1) (a := 1) (pa X i) (po_some pe_int) (fun _ _ _ h => ⟨1, rfl, h⟩) fun n => by simp [sliceBounds]; omega
/-- sorted(..) as a cell -/
theorem cd_sortedC {ns : List Int} : CaD c S (.builtin "sorted") [.lst (ns.map .int)] O (.loc O.length) (O ++ [.lst ((srt ns).map .int)]) :=
  ⟨rSortedI c.K, fun X j => by rw [← j.K]; exact cr_sortedI, fun F L H vs ok rs => by
    cases rs with
    | cons r t =>
      cases t
      cases r with
      | lst q r =>
        intro Q q2
        have e := RVs.ints r
        subst e
        refine ⟨_, ns, rfl, .inl (.inl (ok.sub _ _ q)), fun ms p h1 h2 hp => ?_⟩
        have := srt_uniq h1 h2
        subst this
        obtain ⟨ok2, nx⟩ := ok.cellNew c.hI hp (o := .lst ((srt ns).map V.int)) (cl := .lst ((srt ns).map .int)) ⟨ok.sub.none hp, _, upd_same, RVs.of_ints _⟩
        exact q2 _ _ _ _ nx ok2 (.loc (by rw [← ok.len]; simp))⟩
end
end DL
set_option maxRecDepth 100000
set_option maxHeartbeats 4000000
namespace DL
open PySem L2 PyProof.Rows PySem.Spec
def top (i : Nat) : Stmt := PySem.Challenge.pw_oddcrowds_k28_whole_place_whoever_calls.main.body.getD i (.Pass noPos)
abbrev sPick : Stmt := top 40
abbrev sSource : Stmt := top 39
abbrev sOf : Stmt := top 41
abbrev sNames : Stmt := top 43
variable {c : Cn}

structure Src where
  rest : List Int
  left : Int
  mixed : Int
  turn : Int
def srcK (s : Src) : List (Key × D) := [(.inr "cells", .loc 0), (.inr "left", .int s.left), (.inr "mixed", .int s.mixed), (.inr "turn", .int s.turn)]
def srcC (s : Src) : Sto := [.lst (s.rest.reverse.map .int), .dct (srcK s)]
def drain : Int → List Int → Int × List Int
  | l, [] => (l, [])
  | l, x :: r => if l < 2 then drain x r else (l, x :: r)
def drained (s : Src) (m : Int) : Src := if m > 1 then { s with rest := (drain s.left s.rest).2, left := (drain s.left s.rest).1 } else s
def pickM (s : Src) (m : Int) : Int × Src :=
  let t := drained s m
  if m < 2 ∨ t.left > 1 then (t.left % max 1 m, { t with left := t.left / max 1 m })
  else
    let k := t.turn + 1
    let a := (t.mixed + k * 104729) % 998244353
    let b := (a * a + k * 17) % 2147483647
    ((b / 16) % m, { t with turn := k, mixed := b })
def rPick : Fn := fun ds O d O' => ∃ (s : Src) (m : Int) (R : Sto), m < 10 ^ 40 ∧ ds = [.loc 1, .int m] ∧ O = srcC s ++ R ∧ d = .int (pickM s m).1 ∧ O' = srcC (pickM s m).2 ++ R

abbrev nPick : List Str := ["_law_source_here", "_law_many", "_law_left", "_law_mixed_here"]
abbrev scP : Sc := ⟨nPick, defScope sPick, fun _ => true, none⟩
theorem fsP : FnScope nPick ["_law_source_here", "_law_many"] (defScope sPick) := ⟨rfl, rfl, rfl, by decide +kernel, rfl, by decide +kernel, by decide +kernel⟩
theorem key_dec (a b : Str) : decide ((Sum.inr a : Key) = Sum.inr b) = decide (a = b) := by
  by_cases h : a = b <;> simp [h]

theorem val_left (s : Src) : valD (srcK s) (.inr "left") = some (.int s.left) := rfl
theorem put_left (s : Src) (v : Int) : putD (srcK s) (.inr "left") (.int v) = srcK { s with left := v } := rfl
theorem put_turn (s : Src) (v : Int) : putD (srcK s) (.inr "turn") (.int v) = srcK { s with turn := v } := rfl
theorem put_mixed (s : Src) (v : Int) : putD (srcK s) (.inr "mixed") (.int v) = srcK { s with mixed := v } := rfl

abbrev rho0 (m : Int) : Rho := [some (.loc 1), some (.int m), none, none]
theorem pick_loop (hl : c.mg "len" = none) (m : Int) (R : Sto) : ∀ (l : List Int) (s : Src), s.rest = l → ∃ n, WR c scP
    (loopT (stm sPick 0)) (loopB (stm sPick 0)) n (rho0 m) (srcC s ++ R) (.nx (rho0 m) (srcC (drained s m) ++ R))
  | [], s, hs => by
    refine ⟨0, ?_⟩
    have e : drained s m = s := by unfold drained; rw [hs]; simp [drain]; intro _; cases s; simp at hs ⊢; exact hs
    rw [e]
    refine .stop (ET.eq (et_w (ew_and2 (et_cmp (ee_var 1) ee_int od_gt) fun _ => ew_and2 (et_cmp (ee_dget (.inr "left") (ee_var 0) ee_str rfl rfl) ee_int od_lt) fun _ => ew_and1 (et_cmp (ee_callB hl (ea_cons (ee_dget (.inr "cells") (ee_var 0) ee_str rfl rfl) ea_nil) (cd_lenC rfl)) ee_int od_gt))) ?_)
    rw [hs]; simp
  | x :: l, s, hs => by
    by_cases h : m > 1 ∧ s.left < 2
    · obtain ⟨n, ih⟩ := pick_loop hl m R l { s with rest := l, left := x } rfl
      refine ⟨n + 1, ?_⟩
      have e : drained s m = drained { s with rest := l, left := x } m := by unfold drained; rw [if_pos h.1, if_pos h.1, hs]; simp [drain, h.2]
      rw [e]
      refine .nx (ET.eq (et_w (ew_and2 (et_cmp (ee_var 1) ee_int od_gt) fun _ => ew_and2 (et_cmp (ee_dget (.inr "left") (ee_var 0) ee_str rfl rfl) ee_int od_lt) fun _ => ew_and1 (et_cmp (ee_callB hl (ea_cons (ee_dget (.inr "cells") (ee_var 0) ee_str rfl rfl) ea_nil) (cd_lenC rfl)) ee_int od_gt))) ?_) ?_ ih
      · rw [hs]; simp [h.1, h.2]
      · refine ss_one (S1.nxO (s_dput (.inr "left") (ee_pop (ee_dget (.inr "cells") (ee_var 0) ee_str rfl rfl) (ds := l.reverse.map .int) (d := .int x) ?_) (ee_var 0) ee_str rfl) ?_)
        · show some (Cell.lst (s.rest.reverse.map .int)) = _
          rw [hs]; simp
        · rfl
    · refine ⟨0, ?_⟩
      have e : drained s m = s := by
        unfold drained
        by_cases h1 : m > 1
        · have h2 : ¬ s.left < 2 := fun z => h ⟨h1, z⟩
          rw [if_pos h1, hs]
          simp [drain, h2]
          cases s; simp at hs ⊢; exact hs.symm
        · rw [if_neg h1]
      rw [e]
      refine .stop (ET.eq (et_w (ew_and2 (et_cmp (ee_var 1) ee_int od_gt) fun _ => ew_and2 (et_cmp (ee_dget (.inr "left") (ee_var 0) ee_str rfl rfl) ee_int od_lt) fun _ => ew_and1 (et_cmp (ee_callB hl (ea_cons (ee_dget (.inr "cells") (ee_var 0) ee_str rfl rfl) ea_nil) (cd_lenC rfl)) ee_int od_gt))) ?_)
      rw [hs]
      simp
      omega
theorem pick_body (hl : c.mg "len" = none) (hM : c.mg "max" = none) (hI : c.mg "int" = none) (s : Src) (m : Int) (hm : m < 10 ^ 40) (R : Sto) : SS c scP (defBody sPick) (rho0 m) (srcC s ++ R) (.rt (.int (pickM s m).1) (srcC (pickM s m).2 ++ R)) := by
  obtain ⟨n, w⟩ := pick_loop (c := c) hl m R s.rest s rfl
  refine ss_cons (s_while w) ?_
  refine ss_cons (s_set 2 (ee_dget (.inr "left") (ee_var 0) ee_str rfl (val_left _))) ?_
  have e : pickM s m = if m < 2 ∨ (drained s m).left > 1 then ((drained s m).left % max 1 m, { drained s m with left := (drained s m).left / max 1 m })
    else ((((((drained s m).mixed + ((drained s m).turn + 1) * 104729) % 998244353) * (((drained s m).mixed + ((drained s m).turn + 1) * 104729) % 998244353) + ((drained s m).turn + 1) * 17) % 2147483647 / 16) % m,
      { drained s m with turn := (drained s m).turn + 1, mixed := ((((drained s m).mixed + ((drained s m).turn + 1) * 104729) % 998244353) * (((drained s m).mixed + ((drained s m).turn + 1) * 104729) % 998244353) + ((drained s m).turn + 1) * 17) % 2147483647 }) := rfl
  rw [e]
  generalize drained s m = t
  have ht : ET c scP (loopT (stm sPick 2)) [some (.loc 1), some (.int m), some (.int t.left), none] (srcC t ++ R) (decide (m < 2) || decide (t.left > 1)) (srcC t ++ R) :=
    et_w (ew_or2 (et_cmp (ee_var 1) ee_int od_lt) fun _ => ew_or1 (et_cmp (ee_var 2) ee_int od_gt))
  by_cases h : m < 2 ∨ t.left > 1
  · rw [if_pos h]
    refine ss_last (s_ifT (ht.eq (by simpa using h)) ?_)
    refine ss_cons (S1.nxO (s_dput (.inr "left") (ee_op (ee_var 2) (ee_callB hM (ea_cons ee_int (ea_cons (ee_var 1) ea_nil)) cd_max) (od_fdivW (by omega) (by omega))) (ee_var 0) ee_str rfl) rfl) ?_
    exact ss_one (s_ret (ee_op (ee_callTy hI (ea_cons (ee_var 2) ea_nil) cd_int) (ee_callB hM (ea_cons ee_int (ea_cons (ee_var 1) ea_nil)) cd_max) (od_mod (by omega))))
  · rw [if_neg h]
    refine ss_cons (s_ifF (ht.eq (by simpa using h)) ss_nil) ?_
    have ha : 0 ≤ (t.mixed + (t.turn + 1) * 104729) % 998244353 ∧ (t.mixed + (t.turn + 1) * 104729) % 998244353 < 998244353 := by omega
    refine ss_cons (S1.nxO (s_dput (.inr "turn") (ee_op (ee_dget (.inr "turn") (ee_var 0) ee_str rfl rfl) ee_int od_add) (ee_var 0) ee_str rfl) rfl) ?_
    refine ss_cons (s_set 3 (ee_op (ee_callTy hI (ea_cons (ee_op (ee_dget (.inr "mixed") (ee_var 0) ee_str rfl rfl) (ee_op (ee_dget (.inr "turn") (ee_var 0) ee_str rfl rfl) ee_int (od_mul (.inr (by decide)))) od_add) ea_nil) cd_int) ee_int (od_mod (by decide)))) ?_
    refine ss_cons (s_set 3 (ee_op (ee_callTy hI (ea_cons (ee_op (ee_op (ee_var 3) (ee_var 3) (od_mul (.inl (by omega)))) (ee_op (ee_dget (.inr "turn") (ee_var 0) ee_str rfl rfl) ee_int (od_mul (.inr (by decide)))) od_add) ea_nil) cd_int) ee_int (od_mod (by decide)))) ?_
    refine ss_cons (s_dput (.inr "mixed") (ee_var 3) (ee_var 0) ee_str rfl) ?_
    exact ss_one (s_ret (ee_op (ee_callTy hI (ea_cons (ee_op (ee_var 3) ee_int (od_fdiv ⟨by decide, by decide⟩)) ea_nil) cd_int) (ee_var 1) (od_mod (by omega))))
theorem pick_ok {f : Addr} {fd : FuncData} (F : Fun c.K "_law_pick" "_law_pick" sPick f fd) (hm : c.mg "_law_pick" = some (.ref f)) (hb : Binds c.K fd ["_law_source_here", "_law_many"] []) (hl : c.mg "len" = none) (hM : c.mg "max" = none) (hI : c.mg "int" = none) :
    DefOk c "_law_pick" rPick ["_law_source_here", "_law_many"] (c.k + 1) := by
  refine def_ok F hm hb fsP (fun ds O d O' h => ?_) fun ds O d O' h => ?_
  · obtain ⟨s, m, R, _, rfl, _⟩ := h; rfl
  · obtain ⟨s, m, R, h1, rfl, rfl, rfl, rfl⟩ := h
    exact pick_body hl hM hI s m h1 R

/-! ### the source -/
abbrev nSource : List Str := ["_law_script", "_law_mixed_here", "_law_cell"]
abbrev scSource : Sc := ⟨nSource, defScope sSource, fun _ => true, none⟩
theorem fsSource : FnScope nSource ["_law_script"] (defScope sSource) := ⟨rfl, rfl, rfl, by decide +kernel, rfl, by decide +kernel, by decide +kernel⟩
def mixM : Int → List Int → Int
  | m, [] => m
  | m, n :: ns => mixM ((m * 69069 + n * 31 + 5) % 2147483629) ns
def srcM (ns : List Int) : Src := ⟨ns.map fun n => (n.natAbs : Int), 1, mixM 11 ns, 0⟩
def rSource : Fn := fun ds O d O' => ∃ ns : List Int, ns.length ≤ 63 ∧ ds = [.rd (ns.map .int)] ∧ O = [] ∧ d = .loc 1 ∧ O' = srcC (srcM ns)
theorem source_loop (hI : c.mg "int" = none) (x : D) : ∀ (ns : List Int) (m : Int), FR c scSource (loopT (stm sSource 1)) (loopB (stm sSource 1)) (ns.map .int) [some x, some (.int m), none] [] (.nx [some x, some (.int (mixM m ns)), none] [])
  | [], m => .nil
  | n :: ns, m => by
    refine .nx (gt_name 2) (ss_one (s_set 1 (ee_op (ee_callTy hI (ea_cons (ee_op (ee_op (ee_op (ee_var 1) ee_int (od_mul (.inr (by decide)))) (ee_op (ee_var 2) ee_int (od_mul (.inr (by decide)))) od_add) ee_int od_add) ea_nil) cd_int) ee_int (od_mod (by decide))))) ?_
    exact .less (Les.cons (Les.cons (Les.cut (Les.refl _)))) (source_loop hI x ns _)
theorem source_comp (hA : c.mg "abs" = none) {scope : Scope} {tg elt : Expr} {ρ : Rho} (ns : List Int)
    (h : ∀ n : Int, ∃ is ρ1, GT c (scSource.blk scope) tg is ρ (.int n) ρ1 ∧ (∀ i ∈ is, i ∈ [2]) ∧ EE c (scSource.blk scope) elt ρ1 [] (.int n.natAbs) []) : CR c (scSource.blk scope) tg [] elt [2] ρ (ns.map .int) [] ((ns.map fun n => (n.natAbs : Int)).map .int) [] := by
  induction ns with
  | nil => exact .nil
  | cons n ns ih =>
    obtain ⟨is, ρ1, h1, h2, h3⟩ := h n
    exact .yes h1 h2 ei_nil h3 ih
theorem source_ok {f : Addr} {fd : FuncData} (F : Fun c.K "_law_source" "_law_source" sSource f fd) (hm : c.mg "_law_source" = some (.ref f)) (hb : Binds c.K fd ["_law_script"] []) (hI : c.mg "int" = none) (hA : c.mg "abs" = none) :
    DefOk c "_law_source" rSource ["_law_script"] (c.k + 1) := by
  refine def_ok F hm hb fsSource (fun ds O d O' h => ?_) fun ds O d O' h => ?_
  · obtain ⟨ns, _, rfl, _⟩ := h; rfl
  · obtain ⟨ns, hn, rfl, rfl, rfl, rfl⟩ := h
    refine ss_cons (s_set 1 ee_int) ?_
    refine ss_cons (s_for (it_rd (ee_var 0)) (.less (Les.cons (Les.cons (Les.cut (Les.refl _)))) (source_loop hI _ ns 11))) ?_
    refine ss_one (s_ret (EE.eqO (ee_dictN (eps_cons (.inr "cells") ee_str (ee_revN (ee_lc [("_law_cell", 2)] (it_rd (ee_var 0)) (source_comp hA ns fun n => ⟨_, _, gt_name 2, by simp, ee_callB hA (ea_cons (ee_var 2) ea_nil) cd_abs⟩) (by simp; omega)))
      (eps_cons (.inr "left") ee_str ee_int (eps_cons (.inr "mixed") ee_str (ee_var 1) (eps_cons (.inr "turn") ee_str ee_int eps_nil)))) [.inr "cells", .inr "left", .inr "mixed", .inr "turn"]) ?_))
    show _ = srcC (srcM ns)
    unfold srcC srcM
    simp [srcK, List.map_reverse]

/-! ### a drawn member, drawn words -/
theorem pickM_bound (s : Src) (m : Int) (h : 1 ≤ m) : 0 ≤ (pickM s m).1 ∧ (pickM s m).1 < m := by
  unfold pickM
  simp only
  split
  · constructor
    · exact Int.emod_nonneg _ (by omega)
    · have := Int.emod_lt_of_pos (drained s m).left (show (0 : Int) < max 1 m by omega)
      show _ % _ < _
      omega
  · constructor
    · exact Int.emod_nonneg _ (by omega)
    · exact Int.emod_lt_of_pos _ (by omega)
def pickN (s : Src) (m : Nat) : Nat := (pickM s m).1.toNat
theorem pickN_lt (s : Src) (m : Nat) (h : 1 ≤ m) : pickN s m < m := by
  have := pickM_bound s m (by omega)
  unfold pickN; omega
theorem pickN_int (s : Src) (m : Nat) (h : 1 ≤ m) : ((pickN s m : Nat) : Int) = (pickM s m).1 := by
  have := pickM_bound s m (by omega)
  unfold pickN; omega
def pickS (s : Src) (m : Int) : Src := (pickM s m).2
abbrev nOf : List Str := ["_law_source_here", "_law_some"]
abbrev scOf : Sc := ⟨nOf, defScope sOf, fun _ => true, none⟩
theorem fsOf : FnScope nOf nOf (defScope sOf) := ⟨rfl, rfl, rfl, by decide +kernel, rfl, by decide +kernel, by decide +kernel⟩
def ofD (s : Src) (xs : List D) : D := xs.getD (pickN s xs.length) .non
def rOf : Fn := fun ds O d O' => ∃ (s : Src) (xs : List D) (R : Sto), 1 ≤ xs.length ∧ xs.length < 1000000 ∧ ds = [.loc 1, .lst xs] ∧ O = srcC s ++ R ∧ d = ofD s xs ∧ O' = srcC (pickS s xs.length) ++ R
theorem ofD_mem (s : Src) (xs : List D) (h : 1 ≤ xs.length) : ofD s xs ∈ xs := by
  unfold ofD
  rw [List.getD_eq_getElem?_getD, List.getElem?_eq_getElem (pickN_lt s _ h)]
  exact List.getElem_mem _
/-- a call of pick by a number that is told -/
theorem pick_rule {s : Src} {m : Int} {R : Sto} (h : m < 10 ^ 40) : rPick [.loc 1, .int m] (srcC s ++ R) (.int (pickM s m).1) (srcC (pickS s m) ++ R) := ⟨s, m, R, h, rfl, rfl, rfl, rfl⟩
theorem of_ok {f : Addr} {fd : FuncData} (F : Fun c.K "_law_of" "_law_of" sOf f fd) (hm : c.mg "_law_of" = some (.ref f)) (hb : Binds c.K fd nOf []) {j : Nat} (hj : j ≤ c.k) (GP : DefOk c "_law_pick" rPick ["_law_source_here", "_law_many"] j) (hl : c.mg "len" = none) :
    DefOk c "_law_of" rOf nOf (c.k + 1) := by
  refine def_ok F hm hb fsOf (fun ds O d O' h => ?_) fun ds O d O' h => ?_
  · obtain ⟨s, xs, R, _, _, rfl, _⟩ := h; rfl
  · obtain ⟨s, xs, R, h1, h2, rfl, rfl, rfl, rfl⟩ := h
    refine ss_one (s_ret (ee_ix (ee_var 1) (ee_call GP (ea_cons (ee_var 0) (ea_cons (ee_callB hl (ea_cons (ee_var 1) ea_nil) cd_lenL) ea_nil)) (pick_rule (by omega)) hj) (ix_lst ?_)))
    rw [← pickN_int s xs.length h1]
    refine atI_get ?_
    unfold ofD
    rw [List.getD_eq_getElem?_getD, List.getElem?_eq_getElem (pickN_lt s _ h1)]
    rfl

abbrev nNames : List Str := ["_law_source_here", "_law_many", "_law_shift", "_law_names_here", "_law_tails", "_law_k", "_law_letter"]
abbrev scNames : Sc := ⟨nNames, defScope sNames, fun _ => true, none⟩
theorem fsNames : FnScope nNames ["_law_source_here", "_law_many"] (defScope sNames) := ⟨rfl, rfl, rfl, by decide +kernel, rfl, by decide +kernel, by decide +kernel⟩
def lettersS : Str := "abcdefghijklmnopqrstuvwxyz"
def tails : List Str := ["", "", "", "k", "kkkkkkkkk"]
/-- two figures -/
def figM (q : Int) : Str := cutS (Str.ofString (toString (100 + q))) (some 1) none
def letM (s : Src) : Str := ⟨#[97 + pickN s 26]⟩
def tailM (s : Src) : Str := tails.getD (pickN s 5) ""
def nameM (sh : Int) (s : Src) (k : Nat) : Str × Src := (letM s ++ figM ((sh + 37 * (k : Int)) % 100) ++ tailM (pickS s 26), pickS (pickS s 26) 5)
def namesM (s : Src) (m : Nat) : List Str × Src := mapS (nameM (pickM s 100).1) (pickS s 100) (List.range m)
def rNames : Fn := fun ds O d O' => ∃ (s : Src) (m : Nat) (R : Sto), m ≤ 100 ∧ ds = [.loc 1, .int m] ∧ O = srcC s ++ R ∧ d = .lst ((namesM s m).1.map .str) ∧ O' = srcC (namesM s m).2 ++ R
theorem fig_small : ∀ q : Fin 100, figM (q.val : Int) = ⟨#[48 + q.val / 10, 48 + q.val % 10]⟩ ∧ (100 + (q.val : Int)).natAbs < 10 ^ 60 ∧ (Str.ofString (toString (100 + (q.val : Int)))).length ≤ 100 := by decide +kernel

theorem fig_at (q : Int) (h0 : 0 ≤ q) (h1 : q < 100) : figM q = ⟨#[48 + q.toNat / 10, 48 + q.toNat % 10]⟩ ∧ Big (100 + q) ∧ (Str.ofString (toString (100 + q))).length ≤ 100 := by
  have h := fig_small ⟨q.toNat, by omega⟩
  have e : ((q.toNat : Nat) : Int) = q := by omega
  simp only [e] at h
  exact h
theorem srcC_lk {s s' : Src} {R : Sto} : stoLk (srcC s ++ R) = true → stoLk (srcC s' ++ R) = true := by
  intro h
  unfold stoLk stoBelow srcC at h ⊢
  simp only [List.all_append, List.all_cons, List.length_append, List.length_cons, Bool.and_eq_true, List.all_nil, List.length_nil] at h ⊢
  refine ⟨⟨?_, ?_, trivial⟩, h.2⟩
  · have : ∀ l : List Int, lkAll (0 + 1 + 1 + R.length) (l.map .int) = true := fun l => by induction l with | nil => rfl | cons x l ih => simp [lkAll, D.lk, ih]
    exact this _
  · simp [Cell.lk, srcK, lkAll, D.lk]; omega
theorem freeAll_map {α : Type} (f : α → D) (h : ∀ a, (f a).free = true) (l : List α) : freeAll (l.map f) = true := freeAll_iff.mpr fun d hd => by obtain ⟨a, _, rfl⟩ := List.mem_map.mp hd; exact h a
theorem freeAll_str (l : List Str) : freeAll (l.map .str) = true := freeAll_map _ (fun _ => rfl) l
theorem letters_at (n : Nat) (h : n < 26) : lettersS.cps.toList[n]? = some (97 + n) := by
  have : ∀ n : _root_.Fin 26, lettersS.cps.toList[n.val]? = some (97 + n.val) := by decide +kernel
  exact this ⟨n, h⟩
theorem tails_at (n : Nat) (h : n < 5) : (tails.map D.str)[n]? = some (.str (tails.getD n "")) ∧ (tails.getD n "").length ≤ 9 := by
  have : ∀ n : _root_.Fin 5, (tails.getD n.val "").length ≤ 9 := by decide +kernel
  refine ⟨?_, this ⟨n, h⟩⟩
  rw [List.getElem?_map, List.getD_eq_getElem?_getD, List.getElem?_eq_getElem (by simpa [tails] using h)]
  rfl
theorem app_len (a b : Str) : (a ++ b).length = a.length + b.length := Str.length_append a b
theorem names_loop (GP : DefOk c "_law_pick" rPick ["_law_source_here", "_law_many"] c.k) (hI : c.mg "int" = none) (hs : c.mg "str" = none) (x y : D) (sh : Int) (R : Sto) : ∀ (ks : List Nat) (s : Src) (acc : List Str), acc.length + ks.length ≤ 100 → (∀ k ∈ ks, k < 100) →
    FR c scNames (loopT (stm sNames 1)) (loopB (stm sNames 1)) (ks.map fun k : Nat => .int (k : Int)) [some (.loc 1), some x, some (.int sh), some (.loc (2 + R.length)), some (.lst (tails.map .str)), none, none] (srcC s ++ (R ++ [.lst (acc.map .str)]))
      (.nx [some (.loc 1), some x, some (.int sh), some (.loc (2 + R.length)), some (.lst (tails.map .str)), none, none] (srcC (mapS (nameM sh) s ks).2 ++ (R ++ [.lst ((acc ++ (mapS (nameM sh) s ks).1).map .str)])))
  | [], s, acc, _, _ => by simpa [mapS] using FR.nil
  | k :: ks, s, acc, hl, hk => by
    have hk0 : k < 100 := hk k List.mem_cons_self
    have hq := fig_at ((sh + 37 * (k : Int)) % 100) (by omega) (by omega)
    have h1 := pickN_lt s 26 (by decide)
    have h2 := pickN_lt (pickS s 26) 5 (by decide)
    have ih := names_loop GP hI hs x y sh R ks (nameM sh s k).2 (acc ++ [(nameM sh s k).1]) (by simp at hl ⊢; omega) fun i hi => hk i (List.mem_cons_of_mem _ hi)
    have e1 : (mapS (nameM sh) s (k :: ks)).2 = (mapS (nameM sh) (nameM sh s k).2 ks).2 := rfl
    have e2 : acc ++ (mapS (nameM sh) s (k :: ks)).1 = (acc ++ [(nameM sh s k).1]) ++ (mapS (nameM sh) (nameM sh s k).2 ks).1 := by
      show acc ++ ((nameM sh s k).1 :: _) = _
      simp
    rw [e1, e2]
    refine .nx (gt_name 5) ?_ ih
    apply SS.less
    · skip
      refine ss_cons (s_set 6 (ee_ix ee_str (ee_call GP (ea_cons (ee_var 0) (ea_cons ee_int ea_nil)) (pick_rule (by decide)) (Nat.le_refl _)) (ix_st (by decide +kernel) (m := 97 + pickN s 26) ?_))) ?_
      · have z : ((pickN s 26 : Nat) : Int) = (pickM s 26).1 := pickN_int s 26 (by decide)
        rw [← z]
        exact atI_get (letters_at _ h1)
      refine ss_one (S1.nxO (s_expr (ee_append (ee_var 3) (ee_op (ee_op (ee_var 6) (ee_slice (ee_callTy hs (ea_cons (ee_op ee_int (ee_op (ee_callTy hI (ea_cons (ee_op (ee_var 2) (ee_op ee_int (ee_var 5) (od_mul (.inl (by decide)))) od_add) ea_nil) cd_int) ee_int (od_mod (by decide))) od_add) ea_nil) (cd_strI hq.2.1)) (eo_some ee_int) eo_none (sd_str (by have := hq.2.2; omega)))
          (od_addS ?a1)) (ee_ix (ee_var 4) (ee_call GP (ea_cons (ee_var 0) (ea_cons ee_int ea_nil)) (pick_rule (by decide)) (Nat.le_refl _)) (ix_lst (d := .str (tailM (pickS s 26))) ?a2)) (od_addS ?a3)) own_get own_get (by simp at hl ⊢; omega))) ?a4)
      case a2 =>
        have z : ((pickN (pickS s 26) 5 : Nat) : Int) = (pickM (pickS s 26) 5).1 := pickN_int (pickS s 26) 5 (by decide)
        rw [← z]
        exact atI_get (tails_at _ h2).1
      case a1 =>
        show (⟨#[97 + pickN s 26]⟩ : Str).length + (figM _).length ≤ 16777216
        rw [hq.1]; exact Nat.le_of_ble_eq_true rfl
      case a3 =>
        show (letM s ++ figM _).length + (tailM _).length ≤ 16777216
        have := (tails_at _ h2).2
        rw [app_len, hq.1]
        show 1 + 2 + _ ≤ _
        unfold tailM; omega
      case a4 =>
        show (srcC _ ++ (R ++ [_])).set (2 + R.length) _ = _
        exact (own_set (A := srcC _)).trans (by rw [List.map_append]; rfl)
    · exact Les.cons (Les.cons (Les.cons (Les.cons (Les.cons (Les.cut (Les.cut (Les.refl _)))))))

theorem names_ok {f : Addr} {fd : FuncData} (F : Fun c.K "_law_names" "_law_names" sNames f fd) (hm : c.mg "_law_names" = some (.ref f)) (hb : Binds c.K fd ["_law_source_here", "_law_many"] []) {j : Nat} (hj : j ≤ c.k)
    (GP : DefOk c "_law_pick" rPick ["_law_source_here", "_law_many"] j) (hI : c.mg "int" = none) (hs : c.mg "str" = none) (hR : c.mg "range" = none) : DefOk c "_law_names" rNames ["_law_source_here", "_law_many"] (c.k + 1) := by
  have GP := GP.up hj
  refine def_ok F hm hb fsNames (fun ds O d O' h => ?_) fun ds O d O' h => ?_
  · obtain ⟨s, m, R, _, rfl, _⟩ := h; rfl
  · obtain ⟨s, m, R, h1, rfl, rfl, rfl, rfl⟩ := h
    refine SS.drop (J := [.dead]) ?_ (by simp [srcC]) (D.free_lk _ _ (by simpa [D.free] using freeAll_str _)) srcC_lk
    refine ss_cons (s_par3 (i := 2) (j := 3) (l := 4) rfl rfl rfl (ea_cons (ee_call GP (ea_cons (ee_var 0) (ea_cons ee_int ea_nil)) (pick_rule (by decide)) (Nat.le_refl _)) (ea_cons (ee_lstN ea_nil) (ea_cons (ee_lst (ea_cons ee_str (ea_cons ee_str (ea_cons ee_str (ea_cons ee_str (ea_cons ee_str ea_nil)))))) ea_nil)))) ?_
    have hn := names_loop GP hI hs (.int m) .non (pickM s 100).1 R (List.range m) (pickS s 100) [] (by simpa using h1) fun k hk => by have := List.mem_range.mp hk; omega
    have er : rangeD 0 ((m : Int)).toNat = (List.range m).map fun k : Nat => .int (k : Int) := by unfold rangeD; simp
    have e1 : (srcC (pickS s 100) ++ R ++ [Cell.lst []]) = srcC (pickS s 100) ++ (R ++ [.lst (([] : List Str).map .str)]) := by simp
    have e2 : (srcC (pickS s 100) ++ R).length = 2 + R.length := by simp [srcC]; omega
    rw [e2, e1]
    refine ss_cons (s_for (it_range1 hR (ee_var 1) (by omega) (by omega)) (er ▸ hn)) ?_
    refine SS.frz (k := 2 + R.length) (m := 3) (own_get (A := srcC _)) rfl ?_
    refine SS.eqO ?_ (own_set (A := srcC _)).symm
    rw [← List.append_assoc]
    exact ss_one (s_ret (ee_var 3))

/-! ### people -/
abbrev Pn := Str × Int × Int
def pD (p : Pn) : D := .tup [.str p.1, .int p.2.1, .int p.2.2]
def ofI (s : Src) (xs : List Int) : Int := xs.getD (pickN s xs.length) 0
theorem ofI_eq (s : Src) (xs : List Int) (h : 1 ≤ xs.length) : ofD s (xs.map .int) = .int (ofI s xs) := by
  unfold ofD ofI
  rw [List.length_map]
  have hp := pickN_lt s xs.length h
  rw [List.getD_eq_getElem?_getD, List.getElem?_map, List.getD_eq_getElem?_getD, List.getElem?_eq_getElem hp]
  rfl
theorem of_rule {s : Src} {xs : List Int} {R : Sto} (h1 : 1 ≤ xs.length) (h2 : xs.length < 1000000) : rOf [.loc 1, .lst (xs.map .int)] (srcC s ++ R) (.int (ofI s xs)) (srcC (pickS s xs.length) ++ R) :=
  ⟨s, xs.map .int, R, by simpa using h1, by simpa using h2, rfl, rfl, (ofI_eq s xs h1).symm, by rw [List.length_map]⟩
theorem names_rule {s : Src} {m : Nat} {i : Int} {R : Sto} (h : m ≤ 100) (e : (m : Int) = i) : rNames [.loc 1, .int i] (srcC s ++ R) (.lst ((namesM s m).1.map .str)) (srcC (namesM s m).2 ++ R) := e ▸ ⟨s, m, R, h, rfl, rfl, rfl, rfl⟩

theorem ofI_mem' (s : Src) (xs : List Int) (h : 1 ≤ xs.length) : ofI s xs ∈ xs := by
  unfold ofI
  have hp := pickN_lt s xs.length h
  rw [List.getD_eq_getElem?_getD, List.getElem?_eq_getElem hp]
  exact List.getElem_mem hp
theorem of_ruleA {s : Src} {xs : List Int} {R : Sto} (h1 : 1 ≤ xs.length) (h2 : xs.length < 1000000) {R2 : Sto} : rOf [.loc 1, .lst (xs.map .int)] (srcC s ++ R ++ R2) (.int (ofI s xs)) (srcC (pickS s xs.length) ++ (R ++ R2)) := by
  rw [List.append_assoc]; exact of_rule h1 h2

/-! ### gaps, in themselves -/
def plc (ps : List Pn) : List Int := ps.map fun p => p.2.1
def isOddM (ps : List Pn) (y : Int) : Bool := decide (((ps.filter fun p => decide (p.2.1 ≤ y) && decide (p.2.2 = 1)).length : Int) % 2 = 1)
abbrev Gp := Int × Int × Bool
def kindS (b : Bool) : Str := if b then "odd" else "even"
def gD (g : Gp) : D := .tup [.int g.1, .int g.2.1, .str (kindS g.2.2)]
def gapL (f : Int → Bool) : List Int → List Gp
  | x :: y :: r => (x, y - x, f x) :: gapL f (y :: r)
  | _ => []
theorem gapL_len (f : Int → Bool) : ∀ l : List Int, (gapL f l).length = l.length - 1
  | [] => rfl
  | [_] => rfl
  | x :: y :: r => by simp [gapL, gapL_len f (y :: r)]
def lgapsM (ps : List Pn) : List Gp := gapL (isOddM ps) (spots (plc ps))
theorem cut1 (xs : List Int) : cutD (xs.map .int) (some 1) none = (xs.drop 1).map .int := by
  unfold cutD HT.sIx
  cases xs with
  | nil => rfl
  | cons x r =>
    simp
    exact List.take_of_length_le (by simp)
theorem insU_len (n : Int) : ∀ l : List Int, (insU n l).length ≤ l.length + 1
  | [] => by simp [insU]
  | x :: l => by
    have := insU_len n l
    unfold insU
    split
    · simp
    · split <;> simp <;> omega
theorem spots_len : ∀ ns : List Int, (spots ns).length ≤ ns.length
  | [] => Nat.le_refl _
  | n :: ns => by
    have h1 := insU_len n (spots ns)
    have h2 := spots_len ns
    show (insU n (spots ns)).length ≤ ns.length + 1
    omega
def twoD (p : Int × Int) : D := .tup [.int p.1, .int p.2]
def twos : List Int → List (Int × Int)
  | x :: y :: r => (x, y) :: twos (y :: r)
  | _ => []
theorem zip_twos : ∀ xs : List Int, List.zipWith (fun x y => D.tup [x, y]) (xs.map .int) ((xs.drop 1).map .int) = (twos xs).map twoD
  | [] => rfl
  | [_] => rfl
  | x :: y :: r => by
    have := zip_twos (y :: r)
    simp only [List.drop_succ_cons, List.drop_zero, List.map_cons, List.zipWith_cons_cons, twos, twoD] at this ⊢
    rw [this]
theorem gapL_twos (f : Int → Bool) : ∀ xs : List Int, gapL f xs = (twos xs).map fun p => (p.1, p.2 - p.1, f p.1)
  | [] => rfl
  | [_] => rfl
  | x :: y :: r => by simp [gapL, twos, gapL_twos f (y :: r)]


end DL
set_option maxRecDepth 100000
set_option maxHeartbeats 4000000
namespace DL
open PySem L2 PyProof.Rows PySem.Spec
/-! ### the program: words, persons, standings -/
abbrev pIsWord : Stmt := top 11
abbrev pIsInt : Stmt := top 12
abbrev pWrongP : Stmt := top 14
abbrev pWrong : Stmt := top 15
abbrev pInit : Stmt := inClass (top 16) 0
abbrev pPeople : Stmt := inClass (top 16) 2
section
variable {c : Cn}
def lettersD : Str := "abcdefghijklmnopqrstuvwxyz0123456789"
def isWordM (s : Str) : Bool := decide (1 ≤ s.length) && decide (s.length ≤ 12) && (decide (s.cps.toList.headD 0 ∈ lettersS.cps.toList) && s.cps.toList.all fun k => decide (k ∈ lettersD.cps.toList))
abbrev nWord : List Str := ["value", "sign"]
abbrev scWord : Sc := ⟨nWord, defScope pIsWord, fun _ => true, none⟩
theorem fsWord : FnScope nWord ["value"] (defScope pIsWord) := ⟨rfl, rfl, rfl, by decide +kernel, rfl, by decide +kernel, by decide +kernel⟩
def rWord : Fn := fun ds O d O' => ∃ s : Str, s.length ≤ 1000 ∧ ds = [.str s] ∧ d = .bl (isWordM s) ∧ O' = O
theorem word_ok {f : Addr} {fd : FuncData} (F : Fun c.K "is_word" "is_word" pIsWord f fd) (hm : c.mg "is_word" = some (.ref f)) (hb : Binds c.K fd ["value"] []) (h1 : c.mg "isinstance" = none) (h2 : c.mg "str" = none) (h3 : c.mg "len" = none) (h4 : c.mg "all" = none)
    (g1 : ∃ t, c.mg "LONGEST_WORD" = some (.int 12 t)) (g2 : ∃ t, c.mg "LETTERS" = some (.str lettersS t)) (g3 : ∃ t, c.mg "LETTERS_AND_DIGITS" = some (.str lettersD t)) : DefOk c "is_word" rWord ["value"] (c.k + 1) := by
  refine def_ok F hm hb fsWord (fun ds O d O' h => ?_) fun ds O d O' h => ?_
  · obtain ⟨s, _, rfl, _⟩ := h; rfl
  · obtain ⟨s, hl, rfl, rfl, rfl⟩ := h
    have ht : ET c scWord (loopT (stm pIsWord 0)) [some (.str s), none] O' (!true || !(decide ((1 : Int) ≤ s.length) && decide ((s.length : Int) ≤ 12))) O' :=
      et_w (ew_or2 (et_not (et_val (ee_callB h1 (ea_cons (ee_var 0) (ea_cons (ee_ty (nm := "str") h2) ea_nil)) (cd_isi rfl (by decide +kernel))))) fun _ => ew_or1 (et_not (et_chain ee_int (ee_callB h3 (ea_cons (ee_var 0) ea_nil) (cd_lenS (by omega))) (ee_globI g1) od_le od_le)))
    have e1 : decide ((1 : Int) ≤ s.length) = decide (1 ≤ s.length) := by simp; omega
    have e2 : decide ((s.length : Int) ≤ 12) = decide (s.length ≤ 12) := by simp; omega
    by_cases hk : 1 ≤ s.length ∧ s.length ≤ 12
    · have hk' : (!true || !(decide ((1 : Int) ≤ s.length) && decide ((s.length : Int) ≤ 12))) = false := by rw [e1, e2]; simp [hk]
      rw [hk'] at ht
      refine ss_cons (s_ifF ht ss_nil) ?_
      have hcs : s.cps.toList ≠ [] := fun z => by
        have : s.cps.toList.length = 0 := by rw [z]; rfl
        have e : s.length = s.cps.size := rfl
        have : s.cps.size = 0 := by simpa using this
        omega
      obtain ⟨m, r, hm'⟩ := List.exists_cons_of_ne_nil hcs
      refine ss_one (s_ret (EE.eq (ee_and2 (k2 := s.cps.toList.all fun k => decide (k ∈ lettersD.cps.toList)) (ee_cmp (ee_ix (ee_var 0) ee_int (ix_st (by omega) (m := m) (by rw [hm']; exact atI_get (n := 0) rfl))) (ee_globS g2) od_inS) fun _ => ee_one (EE.eq (ee_callB h4 (ea_cons (EE.eq (ee_lc [("sign", 1)] (it_str (ee_var 0))
        (cr_map (fun k : Nat => D.str ⟨#[k]⟩) (fun k => .bl (decide (k ∈ lettersD.cps.toList))) s.cps.toList fun k _ => ⟨_, _, gt_name 1, by simp, ee_cmp (ee_var 1) (ee_globS g3) od_inS⟩) (by simp; have e : s.length = s.cps.size := rfl; omega)) (d' := .lst ((s.cps.toList.map fun k => decide (k ∈ lettersD.cps.toList)).map .bl)) (by simp)) ea_nil) cd_all) (by simp [List.all_map]))) ?_))
      simp only [isWordM, hk.1, hk.2, hm', List.headD_cons]
      simp
    · have hk' : (!true || !(decide ((1 : Int) ≤ s.length) && decide ((s.length : Int) ≤ 12))) = true := by rw [e1, e2]; simp; omega
      rw [hk'] at ht
      refine ss_last (s_ifT ht (ss_one (s_ret (EE.eq ee_bl ?_))))
      have : (decide (1 ≤ s.length) && decide (s.length ≤ 12)) = false := by simp; omega
      simp [isWordM, this]
abbrev nInt : List Str := ["value"]
abbrev scInt : Sc := ⟨nInt, defScope pIsInt, fun _ => true, none⟩
theorem fsInt : FnScope nInt ["value"] (defScope pIsInt) := ⟨rfl, rfl, rfl, by decide +kernel, rfl, by decide +kernel, by decide +kernel⟩
def rInt : Fn := fun ds O d O' => ∃ i : Int, ds = [.int i] ∧ d = .bl true ∧ O' = O
theorem int_ok {f : Addr} {fd : FuncData} (F : Fun c.K "is_integer" "is_integer" pIsInt f fd) (hm : c.mg "is_integer" = some (.ref f)) (hb : Binds c.K fd ["value"] []) (h1 : c.mg "isinstance" = none) (h2 : c.mg "int" = none) (h3 : c.mg "bool" = none) : DefOk c "is_integer" rInt ["value"] (c.k + 1) := by
  refine def_ok F hm hb fsInt (fun ds O d O' h => ?_) fun ds O d O' h => ?_
  · obtain ⟨i, rfl, _⟩ := h; rfl
  · obtain ⟨i, rfl, rfl, rfl⟩ := h
    exact ss_one (s_ret (ee_andT (ee_callB h1 (ea_cons (ee_var 0) (ea_cons (ee_ty (nm := "int") h2) ea_nil)) (cd_isi rfl (by decide +kernel))) (ee_one (ee_not (k := false) (ee_callB h1 (ea_cons (ee_var 0) (ea_cons (ee_ty (nm := "bool") h3) ea_nil)) (cd_isi rfl (by decide +kernel)))))))
/-! a person, all the people -/
abbrev nWP : List Str := ["person", "earlier", "name", "place", "voice"]
abbrev scWP : Sc := ⟨nWP, defScope pWrongP, fun _ => true, none⟩
theorem fsWP : FnScope nWP ["person", "earlier"] (defScope pWrongP) := ⟨rfl, rfl, rfl, by decide +kernel, rfl, by decide +kernel, by decide +kernel⟩
def PnOk (p : Pn) : Prop := isWordM p.1 = true ∧ p.1.length ≤ 1000 ∧ (p.2.2 = 0 ∨ p.2.2 = 1)
def rWP : Fn := fun ds O d O' => ∃ (p : Pn) (k : Nat) (kvs : List (Key × D)), PnOk p ∧ O[k]? = some (.dct kvs) ∧ valD kvs (.inr p.1) = none ∧ ds = [pD p, .loc k] ∧ d = .non ∧ O' = O
theorem wp_ok {f : Addr} {fd : FuncData} (F : Fun c.K "wrong_in_person" "wrong_in_person" pWrongP f fd) (hm : c.mg "wrong_in_person" = some (.ref f)) (hb : Binds c.K fd ["person", "earlier"] []) {j1 j2 : Nat} (hj1 : j1 ≤ c.k) (hj2 : j2 ≤ c.k)
    (GW : DefOk c "is_word" rWord ["value"] j1) (GI : DefOk c "is_integer" rInt ["value"] j2) (h1 : c.mg "isinstance" = none) (h2 : c.mg "tuple" = none) (h3 : c.mg "len" = none) : DefOk c "wrong_in_person" rWP ["person", "earlier"] (c.k + 1) := by
  have GW := GW.up hj1
  have GI := GI.up hj2
  refine def_ok F hm hb fsWP (fun ds O d O' h => ?_) fun ds O d O' h => ?_
  · obtain ⟨p, k, kvs, _, _, _, rfl, _⟩ := h; rfl
  · obtain ⟨p, k, kvs, ⟨w1, w2, w3⟩, hk, hn, rfl, rfl, rfl⟩ := h
    refine ss_cons (s_ifF (ET.eq (et_w (ew_or2 (k2 := false) (et_not (et_val (ee_callB h1 (ea_cons (ee_var 0) (ea_cons (ee_ty (nm := "tuple") h2) ea_nil)) (cd_isi (k := true) rfl (by decide +kernel))))) fun _ => ew_or1 (ET.eq (et_cmp (ee_callB h3 (ea_cons (ee_var 0) ea_nil) cd_lenT) ee_int od_neI) rfl))) rfl) ss_nil) ?_
    refine ss_cons (s_unpack (ee_var 0) (gt_tup (gts_cons (gt_name 2) (gts_cons (gt_name 3) (gts_cons (gt_name 4) gts_nil))))) ?_
    refine ss_cons (s_ifF (ET.eq (et_w (ew_or2 (k2 := false) (et_not (et_val (ee_call GW (ea_cons (ee_var 2) ea_nil) ⟨p.1, w2, rfl, rfl, rfl⟩ (Nat.le_refl _)))) fun _ => ew_or1 (ET.eq (et_din (.inr p.1) (ee_var 2) (ee_var 1) hk) (by rw [hn]; rfl)))) (by rw [w1]; rfl)) ss_nil) ?_
    refine ss_cons (s_ifF (ET.eq (et_not (et_val (ee_call GI (ea_cons (ee_var 3) ea_nil) ⟨p.2.1, rfl, rfl, rfl⟩ (Nat.le_refl _)))) rfl) ss_nil) ?_
    refine ss_cons (s_ifF (ET.eq (et_w (ew_or2 (k2 := false) (et_not (et_val (ee_call GI (ea_cons (ee_var 4) ea_nil) ⟨p.2.2, rfl, rfl, rfl⟩ (Nat.le_refl _)))) fun _ => ew_or1 (ET.eq (et_cmp (ee_var 4) (EE.eq (ee_tup (ea_cons ee_int (ea_cons ee_int ea_nil))) (d' := .tup (([0, 1] : List Int).map .int)) rfl) od_notInT) (by rcases w3 with e | e <;> rw [e] <;> rfl)))) rfl) ss_nil) ?_
    exact ss_one (s_ret ee_non)
abbrev nWr : List Str := ["people", "earlier", "k", "person", "path"]
abbrev scWr : Sc := ⟨nWr, defScope pWrong, fun _ => true, none⟩
theorem fsWr : FnScope nWr ["people"] (defScope pWrong) := ⟨rfl, rfl, rfl, by decide +kernel, rfl, by decide +kernel, by decide +kernel⟩
def PsOk (ps : List Pn) : Prop := (∀ p ∈ ps, PnOk p) ∧ (ps.map (·.1)).Nodup ∧ ps.length < 64
def rWr : Fn := fun ds O d O' => ∃ ps : List Pn, PsOk ps ∧ ds = [.lst (ps.map pD)] ∧ d = .non ∧ O' = O
def earlierD (as : List Pn) : List (Key × D) := as.map fun p => (Sum.inr p.1, D.bl true)
def enumD (t : Nat × Pn) : D := .tup [.int t.1, pD t.2]
theorem enum_eq : ∀ (ps : List Pn) (n : Nat), List.zipWith (fun (i : Nat) x => D.tup [.int i, x]) (List.range' n ps.length) (ps.map pD) = ((List.range' n ps.length).zip ps).map enumD
  | [], _ => rfl
  | p :: ps, n => by
    have := enum_eq ps (n + 1)
    simp only [List.length_cons, List.range'_succ, List.map_cons, List.zipWith_cons_cons, List.zip_cons_cons, enumD] at this ⊢
    rw [this]
theorem wr_loop (GP : DefOk c "wrong_in_person" rWP ["person", "earlier"] c.k) (x : D) (O : Sto) : ∀ (ts : List (Nat × Pn)) (as : List Pn), (∀ t ∈ ts, PnOk t.2) → (as.map (·.1) ++ ts.map (·.2.1)).Nodup → as.length + ts.length < 64 →
    FR c scWr (loopT (stm pWrong 2)) (loopB (stm pWrong 2)) (ts.map enumD) [some x, some (.loc O.length), none, none, none] (O ++ [.dct (earlierD as)]) (.nx [some x, some (.loc O.length), none, none, none] (O ++ [.dct (earlierD (as ++ ts.map (·.2)))]))
  | [], as, _, _, _ => by simpa using FR.nil
  | t :: ts, as, h1, h2, h3 => by
    have ih := wr_loop GP x O ts (as ++ [t.2]) (fun u hu => h1 u (List.mem_cons_of_mem _ hu)) (by simpa using h2) (by simp at h3 ⊢; omega)
    have e2 : as ++ (t :: ts).map (·.2) = (as ++ [t.2]) ++ ts.map (·.2) := by simp
    rw [e2]
    have hno : valD (earlierD as) (.inr t.2.1) = none := valD_none (fun p : Pn => (Sum.inr p.1 : Key)) (fun _ => D.bl true) fun p hp e => by
      have e' : p.1 = t.2.1 := Sum.inr.inj e
      have hd := (List.nodup_append.mp h2).2.2 p.1 (List.mem_map.mpr ⟨p, hp, rfl⟩) t.2.1 (by simp)
      exact hd e'
    refine .nx (gt_tup (gts_cons (gt_name 2) (gts_cons (gt_name 3) gts_nil))) ?_ ih
    apply SS.less
    · skip
      refine ss_cons (s_set 4 (ee_call GP (ea_cons (ee_var 3) (ea_cons (ee_var 1) ea_nil)) ⟨t.2, O.length, _, h1 t List.mem_cons_self, List.getElem?_concat_length .., hno, rfl, rfl, rfl⟩ (Nat.le_refl _))) ?_
      refine ss_cons (s_ifF (et_cmp (ee_var 4) ee_non (od_notN (x := .non) (by intro _ _ h; cases h))) ss_nil) ?_
      refine ss_one (S1.nxO (s_dput (.inr t.2.1) ee_bl (ee_var 1) (ee_ix (ee_var 3) ee_int (ix_tp rfl)) (List.getElem?_concat_length ..) (by simp [earlierD] at h3 ⊢; omega)) ?_)
      rw [valD_app hno]
      simp [List.set_append, earlierD]
    · exact Les.cons (Les.cons (Les.cut (Les.cut (Les.cut (Les.refl _)))))
theorem wr_ok {f : Addr} {fd : FuncData} (F : Fun c.K "wrong_part" "wrong_part" pWrong f fd) (hm : c.mg "wrong_part" = some (.ref f)) (hb : Binds c.K fd ["people"] []) {j1 : Nat} (hj1 : j1 ≤ c.k) (GP : DefOk c "wrong_in_person" rWP ["person", "earlier"] j1)
    (h1 : c.mg "isinstance" = none) (h2 : c.mg "tuple" = none) (h3 : c.mg "list" = none) (h4 : c.mg "enumerate" = none) : DefOk c "wrong_part" rWr ["people"] (c.k + 1) := by
  have GP := GP.up hj1
  refine def_ok F hm hb fsWr (fun ds O d O' h => ?_) fun ds O d O' h => ?_
  · obtain ⟨ps, _, rfl, _⟩ := h; rfl
  · obtain ⟨ps, ⟨w1, w2, w3⟩, rfl, rfl, rfl⟩ := h
    refine SS.drop (J := [.dct (earlierD ps)]) ?_ (Nat.le_refl _) rfl id
    refine ss_cons (s_ifF (ET.eq (et_not (et_val (ee_isiT (nA := "list") (nB := "tuple") (k1 := true) (k2 := false) h1 (ee_var 0) h3 h2 rfl (by decide +kernel) (by decide +kernel)))) rfl) ss_nil) ?_
    refine ss_cons (s_set 1 ee_dict0) ?_
    have ez : (List.range ps.length).zip ps = (List.range' 0 ps.length).zip ps := by rw [List.range_eq_range']
    have hz := wr_loop GP (.lst (ps.map pD)) O' ((List.range ps.length).zip ps) [] (fun t ht => w1 t.2 (List.of_mem_zip (a := t.1) (b := t.2) ht).2) (by
      have : ((List.range ps.length).zip ps).map (fun t => t.2.1) = ps.map (·.1) := by
        rw [show (fun t : Nat × Pn => t.2.1) = (fun p : Pn => p.1) ∘ Prod.snd from rfl, ← List.map_map, List.map_snd_zip (by simp)]
      simpa [this] using w2) (by simp; exact w3)
    have es : ((List.range ps.length).zip ps).map (·.2) = ps := List.map_snd_zip (by simp)
    rw [es] at hz
    have ee : List.zipWith (fun (i : Nat) x => D.tup [.int i, x]) (List.range (ps.map pD).length) (ps.map pD) = ((List.range ps.length).zip ps).map enumD := by
      have := enum_eq ps 0
      rw [List.length_map, List.range_eq_range', this]
    refine ss_cons (s_for (it_enum h4 (ee_var 0)) (ee.symm ▸ hz)) ?_
    exact ss_one (s_ret ee_non)
end


end DL
set_option maxRecDepth 100000
set_option maxHeartbeats 4000000
namespace DL
open PySem L2 PyProof.Rows PySem.Spec
section
variable {c : Cn}
/-! ### a new dict by a comprehension, all keys new -/
theorem valD_out {kvs : List (Key × D)} {q : Key} (h : q ∉ kvs.map (·.1)) : valD kvs q = none := by
  unfold valD
  simp only [Option.map_eq_none_iff, List.find?_eq_none]
  intro kv hkv
  simp only [decide_eq_true_eq]
  intro e
  exact h (List.mem_map.mpr ⟨kv, hkv, e⟩)
theorem dr_new {S : Sc} {tg kx vx : Expr} {vs : List Nat} {ρ : Rho} {O : Sto} {α : Type} (g : α → D) (kf : α → Key) (vf : α → D) : ∀ (as : List α) (acc : List (Key × D)),
    (∀ a ∈ as, ∃ is ρ1, GT c S tg is ρ (g a) ρ1 ∧ (∀ i ∈ is, i ∈ vs) ∧ EE c S kx ρ1 O (keyD (kf a)) O ∧ EE c S vx ρ1 O (vf a) O) → (acc.map (·.1) ++ as.map kf).Nodup → DR c S tg [] kx vx vs ρ (as.map g) O acc (acc ++ as.map fun a => (kf a, vf a)) O
  | [], acc, _, _ => by simpa using DR.nil
  | a :: as, acc, H, hn => by
    obtain ⟨is, ρ1, h1, h2, h3, h4⟩ := H a List.mem_cons_self
    have ho : valD acc (kf a) = none := valD_out fun z => (List.nodup_append.mp hn).2.2 _ z _ (by simp) rfl
    have ih := dr_new g kf vf as (acc ++ [(kf a, vf a)]) (fun b hb => H b (List.mem_cons_of_mem _ hb)) (by simpa using hn)
    rw [List.append_assoc] at ih
    exact .yes h1 h2 ei_nil h3 h4 (by rw [valD_app ho]; exact ih)
theorem nodup_inr {ps : List Pn} (h : (ps.map (·.1)).Nodup) : (([] : List (Key × D)).map (·.1) ++ ps.map fun p => (Sum.inr p.1 : Key)).Nodup := by
  show (ps.map fun p => (Sum.inr p.1 : Key)).Nodup
  rw [List.nodup_iff_pairwise_ne, List.pairwise_map] at h ⊢
  exact h.imp fun {a b} hab e => hab (Sum.inr.inj e)
/-! ### standings -/
structure CS (c : Cn) (C : Addr) : Prop where
  cl : Cls c.K C
  n1 : NoAttr c.K C "_people"
  n2 : NoAttr c.K C "_by_name"
def standD (C : Addr) (ps : List Pn) : D := .ins C ["_people", "_by_name"] [.tup (ps.map pD), .dct (ps.map fun p => Sum.inr p.1) (ps.map pD)]
def standF (ps : List Pn) : List (Str × D) := [("_people", .tup (ps.map pD)), ("_by_name", .dct (ps.map fun p => Sum.inr p.1) (ps.map pD))]
abbrev nInit : List Str := ["self", "people", "path", "person"]
abbrev scInit : Sc := ⟨nInit, defScope pInit, fun _ => true, none⟩
theorem fsInit : FnScope nInit ["self", "people"] (defScope pInit) := ⟨rfl, rfl, rfl, by decide +kernel, rfl, by decide +kernel, by decide +kernel⟩
def rInit (C : Addr) : Fn := fun ds O d O' => ∃ (ps : List Pn) (O0 : Sto), PsOk ps ∧ ds = [.loc O0.length, .lst (ps.map pD)] ∧ O = O0 ++ [.ins C []] ∧ d = .non ∧ O' = O0 ++ [.ins C (standF ps)]
theorem init_ok {C : Addr} {f : Addr} {fd : FuncData} (F : Fun c.K "__init__" "Standing.__init__" pInit f fd) (T : CS c C) (hM : Mk c.K C f) (hb : Binds c.K fd ["self", "people"] []) {j : Nat} (hj : j ≤ c.k) (GW : DefOk c "wrong_part" rWr ["people"] j) (h1 : c.mg "tuple" = none) :
    MakeOk c C (rInit C) ["self", "people"] (c.k + 1) := by
  have GW := GW.up hj
  refine ⟨f, fd, fn_body F fsInit (fun ds O d O' h => ?_) (fun ds O d O' h => ?_), hM, hb⟩
  · obtain ⟨ps, O0, _, rfl, _⟩ := h; rfl
  · obtain ⟨ps, O0, hp, rfl, rfl, rfl, rfl⟩ := h
    refine ⟨[some (.loc O0.length), some (.lst (ps.map pD)), some .non, none], rfl, ?_⟩
    refine ss_cons (s_set 2 (ee_call GW (ea_cons (ee_var 1) ea_nil) ⟨ps, hp, rfl, rfl, rfl⟩ (Nat.le_refl _))) ?_
    refine ss_cons (s_ifF (et_cmp (ee_var 2) ee_non (od_notN (x := .non) (by intro _ _ h; cases h))) ss_nil) ?_
    refine ss_cons (S1.nxO (s_fld (ee_callTy h1 (ea_cons (ee_var 1) ea_nil) cd_tupL) (ee_var 0) (List.getElem?_concat_length ..) T.cl T.n1) (O2 := O0 ++ [.ins C [("_people", .tup (ps.map pD))]]) (by simp [List.set_append, putFD])) ?_
    have hg : (O0 ++ [Cell.ins C [(("_people" : Str), D.tup (ps.map pD))]])[O0.length]? = some (.ins C [("_people", .tup (ps.map pD))]) := List.getElem?_concat_length ..
    refine ss_one (S1.nxO (s_fld (EE.eq (ee_dc [("person", 3)] (it_tup (ee_fldC (ee_var 0) hg T.cl T.n1 (by rfl))) (dr_new pD (fun p => Sum.inr p.1) pD ps [] (fun p _ => ⟨_, _, gt_name 3, by simp, ee_ix (ee_var 3) ee_int (ix_tp rfl), ee_var 3⟩) ?_) (by have := hp.2.2; simp; omega)) (d' := .dct (ps.map fun p => Sum.inr p.1) (ps.map pD)) (by simp [List.map_map]))
      (ee_var 0) (List.getElem?_concat_length ..) T.cl T.n2) ?_)
    · have := hp.2.1
      exact nodup_inr this
    · have hne : ¬ (("_people" : Str) = "_by_name") := by decide +kernel
      simp [List.set_append, putFD, hne, standF]
theorem stand_new {S : Sc} {ρ : Rho} {O O1 : Sto} {e : Expr} {p pos : Pos} {C : Addr} {ps : List Pn} {j : Nat} (G : MakeOk c C (rInit C) ["self", "people"] j) (hm : c.mg "Standing" = some (.ref C)) (hp : PsOk ps) (ha : EA c S [e] ρ O [.lst (ps.map pD)] O1) (hj : j + 1 ≤ c.k) (hl : O.length ≤ O1.length) (hb : stoLk O = true → stoLk O1 = true)
    (hg : glB S.sc "Standing" = true := by first | decide +kernel | kernel_rfl | exact of_decide_eq_true (by kernel_rfl)) (he : ∀ env, starEach (e :: []) env = (false, eval e env) :: starEach [] env := by intro _; rfl) : EE c S (.Call (.Name "Standing" p) [e] [] pos) ρ O (standD C ps) O1 :=
  EE.frzI (fs := standF ps) (ee_make G hm ha ⟨ps, O1, hp, rfl, rfl, rfl, rfl⟩ hj hg (by decide +kernel) he (by intro _; rfl) (by simp)) hl (by
    have h1 : freeAll (ps.map pD) = true := freeAll_map _ (fun _ => rfl) _
    simp [standF, freeAll, D.free, h1]) hb
abbrev nPpls : List Str := ["self"]
abbrev scPpls : Sc := ⟨nPpls, defScope pPeople, fun _ => true, none⟩
theorem fsPpls : FnScope nPpls ["self"] (defScope pPeople) := ⟨rfl, rfl, rfl, by decide +kernel, rfl, by decide +kernel, by decide +kernel⟩
def rPpls (C : Addr) : Fn := fun ds O d O' => ∃ ps : List Pn, ds = [standD C ps] ∧ d = .lst (ps.map pD) ∧ O' = O
theorem ppls_ok {C : Addr} {f : Addr} {fd : FuncData} (F : Fun c.K "people" "Standing.people" pPeople f fd) (T : CS c C) (hM : Meth c.K C "people" f) (hb : Binds c.K fd ["self"] []) (h1 : c.mg "list" = none) : MethOk c C "people" (rPpls C) ["self"] (c.k + 1) := by
  refine ⟨f, fd, fn_bodyR F fsPpls (fun ds O d O' h => ?_) (fun ds O d O' h => ?_), hM, hb⟩
  · obtain ⟨ps, rfl, _⟩ := h; rfl
  · obtain ⟨ps, rfl, rfl, rfl⟩ := h
    exact ss_one (s_ret (ee_callTy h1 (ea_cons (ee_fld (ee_var 0) T.cl T.n1 (by rfl)) ea_nil) cd_listT))
end

abbrev nMn : List Str := ["self", "person"]
def rTells (C : Addr) (t : List Pn → D) : Fn := fun ds O d O' => ∃ ps : List Pn, ps.length < 64 ∧ ds = [standD C ps] ∧ d = t ps ∧ O' = O

section
variable {c : Cn} {C : Addr}
abbrev pPlaces : Stmt := inClass (top 16) 7
theorem fsMp : FnScope nMn ["self"] (defScope pPlaces) := ⟨rfl, rfl, rfl, by decide +kernel, rfl, by decide +kernel, by decide +kernel⟩
theorem mplaces_ok {f : Addr} {fd : FuncData} (F : Fun c.K "places" "Standing.places" pPlaces f fd) (T : CS c C) (hM : Meth c.K C "places" f) (hb : Binds c.K fd ["self"] []) (h1 : c.mg "sorted" = none) : MethOk c C "places" (rTells C fun ps => .lst ((spots (plc ps)).map .int)) ["self"] (c.k + 1) := by
  refine ⟨f, fd, fn_bodyR F fsMp (fun ds O d O' h => ?_) (fun ds O d O' h => ?_), hM, hb⟩
  · obtain ⟨ps, _, rfl, _⟩ := h; rfl
  · obtain ⟨ps, hl, rfl, rfl, rfl⟩ := h
    exact ss_one (s_ret (ee_sortedSc (ns := plc ps) [("person", 1)] h1 (it_tup (ee_fld (ee_var 0) T.cl T.n1 (by rfl))) (cr_mapI pD (fun p => p.2.1) ps fun p _ => ⟨_, _, gt_name 1, by simp, ee_ix (ee_var 1) ee_int (ix_tp rfl)⟩) (by simp; omega) (by simp [plc]; exact hl)))
end


end DL
set_option maxRecDepth 100000
set_option maxHeartbeats 4000000
namespace DL
open PySem L2 PyProof.Rows PySem.Spec
/-! ### worlds -/
def worldD (C : Addr) (ps : List Pn) : D := .dct [.inr "people", .inr "standing"] [.lst (ps.map pD), standD C ps]
theorem stand_free (C : Addr) (ps : List Pn) : (standD C ps).free = true := by
  have := freeAll_map pD (fun _ => rfl) ps
  simp [standD, D.free, freeAll, this]
theorem ppl_free (ps : List Pn) : (D.lst (ps.map pD)).free = true := by simpa [D.free] using freeAll_map pD (fun _ => rfl) ps
theorem world_free (C : Addr) (ps : List Pn) : (worldD C ps).free = true := by
  have h1 := ppl_free ps
  have h2 := stand_free C ps
  simp [worldD, D.free, freeAll, h2] at h1 ⊢
  exact h1
section
variable {c : Cn} {C : Addr}
theorem world_ppl {S : Sc} {ρ : Rho} {O O1 : Sto} {a b : Expr} {pos : Pos} {ps : List Pn} (ho : EE c S a ρ O (worldD C ps) O1) (hi : EE c S b ρ O1 (.str "people") O1) (hs : NoSl b := by exact fun _ _ => rfl) : EE c S (.Subscript a b pos) ρ O (.lst (ps.map pD)) O1 := ee_dgetF (.inr "people") ho hi rfl hs
theorem world_st {S : Sc} {ρ : Rho} {O O1 : Sto} {a b : Expr} {pos : Pos} {ps : List Pn} (ho : EE c S a ρ O (worldD C ps) O1) (hi : EE c S b ρ O1 (.str "standing") O1) (hs : NoSl b := by exact fun _ _ => rfl) : EE c S (.Subscript a b pos) ρ O (standD C ps) O1 := ee_dgetF (.inr "standing") ho hi (by with_unfolding_all rfl) hs
abbrev sMade : Stmt := top 44
abbrev nMade : List Str := ["_law_people", "_law_one"]
abbrev scMade : Sc := ⟨nMade, defScope sMade, fun _ => true, none⟩
theorem fsMade : FnScope nMade ["_law_people"] (defScope sMade) := ⟨rfl, rfl, rfl, by decide +kernel, rfl, by decide +kernel, by decide +kernel⟩
def rMade (C : Addr) : Fn := fun ds O d O' => ∃ ps : List Pn, PsOk ps ∧ ds = [.lst (ps.map pD)] ∧ d = worldD C ps ∧ O' = O
theorem made_ok {f : Addr} {fd : FuncData} (F : Fun c.K "_law_made" "_law_made" sMade f fd) (hm : c.mg "_law_made" = some (.ref f)) (hb : Binds c.K fd ["_law_people"] []) {j : Nat} (hj : j + 1 ≤ c.k) (GM : MakeOk c C (rInit C) ["self", "people"] j) (hC : c.mg "Standing" = some (.ref C)) (h1 : c.mg "tuple" = none) : DefOk c "_law_made" (rMade C) ["_law_people"] (c.k + 1) := by
  refine def_ok F hm hb fsMade (fun ds O d O' h => ?_) fun ds O d O' h => ?_
  · obtain ⟨ps, _, rfl, _⟩ := h; rfl
  · obtain ⟨ps, hp, rfl, rfl, rfl⟩ := h
    have hl := hp.2.2
    refine ss_one (s_ret (EE.frzD (kvs := [(.inr "people", .lst (ps.map pD)), (.inr "standing", standD C ps)]) (ee_dictN (eps_cons (.inr "people") ee_str (ee_lc [("_law_one", 1)] (it_list (ee_var 0)) (cr_map pD pD ps fun p _ => ⟨_, _, gt_name 1, by simp, ee_callTy h1 (ea_cons (ee_var 1) ea_nil) cd_tupT⟩) (by simp; omega)) (eps_cons (.inr "standing") ee_str (stand_new GM hC hp (ea_cons (ee_var 0) ea_nil) hj (Nat.le_refl _) id) eps_nil)) [.inr "people", .inr "standing"]) (Nat.le_refl _) ?_ id))
    have h1 := ppl_free ps
    have h2 := stand_free C ps
    simp [freeAll, h1, h2]
theorem made_rule {ps : List Pn} {O : Sto} (h : PsOk ps) : rMade C [.lst (ps.map pD)] O (worldD C ps) O := ⟨ps, h, rfl, rfl, rfl⟩
/-! in a drawn order -/
def mixL {α : Type} : Nat → Src → List α → List α × Src
  | 0, s, _ => ([], s)
  | n + 1, s, l => match l[pickN s l.length]? with
    | none => ([], s)
    | some x => (x :: (mixL n (pickS s l.length) (l.eraseIdx (pickN s l.length))).1, (mixL n (pickS s l.length) (l.eraseIdx (pickN s l.length))).2)
def mixM' {α : Type} (s : Src) (l : List α) : List α × Src := mixL l.length s l
theorem erase_perm {α : Type} : ∀ (l : List α) (k : Nat) (h : k < l.length), (l[k] :: l.eraseIdx k).Perm l
  | x :: l, 0, _ => .refl _
  | x :: l, k + 1, h => (List.Perm.swap x _ _).trans ((erase_perm l k (by simpa using h)).cons x)
theorem mix_step {α : Type} {n : Nat} {s : Src} {l : List α} {x : α} (he : l[pickN s l.length]? = some x) : mixL (n + 1) s l = (x :: (mixL n (pickS s l.length) (l.eraseIdx (pickN s l.length))).1, (mixL n (pickS s l.length) (l.eraseIdx (pickN s l.length))).2) := by
  rw [mixL, he]
theorem mix_perm {α : Type} : ∀ (n : Nat) (s : Src) (l : List α), l.length = n → (mixL n s l).1.Perm l
  | 0, s, l, h => by rw [List.eq_nil_of_length_eq_zero h]; exact .refl _
  | n + 1, s, l, h => by
    have hp := pickN_lt s l.length (by omega)
    have he : l[pickN s l.length]? = some l[pickN s l.length] := List.getElem?_eq_getElem hp
    rw [mix_step he]
    have ih := mix_perm n (pickS s l.length) (l.eraseIdx (pickN s l.length)) (by rw [List.length_eraseIdx_of_lt hp]; omega)
    exact (ih.cons _).trans (erase_perm l _ hp)
abbrev sMixed : Stmt := top 42
abbrev nMx : List Str := ["_law_source_here", "_law_things", "_law_rest", "_law_lap"]
abbrev scMx : Sc := ⟨nMx, defScope sMixed, fun _ => true, none⟩
theorem fsMx : FnScope nMx ["_law_source_here", "_law_things"] (defScope sMixed) := ⟨rfl, rfl, rfl, by decide +kernel, rfl, by decide +kernel, by decide +kernel⟩
def rMx : Fn := fun ds O d O' => ∃ (s : Src) (xs : List D) (R : Sto), xs.length ≤ 1000 ∧ freeAll xs = true ∧ ds = [.loc 1, .lst xs] ∧ O = srcC s ++ R ∧ d = .lst (mixM' s xs).1 ∧ O' = srcC (mixM' s xs).2 ++ R
theorem mx_cr {S : Sc} {tg elt : Expr} {vs : List Nat} {ρ : Rho} (R : Sto) (H : ∀ (s : Src) (l : List D) (k : Nat) (x : D), l.length ≤ 1000 → l[pickN s l.length]? = some x → ∃ is ρ1, GT c S tg is ρ (.int k) ρ1 ∧ (∀ i ∈ is, i ∈ vs) ∧ EE c S elt ρ1 (srcC s ++ (R ++ [.lst l])) x (srcC (pickS s l.length) ++ (R ++ [.lst (l.eraseIdx (pickN s l.length))]))) : ∀ (ks : List Nat) (s : Src) (l : List D), l.length = ks.length → l.length ≤ 1000 →
    CR c S tg [] elt vs ρ (ks.map fun k : Nat => .int (k : Int)) (srcC s ++ (R ++ [.lst l])) (mixL ks.length s l).1 (srcC (mixL ks.length s l).2 ++ (R ++ [.lst []]))
  | [], s, l, h, _ => by rw [List.eq_nil_of_length_eq_zero h]; exact .nil
  | k :: ks, s, l, h, hl => by
    simp only [List.length_cons] at h
    have hp := pickN_lt s l.length (by omega)
    have he : l[pickN s l.length]? = some l[pickN s l.length] := List.getElem?_eq_getElem hp
    obtain ⟨is, ρ1, h1, h2, h3⟩ := H s l k _ hl he
    have hlen : (l.eraseIdx (pickN s l.length)).length = ks.length := by rw [List.length_eraseIdx_of_lt hp]; omega
    have ih := mx_cr R H ks (pickS s l.length) (l.eraseIdx (pickN s l.length)) hlen (by omega)
    have e : mixL (k :: ks).length s l = (l[pickN s l.length] :: (mixL ks.length (pickS s l.length) (l.eraseIdx (pickN s l.length))).1, (mixL ks.length (pickS s l.length) (l.eraseIdx (pickN s l.length))).2) := mix_step he
    rw [e]
    exact .yes h1 h2 ei_nil h3 ih
theorem mx_ok {f : Addr} {fd : FuncData} (F : Fun c.K "_law_mixed" "_law_mixed" sMixed f fd) (hm : c.mg "_law_mixed" = some (.ref f)) (hb : Binds c.K fd ["_law_source_here", "_law_things"] []) {j : Nat} (hj : j ≤ c.k) (GP : DefOk c "_law_pick" rPick ["_law_source_here", "_law_many"] j) (h1 : c.mg "list" = none) (h2 : c.mg "range" = none) (h3 : c.mg "len" = none) :
    DefOk c "_law_mixed" rMx ["_law_source_here", "_law_things"] (c.k + 1) := by
  have GP := GP.up hj
  refine def_ok F hm hb fsMx (fun ds O d O' h => ?_) fun ds O d O' h => ?_
  · obtain ⟨s, xs, R, _, _, rfl, _⟩ := h; rfl
  · obtain ⟨s, xs, R, hl, hf, rfl, rfl, rfl, rfl⟩ := h
    have hfr : freeAll (mixM' s xs).1 = true := freeAll_iff.mpr fun d hd => freeAll_iff.mp hf d ((mix_perm xs.length s xs rfl).mem_iff.mp hd)
    refine SS.drop (J := [.lst []]) ?_ (by simp [srcC]) (D.free_lk _ _ (by simpa [D.free] using hfr)) srcC_lk
    have e2 : (srcC s ++ R).length = 2 + R.length := by simp [srcC]; omega
    refine ss_cons (s_set 2 (ee_callTy h1 (ea_cons (ee_var 1) ea_nil) cd_listLN)) ?_
    rw [e2, List.append_assoc, List.append_assoc]
    have er : rangeD 0 ((xs.length : Nat) : Int).toNat = (List.range xs.length).map fun k : Nat => .int (k : Int) := by unfold rangeD; simp
    have hcr : ∀ {S : Sc} {tg elt : Expr} {vs : List Nat} {ρ : Rho}, (∀ (s : Src) (l : List D) (k : Nat) (x : D), l.length ≤ 1000 → l[pickN s l.length]? = some x → ∃ is ρ1, GT c S tg is ρ (.int k) ρ1 ∧ (∀ i ∈ is, i ∈ vs) ∧ EE c S elt ρ1 (srcC s ++ (R ++ [.lst l])) x (srcC (pickS s l.length) ++ (R ++ [.lst (l.eraseIdx (pickN s l.length))]))) →
        CR c S tg [] elt vs ρ (rangeD 0 ((xs.length : Nat) : Int).toNat) (srcC s ++ (R ++ [.lst xs])) (mixM' s xs).1 (srcC (mixM' s xs).2 ++ (R ++ [.lst []])) := fun {S tg elt vs ρ} H => by
      rw [er]
      have := mx_cr (c := c) (S := S) (tg := tg) (elt := elt) (vs := vs) (ρ := ρ) R H (List.range xs.length) s xs (by simp) hl
      rw [List.length_range] at this
      exact this
    refine ss_one (s_ret (ee_lc [("_law_lap", 3)] (it_range1 h2 (ee_callB h3 (ea_cons (ee_var 2) ea_nil) (cd_lenC own_get)) (by omega) (by omega)) (hcr fun s l k x hl hx => ⟨_, _, gt_name 3, by simp, ?_⟩) (by rw [er]; simp; omega)))
    have hlt : pickN s l.length < l.length := (List.getElem?_eq_some_iff.mp hx).1
    refine EE.eqO (ee_popI (n := pickN s l.length) (ee_var 2) (EE.eq (ee_call GP (ea_cons (ee_var 0) (ea_cons (ee_callB h3 (ea_cons (ee_var 2) ea_nil) (cd_lenC own_get)) ea_nil)) (pick_rule (by omega)) (Nat.le_refl _)) (congrArg D.int (pickN_int s l.length (by omega)).symm)) own_get own_get hx (by omega)) ?_
    exact own_set (A := srcC _)
end


end DL
set_option maxRecDepth 100000
set_option maxHeartbeats 4000000
namespace DL
open PySem L2 PyProof.Rows PySem.Spec
/-! ### a drawn world -/
def stepL (far : Int) : List Int := [0, 1, 1, 2, far]
def wStep (far : Int) (st : Int × Src) (n : Str) : Pn × (Int × Src) :=
  let s := st.2
  let v : Int := if (pickM s 4).1 > 0 then 1 else 0
  let s1 := pickS s 4
  let o := stepL (1 + (pickM s1 far).1)
  let s2 := pickS s1 far
  ((n, st.1, v), (st.1 + ofI s2 o, pickS s2 5))
def flipLast (ps : List Pn) : List Pn := match ps.getLast? with
  | none => ps
  | some p => ps.set (ps.length - 1) (p.1, p.2.1, 1 - p.2.2)
def parityOk (par : Int) (ps : List Pn) : Bool := decide (par < 2) && !decide ((ps.map fun p => p.2.2).sum % 2 = par)
def worldM (s : Src) (most : Nat) (far par : Int) : List Pn × Src :=
  let h := (pickM s 21).1 - 10
  let s1 := pickS s 21
  let nm := namesM (pickS s1 most) (1 + pickN s1 most)
  let m := mapS (wStep far) (h, nm.2) nm.1
  let ps := if parityOk par m.1 = true then flipLast m.1 else m.1
  mixM' m.2.2 ps
theorem map_erase {α β : Type} (f : α → β) : ∀ (l : List α) (k : Nat), (l.map f).eraseIdx k = (l.eraseIdx k).map f
  | [], k => by simp
  | x :: l, 0 => by simp
  | x :: l, k + 1 => by simp [map_erase f l k]
theorem mix_map {α : Type} (f : α → D) : ∀ (n : Nat) (s : Src) (l : List α), mixL n s (l.map f) = ((mixL n s l).1.map f, (mixL n s l).2)
  | 0, s, l => rfl
  | n + 1, s, l => by
    cases e : l[pickN s l.length]? with
    | none =>
      have e2 : (l.map f)[pickN s (l.map f).length]? = none := by rw [List.length_map, List.getElem?_map, e]; rfl
      rw [mixL, e2, mixL, e]; rfl
    | some x =>
      have e2 : (l.map f)[pickN s (l.map f).length]? = some (f x) := by rw [List.length_map, List.getElem?_map, e]; rfl
      rw [mix_step e2, mix_step e, List.length_map, map_erase, mix_map f n]; rfl
section
variable {c : Cn} {C : Addr}
theorem mixed_rule {α : Type} (f : α → D) (hf : ∀ a, (f a).free = true) {s : Src} {l : List α} {R : Sto} (hl : l.length ≤ 1000) : rMx [.loc 1, .lst (l.map f)] (srcC s ++ R) (.lst ((mixM' s l).1.map f)) (srcC (mixM' s l).2 ++ R) := by
  have e := mix_map f l.length s l
  refine ⟨s, l.map f, R, by simpa using hl, freeAll_map f hf l, rfl, rfl, ?_, ?_⟩
  · unfold mixM'; rw [List.length_map, e]
  · unfold mixM'; rw [List.length_map, e]
abbrev sWorld : Stmt := top 45
abbrev nWorld : List Str := ["_law_source_here", "_law_most", "_law_far", "_law_parity", "_law_here", "_law_people", "_law_name", "_law_one"]
abbrev scWorld : Sc := ⟨nWorld, defScope sWorld, fun _ => true, none⟩
theorem fsWorld : FnScope nWorld ["_law_source_here", "_law_most", "_law_far", "_law_parity"] (defScope sWorld) := ⟨rfl, rfl, rfl, by decide +kernel, rfl, by decide +kernel, by decide +kernel⟩
def rWorld (C : Addr) : Fn := fun ds O d O' => ∃ (s : Src) (most : Nat) (far par : Int) (R : Sto), 1 ≤ most ∧ most ≤ 40 ∧ 1 ≤ far ∧ far ≤ 10 ^ 30 ∧ 0 ≤ par ∧ PsOk (worldM s most far par).1 ∧ ds = [.loc 1, .int most, .int far, .int par] ∧ O = srcC s ++ R ∧ d = worldD C (worldM s most far par).1 ∧ O' = srcC (worldM s most far par).2 ++ R
theorem w_loop (GP : DefOk c "_law_pick" rPick ["_law_source_here", "_law_many"] c.k) (GO : DefOk c "_law_of" rOf nOf c.k) (hI : c.mg "int" = none) (a b : D) (far : Int) (h0 : 1 ≤ far) (h1 : far ≤ 10 ^ 30) (R : Sto) : ∀ (ns : List Str) (h : Int) (s : Src) (acc : List Pn), acc.length + ns.length ≤ 1000 →
    FR c scWorld (loopT (stm sWorld 1)) (loopB (stm sWorld 1)) (ns.map .str) [some (.loc 1), some a, some (.int far), some b, some (.int h), some (.loc (2 + R.length)), none, none] (srcC s ++ (R ++ [.lst (acc.map pD)]))
      (.nx [some (.loc 1), some a, some (.int far), some b, some (.int (mapS (wStep far) (h, s) ns).2.1), some (.loc (2 + R.length)), none, none] (srcC (mapS (wStep far) (h, s) ns).2.2 ++ (R ++ [.lst ((acc ++ (mapS (wStep far) (h, s) ns).1).map pD)])))
  | [], h, s, acc, _ => by simpa [mapS] using FR.nil
  | n :: ns, h, s, acc, hl => by
    have ih := w_loop GP GO hI a b far h0 h1 R ns (wStep far (h, s) n).2.1 (wStep far (h, s) n).2.2 (acc ++ [(wStep far (h, s) n).1]) (by simp at hl ⊢; omega)
    have e1 : (mapS (wStep far) (h, s) (n :: ns)).2 = (mapS (wStep far) (wStep far (h, s) n).2 ns).2 := rfl
    have e2 : acc ++ (mapS (wStep far) (h, s) (n :: ns)).1 = (acc ++ [(wStep far (h, s) n).1]) ++ (mapS (wStep far) (wStep far (h, s) n).2 ns).1 := by
      show acc ++ ((wStep far (h, s) n).1 :: _) = _
      simp
    rw [e1, e2]
    refine .nx (gt_name 6) ?_ ih
    apply SS.less
    · skip
      refine ss_cons (S1.nxO (s_expr (ee_append (ee_var 5) (ee_tup (ea_cons (ee_var 6) (ea_cons (ee_var 4) (ea_cons (ee_callTy hI (ea_cons (ee_cmp (ee_call GP (ea_cons (ee_var 0) (ea_cons ee_int ea_nil)) (pick_rule (by decide)) (Nat.le_refl _)) ee_int od_gt) ea_nil) cd_intB) ea_nil)))) own_get own_get (by simp at hl ⊢; omega))) (O2 := srcC (pickS s 4) ++ (R ++ [.lst ((acc ++ [(wStep far (h, s) n).1]).map pD)])) ?c1) ?_
      case c1 => exact (own_set (A := srcC _)).trans (by simp [wStep, pD])
      exact ss_one (s_set 4 (ee_op (ee_var 4) (ee_call GO (ea_cons (ee_var 0) (ea_cons (EE.eq (ee_lst (ea_cons ee_int (ea_cons ee_int (ea_cons ee_int (ea_cons ee_int (ea_cons (ee_op ee_int (ee_call GP (ea_cons (ee_var 0) (ea_cons (ee_var 2) ea_nil)) (pick_rule (by omega)) (Nat.le_refl _)) od_add) ea_nil)))))) (d' := .lst ((stepL (1 + (pickM (pickS s 4) far).1)).map .int)) rfl) ea_nil)) (of_rule (by simp [stepL]) (by simp [stepL])) (Nat.le_refl _)) od_add))
    · exact Les.cons (Les.cons (Les.cons (Les.cons (Les.cons (Les.cons (Les.cut (Les.refl _)))))))
theorem world_ok {f : Addr} {fd : FuncData} (F : Fun c.K "_law_world" "_law_world" sWorld f fd) (hm : c.mg "_law_world" = some (.ref f)) (hb : Binds c.K fd ["_law_source_here", "_law_most", "_law_far", "_law_parity"] []) {j1 j2 j3 j4 j5 : Nat} (hj1 : j1 ≤ c.k) (hj2 : j2 ≤ c.k) (hj3 : j3 ≤ c.k) (hj4 : j4 ≤ c.k) (hj5 : j5 ≤ c.k)
    (GP : DefOk c "_law_pick" rPick ["_law_source_here", "_law_many"] j1) (GN : DefOk c "_law_names" rNames ["_law_source_here", "_law_many"] j2) (GO : DefOk c "_law_of" rOf nOf j3) (GX : DefOk c "_law_mixed" rMx ["_law_source_here", "_law_things"] j4) (GM : DefOk c "_law_made" (rMade C) ["_law_people"] j5) (hI : c.mg "int" = none) (hS : c.mg "sum" = none) :
    DefOk c "_law_world" (rWorld C) ["_law_source_here", "_law_most", "_law_far", "_law_parity"] (c.k + 1) := by
  have GP := GP.up hj1
  have GN := GN.up hj2
  have GO := GO.up hj3
  have GX := GX.up hj4
  have GM := GM.up hj5
  refine def_ok F hm hb fsWorld (fun ds O d O' h => ?_) fun ds O d O' h => ?_
  · obtain ⟨s, m, fr, pr, R, _, _, _, _, _, _, rfl, _⟩ := h; rfl
  · obtain ⟨s, most, far, par, R, m1, m2, f1, f2, p0, hok, rfl, rfl, rfl, rfl⟩ := h
    refine SS.drop (J := [.dead]) ?_ (by simp [srcC]) (D.free_lk _ _ (world_free C _)) srcC_lk
    have l1 := pickN_lt (pickS s 21) most m1
    have e1 : 1 + (pickM (pickS s 21) (most : Int)).1 = ((1 + pickN (pickS s 21) most : Nat) : Int) := by have := pickN_int (pickS s 21) most m1; omega
    have hnl : (namesM (pickS (pickS s 21) most) (1 + pickN (pickS s 21) most)).1.length = 1 + pickN (pickS s 21) most := by unfold namesM; rw [mapS_len, List.length_range]
    have ew : worldM s most far par = mixM' (mapS (wStep far) ((pickM s 21).1 - 10, (namesM (pickS (pickS s 21) most) (1 + pickN (pickS s 21) most)).2) (namesM (pickS (pickS s 21) most) (1 + pickN (pickS s 21) most)).1).2.2 (if parityOk par (mapS (wStep far) ((pickM s 21).1 - 10, (namesM (pickS (pickS s 21) most) (1 + pickN (pickS s 21) most)).2) (namesM (pickS (pickS s 21) most) (1 + pickN (pickS s 21) most)).1).1 = true then flipLast (mapS (wStep far) ((pickM s 21).1 - 10, (namesM (pickS (pickS s 21) most) (1 + pickN (pickS s 21) most)).2) (namesM (pickS (pickS s 21) most) (1 + pickN (pickS s 21) most)).1).1 else (mapS (wStep far) ((pickM s 21).1 - 10, (namesM (pickS (pickS s 21) most) (1 + pickN (pickS s 21) most)).2) (namesM (pickS (pickS s 21) most) (1 + pickN (pickS s 21) most)).1).1) := rfl
    rw [ew] at hok ⊢
    refine ss_cons (s_par (i := 4) (j := 5) rfl rfl (ea_cons (ee_op (ee_call GP (ea_cons (ee_var 0) (ea_cons ee_int ea_nil)) (pick_rule (by decide)) (Nat.le_refl _)) ee_int od_sub) (ea_cons (ee_lstN ea_nil) ea_nil))) ?_
    have e2 : (srcC (pickS s 21) ++ R).length = 2 + R.length := by simp [srcC]; omega
    rw [e2, List.append_assoc]
    generalize (pickM s 21).1 - 10 = h at hok ⊢
    have hlp := w_loop GP GO hI (.int most) (.int par) far f1 f2 R (namesM (pickS (pickS s 21) most) (1 + pickN (pickS s 21) most)).1 h (namesM (pickS (pickS s 21) most) (1 + pickN (pickS s 21) most)).2 [] (by rw [hnl]; simp; omega)
    rw [List.nil_append] at hlp
    refine ss_cons (s_for (it_list (ee_call GN (ea_cons (ee_var 0) (ea_cons (ee_op ee_int (ee_call GP (ea_cons (ee_var 0) (ea_cons (ee_var 1) ea_nil)) (pick_rule (by omega)) (Nat.le_refl _)) od_add) ea_nil)) (names_rule (m := 1 + pickN (pickS s 21) most) (by omega) e1.symm) (Nat.le_refl _))) hlp) ?_
    have hml : (mapS (wStep far) (h, (namesM (pickS (pickS s 21) most) (1 + pickN (pickS s 21) most)).2) (namesM (pickS (pickS s 21) most) (1 + pickN (pickS s 21) most)).1).1.length = 1 + pickN (pickS s 21) most := by rw [mapS_len, hnl]
    generalize mapS (wStep far) (h, (namesM (pickS (pickS s 21) most) (1 + pickN (pickS s 21) most)).2) (namesM (pickS (pickS s 21) most) (1 + pickN (pickS s 21) most)).1 = m at hok hml ⊢
    obtain ⟨p, hp⟩ : ∃ p, m.1.getLast? = some p := by
      cases q : m.1.getLast? with
      | none => rw [List.getLast?_eq_none_iff] at q; rw [q] at hml; simp at hml; omega
      | some p => exact ⟨p, rfl⟩
    have hfin : ∀ ps : List Pn, PsOk (mixM' m.2.2 ps).1 → ps.length ≤ 1000 → SS c scWorld [nthS (defBody sWorld) 3] [some (.loc 1), some (.int most), some (.int far), some (.int par), some (.int m.2.1), some (.lst (ps.map pD)), none, none] (srcC m.2.2 ++ (R ++ [.dead])) (.rt (worldD C (mixM' m.2.2 ps).1) (srcC (mixM' m.2.2 ps).2 ++ (R ++ [.dead]))) := fun ps hps hl =>
      ss_one (s_ret (ee_call GM (ea_cons (ee_call GX (ea_cons (ee_var 0) (ea_cons (ee_var 5) ea_nil)) (mixed_rule pD (fun _ => rfl) hl) (Nat.le_refl _)) ea_nil) (made_rule hps) (Nat.le_refl _)))
    have ht : ET c scWorld (loopT (stm sWorld 2)) [some (.loc 1), some (.int most), some (.int far), some (.int par), some (.int m.2.1), some (.loc (2 + R.length)), none, none] (srcC m.2.2 ++ (R ++ [.lst (m.1.map pD)])) (decide (par < 2) && !decide ((m.1.map fun p => p.2.2).sum % 2 = par)) (srcC m.2.2 ++ (R ++ [.lst (m.1.map pD)])) :=
      et_w (ew_and2 (et_cmp (ee_var 3) ee_int od_lt) fun _ => ew_and1 (et_cmp (ee_op (ee_callTy hI (ea_cons (ee_callB hS (ea_cons (EE.eq (ee_lcC [("_law_one", 7)] (it_cell (k := 2 + R.length) (ee_var 5) (by exact own_get (A := srcC _))) (crk_map pD (fun p => .int p.2.2) (by exact own_get (A := srcC _)) m.1 fun p _ => ⟨_, _, gt_name 7, by simp, ee_ix (ee_var 7) ee_int (ix_tp rfl)⟩) (by simp; omega)) (d' := .lst ((m.1.map fun p => p.2.2).map .int)) (by simp [List.map_map])) ea_nil) cd_sum) ea_nil) cd_int) ee_int (od_mod (by decide))) (ee_var 3) od_neI))
    rw [← List.append_assoc] 
    by_cases hq : parityOk par m.1 = true
    · rw [if_pos hq] at hok ⊢
      have hpl : ((m.1.map pD))[m.1.length - 1]? = some (pD p) := by rw [List.getElem?_map, ← List.getLast?_eq_getElem?, hp]; rfl
      have hat : atI (m.1.map pD) (-1) = some (pD p) := atI_neg (by rw [List.getLast?_map, hp]; rfl)
      have hfl : flipLast m.1 = m.1.set (m.1.length - 1) (p.1, p.2.1, 1 - p.2.2) := by unfold flipLast; rw [hp]
      rw [List.append_assoc]
      refine ss_cons (s_ifT (ht.eq hq) (ss_one (S1.nxO (s_lput (n := m.1.length - 1) (ee_tup (ea_cons (ee_ix (ee_ix (ee_var 5) (ee_un ee_int ud_neg) (ix_cell own_get hat)) ee_int (ix_tp rfl)) (ea_cons (ee_ix (ee_ix (ee_var 5) (ee_un ee_int ud_neg) (ix_cell own_get hat)) ee_int (ix_tp rfl)) (ea_cons (ee_op ee_int (ee_ix (ee_ix (ee_var 5) (ee_un ee_int ud_neg) (ix_cell own_get hat)) ee_int (ix_tp rfl)) od_sub) ea_nil)))) (ee_var 5) (ee_un ee_int ud_neg) own_get ?_) (O2 := srcC m.2.2 ++ (R ++ [.lst ((flipLast m.1).map pD)])) ?_))) ?_
      · rw [List.length_map]; exact ixN_neg (by omega)
      · rw [hfl, List.map_set]; exact own_set (A := srcC _)
      refine SS.frz (k := 2 + R.length) (m := 5) (own_get (A := srcC _)) rfl ?_
      have eo : (srcC m.2.2 ++ (R ++ [Cell.lst ((flipLast m.1).map pD)])).set (2 + R.length) .dead = srcC m.2.2 ++ (R ++ [.dead]) := own_set (A := srcC _)
      rw [eo]
      have hfll : (flipLast m.1).length ≤ 1000 := by rw [hfl, List.length_set]; omega
      rw [← List.append_assoc (srcC _) R [Cell.dead]] 
      have := hfin (flipLast m.1) hok hfll
      rw [← List.append_assoc (srcC (mixM' m.2.2 (flipLast m.1)).2) R [Cell.dead], ← List.append_assoc (srcC m.2.2) R [Cell.dead]] at this
      exact this
    · rw [if_neg hq] at hok ⊢
      have hq' : (decide (par < 2) && !decide ((m.1.map fun p => p.2.2).sum % 2 = par)) = false := by simpa [parityOk] using hq
      rw [List.append_assoc]
      refine ss_cons (s_ifF (ht.eq hq') ss_nil) ?_
      refine SS.frz (k := 2 + R.length) (m := 5) (own_get (A := srcC _)) rfl ?_
      have eo : (srcC m.2.2 ++ (R ++ [Cell.lst (m.1.map pD)])).set (2 + R.length) .dead = srcC m.2.2 ++ (R ++ [.dead]) := own_set (A := srcC _)
      rw [eo]
      have := hfin m.1 hok (by omega)
      rw [← List.append_assoc (srcC (mixM' m.2.2 m.1).2) R [Cell.dead]] at this
      exact this
end


end DL
set_option maxRecDepth 100000
set_option maxHeartbeats 4000000
namespace DL
open PySem L2 PyProof.Rows PySem.Spec
/-! ### the program's gaps -/
abbrev pVbp : Stmt := top 22
section
variable {c : Cn}
abbrev Vs := List (Int × Int)
def vD (vs : Vs) : List (Key × D) := vs.map fun q => (Sum.inl q.1, D.int q.2)
def vget (vs : Vs) (y : Int) : Int := ((vs.find? fun q => decide (q.1 = y)).map (·.2)).getD 0
def vput (vs : Vs) (y v : Int) : Vs := if (vs.any fun q => decide (q.1 = y)) = true then vs.map (fun q => if q.1 = y then (q.1, vget vs y + v) else q) else vs ++ [(y, vget vs y + v)]
def vfold (vs : Vs) (ps : List Pn) : Vs := ps.foldl (fun vs p => vput vs p.2.1 p.2.2) vs
theorem inl_iff {a b : Int} : ((Sum.inl a : Key) = Sum.inl b) = (a = b) := by simp
theorem vD_get (vs : Vs) (y : Int) : valD (vD vs) (.inl y) = (vs.find? fun q => decide (q.1 = y)).map fun q => D.int q.2 := by
  unfold valD vD
  rw [List.find?_map, Option.map_map]
  simp only [Function.comp_def, inl_iff]
theorem vD_getD (vs : Vs) (y : Int) : (valD (vD vs) (.inl y)).getD (.int 0) = .int (vget vs y) := by
  rw [vD_get]; unfold vget
  cases vs.find? fun q => decide (q.1 = y) <;> rfl
theorem vD_put (vs : Vs) (y v : Int) : putD (vD vs) (.inl y) (.int (vget vs y + v)) = vD (vput vs y v) := by
  unfold putD vput vD
  rw [List.any_map]
  simp only [Function.comp_def, inl_iff]
  split
  · rw [List.map_map, List.map_map]
    refine List.map_congr_left fun q _ => ?_
    simp only [Function.comp_def, inl_iff]
    split <;> rfl
  · simp
theorem vput_len (vs : Vs) (y v : Int) : (vput vs y v).length ≤ vs.length + 1 := by
  unfold vput; split <;> simp
theorem vfold_len : ∀ (ps : List Pn) (vs : Vs), (vfold vs ps).length ≤ vs.length + ps.length
  | [], vs => Nat.le_refl _
  | p :: ps, vs => by
    have h1 := vfold_len ps (vput vs p.2.1 p.2.2)
    have h2 := vput_len vs p.2.1 p.2.2
    show (vfold (vput vs p.2.1 p.2.2) ps).length ≤ vs.length + (ps.length + 1)
    omega
abbrev nVbp : List Str := ["standing", "voices_at", "_", "place", "voice"]
abbrev scVbp : Sc := ⟨nVbp, defScope pVbp, fun _ => true, none⟩
theorem fsVbp : FnScope nVbp ["standing"] (defScope pVbp) := ⟨rfl, rfl, rfl, by decide +kernel, rfl, by decide +kernel, by decide +kernel⟩
def rVbp (C : Addr) : Fn := fun ds O d O' => ∃ ps : List Pn, ps.length < 64 ∧ ds = [standD C ps] ∧ d = .loc O.length ∧ O' = O ++ [.dct (vD (vfold [] ps))]
theorem vbp_loop (x : D) (O : Sto) : ∀ (ps : List Pn) (vs : Vs), vs.length + ps.length < 100 →
    FR c scVbp (loopT (stm pVbp 1)) (loopB (stm pVbp 1)) (ps.map pD) [some x, some (.loc O.length), none, none, none] (O ++ [.dct (vD vs)]) (.nx [some x, some (.loc O.length), none, none, none] (O ++ [.dct (vD (vfold vs ps))]))
  | [], vs, _ => .nil
  | p :: ps, vs, hl => by
    have h2 := vput_len vs p.2.1 p.2.2
    have ih := vbp_loop x O ps (vput vs p.2.1 p.2.2) (by simp at hl; omega)
    refine .nx (gt_tup (gts_cons (gt_name 2) (gts_cons (gt_name 3) (gts_cons (gt_name 4) gts_nil)))) ?_ ih
    apply SS.less
    · skip
      refine ss_one (S1.nxO (s_dput (.inl p.2.1) (ee_op (EE.eq (ee_dget2 (.inl p.2.1) (ee_var 1) (List.getElem?_concat_length ..) (ee_var 3) ee_int (List.getElem?_concat_length ..)) (vD_getD _ _)) (ee_var 4) od_add) (ee_var 1) (ee_var 3) (List.getElem?_concat_length ..) (by simp [vD] at hl ⊢; omega)) ?_)
      rw [vD_put]
      simp [List.set_append]
    · exact Les.cons (Les.cons (Les.cut (Les.cut (Les.cut (Les.refl _)))))
theorem vbp_ok {C : Addr} {f : Addr} {fd : FuncData} (F : Fun c.K "voices_by_place" "voices_by_place" pVbp f fd) (hm : c.mg "voices_by_place" = some (.ref f)) (hb : Binds c.K fd ["standing"] []) (T : CS c C) {j : Nat} (hj : j ≤ c.k) (GP : MethOk c C "people" (rPpls C) ["self"] j) :
    DefOk c "voices_by_place" (rVbp C) ["standing"] (c.k + 1) := by
  have GP := GP.up hj
  refine def_ok F hm hb fsVbp (fun ds O d O' h => ?_) fun ds O d O' h => ?_
  · obtain ⟨ps, _, rfl, _⟩ := h; rfl
  · obtain ⟨ps, hp, rfl, rfl, rfl⟩ := h
    refine ss_cons (s_set 1 ee_dict0) ?_
    refine ss_cons (s_for (it_list (ee_meth0 (ee_var 0) T.cl GP (by decide +kernel) ⟨ps, rfl, rfl, rfl⟩)) (vbp_loop (standD C ps) O ps [] (by simp; omega))) ?_
    exact ss_one (s_ret (ee_var 1))
end

section
variable {c : Cn}
theorem vput_keys (vs : Vs) (y v : Int) : (vput vs y v).map (·.1) = if y ∈ vs.map (·.1) then vs.map (·.1) else vs.map (·.1) ++ [y] := by
  unfold vput
  have e : (vs.any fun q => decide (q.1 = y)) = decide (y ∈ vs.map (·.1)) := by
    rw [Bool.eq_iff_iff]
    simp only [List.any_eq_true, decide_eq_true_eq, List.mem_map]
  rw [e]
  by_cases h : y ∈ vs.map (·.1)
  · rw [if_pos (by simpa using h), if_pos h, List.map_map]
    refine List.map_congr_left fun q _ => ?_
    simp only [Function.comp_def]
    split <;> rfl
  · rw [if_neg (by simpa using h), if_neg h]; simp
theorem vput_mem (vs : Vs) (y v x : Int) : x ∈ (vput vs y v).map (·.1) ↔ x ∈ vs.map (·.1) ∨ x = y := by
  rw [vput_keys]
  split
  · constructor
    · exact .inl
    · rintro (h | rfl) <;> assumption
  · simp [List.mem_append]
theorem vput_nd (vs : Vs) (y v : Int) (h : (vs.map (·.1)).Nodup) : ((vput vs y v).map (·.1)).Nodup := by
  rw [vput_keys]
  split
  · exact h
  · rename_i hy
    rw [List.nodup_append]
    exact ⟨h, by simp, fun a ha b hb e => by simp at hb; subst hb; subst e; exact hy ha⟩
theorem vfold_keys : ∀ (ps : List Pn) (vs : Vs), (vs.map (·.1)).Nodup → ((vfold vs ps).map (·.1)).Nodup ∧ ∀ x, x ∈ (vfold vs ps).map (·.1) ↔ x ∈ vs.map (·.1) ∨ x ∈ plc ps
  | [], vs, h => ⟨h, fun x => by simp [vfold, plc]⟩
  | p :: ps, vs, h => by
    obtain ⟨a, b⟩ := vfold_keys ps (vput vs p.2.1 p.2.2) (vput_nd vs p.2.1 p.2.2 h)
    refine ⟨a, fun x => ?_⟩
    rw [show vfold vs (p :: ps) = vfold (vput vs p.2.1 p.2.2) ps from rfl, b, vput_mem]
    simp only [plc, List.map_cons, List.mem_cons]
    constructor
    · rintro ((h | h) | h)
      · exact .inl h
      · exact .inr (.inl h)
      · exact .inr (.inr h)
    · rintro (h | h | h)
      · exact .inl (.inl h)
      · exact .inl (.inr h)
      · exact .inr h
theorem vfold_spots (ps : List Pn) : spots ((vfold [] ps).map (·.1)) = spots (plc ps) := by
  obtain ⟨_, b⟩ := vfold_keys ps [] List.nodup_nil
  have h := spots_ok ((vfold [] ps).map (·.1))
  exact Spots.eq (ns := plc ps) ⟨h.srt, fun k => (h.mem k).trans ((b k).trans (by simp))⟩ (spots_ok (plc ps))
theorem valD_isSome {kvs : List (Key × D)} {q : Key} (h : q ∈ kvs.map (·.1)) : ∃ z, valD kvs q = some z := by
  cases e : valD kvs q with
  | some z => exact ⟨z, rfl⟩
  | none =>
    unfold valD at e
    simp only [Option.map_eq_none_iff, List.find?_eq_none] at e
    obtain ⟨kv, h1, h2⟩ := List.mem_map.mp h
    exact absurd (by simpa using h2) (e kv h1)
theorem twos_mem : ∀ {l : List Int} {p : Int × Int}, p ∈ twos l → p.1 ∈ l
  | [], p, h => by simp [twos] at h
  | [_], p, h => by simp [twos] at h
  | x :: y :: r, p, h => by
    rcases List.mem_cons.mp (show p ∈ (x, y) :: twos (y :: r) from h) with e | e
    · subst e; exact List.mem_cons_self
    · exact List.mem_cons_of_mem _ (twos_mem e)
theorem twos_len : ∀ l : List Int, (twos l).length ≤ l.length
  | [] => Nat.le_refl _
  | [_] => Nat.zero_le _
  | x :: y :: r => by have := twos_len (y :: r); simp [twos] at this ⊢; omega
end

/-! ### the program's loud places -/
theorem vval (ps : List Pn) {y : Int} (h : y ∈ plc ps) : valD (vD (vfold [] ps)) (.inl y) = some (.int (vget (vfold [] ps) y)) := by
  obtain ⟨k1, k2⟩ := vfold_keys ps [] List.nodup_nil
  obtain ⟨q, hq1, hq2⟩ := List.mem_map.mp ((k2 y).mpr (.inr h))
  obtain ⟨z, hz⟩ := valD_isSome (kvs := vD (vfold [] ps)) (q := .inl y) (List.mem_map.mpr ⟨(Sum.inl q.1, .int q.2), List.mem_map.mpr ⟨q, hq1, rfl⟩, congrArg Sum.inl hq2⟩)
  have := vD_getD (vfold [] ps) y
  rw [hz] at this ⊢
  exact congrArg some this
theorem vD_free (vs : Vs) : freeAll ((vD vs).map (·.2)) = true := by
  rw [vD, List.map_map]; exact freeAll_map _ (fun _ => rfl) _
section
variable {c : Cn} {C : Addr}
abbrev pLoud : Stmt := top 24
abbrev nLoud : List Str := ["standing", "voices_at", "place"]
abbrev scLoud : Sc := ⟨nLoud, defScope pLoud, fun _ => true, none⟩
theorem fsLoud : FnScope nLoud ["standing"] (defScope pLoud) := ⟨rfl, rfl, rfl, by decide +kernel, rfl, by decide +kernel, by decide +kernel⟩
def loudM (ps : List Pn) : List Int := (spots (plc ps)).filter fun y => decide (vget (vfold [] ps) y % 2 = 1)
def rLoud (C : Addr) : Fn := fun ds O d O' => ∃ ps : List Pn, ps.length < 64 ∧ ds = [standD C ps] ∧ d = .loc (O.length + 1) ∧ O' = O ++ [.dct (vD (vfold [] ps)), .lst ((loudM ps).map .int)]
theorem sorted_vat {S : Sc} {ps : List Pn} {O : Sto} (hp : ps.length < 64) : CaD c S (.builtin "sorted") [.loc O.length] (O ++ [.dct (vD (vfold [] ps))]) (.lst ((spots (plc ps)).map .int)) (O ++ [.dct (vD (vfold [] ps))]) := by
  obtain ⟨k1, k2⟩ := vfold_keys ps [] List.nodup_nil
  have hl := vfold_len ps []
  rw [← vfold_spots]
  exact cd_sortedD (List.getElem?_concat_length ..) (by simp [vD]) k1 (by simp at hl ⊢; omega)
theorem loud_ok {f : Addr} {fd : FuncData} (F : Fun c.K "loud_places" "loud_places" pLoud f fd) (hm : c.mg "loud_places" = some (.ref f)) (hb : Binds c.K fd ["standing"] []) {j : Nat} (hj : j ≤ c.k) (GV : DefOk c "voices_by_place" (rVbp C) ["standing"] j) (h1 : c.mg "sorted" = none) :
    DefOk c "loud_places" (rLoud C) ["standing"] (c.k + 1) := by
  have GV := GV.up hj
  refine def_ok F hm hb fsLoud (fun ds O d O' h => ?_) fun ds O d O' h => ?_
  · obtain ⟨ps, _, rfl, _⟩ := h; rfl
  · obtain ⟨ps, hp, rfl, rfl, rfl⟩ := h
    have hsl := spots_len (plc ps)
    have hpl : (plc ps).length = ps.length := List.length_map _
    refine ss_cons (s_set 1 (ee_call GV (ea_cons (ee_var 0) ea_nil) ⟨ps, hp, rfl, rfl, rfl⟩ (Nat.le_refl _))) ?_
    have e1 : O ++ [Cell.dct (vD (vfold [] ps)), .lst ((loudM ps).map .int)] = (O ++ [Cell.dct (vD (vfold [] ps))]) ++ [.lst ((loudM ps).map .int)] := by simp
    have e2 : O.length + 1 = (O ++ [Cell.dct (vD (vfold [] ps))]).length := by simp
    rw [e1, e2]
    refine ss_one (s_ret (ee_lcN [("place", 2)] (it_list (ee_callB h1 (ea_cons (ee_var 1) ea_nil) (sorted_vat hp))) (cr_filter (α := Int) .int .int (fun y => decide (vget (vfold [] ps) y % 2 = 1)) (spots (plc ps)) fun y hy =>
      ⟨_, _, gt_name 2, by simp, ei_one (et_cmp (ee_op (ee_dget (.inl y) (ee_var 1) (ee_var 2) (List.getElem?_concat_length ..) (vval ps (((spots_ok (plc ps)).mem y).mp hy))) ee_int (od_mod (by decide))) ee_int od_eqI), fun _ => ee_var 2⟩) (by simp; omega)))
theorem loud_val {S : Sc} {ρ : Rho} {O : Sto} {ps : List Pn} {e : Expr} {p pos : Pos} {j : Nat} (G : DefOk c "loud_places" (rLoud C) ["standing"] j) (hj : j ≤ c.k) (hp : ps.length < 64) (ha : EE c S e ρ O (standD C ps) O) (hg : glB S.sc "loud_places" = true := by first | decide +kernel | kernel_rfl | exact of_decide_eq_true (by kernel_rfl))
    (he : ∀ env, starEach (e :: []) env = (false, eval e env) :: starEach [] env := by intro _; rfl) : EE c S (.Call (.Name "loud_places" p) [e] [] pos) ρ O (.lst ((loudM ps).map .int)) O :=
  frz2 (ee_call (pos := pos) (p := p) G (ea_cons ha ea_nil he) ⟨ps, hp, rfl, rfl, rfl⟩ hj hg (by decide +kernel) he (by intro _; rfl)) (vD_free _) (freeI _)
end

section
variable {c : Cn} {C : Addr}
abbrev pTog : Stmt := inClass (top 16) 11
theorem fsMt : FnScope ["self"] ["self"] (defScope pTog) := ⟨rfl, rfl, rfl, by decide +kernel, rfl, by decide +kernel, by decide +kernel⟩
theorem mtog_ok {f : Addr} {fd : FuncData} (F : Fun c.K "is_together" "Standing.is_together" pTog f fd) (T : CS c C) (hM : Meth c.K C "is_together" f) (hb : Binds c.K fd ["self"] []) {j : Nat} (hj : j ≤ c.k) (G : MethOk c C "places" (rTells C fun ps => .lst ((spots (plc ps)).map .int)) ["self"] j) (h1 : c.mg "len" = none) :
    MethOk c C "is_together" (rTells C fun ps => .bl (decide (((spots (plc ps)).length : Int) ≤ 1))) ["self"] (c.k + 1) := by
  refine ⟨f, fd, fn_bodyR F fsMt (fun ds O d O' h => ?_) (fun ds O d O' h => ?_), hM, hb⟩
  · obtain ⟨ps, _, rfl, _⟩ := h; rfl
  · obtain ⟨ps, hl, rfl, rfl, rfl⟩ := h
    exact ss_one (s_ret (EE.eq (ee_cmp (ee_callB h1 (ea_cons (ee_meth0 (ee_var 0) T.cl G (by decide +kernel) ⟨ps, hl, rfl, rfl, rfl⟩ hj) ea_nil) cd_lenL) ee_int od_le) (by simp)))
end

section
variable {c : Cn} {C : Addr}
abbrev pAt : Stmt := inClass (top 16) 8
abbrev nAt : List Str := ["self", "place", "person"]
theorem fsAt : FnScope nAt ["self", "place"] (defScope pAt) := ⟨rfl, rfl, rfl, by decide +kernel, rfl, by decide +kernel, by decide +kernel⟩
def atM (ps : List Pn) (y : Int) : List Pn := ps.filter fun p => decide (p.2.1 = y)
def rAt (C : Addr) : Fn := fun ds O d O' => ∃ (ps : List Pn) (y : Int), ps.length < 64 ∧ ds = [standD C ps, .int y] ∧ d = .lst ((atM ps y).map fun p => .str p.1) ∧ O' = O
theorem mat_ok {f : Addr} {fd : FuncData} (F : Fun c.K "at" "Standing.at" pAt f fd) (T : CS c C) (hM : Meth c.K C "at" f) (hb : Binds c.K fd ["self", "place"] []) {j : Nat} (hj : j ≤ c.k) (G : DefOk c "is_integer" rInt ["value"] j) : MethOk c C "at" (rAt C) ["self", "place"] (c.k + 1) := by
  refine ⟨f, fd, fn_bodyR F fsAt (fun ds O d O' h => ?_) (fun ds O d O' h => ?_), hM, hb⟩
  · obtain ⟨ps, y, _, rfl, _⟩ := h; rfl
  · obtain ⟨ps, y, hl, rfl, rfl, rfl⟩ := h
    refine ss_cons (s_ifF (ET.eq (et_not (et_val (ee_call G (ea_cons (ee_var 1) ea_nil) ⟨y, rfl, rfl, rfl⟩ hj))) rfl) ss_nil) ?_
    exact ss_one (s_ret (ee_lc [("person", 2)] (it_tup (ee_fld (ee_var 0) T.cl T.n1 (by rfl))) (cr_filter pD (fun p => .str p.1) (fun p => decide (p.2.1 = y)) ps fun p _ => ⟨_, _, gt_name 2, by simp, ei_one (et_cmp (ee_ix (ee_var 2) ee_int (ix_tp rfl)) (ee_var 1) od_eqI), fun _ => ee_ix (ee_var 2) ee_int (ix_tp rfl)⟩) (by simp; omega)))
end

section
variable {c : Cn} {C : Addr}
abbrev pHas : Stmt := inClass (top 16) 6
theorem fsHas : FnScope ["self", "value"] ["self", "value"] (defScope pHas) := ⟨rfl, rfl, rfl, by decide +kernel, rfl, by decide +kernel, by decide +kernel⟩
def byD (ps : List Pn) (x : Str) : Option D := valD ((ps.map fun p => (Sum.inr p.1 : Key)).zip (ps.map pD)) (.inr x)
def rHas (C : Addr) : Fn := fun ds O d O' => ∃ (ps : List Pn) (x : Str), ds = [standD C ps, .str x] ∧ d = .bl (byD ps x).isSome ∧ O' = O
theorem mhas_ok {f : Addr} {fd : FuncData} (F : Fun c.K "has_name" "Standing.has_name" pHas f fd) (T : CS c C) (hM : Meth c.K C "has_name" f) (hb : Binds c.K fd ["self", "value"] []) (h1 : c.mg "isinstance" = none) (h2 : c.mg "str" = none) : MethOk c C "has_name" (rHas C) ["self", "value"] (c.k + 1) := by
  refine ⟨f, fd, fn_bodyR F fsHas (fun ds O d O' h => ?_) (fun ds O d O' h => ?_), hM, hb⟩
  · obtain ⟨ps, x, rfl, _⟩ := h; rfl
  · obtain ⟨ps, x, rfl, rfl, rfl⟩ := h
    exact ss_one (s_ret (ee_andT (ee_callB h1 (ea_cons (ee_var 1) (ea_cons (ee_ty (nm := "str") h2) ea_nil)) (cd_isi (k := true) rfl (by decide +kernel))) (ee_one (ee_dinF (.inr x) (ee_var 1) (ee_fld (ee_var 0) T.cl T.n2 (by rfl))))))
end

section
variable {c : Cn} {C : Addr}
abbrev pPerson : Stmt := inClass (top 16) 1
theorem fsPer : FnScope ["self", "name"] ["self", "name"] (defScope pPerson) := ⟨rfl, rfl, rfl, by decide +kernel, rfl, by decide +kernel, by decide +kernel⟩
def rPer (C : Addr) : Fn := fun ds O d O' => ∃ (ps : List Pn) (x : Str) (p : Pn), byD ps x = some (pD p) ∧ ds = [standD C ps, .str x] ∧ d = pD p ∧ O' = O
theorem mper_ok {f : Addr} {fd : FuncData} (F : Fun c.K "_person" "Standing._person" pPerson f fd) (T : CS c C) (hM : Meth c.K C "_person" f) (hb : Binds c.K fd ["self", "name"] []) {j : Nat} (hj : j ≤ c.k) (G : MethOk c C "has_name" (rHas C) ["self", "value"] j) : MethOk c C "_person" (rPer C) ["self", "name"] (c.k + 1) := by
  refine ⟨f, fd, fn_bodyR F fsPer (fun ds O d O' h => ?_) (fun ds O d O' h => ?_), hM, hb⟩
  · obtain ⟨ps, x, p, _, rfl, _⟩ := h; rfl
  · obtain ⟨ps, x, p, hv, rfl, rfl, rfl⟩ := h
    refine ss_cons (s_ifF (ET.eq (et_not (et_val (ee_meth (ee_var 0) (ea_cons (ee_var 1) ea_nil) T.cl G (by decide +kernel) ⟨ps, x, rfl, rfl, rfl⟩ hj))) (by rw [hv]; rfl)) ss_nil) ?_
    exact ss_one (s_ret (ee_dgetF (.inr x) (ee_fld (ee_var 0) T.cl T.n2 (by rfl)) (ee_var 1) hv))
end

section
variable {c : Cn} {C : Addr}
abbrev pPlace : Stmt := inClass (top 16) 4
theorem fsPl : FnScope ["self", "name"] ["self", "name"] (defScope pPlace) := ⟨rfl, rfl, rfl, by decide +kernel, rfl, by decide +kernel, by decide +kernel⟩
def rPart (C : Addr) (t : Pn → Int) : Fn := fun ds O d O' => ∃ (ps : List Pn) (x : Str) (p : Pn), byD ps x = some (pD p) ∧ ds = [standD C ps, .str x] ∧ d = .int (t p) ∧ O' = O
theorem mplace_ok {f : Addr} {fd : FuncData} (F : Fun c.K "place" "Standing.place" pPlace f fd) (T : CS c C) (hM : Meth c.K C "place" f) (hb : Binds c.K fd ["self", "name"] []) {j : Nat} (hj : j ≤ c.k) (G : MethOk c C "_person" (rPer C) ["self", "name"] j) : MethOk c C "place" (rPart C fun p => p.2.1) ["self", "name"] (c.k + 1) := by
  refine ⟨f, fd, fn_bodyR F fsPl (fun ds O d O' h => ?_) (fun ds O d O' h => ?_), hM, hb⟩
  · obtain ⟨ps, x, p, _, rfl, _⟩ := h; rfl
  · obtain ⟨ps, x, p, hv, rfl, rfl, rfl⟩ := h
    exact ss_one (s_ret (ee_ix (ee_meth (ee_var 0) (ea_cons (ee_var 1) ea_nil) T.cl G (by decide +kernel) ⟨ps, x, p, hv, rfl, rfl, rfl⟩ hj) ee_int (ix_tp rfl)))
end

section
variable {c : Cn} {C : Addr}
abbrev pVoices : Stmt := inClass (top 16) 10
theorem fsMv : FnScope nMn ["self"] (defScope pVoices) := ⟨rfl, rfl, rfl, by decide +kernel, rfl, by decide +kernel, by decide +kernel⟩
def vsumAll (ps : List Pn) : Int := (ps.map fun p => p.2.2).sum
theorem mvoices_ok {f : Addr} {fd : FuncData} (F : Fun c.K "voices" "Standing.voices" pVoices f fd) (T : CS c C) (hM : Meth c.K C "voices" f) (hb : Binds c.K fd ["self"] []) (h1 : c.mg "sum" = none) : MethOk c C "voices" (rTells C fun ps => .int (vsumAll ps)) ["self"] (c.k + 1) := by
  refine ⟨f, fd, fn_bodyR F fsMv (fun ds O d O' h => ?_) (fun ds O d O' h => ?_), hM, hb⟩
  · obtain ⟨ps, _, rfl, _⟩ := h; rfl
  · obtain ⟨ps, hl, rfl, rfl, rfl⟩ := h
    exact ss_one (s_ret (ee_callB h1 (ea_cons (EE.eq (ee_lc [("person", 1)] (it_tup (ee_fld (ee_var 0) T.cl T.n1 (by rfl))) (cr_map pD (fun p => .int p.2.2) ps fun p _ => ⟨_, _, gt_name 1, by simp, ee_ix (ee_var 1) ee_int (ix_tp rfl)⟩) (by simp; omega)) (d' := .lst ((ps.map fun p => p.2.2).map .int)) (by simp [List.map_map])) ea_nil) cd_sum))
end


end DL
set_option maxRecDepth 100000
set_option maxHeartbeats 4000000
namespace DL
open PySem L2 PyProof.Rows PySem.Spec
/-! ### calls -/
def sgnT (p g : Int) : Int := if p = g then 0 else if p < g then 1 else -1
theorem sgn_b (p g : Int) : -2 ^ 64 < sgnT p g ∧ sgnT p g < 2 ^ 64 := by
  unfold sgnT; split
  · decide
  · split <;> decide
def setPl (ps : List Pn) (qs : List Int) : List Pn := List.zipWith (fun p q => (p.1, q, p.2.2)) ps qs
def nearM (g k : Int) (ps : List Pn) : List Pn := ps.map fun p => (p.1, p.2.1 + k * sgnT p.2.1 g, p.2.2)
theorem setPl_map (f : Int → Int) : ∀ ps : List Pn, setPl ps ((plc ps).map f) = ps.map fun p => (p.1, f p.2.1, p.2.2)
  | [] => rfl
  | p :: r => by
    have := setPl_map f r
    simp only [setPl, plc, List.map_cons, List.zipWith_cons_cons] at this ⊢
    rw [this]
theorem near_ok {g k : Int} {ps : List Pn} (h : PsOk ps) : PsOk (nearM g k ps) := by
  obtain ⟨h1, h2, h3⟩ := h
  refine ⟨fun p hp => ?_, ?_, by simpa [nearM] using h3⟩
  · obtain ⟨q, hq, rfl⟩ := List.mem_map.mp hp; exact h1 q hq
  · have e : (nearM g k ps).map (·.1) = ps.map (·.1) := by unfold nearM; rw [List.map_map]; rfl
    rw [e]; exact h2
theorem byD_mem : ∀ {ps : List Pn}, (ps.map (·.1)).Nodup → ∀ {p : Pn}, p ∈ ps → byD ps p.1 = some (pD p)
  | q :: r, hn, p, hp => by
    rw [List.map_cons, List.nodup_cons] at hn
    unfold byD valD
    simp only [List.map_cons, List.zip_cons_cons, List.find?_cons]
    rcases List.mem_cons.mp hp with rfl | hp
    · simp
    · have hne : ¬ q.1 = p.1 := fun e => hn.1 (List.mem_map.mpr ⟨p, hp, e.symm⟩)
      have ih := byD_mem hn.2 hp
      unfold byD valD at ih
      simpa [hne] using ih
def firstAt (ps : List Pn) (y : Int) : Str := ((atM ps y).map fun p => p.1).getD 0 ""
def callM (ps : List Pn) : List Str := if (spots (plc ps)).length ≤ 1 then [] else (loudM ps).map (firstAt ps)
theorem firstAt_get {ps : List Pn} {y : Int} (h : y ∈ plc ps) : ∃ p, p ∈ ps ∧ p.2.1 = y ∧ p.1 = firstAt ps y ∧ ((atM ps y).map fun p => D.str p.1)[0]? = some (.str (firstAt ps y)) := by
  obtain ⟨q, hq, e⟩ := List.mem_map.mp h
  have hm : q ∈ atM ps y := List.mem_filter.mpr ⟨hq, by simpa using e⟩
  cases hc : atM ps y with
  | nil => rw [hc] at hm; cases hm
  | cons p r =>
    have hp : p ∈ atM ps y := by rw [hc]; exact List.mem_cons_self
    obtain ⟨h1, h2⟩ := List.mem_filter.mp hp
    exact ⟨p, h1, by simpa using h2, by unfold firstAt; rw [hc]; rfl, by unfold firstAt; rw [hc]; rfl⟩
theorem loud_mem {ps : List Pn} {y : Int} (h : y ∈ loudM ps) : y ∈ plc ps := ((spots_ok (plc ps)).mem y).mp (List.mem_filter.mp h).1
section
variable {c : Cn} {C : Addr}
abbrev pPio : Stmt := top 17
abbrev pPlaced : Stmt := top 18
abbrev pStepT : Stmt := top 35
abbrev pNear : Stmt := top 36
abbrev pIsLoud : Stmt := top 32
abbrev pCan : Stmt := top 33
abbrev pCalled : Stmt := top 34
abbrev pCallers : Stmt := top 37
abbrev nPio : List Str := ["standing", "person"]
theorem fsPio : FnScope nPio ["standing"] (defScope pPio) := ⟨rfl, rfl, rfl, by decide +kernel, rfl, by decide +kernel, by decide +kernel⟩
def rPio (C : Addr) : Fn := fun ds O d O' => ∃ ps : List Pn, ps.length < 64 ∧ ds = [standD C ps] ∧ d = .tup ((plc ps).map .int) ∧ O' = O
theorem pio_ok {f : Addr} {fd : FuncData} (F : Fun c.K "places_in_order" "places_in_order" pPio f fd) (hm : c.mg "places_in_order" = some (.ref f)) (hb : Binds c.K fd ["standing"] []) {j : Nat} (hj : j ≤ c.k) (T : CS c C) (GP : MethOk c C "people" (rPpls C) ["self"] j) (h1 : c.mg "tuple" = none) : DefOk c "places_in_order" (rPio C) ["standing"] (c.k + 1) := by
  refine def_ok F hm hb fsPio (fun ds O d O' h => ?_) fun ds O d O' h => ?_
  · obtain ⟨ps, _, rfl, _⟩ := h; rfl
  · obtain ⟨ps, hp, rfl, rfl, rfl⟩ := h
    exact ss_one (s_ret (EE.eq (ee_callTy h1 (ea_cons (ee_lc [("person", 1)] (it_list (ee_meth0 (ee_var 0) T.cl GP (by decide +kernel) ⟨ps, rfl, rfl, rfl⟩ hj)) (cr_map pD (fun p => .int p.2.1) ps fun p _ => ⟨_, _, gt_name 1, by simp, ee_ix (ee_var 1) ee_int (ix_tp rfl)⟩) (by simp; omega)) ea_nil) cd_tupL) (by simp [plc, List.map_map])))
abbrev nPlaced : List Str := ["standing", "places", "name", "_", "voice", "place"]
theorem fsPlaced : FnScope nPlaced ["standing", "places"] (defScope pPlaced) := ⟨rfl, rfl, rfl, by decide +kernel, rfl, by decide +kernel, by decide +kernel⟩
def rPlaced (C : Addr) : Fn := fun ds O d O' => ∃ (ps : List Pn) (qs : List Int), ps.length < 64 ∧ qs.length < 64 ∧ PsOk (setPl ps qs) ∧ ds = [standD C ps, .lst (qs.map .int)] ∧ d = standD C (setPl ps qs) ∧ O' = O
theorem zip_pl : ∀ (ps : List Pn) (qs : List Int), List.zipWith (fun x y => D.tup [x, y]) (ps.map pD) (qs.map .int) = (ps.zip qs).map fun t => .tup [pD t.1, .int t.2]
  | [], _ => by simp
  | p :: ps, [] => by simp
  | p :: ps, q :: qs => by simp [zip_pl ps qs]
theorem set_pl : ∀ (ps : List Pn) (qs : List Int), (setPl ps qs).map pD = (ps.zip qs).map fun t => D.tup [.str t.1.1, .int t.2, .int t.1.2.2]
  | [], _ => by simp [setPl]
  | p :: ps, [] => by simp [setPl]
  | p :: ps, q :: qs => by have := set_pl ps qs; simp only [setPl, List.zipWith_cons_cons, List.map_cons, List.zip_cons_cons] at this ⊢; rw [this]; rfl
theorem placed_ok {f : Addr} {fd : FuncData} (F : Fun c.K "placed" "placed" pPlaced f fd) (hm : c.mg "placed" = some (.ref f)) (hb : Binds c.K fd ["standing", "places"] []) {j1 j2 : Nat} (hj1 : j1 ≤ c.k) (hj2 : j2 + 1 ≤ c.k) (T : CS c C) (GP : MethOk c C "people" (rPpls C) ["self"] j1) (GM : MakeOk c C (rInit C) ["self", "people"] j2) (hC : c.mg "Standing" = some (.ref C)) (h1 : c.mg "zip" = none) : DefOk c "placed" (rPlaced C) ["standing", "places"] (c.k + 1) := by
  refine def_ok F hm hb fsPlaced (fun ds O d O' h => ?_) fun ds O d O' h => ?_
  · obtain ⟨ps, qs, _, _, _, rfl, _⟩ := h; rfl
  · obtain ⟨ps, qs, hp, hq, hok, rfl, rfl, rfl⟩ := h
    refine ss_one (s_ret (stand_new GM hC hok (ea_cons (ee_lc (rs := (setPl ps qs).map pD) [("name", 2), ("_", 3), ("voice", 4), ("place", 5)] (it_zip h1 (ee_meth0 (ee_var 0) T.cl GP (by decide +kernel) ⟨ps, rfl, rfl, rfl⟩ hj1) (ee_var 1)) ?_ (by simp; omega)) ea_nil) hj2 (Nat.le_refl _) id))
    rw [zip_pl, set_pl]
    exact cr_map _ _ (ps.zip qs) fun t _ => ⟨_, _, gt_tup (gts_cons (gt_tup (gts_cons (gt_name 2) (gts_cons (gt_name 3) (gts_cons (gt_name 4) gts_nil)))) (gts_cons (gt_name 5) gts_nil)), by simp, ee_tup (ea_cons (ee_var 2) (ea_cons (ee_var 5) (ea_cons (ee_var 4) ea_nil)))⟩
abbrev nStepT : List Str := ["place", "goal"]
theorem fsStepT : FnScope nStepT ["place", "goal"] (defScope pStepT) := ⟨rfl, rfl, rfl, by decide +kernel, rfl, by decide +kernel, by decide +kernel⟩
def rStepT : Fn := fun ds O d O' => ∃ p g : Int, ds = [.int p, .int g] ∧ d = .int (sgnT p g) ∧ O' = O
theorem stepT_ok {f : Addr} {fd : FuncData} (F : Fun c.K "step_towards" "step_towards" pStepT f fd) (hm : c.mg "step_towards" = some (.ref f)) (hb : Binds c.K fd ["place", "goal"] []) : DefOk c "step_towards" rStepT ["place", "goal"] (c.k + 1) := by
  refine def_ok F hm hb fsStepT (fun ds O d O' h => ?_) fun ds O d O' h => ?_
  · obtain ⟨p, g, rfl, _⟩ := h; rfl
  · obtain ⟨p, g, rfl, rfl, rfl⟩ := h
    have ht : ET c ⟨nStepT, defScope pStepT, fun _ => true, none⟩ (loopT (stm pStepT 0)) [some (.int p), some (.int g)] O' (decide (p = g)) O' := et_cmp (ee_var 0) (ee_var 1) od_eqI
    unfold sgnT
    by_cases h : p = g
    · rw [if_pos h]
      exact ss_last (s_ifT (ht.eq (by simpa using h)) (ss_one (s_ret ee_int)))
    · rw [if_neg h]
      refine ss_cons (s_ifF (ht.eq (by simpa using h)) ss_nil) ?_
      refine ss_one (s_ret (ee_if2 (et_cmp (ee_var 0) (ee_var 1) od_lt) (fun e => EE.eq ee_int ?_) fun e => EE.eq (ee_un ee_int ud_neg) ?_))
      · rw [if_pos (of_decide_eq_true e)]
      · rw [if_neg (of_decide_eq_false e)]
abbrev nNear : List Str := ["standing", "goal", "steps", "places", "place"]
theorem fsNear : FnScope nNear ["standing", "goal", "steps"] (defScope pNear) := ⟨rfl, rfl, rfl, by decide +kernel, rfl, by decide +kernel, by decide +kernel⟩
def rNear (C : Addr) : Fn := fun ds O d O' => ∃ (ps : List Pn) (g k : Int), PsOk ps ∧ ds = [standD C ps, .int g, .int k] ∧ d = standD C (nearM g k ps) ∧ O' = O
theorem nearer_ok {f : Addr} {fd : FuncData} (F : Fun c.K "_nearer" "_nearer" pNear f fd) (hm : c.mg "_nearer" = some (.ref f)) (hb : Binds c.K fd ["standing", "goal", "steps"] []) {j1 j2 j3 : Nat} (hj1 : j1 ≤ c.k) (hj2 : j2 ≤ c.k) (hj3 : j3 ≤ c.k) (GI : DefOk c "places_in_order" (rPio C) ["standing"] j1) (GL : DefOk c "placed" (rPlaced C) ["standing", "places"] j2) (GS : DefOk c "step_towards" rStepT ["place", "goal"] j3) : DefOk c "_nearer" (rNear C) ["standing", "goal", "steps"] (c.k + 1) := by
  refine def_ok F hm hb fsNear (fun ds O d O' h => ?_) fun ds O d O' h => ?_
  · obtain ⟨ps, g, k, _, rfl, _⟩ := h; rfl
  · obtain ⟨ps, g, k, hp, rfl, rfl, rfl⟩ := h
    have hl := hp.2.2
    have hpl : (plc ps).length = ps.length := List.length_map _
    have e : setPl ps ((plc ps).map fun x => x + k * sgnT x g) = nearM g k ps := setPl_map (fun x => x + k * sgnT x g) ps
    refine ss_cons (s_set 3 (ee_call GI (ea_cons (ee_var 0) ea_nil) ⟨ps, hl, rfl, rfl, rfl⟩ hj1)) ?_
    refine ss_one (s_ret (ee_call GL (ea_cons (ee_var 0) (ea_cons (ee_lc [("place", 4)] (it_tup (ee_var 3)) (cr_map (α := Int) .int (fun x => .int (x + k * sgnT x g)) (plc ps) fun x _ => ⟨_, _, gt_name 4, by simp, ee_op (ee_var 4) (ee_op (ee_var 2) (ee_call GS (ea_cons (ee_var 4) (ea_cons (ee_var 1) ea_nil)) ⟨x, g, rfl, rfl, rfl⟩ hj3) (od_mul (.inr (sgn_b x g)))) od_add⟩) (by simp; omega)) ea_nil)) ⟨ps, (plc ps).map fun x => x + k * sgnT x g, hl, by simp; omega, by rw [e]; exact near_ok hp, by simp [List.map_map], by rw [e], rfl⟩ hj2))
abbrev nSN : List Str := ["standing", "name"]
theorem fsIsLoud : FnScope nSN ["standing", "name"] (defScope pIsLoud) := ⟨rfl, rfl, rfl, by decide +kernel, rfl, by decide +kernel, by decide +kernel⟩
theorem fsCan : FnScope nSN ["standing", "name"] (defScope pCan) := ⟨rfl, rfl, rfl, by decide +kernel, rfl, by decide +kernel, by decide +kernel⟩
theorem fsCalled : FnScope nSN ["standing", "name"] (defScope pCalled) := ⟨rfl, rfl, rfl, by decide +kernel, rfl, by decide +kernel, by decide +kernel⟩
def rAsk (C : Addr) (t : List Pn → Pn → D) : Fn := fun ds O d O' => ∃ (ps : List Pn) (p : Pn), PsOk ps ∧ p ∈ ps ∧ ds = [standD C ps, .str p.1] ∧ d = t ps p ∧ O' = O
def isLoudM (ps : List Pn) (p : Pn) : Bool := decide (p.2.1 ∈ loudM ps)
def canM (ps : List Pn) (p : Pn) : Bool := isLoudM ps p && !decide (((spots (plc ps)).length : Int) ≤ 1)
theorem isLoud_ok {f : Addr} {fd : FuncData} (F : Fun c.K "is_loud" "is_loud" pIsLoud f fd) (hm : c.mg "is_loud" = some (.ref f)) (hb : Binds c.K fd ["standing", "name"] []) {j1 j2 : Nat} (hj1 : j1 ≤ c.k) (hj2 : j2 ≤ c.k) (T : CS c C) (GP : MethOk c C "place" (rPart C fun p => p.2.1) ["self", "name"] j1) (GL : DefOk c "loud_places" (rLoud C) ["standing"] j2) : DefOk c "is_loud" (rAsk C fun ps p => .bl (isLoudM ps p)) ["standing", "name"] (c.k + 1) := by
  refine def_ok F hm hb fsIsLoud (fun ds O d O' h => ?_) fun ds O d O' h => ?_
  · obtain ⟨ps, p, _, _, rfl, _⟩ := h; rfl
  · obtain ⟨ps, p, hps, hp, rfl, rfl, rfl⟩ := h
    exact ss_one (s_ret (ee_cmp (ee_meth (ee_var 0) (ea_cons (ee_var 1) ea_nil) T.cl GP (by decide +kernel) ⟨ps, p.1, p, byD_mem hps.2.1 hp, rfl, rfl, rfl⟩ hj1) (loud_val GL hj2 hps.2.2 (ee_var 0)) od_inI))
theorem can_ok {f : Addr} {fd : FuncData} (F : Fun c.K "can_call" "can_call" pCan f fd) (hm : c.mg "can_call" = some (.ref f)) (hb : Binds c.K fd ["standing", "name"] []) {j1 j2 : Nat} (hj1 : j1 ≤ c.k) (hj2 : j2 ≤ c.k) (T : CS c C) (GL : DefOk c "is_loud" (rAsk C fun ps p => .bl (isLoudM ps p)) ["standing", "name"] j1) (GT : MethOk c C "is_together" (rTells C fun ps => .bl (decide (((spots (plc ps)).length : Int) ≤ 1))) ["self"] j2) : DefOk c "can_call" (rAsk C fun ps p => .bl (canM ps p)) ["standing", "name"] (c.k + 1) := by
  refine def_ok F hm hb fsCan (fun ds O d O' h => ?_) fun ds O d O' h => ?_
  · obtain ⟨ps, p, _, _, rfl, _⟩ := h; rfl
  · obtain ⟨ps, p, hps, hp, rfl, rfl, rfl⟩ := h
    exact ss_one (s_ret (ee_and2 (ee_call GL (ea_cons (ee_var 0) (ea_cons (ee_var 1) ea_nil)) ⟨ps, p, hps, hp, rfl, rfl, rfl⟩ hj1) fun _ => ee_one (ee_not (ee_meth0 (ee_var 0) T.cl GT (by decide +kernel) ⟨ps, hps.2.2, rfl, rfl, rfl⟩ hj2))))
def rCalled (C : Addr) : Fn := fun ds O d O' => ∃ (ps : List Pn) (p : Pn), PsOk ps ∧ p ∈ ps ∧ canM ps p = true ∧ ds = [standD C ps, .str p.1] ∧ d = standD C (nearM p.2.1 1 ps) ∧ O' = O
theorem called_ok {f : Addr} {fd : FuncData} (F : Fun c.K "called" "called" pCalled f fd) (hm : c.mg "called" = some (.ref f)) (hb : Binds c.K fd ["standing", "name"] []) {j1 j2 j3 : Nat} (hj1 : j1 ≤ c.k) (hj2 : j2 ≤ c.k) (hj3 : j3 ≤ c.k) (T : CS c C) (GC : DefOk c "can_call" (rAsk C fun ps p => .bl (canM ps p)) ["standing", "name"] j1) (GP : MethOk c C "place" (rPart C fun p => p.2.1) ["self", "name"] j2) (GN : DefOk c "_nearer" (rNear C) ["standing", "goal", "steps"] j3) : DefOk c "called" (rCalled C) ["standing", "name"] (c.k + 1) := by
  refine def_ok F hm hb fsCalled (fun ds O d O' h => ?_) fun ds O d O' h => ?_
  · obtain ⟨ps, p, _, _, _, rfl, _⟩ := h; rfl
  · obtain ⟨ps, p, hps, hp, hc, rfl, rfl, rfl⟩ := h
    refine ss_cons (s_ifF (ET.eq (et_not (et_val (ee_call GC (ea_cons (ee_var 0) (ea_cons (ee_var 1) ea_nil)) ⟨ps, p, hps, hp, rfl, rfl, rfl⟩ hj1))) (by rw [hc]; rfl)) ss_nil) ?_
    exact ss_one (s_ret (ee_call GN (ea_cons (ee_var 0) (ea_cons (ee_meth (ee_var 0) (ea_cons (ee_var 1) ea_nil) T.cl GP (by decide +kernel) ⟨ps, p.1, p, byD_mem hps.2.1 hp, rfl, rfl, rfl⟩ hj2) (ea_cons ee_int ea_nil))) ⟨ps, p.2.1, 1, hps, rfl, rfl, rfl⟩ hj3))
abbrev nCls : List Str := ["standing", "place"]
theorem fsCallers : FnScope nCls ["standing"] (defScope pCallers) := ⟨rfl, rfl, rfl, by decide +kernel, rfl, by decide +kernel, by decide +kernel⟩
theorem callers_ok {f : Addr} {fd : FuncData} (F : Fun c.K "callers" "callers" pCallers f fd) (hm : c.mg "callers" = some (.ref f)) (hb : Binds c.K fd ["standing"] []) {j1 j2 j3 : Nat} (hj1 : j1 ≤ c.k) (hj2 : j2 ≤ c.k) (hj3 : j3 ≤ c.k) (T : CS c C) (GT : MethOk c C "is_together" (rTells C fun ps => .bl (decide (((spots (plc ps)).length : Int) ≤ 1))) ["self"] j1) (GA : MethOk c C "at" (rAt C) ["self", "place"] j2) (GL : DefOk c "loud_places" (rLoud C) ["standing"] j3) : DefOk c "callers" (rTells C fun ps => .lst ((callM ps).map .str)) ["standing"] (c.k + 1) := by
  refine def_ok F hm hb fsCallers (fun ds O d O' h => ?_) fun ds O d O' h => ?_
  · obtain ⟨ps, _, rfl, _⟩ := h; rfl
  · obtain ⟨ps, hl, rfl, rfl, rfl⟩ := h
    have ht : ET c ⟨nCls, defScope pCallers, fun _ => true, none⟩ (loopT (stm pCallers 0)) [some (standD C ps), none] O' (decide (((spots (plc ps)).length : Int) ≤ 1)) O' := et_val (ee_meth0 (ee_var 0) T.cl GT (by decide +kernel) ⟨ps, hl, rfl, rfl, rfl⟩ hj1)
    have hsl := spots_len (plc ps)
    have hpl : (plc ps).length = ps.length := List.length_map _
    have hll : (loudM ps).length ≤ (spots (plc ps)).length := List.length_filter_le ..
    by_cases h : (spots (plc ps)).length ≤ 1
    · have e : callM ps = [] := by unfold callM; rw [if_pos h]
      simp only [e]
      exact ss_last (s_ifT (ht.eq (by simp; omega)) (ss_one (s_ret (ee_lst ea_nil))))
    · have e : callM ps = (loudM ps).map (firstAt ps) := by unfold callM; rw [if_neg h]
      simp only [e]
      refine ss_cons (s_ifF (ht.eq (by simp; omega)) ss_nil) ?_
      refine ss_one (s_ret (EE.eq (ee_lc [("place", 1)] (it_list (loud_val GL hj3 hl (ee_var 0))) (cr_map (α := Int) .int (fun y => .str (firstAt ps y)) (loudM ps) fun y hy => ⟨_, _, gt_name 1, by simp, ee_ix (ee_meth (ee_var 0) (ea_cons (ee_var 1) ea_nil) T.cl GA (by decide +kernel) ⟨ps, y, hl, rfl, rfl, rfl⟩ hj2) ee_int (ix_lst (d := .str (firstAt ps y)) (atI_get (n := 0) ?_))⟩) (by simp; omega)) (by simp [List.map_map])))
      obtain ⟨_, _, _, _, e⟩ := firstAt_get (loud_mem hy)
      exact e
end


end DL
set_option maxRecDepth 100000
set_option maxHeartbeats 4000000
namespace DL
open PySem L2 PyProof.Rows PySem.Spec
/-! ### the two ways to tell the gaps agree -/
def vsum (P : Int → Bool) : List Pn → Int
  | [] => 0
  | p :: r => (if P p.2.1 then p.2.2 else 0) + vsum P r
theorem vsum_congr {P Q : Int → Bool} : ∀ {ps : List Pn}, (∀ p ∈ ps, P p.2.1 = Q p.2.1) → vsum P ps = vsum Q ps
  | [], _ => rfl
  | p :: r, h => by
    show (if P p.2.1 then p.2.2 else 0) + vsum P r = (if Q p.2.1 then p.2.2 else 0) + vsum Q r
    rw [h p List.mem_cons_self, vsum_congr fun q hq => h q (List.mem_cons_of_mem _ hq)]
theorem vsum_split (x : Int) : ∀ ps : List Pn, vsum (fun z => decide (z < x)) ps + vsum (fun z => decide (z = x)) ps = vsum (fun z => decide (z ≤ x)) ps
  | [] => rfl
  | p :: r => by
    have := vsum_split x r
    simp only [vsum, decide_eq_true_eq]
    by_cases h1 : p.2.1 < x
    · have h2 : ¬ p.2.1 = x := by omega
      have h3 : p.2.1 ≤ x := by omega
      simp only [h1, h2, h3, if_true, if_false]; omega
    · by_cases h2 : p.2.1 = x
      · have h3 : p.2.1 ≤ x := by omega
        simp only [h1, h2, Int.le_refl, if_true, if_false]
        simp only [Int.lt_irrefl, if_false]; omega
      · have h3 : ¬ p.2.1 ≤ x := by omega
        simp only [h1, h2, h3, if_false]; omega
theorem vsum_cnt (y : Int) : ∀ ps : List Pn, (∀ p ∈ ps, p.2.2 = 0 ∨ p.2.2 = 1) → ((ps.filter fun p => decide (p.2.1 ≤ y) && decide (p.2.2 = 1)).length : Int) = vsum (fun z => decide (z ≤ y)) ps
  | [], _ => rfl
  | p :: r, h => by
    have ih := vsum_cnt y r fun q hq => h q (List.mem_cons_of_mem _ hq)
    simp only [vsum, decide_eq_true_eq]
    rw [List.filter_cons]
    by_cases h1 : p.2.1 ≤ y
    · rcases h p List.mem_cons_self with h2 | h2
      · simp only [h1, h2]; simp; exact ih
      · simp only [h1, h2]; simp; omega
    · simp only [h1]; simp; exact ih
theorem vget_put (vs : Vs) (a v y : Int) : vget (vput vs a v) y = vget vs y + if a = y then v else 0 := by
  unfold vput
  by_cases ha : (vs.any fun q => decide (q.1 = a)) = true
  · rw [if_pos ha]
    generalize hz : vget vs a + v = z
    have hp : ((fun q : Int × Int => decide (q.1 = y)) ∘ fun q : Int × Int => if q.1 = a then (q.1, z) else q) = fun q => decide (q.1 = y) := by
      funext q; simp only [Function.comp_def]; split <;> rfl
    unfold vget at hz ⊢
    rw [List.find?_map, hp]
    cases e : vs.find? fun q => decide (q.1 = y) with
    | none =>
      by_cases hay : a = y
      · subst hay
        obtain ⟨q, hq, hq2⟩ := List.any_eq_true.mp ha
        exact absurd hq2 (by simpa using List.find?_eq_none.mp e q hq)
      · simp [hay]
    | some q =>
      have hq : q.1 = y := by simpa using List.find?_some e
      by_cases hay : a = y
      · subst hay
        rw [e] at hz
        simp [hq] at hz ⊢; omega
      · have : ¬ q.1 = a := fun z => hay (z.symm.trans hq)
        simp [hay, this]
  · rw [if_neg ha]
    have hn : vs.find? (fun q => decide (q.1 = a)) = none := by
      refine List.find?_eq_none.mpr fun q hq z => ha (List.any_eq_true.mpr ⟨q, hq, z⟩)
    unfold vget
    rw [List.find?_append]
    by_cases hay : a = y
    · subst hay; rw [hn]; simp
    · cases e : vs.find? fun q => decide (q.1 = y) with
      | none => simp [hay]
      | some q => simp [hay]
theorem vget_fold (y : Int) : ∀ (ps : List Pn) (vs : Vs), vget (vfold vs ps) y = vget vs y + vsum (fun z => decide (z = y)) ps
  | [], vs => by simp [vfold, vsum]
  | p :: ps, vs => by
    rw [show vfold vs (p :: ps) = vfold (vput vs p.2.1 p.2.2) ps from rfl, vget_fold y ps, vget_put]
    simp only [vsum, decide_eq_true_eq]
    split <;> omega

/-! ### kinds of gaps, sums of voices -/
def condK (ks : List Bool) (last : Bool) (k : Nat) : Bool :=
  if k = 0 then ks.getD 0 false else if k = ks.length then decide (ks.getLastD false = last) else !decide (ks.getD (k - 1) false = ks.getD k false)
theorem vsum_all : ∀ ps : List Pn, vsum (fun _ => true) ps = (ps.map fun p => p.2.2).sum
  | [] => rfl
  | p :: r => by simp [vsum, vsum_all r]
theorem spots_at (ps : List Pn) {p : Pn} (hp : p ∈ ps) : ∃ i, ∃ h : i < (spots (plc ps)).length, (spots (plc ps))[i] = p.2.1 :=
  List.getElem_of_mem (((spots_ok (plc ps)).mem _).mpr (List.mem_map.mpr ⟨p, hp, rfl⟩))
theorem spots_lt (ps : List Pn) {i j : Nat} (hi : i < (spots (plc ps)).length) (hj : j < (spots (plc ps)).length) (h : i < j) : (spots (plc ps))[i] < (spots (plc ps))[j] :=
  List.pairwise_iff_getElem.mp (spots_ok (plc ps)).srt i j hi hj h
theorem vsum_first (ps : List Pn) (h : 0 < (spots (plc ps)).length) : vsum (fun z => decide (z ≤ (spots (plc ps))[0])) ps = vsum (fun z => decide (z = (spots (plc ps))[0])) ps := by
  refine vsum_congr fun p hp => ?_
  obtain ⟨i, hi, e⟩ := spots_at ps hp
  rw [← e, decide_eq_decide]
  rcases Nat.eq_zero_or_pos i with h0 | h0
  · subst h0; simp
  · have := spots_lt ps h hi h0
    constructor <;> intro <;> omega
theorem vsum_next (ps : List Pn) {k : Nat} (h : k + 1 < (spots (plc ps)).length) : vsum (fun z => decide (z ≤ (spots (plc ps))[k + 1])) ps = vsum (fun z => decide (z ≤ (spots (plc ps))[k])) ps + vsum (fun z => decide (z = (spots (plc ps))[k + 1])) ps := by
  rw [← vsum_split]
  congr 1
  refine vsum_congr fun p hp => ?_
  obtain ⟨i, hi, e⟩ := spots_at ps hp
  rw [← e, decide_eq_decide]
  constructor
  · intro q
    rcases Nat.lt_or_ge k i with g | g
    · rcases Nat.lt_or_ge (k + 1) i with g2 | g2
      · have := spots_lt ps h hi g2; omega
      · have : i = k + 1 := by omega
        subst this; omega
    · rcases Nat.eq_or_lt_of_le g with g2 | g2
      · subst g2; omega
      · have := spots_lt ps hi (by omega) g2; omega
  · intro q
    have := spots_lt ps (i := k) (j := k + 1) (by omega) h (by omega)
    omega
theorem vsum_last (ps : List Pn) {k : Nat} (h : k + 1 = (spots (plc ps)).length) : vsum (fun z => decide (z ≤ (spots (plc ps))[k])) ps = (ps.map fun p => p.2.2).sum := by
  rw [← vsum_all]
  refine vsum_congr fun p hp => ?_
  obtain ⟨i, hi, e⟩ := spots_at ps hp
  rw [← e]
  rcases Nat.eq_or_lt_of_le (show i ≤ k by omega) with g | g
  · subst g; simp
  · have := spots_lt ps hi (j := k) (by omega) g
    simp; omega
theorem gapL_get (f : Int → Bool) : ∀ (l : List Int) (k : Nat) (h : k + 1 < l.length), ((gapL f l).map fun g => g.2.2).getD k false = f l[k]
  | x :: y :: r, 0, _ => rfl
  | x :: y :: r, k + 1, h => by
    have := gapL_get f (y :: r) k (by simpa using h)
    simpa [gapL] using this
  | [x], k, h => by simp at h
  | [], k, h => by simp at h
theorem getDI {l : List Int} {i : Nat} (h : i < l.length) : l.getD i 0 = l[i] := by rw [List.getD_eq_getElem?_getD, List.getElem?_eq_getElem h]; rfl
theorem xor_mod (a b c : Int) (h : c = a + b) : (!decide (decide (a % 2 = 1) = decide (c % 2 = 1))) = decide (b % 2 = 1) := by
  subst h
  rcases (show a % 2 = 0 ∨ a % 2 = 1 by omega) with e | e <;> rcases (show b % 2 = 0 ∨ b % 2 = 1 by omega) with e' | e'
  · have : (a + b) % 2 = 0 := by omega
    rw [e, e', this]; rfl
  · have : (a + b) % 2 = 1 := by omega
    rw [e, e', this]; rfl
  · have : (a + b) % 2 = 1 := by omega
    rw [e, e', this]; rfl
  · have : (a + b) % 2 = 0 := by omega
    rw [e, e', this]; rfl

/-! ### asked of a world -/
def gB (g : Gp) : D := .tup [.int g.1, .int g.2.1, .bl g.2.2]
def isOddV (ps : List Pn) (y : Int) : Bool := decide (vsum (fun z => decide (z ≤ y)) ps % 2 = 1)
def wgapsM (ps : List Pn) : List Gp := gapL (isOddV ps) (spots (plc ps))
def gapV (g : Int → Int) : Int → List (Int × Int) → List Gp
  | t, p :: r => (p.1, p.2 - p.1, decide ((t + g p.1) % 2 = 1)) :: gapV g (t + g p.1) r
  | _, [] => []
def gapVT (g : Int → Int) : Int → List (Int × Int) → Int
  | t, p :: r => gapVT g (t + g p.1) r
  | t, [] => t
theorem gap_sameV (ps : List Pn) : ∀ (l : List Int) (x t : Int), (x :: l).Pairwise (· < ·) → (∀ p ∈ ps, p.2.1 < x ∨ p.2.1 ∈ x :: l) → t = vsum (fun z => decide (z < x)) ps → gapV (fun y => vsum (fun z => decide (z = y)) ps) t (twos (x :: l)) = gapL (isOddV ps) (x :: l)
  | [], x, t, _, _, _ => rfl
  | y :: r, x, t, hs, hm, ht => by
    have e1 : t + vsum (fun z => decide (z = x)) ps = vsum (fun z => decide (z ≤ x)) ps := by
      rw [ht, ← vsum_split]
    obtain ⟨s1, s2⟩ := List.pairwise_cons.mp hs
    obtain ⟨s3, s4⟩ := List.pairwise_cons.mp s2
    have hxy := s1 y List.mem_cons_self
    have ih := gap_sameV ps r y (t + vsum (fun z => decide (z = x)) ps) s2 (fun p hp => by
      rcases hm p hp with h | h
      · exact .inl (by omega)
      · rcases List.mem_cons.mp h with h | h
        · exact .inl (by omega)
        · exact .inr h) (by
      rw [e1]
      refine vsum_congr fun p hp => ?_
      rw [decide_eq_decide]
      constructor
      · intro h; omega
      · intro h
        rcases hm p hp with g | g
        · omega
        · rcases List.mem_cons.mp g with g | g
          · omega
          · rcases List.mem_cons.mp g with g | g
            · omega
            · have := s3 _ g; omega)
    show (x, y - x, decide ((t + vsum (fun z => decide (z = x)) ps) % 2 = 1)) :: gapV _ (t + vsum (fun z => decide (z = x)) ps) (twos (y :: r)) = (x, y - x, isOddV ps x) :: gapL (isOddV ps) (y :: r)
    rw [ih, e1]
    rfl
theorem wgaps_same (ps : List Pn) : gapV (fun y => vsum (fun z => decide (z = y)) ps) 0 (twos (spots (plc ps))) = wgapsM ps := by
  unfold wgapsM
  have hs := spots_ok (plc ps)
  cases e : spots (plc ps) with
  | nil => rfl
  | cons x l =>
    rw [e] at hs
    refine gap_sameV ps l x 0 hs.srt (fun p hp => .inr ((hs.mem _).mpr (List.mem_map.mpr ⟨p, hp, rfl⟩))) ?_
    have h0 : vsum (fun z => decide (z < x)) ps = vsum (fun _ => false) ps := vsum_congr fun p hp => by
      have hm := (hs.mem p.2.1).mpr (List.mem_map.mpr ⟨p, hp, rfl⟩)
      rcases List.mem_cons.mp hm with h | h
      · simp; omega
      · have := (List.pairwise_cons.mp hs.srt).1 _ h
        simp; omega
    rw [h0]
    clear h0 e hs
    induction ps with
    | nil => rfl
    | cons p r ih => simpa [vsum] using ih
def crowdM (qs : List Int) (y : Int) : List Nat := (List.range qs.length).filter fun k => decide (qs.getD k 0 = y)
def voiceAt (ps : List Pn) (k : Nat) : Int := (ps[k]?.map fun p => p.2.2).getD 0
theorem crowd_sum (y : Int) : ∀ ps : List Pn, ((crowdM (plc ps) y).map (voiceAt ps)).sum = vsum (fun z => decide (z = y)) ps
  | [] => rfl
  | p :: r => by
    have ih := crowd_sum y r
    have e1 : ((List.range (plc r).length).map Nat.succ).filter (fun k => decide ((plc (p :: r)).getD k 0 = y)) = (crowdM (plc r) y).map Nat.succ := by
      rw [List.filter_map]; rfl
    have e2 : ((crowdM (plc r) y).map Nat.succ).map (voiceAt (p :: r)) = (crowdM (plc r) y).map (voiceAt r) := by rw [List.map_map]; rfl
    have e3 : crowdM (plc (p :: r)) y = if decide (p.2.1 = y) = true then 0 :: (crowdM (plc r) y).map Nat.succ else (crowdM (plc r) y).map Nat.succ := by
      show (List.range ((plc r).length + 1)).filter _ = _
      rw [List.range_succ_eq_map, List.filter_cons, e1]; rfl
    rw [e3]
    simp only [vsum]
    by_cases h : p.2.1 = y
    · simp only [h, decide_true, if_true, List.map_cons, List.sum_cons, e2, ih]; rfl
    · simp only [h, decide_false, e2, ih, Bool.false_eq_true, if_false]; omega
theorem crowd_len (qs : List Int) (y : Int) : (crowdM qs y).length ≤ qs.length := by
  have := List.length_filter_le (fun k => decide (qs.getD k 0 = y)) (List.range qs.length)
  rw [List.length_range] at this; exact this
section
variable {c : Cn} {C : Addr}
abbrev sWS : Stmt := top 46
abbrev sCrowd : Stmt := top 47
abbrev sWG : Stmt := top 48
theorem fsWS : FnScope ["_law_world_here", "_law_one"] ["_law_world_here"] (defScope sWS) := ⟨rfl, rfl, rfl, by decide +kernel, rfl, by decide +kernel, by decide +kernel⟩
def rWorldAsk (C : Addr) (t : List Pn → D) : Fn := fun ds O d O' => ∃ ps : List Pn, ps.length < 64 ∧ ds = [worldD C ps] ∧ d = t ps ∧ O' = O
theorem ws_ok {f : Addr} {fd : FuncData} (F : Fun c.K "_law_spots" "_law_spots" sWS f fd) (hm : c.mg "_law_spots" = some (.ref f)) (hb : Binds c.K fd ["_law_world_here"] []) (h1 : c.mg "tuple" = none) : DefOk c "_law_spots" (rWorldAsk C fun ps => .tup ((plc ps).map .int)) ["_law_world_here"] (c.k + 1) := by
  refine def_ok F hm hb fsWS (fun ds O d O' h => ?_) fun ds O d O' h => ?_
  · obtain ⟨ps, _, rfl, _⟩ := h; rfl
  · obtain ⟨ps, hp, rfl, rfl, rfl⟩ := h
    exact ss_one (s_ret (EE.eq (ee_callTy h1 (ea_cons (ee_lc [("_law_one", 1)] (it_list (world_ppl (ee_var 0) ee_str)) (cr_map pD (fun p => .int p.2.1) ps fun p _ => ⟨_, _, gt_name 1, by simp, ee_ix (ee_var 1) ee_int (ix_tp rfl)⟩) (by simp; omega)) ea_nil) cd_tupL) (by simp [plc, List.map_map])))
abbrev nCrowd : List Str := ["_law_spots_here", "_law_place", "_law_k"]
theorem fsCrowd : FnScope nCrowd ["_law_spots_here", "_law_place"] (defScope sCrowd) := ⟨rfl, rfl, rfl, by decide +kernel, rfl, by decide +kernel, by decide +kernel⟩
def rCrowd : Fn := fun ds O d O' => ∃ (qs : List Int) (y : Int), qs.length < 64 ∧ ds = [.tup (qs.map .int), .int y] ∧ d = .lst ((crowdM qs y).map fun k : Nat => .int (k : Int)) ∧ O' = O
theorem crowd_ok {f : Addr} {fd : FuncData} (F : Fun c.K "_law_crowd" "_law_crowd" sCrowd f fd) (hm : c.mg "_law_crowd" = some (.ref f)) (hb : Binds c.K fd ["_law_spots_here", "_law_place"] []) (h1 : c.mg "range" = none) (h2 : c.mg "len" = none) : DefOk c "_law_crowd" rCrowd ["_law_spots_here", "_law_place"] (c.k + 1) := by
  refine def_ok F hm hb fsCrowd (fun ds O d O' h => ?_) fun ds O d O' h => ?_
  · obtain ⟨qs, y, _, rfl, _⟩ := h; rfl
  · obtain ⟨qs, y, hq, rfl, rfl, rfl⟩ := h
    have er : rangeD 0 (((qs.map D.int).length : Nat) : Int).toNat = (List.range qs.length).map fun k : Nat => .int (k : Int) := by unfold rangeD; simp
    refine ss_one (s_ret (ee_lc (rs := (crowdM qs y).map fun k : Nat => .int (k : Int)) [("_law_k", 2)] (it_range1 h1 (ee_callB h2 (ea_cons (ee_var 0) ea_nil) cd_lenT) (by first | omega | (simp; done) | (simp; omega)) (by first | (simp; done) | (simp; omega))) ?_ (by rw [er]; simp; omega)))
    rw [er]
    exact cr_filter (fun k : Nat => .int (k : Int)) (fun k : Nat => .int (k : Int)) (fun k => decide (qs.getD k 0 = y)) (List.range qs.length) fun k hk => ⟨_, _, gt_name 2, by simp, ei_one (et_cmp (ee_ix (ee_var 0) (ee_var 2) (ix_tp (d := .int (qs.getD k 0)) (atI_get (by
      have := List.mem_range.mp hk
      rw [List.getElem?_map, List.getD_eq_getElem?_getD, List.getElem?_eq_getElem this]; rfl)))) (ee_var 1) od_eqI), fun _ => ee_var 2⟩
abbrev nWG : List Str := ["_law_world_here", "_law_spots_here", "_law_places", "_law_found", "_law_voices", "_law_left", "_law_right", "_law_k"]
abbrev scWG : Sc := ⟨nWG, defScope sWG, fun _ => true, none⟩
theorem fsWG : FnScope nWG ["_law_world_here", "_law_spots_here"] (defScope sWG) := ⟨rfl, rfl, rfl, by decide +kernel, rfl, by decide +kernel, by decide +kernel⟩
def rWG (C : Addr) : Fn := fun ds O d O' => ∃ ps : List Pn, ps.length < 64 ∧ ds = [worldD C ps, .tup ((plc ps).map .int)] ∧ d = .lst ((wgapsM ps).map gB) ∧ O' = O
theorem wg_loop (GC : DefOk c "_law_crowd" rCrowd ["_law_spots_here", "_law_place"] c.k) (hS : c.mg "sum" = none) (hI : c.mg "int" = none) (ps : List Pn) (hps : ps.length < 64) (w : D) (O : Sto) : ∀ (ts : List (Int × Int)) (acc : List Gp) (t : Int), acc.length + ts.length ≤ 1000 →
    FR c scWG (loopT (stm sWG 1)) (loopB (stm sWG 1)) (ts.map twoD) [some (worldD C ps), some (.tup ((plc ps).map .int)), some w, some (.loc O.length), some (.int t), none, none, none] (O ++ [.lst (acc.map gB)])
      (.nx [some (worldD C ps), some (.tup ((plc ps).map .int)), some w, some (.loc O.length), some (.int (gapVT (fun y => vsum (fun z => decide (z = y)) ps) t ts)), none, none, none] (O ++ [.lst ((acc ++ gapV (fun y => vsum (fun z => decide (z = y)) ps) t ts).map gB)]))
  | [], acc, t, _ => by simpa [gapV, gapVT] using FR.nil
  | p :: ts, acc, t, hl => by
    have ih := wg_loop GC hS hI ps hps w O ts (acc ++ [(p.1, p.2 - p.1, decide ((t + vsum (fun z => decide (z = p.1)) ps) % 2 = 1))]) (t + vsum (fun z => decide (z = p.1)) ps) (by simp at hl ⊢; omega)
    have e2 : acc ++ gapV (fun y => vsum (fun z => decide (z = y)) ps) t (p :: ts) = (acc ++ [(p.1, p.2 - p.1, decide ((t + vsum (fun z => decide (z = p.1)) ps) % 2 = 1))]) ++ gapV (fun y => vsum (fun z => decide (z = y)) ps) (t + vsum (fun z => decide (z = p.1)) ps) ts := by simp [gapV]
    rw [e2]
    have hL : (O ++ [Cell.lst (acc.map gB)])[O.length]? = some (.lst (acc.map gB)) := List.getElem?_concat_length ..
    have hpl : (plc ps).length = ps.length := List.length_map _
    have hcl := crowd_len (plc ps) p.1
    refine .nx (gt_tup (gts_cons (gt_name 5) (gts_cons (gt_name 6) gts_nil))) ?_ ih
    apply SS.less
    · skip
      refine ss_cons (s_set 4 (ee_op (ee_var 4) (EE.eq (ee_callB hS (ea_cons (EE.eq (ee_lc [("_law_k", 7)] (it_list (ee_call GC (ea_cons (ee_var 1) (ea_cons (ee_var 5) ea_nil)) ⟨plc ps, p.1, by omega, rfl, rfl, rfl⟩ (Nat.le_refl _))) (cr_map (fun k : Nat => .int (k : Int)) (fun k => .int (voiceAt ps k)) (crowdM (plc ps) p.1) fun k hk =>
        ⟨_, _, gt_name 7, by simp, ?_⟩) (by simp; omega)) (d' := .lst (((crowdM (plc ps) p.1).map (voiceAt ps)).map .int)) (by rw [List.map_map]; rfl)) ea_nil) cd_sum) (congrArg D.int (crowd_sum p.1 ps))) od_add)) ?_
      · have hk2 := List.mem_range.mp (List.mem_filter.mp hk).1
        have hk3 : k < ps.length := by omega
        exact ee_ix (ee_ix (world_ppl (ee_var 0) ee_str) (ee_var 7) (ix_lst (d := pD ps[k]) (atI_get (by rw [List.getElem?_map, List.getElem?_eq_getElem hk3]; rfl)))) ee_int (ix_tp (by unfold voiceAt; rw [List.getElem?_eq_getElem hk3]; rfl))
      refine ss_one (S1.nxO (s_expr (ee_append (ee_var 3) (ee_tup (ea_cons (ee_var 5) (ea_cons (ee_op (ee_var 6) (ee_var 5) od_sub) (ea_cons (ee_cmp (ee_op (ee_callTy hI (ea_cons (ee_var 4) ea_nil) cd_int) ee_int (od_mod (by decide))) ee_int od_eqI) ea_nil)))) hL hL (by simp at hl ⊢; omega))) ?_)
      simp [List.set_append, gB]
    · exact Les.cons (Les.cons (Les.cons (Les.cons (Les.cons (Les.cut (Les.cut (Les.cut (Les.refl _))))))))
theorem gapV_len (g : Int → Int) : ∀ (l : List (Int × Int)) (t : Int), (gapV g t l).length = l.length
  | [], _ => rfl
  | p :: l, t => by simp [gapV, gapV_len g l]
theorem wg_ok {f : Addr} {fd : FuncData} (F : Fun c.K "_law_gaps" "_law_gaps" sWG f fd) (hm : c.mg "_law_gaps" = some (.ref f)) (hb : Binds c.K fd ["_law_world_here", "_law_spots_here"] []) {j : Nat} (hj : j ≤ c.k) (GC : DefOk c "_law_crowd" rCrowd ["_law_spots_here", "_law_place"] j) (hz : c.mg "zip" = none) (hS : c.mg "sum" = none) (hI : c.mg "int" = none) (h1 : c.mg "sorted" = none) (h2 : c.mg "set" = none) :
    DefOk c "_law_gaps" (rWG C) ["_law_world_here", "_law_spots_here"] (c.k + 1) := by
  have GC := GC.up hj
  refine def_ok F hm hb fsWG (fun ds O d O' h => ?_) fun ds O d O' h => ?_
  · obtain ⟨ps, _, rfl, _⟩ := h; rfl
  · obtain ⟨ps, hl, rfl, rfl, rfl⟩ := h
    refine SS.drop (J := [.dead]) ?_ (Nat.le_refl _) (D.free_lk _ _ (free_lst (freeAll_iff.mp (freeAll_map _ (fun g => rfl) _)))) id
    have hpl : (plc ps).length = ps.length := List.length_map _
    have hsl := spots_len (plc ps)
    have htl := twos_len (spots (plc ps))
    refine ss_cons (s_par3 (i := 2) (j := 3) (l := 4) rfl rfl rfl (ea_cons (ee_sortedSetT h1 h2 (ee_var 1) (by omega)) (ea_cons (ee_lstN ea_nil) (ea_cons ee_int ea_nil)))) ?_
    refine ss_cons (s_for (it_zip hz (ee_var 2) (ee_slice (ee_var 2) (eo_some ee_int) eo_none sd_list)) ((cut1 _).symm ▸ (zip_twos _).symm ▸ wg_loop GC hS hI ps hl _ O' (twos (spots (plc ps))) [] 0 (by simp; omega))) ?_
    refine SS.frz (k := O'.length) (m := 3) (List.getElem?_concat_length ..) rfl ?_
    refine SS.eqO ?_ (by simp [List.set_append] : O' ++ [Cell.dead] = _)
    refine ss_one (s_ret (EE.eq (ee_var 3) ?_))
    rw [List.nil_append, wgaps_same]
end


end DL
set_option maxRecDepth 100000
set_option maxHeartbeats 4000000
namespace DL
open PySem L2 PyProof.Rows PySem.Spec
theorem loudM_v (ps : List Pn) : loudM ps = (spots (plc ps)).filter fun y => decide (vsum (fun z => decide (z = y)) ps % 2 = 1) := by
  unfold loudM
  refine List.filter_congr fun y _ => ?_
  rw [vget_fold]; simp [vget]
/-! what a call does to the gaps -/
def dd : List Int → List Int
  | x :: y :: r => if x = y then dd (y :: r) else x :: dd (y :: r)
  | l => l
theorem dd_head : ∀ (l : List Int) (a : Int), ∃ t, dd (a :: l) = a :: t
  | [], a => ⟨[], rfl⟩
  | b :: l, a => by
    obtain ⟨t, ht⟩ := dd_head l b
    unfold dd
    by_cases h : a = b
    · rw [if_pos h, ht, h]; exact ⟨t, rfl⟩
    · rw [if_neg h]; exact ⟨_, rfl⟩
theorem dd_mem (z : Int) : ∀ l : List Int, z ∈ dd l ↔ z ∈ l
  | [] => Iff.rfl
  | [x] => Iff.rfl
  | x :: y :: r => by
    have ih := dd_mem z (y :: r)
    unfold dd
    by_cases h : x = y
    · rw [if_pos h, ih, h]; simp
    · rw [if_neg h, List.mem_cons, ih, List.mem_cons (a := z) (b := x)]
theorem dd_srt : ∀ l : List Int, l.Pairwise (· ≤ ·) → (dd l).Pairwise (· < ·)
  | [], _ => .nil
  | [x], _ => List.pairwise_singleton _ _
  | x :: y :: r, h => by
    obtain ⟨h1, h2⟩ := List.pairwise_cons.mp h
    have ih := dd_srt (y :: r) h2
    unfold dd
    by_cases e : x = y
    · rw [if_pos e]; exact ih
    · rw [if_neg e]
      refine List.pairwise_cons.mpr ⟨fun z hz => ?_, ih⟩
      have h3 := h1 y List.mem_cons_self
      rcases List.mem_cons.mp ((dd_mem z (y :: r)).mp hz) with g | g
      · omega
      · have := (List.pairwise_cons.mp h2).1 z g; omega
theorem spots_dd {l ns : List Int} (h : l.Pairwise (· ≤ ·)) (hm : ∀ z, z ∈ l ↔ z ∈ ns) : spots ns = dd l :=
  Spots.eq (spots_ok ns) ⟨dd_srt l h, fun z => (dd_mem z l).trans (hm z)⟩
def ph (g x : Int) : Int := x + 1 * sgnT x g
theorem ph_mono {g x y : Int} (h : x ≤ y) : ph g x ≤ ph g y := by
  unfold ph sgnT
  split <;> split <;> (try split) <;> (try split) <;> omega
def nearI (g l w : Int) : Int := if g ∈ [l, l + w] then 1 else 0
def dueOne (g : Int) (x : Gp) : List (Int × Bool) := if nearI g x.1 x.2.1 < x.2.1 then [(x.2.1 - nearI g x.1 x.2.1, x.2.2)] else []
def dueG (g : Int) : List Gp → List (Int × Bool)
  | [] => []
  | x :: r => dueOne g x ++ dueG g r
def wk (x : Gp) : Int × Bool := (x.2.1, x.2.2)
def ChOk (g : Int) (f f' : Int → Bool) : List Int → Prop
  | x :: y :: r => ph g y - ph g x = (y - x) - nearI g x (y - x) ∧ (ph g x < ph g y → f' (ph g x) = f x) ∧ ChOk g f f' (y :: r)
  | _ => True
theorem chain (g : Int) (f f' : Int → Bool) : ∀ l : List Int, l.Pairwise (· < ·) → ChOk g f f' l → (gapL f' (dd (l.map (ph g)))).map wk = dueG g (gapL f l)
  | [], _, _ => rfl
  | [x], _, _ => rfl
  | x :: y :: r, hs, h => by
    obtain ⟨h1, h2, h3⟩ := h
    have hxy := (List.pairwise_cons.mp hs).1 y List.mem_cons_self
    have ih := chain g f f' (y :: r) (List.pairwise_cons.mp hs).2 h3
    obtain ⟨t, ht⟩ := dd_head (r.map (ph g)) (ph g y)
    show (gapL f' (if ph g x = ph g y then dd (ph g y :: r.map (ph g)) else ph g x :: dd (ph g y :: r.map (ph g)))).map wk = dueOne g (x, y - x, f x) ++ dueG g (gapL f (y :: r))
    rw [List.map_cons] at ih
    have h0 : nearI g x (y - x) = 0 ∨ nearI g x (y - x) = 1 := by unfold nearI; split <;> simp
    by_cases e : ph g x = ph g y
    · rw [if_pos e, ih]
      have : dueOne g (x, y - x, f x) = [] := by unfold dueOne; rw [if_neg]; show ¬ nearI g x (y - x) < y - x; omega
      rw [this]; rfl
    · rw [if_neg e]
      by_cases hlt : ph g x < ph g y
      · rw [← ih, ht]
        show wk (ph g x, ph g y - ph g x, f' (ph g x)) :: (gapL f' (ph g y :: t)).map wk = _
        have : dueOne g (x, y - x, f x) = [(y - x - nearI g x (y - x), f x)] := by unfold dueOne; rw [if_pos]; show nearI g x (y - x) < y - x; omega
        rw [this, h2 hlt]
        unfold wk
        rw [h1]; rfl
      · exfalso
        have := ph_mono (g := g) (show x ≤ y by omega)
        omega
theorem vsum_near (P : Int → Bool) (g k : Int) : ∀ ps : List Pn, vsum P (nearM g k ps) = vsum (fun z => P (z + k * sgnT z g)) ps
  | [] => rfl
  | p :: r => by
    have := vsum_near P g k r
    show (if P (p.2.1 + k * sgnT p.2.1 g) then p.2.2 else 0) + vsum P (nearM g k r) = _
    rw [this]; rfl
theorem chOk {g : Int} {ps : List Pn} (hg : g ∈ plc ps) : ∀ (l : List Int) (x : Int), (x :: l).Pairwise (· < ·) → (∀ z ∈ plc ps, z < x ∨ z ∈ x :: l) → ChOk g (isOddV ps) (isOddV (nearM g 1 ps)) (x :: l)
  | [], x, _, _ => trivial
  | y :: r, x, hs, hm => by
    obtain ⟨s1, s2⟩ := List.pairwise_cons.mp hs
    obtain ⟨s3, s4⟩ := List.pairwise_cons.mp s2
    have hxy := s1 y List.mem_cons_self
    have key : ∀ z ∈ plc ps, z ≤ x ∨ y ≤ z := fun z hz => by
      rcases hm z hz with h | h
      · exact .inl (by omega)
      · rcases List.mem_cons.mp h with h | h
        · exact .inl (by omega)
        · rcases List.mem_cons.mp h with h | h
          · exact .inr (by omega)
          · have := s3 z h; exact .inr (by omega)
    refine ⟨?_, fun hlt => ?_, chOk hg r y s2 fun z hz => ?_⟩
    · have hk := key g hg
      have hn : nearI g x (y - x) = if g = x ∨ g = y then 1 else 0 := by
        unfold nearI
        have : (g ∈ [x, x + (y - x)]) = (g = x ∨ g = y) := by
          rw [show x + (y - x) = y by omega]; simp
        simp only [this]
      rw [hn]
      unfold ph sgnT
      rcases hk with hk | hk
      · by_cases e : g = x
        · simp only [e, true_or, if_true]
          have h1 : ¬ y = x := by omega
          have h2 : ¬ y < x := by omega
          simp only [h1, h2, if_false]; omega
        · have h1 : ¬ g = y := by omega
          have h2 : ¬ x = g := fun z => e z.symm
          have h3 : ¬ y = g := fun z => h1 z.symm
          have h4 : ¬ x < g := by omega
          have h5 : ¬ y < g := by omega
          simp only [e, h1, h2, h3, h4, h5, or_self, if_false]; omega
      · by_cases e : g = y
        · have h1 : ¬ x = y := by omega
          simp only [e, or_true, if_true, h1, hxy, if_false]; omega
        · have h1 : ¬ g = x := by omega
          have h2 : ¬ x = g := fun z => h1 z.symm
          have h3 : ¬ y = g := fun z => e z.symm
          have h4 : x < g := by omega
          have h5 : y < g := by omega
          simp only [e, h1, h2, h3, h4, h5, or_self, if_false, if_true]; omega
    · unfold isOddV
      rw [vsum_near]
      have : vsum (fun z => decide (z + 1 * sgnT z g ≤ ph g x)) ps = vsum (fun z => decide (z ≤ x)) ps := vsum_congr fun p hp => by
        rw [decide_eq_decide]
        show ph g p.2.1 ≤ ph g x ↔ _
        rcases key p.2.1 (List.mem_map.mpr ⟨p, hp, rfl⟩) with h | h
        · exact ⟨fun _ => h, fun _ => ph_mono h⟩
        · have := ph_mono (g := g) h
          constructor <;> intro <;> omega
      rw [this]
    · rcases hm z hz with h | h
      · exact .inl (by omega)
      · rcases List.mem_cons.mp h with h | h
        · exact .inl (by omega)
        · exact .inr h
theorem due_same {g : Int} {ps : List Pn} (hg : g ∈ plc ps) : (wgapsM (nearM g 1 ps)).map wk = dueG g (wgapsM ps) := by
  have hs := spots_ok (plc ps)
  have hp : plc (nearM g 1 ps) = (plc ps).map (ph g) := by unfold plc nearM; rw [List.map_map, List.map_map]; rfl
  have he : spots (plc (nearM g 1 ps)) = dd ((spots (plc ps)).map (ph g)) := by
    rw [hp]
    refine spots_dd (List.pairwise_map.mpr (hs.srt.imp fun {a b} h => ph_mono (by omega))) fun z => ?_
    simp only [List.mem_map]
    exact ⟨fun ⟨a, h1, h2⟩ => ⟨a, (hs.mem a).mp h1, h2⟩, fun ⟨a, h1, h2⟩ => ⟨a, (hs.mem a).mpr h1, h2⟩⟩
  unfold wgapsM
  rw [he]
  refine chain g _ _ _ hs.srt ?_
  cases e : spots (plc ps) with
  | nil => exact trivial
  | cons x l =>
    rw [e] at hs
    exact chOk hg l x hs.srt fun z hz => .inr ((hs.mem z).mpr hz)

/-! ### what is drawn: words, distinct, near; far ones bounded -/
theorem app_cps (s t : Str) : (s ++ t).cps.toList = s.cps.toList ++ t.cps.toList := by
  show (s.cps ++ t.cps).toList = _
  exact Array.toList_append
theorem str_len (s : Str) : s.length = s.cps.toList.length := by rw [Array.length_toList]; rfl
theorem letter_facts : ∀ a : Fin 26, decide ((97 + a.val) ∈ lettersS.cps.toList) = true ∧ decide ((97 + a.val) ∈ lettersD.cps.toList) = true := by decide +kernel
theorem figure_facts : ∀ a : Fin 10, decide ((48 + a.val) ∈ lettersD.cps.toList) = true := by decide +kernel
theorem tail_facts : ∀ a : Fin 5, ((tails.getD a.val "").cps.toList.all fun k => decide (k ∈ lettersD.cps.toList)) = true ∧ (tails.getD a.val "").length ≤ 9 := by decide +kernel
def keyN (n : Str) : Nat := n.cps.toList.getD 1 0 * 10 + n.cps.toList.getD 2 0
theorem name_facts (sh : Int) (s : Src) (k : Nat) : isWordM (nameM sh s k).1 = true ∧ (nameM sh s k).1.length ≤ 12 ∧ keyN (nameM sh s k).1 = ((sh + 37 * (k : Int)) % 100).toNat + 528 ∧ (∀ c ∈ (nameM sh s k).1.cps.toList, c < 16 ^ 8) := by
  have h0 : 0 ≤ (sh + 37 * (k : Int)) % 100 := by omega
  have h1 : (sh + 37 * (k : Int)) % 100 < 100 := by omega
  have hf := (fig_at _ h0 h1).1
  generalize hq : ((sh + 37 * (k : Int)) % 100) = q at *
  have ha := pickN_lt s 26 (by decide)
  have ht := pickN_lt (pickS s 26) 5 (by decide)
  have hl : decide ((97 + pickN s 26) ∈ lettersS.cps.toList) = true ∧ decide ((97 + pickN s 26) ∈ lettersD.cps.toList) = true := letter_facts ⟨_, ha⟩
  have htl : ((tails.getD (pickN (pickS s 26) 5) "").cps.toList.all fun k => decide (k ∈ lettersD.cps.toList)) = true ∧ (tails.getD (pickN (pickS s 26) 5) "").length ≤ 9 := tail_facts ⟨_, ht⟩
  have hqa : decide ((48 + q.toNat / 10) ∈ lettersD.cps.toList) = true := figure_facts ⟨q.toNat / 10, by omega⟩
  have hqb : decide ((48 + q.toNat % 10) ∈ lettersD.cps.toList) = true := figure_facts ⟨q.toNat % 10, by omega⟩
  have el : (nameM sh s k).1.cps.toList = (97 + pickN s 26) :: (48 + q.toNat / 10) :: (48 + q.toNat % 10) :: (tails.getD (pickN (pickS s 26) 5) "").cps.toList := by
    show (letM s ++ figM _ ++ tailM (pickS s 26)).cps.toList = _
    rw [hq, app_cps, app_cps, hf]; rfl
  have elen : (nameM sh s k).1.length = 3 + (tails.getD (pickN (pickS s 26) 5) "").length := by
    rw [str_len, el, str_len]
    simp only [List.length_cons]; omega
  have htl2 := htl.2
  refine ⟨?_, by omega, ?_, ?_⟩
  · unfold isWordM
    rw [el, elen]
    have h1 : decide (1 ≤ 3 + (tails.getD (pickN (pickS s 26) 5) "").length) = true := decide_eq_true (by omega)
    have h2 : decide (3 + (tails.getD (pickN (pickS s 26) 5) "").length ≤ 12) = true := decide_eq_true (by omega)
    refine Bool.and_eq_true_iff.mpr ⟨Bool.and_eq_true_iff.mpr ⟨h1, h2⟩, Bool.and_eq_true_iff.mpr ⟨hl.1, ?_⟩⟩
    simp only [List.all_cons]
    rw [hl.2, hqa, hqb, htl.1]; rfl
  · unfold keyN
    rw [el]
    show (48 + q.toNat / 10) * 10 + (48 + q.toNat % 10) = _
    omega
  · intro c hc
    rw [el] at hc
    rcases List.mem_cons.mp hc with h | hc
    · omega
    rcases List.mem_cons.mp hc with h | hc
    · omega
    rcases List.mem_cons.mp hc with h | hc
    · omega
    have := (List.all_eq_true.mp htl.1) c hc
    have hm : c ∈ lettersD.cps.toList := by simpa using this
    have hsmall : ∀ c ∈ lettersD.cps.toList, c < 16 ^ 8 := by decide +kernel
    exact hsmall c hm
theorem mapS_key {σ α β γ : Type} (f : σ → α → β × σ) (κ : β → γ) (κ0 : α → γ) (h : ∀ s a, κ (f s a).1 = κ0 a) : ∀ (s : σ) (as : List α), (mapS f s as).1.map κ = as.map κ0
  | _, [] => rfl
  | s, a :: as => by show κ (f s a).1 :: _ = _; rw [h, mapS_key f κ κ0 h]; rfl
theorem names_facts (s : Src) (m : Nat) (hm : m ≤ 100) : (∀ n ∈ (namesM s m).1, isWordM n = true ∧ n.length ≤ 12 ∧ ∀ c ∈ n.cps.toList, c < 16 ^ 8) ∧ (namesM s m).1.Nodup ∧ (namesM s m).1.length = m := by
  refine ⟨mapS_all _ (fun n => isWordM n = true ∧ n.length ≤ 12 ∧ ∀ c ∈ n.cps.toList, c < 16 ^ 8) (fun s a => ⟨(name_facts _ s a).1, (name_facts _ s a).2.1, (name_facts _ s a).2.2.2⟩) _ _, ?_, by unfold namesM; rw [mapS_len, List.length_range]⟩
  have hk := mapS_key (nameM (pickM s 100).1) keyN (fun k : Nat => (((pickM s 100).1 + 37 * (k : Int)) % 100).toNat + 528) (fun s a => (name_facts _ s a).2.2.1) (pickS s 100) (List.range m)
  have hd : ((namesM s m).1.map keyN).Nodup := by
    unfold namesM
    rw [hk, List.nodup_iff_pairwise_ne, List.pairwise_map]
    refine List.Pairwise.imp_of_mem (fun {i j} hi hj hij e => ?_) (List.nodup_iff_pairwise_ne.mp (List.nodup_range (n := m)))
    have hi := List.mem_range.mp hi
    have hj := List.mem_range.mp hj
    omega
  rw [List.nodup_iff_pairwise_ne, List.pairwise_map] at hd
  rw [List.nodup_iff_pairwise_ne]
  exact hd.imp fun {a b} h e => h (congrArg keyN e)
theorem ofI_mem (s : Src) (xs : List Int) (h : 1 ≤ xs.length) : ofI s xs ∈ xs := by
  unfold ofI
  have hp := pickN_lt s xs.length h
  rw [List.getD_eq_getElem?_getD, List.getElem?_eq_getElem hp]
  exact List.getElem_mem hp
structure PplOk (B : Nat) (ps : List Pn) : Prop where
  ok : PsOk ps
  len : ps.length ≤ 50
  wd : ∀ p ∈ ps, p.1.length ≤ 12 ∧ ∀ c ∈ p.1.cps.toList, c < 16 ^ 8
  near : ∀ p ∈ ps, p.2.1.natAbs ≤ B

/-! ### what is drawn for a world -/
theorem ps_perm {l1 l2 : List Pn} (h : l1.Perm l2) (h2 : PsOk l2) : PsOk l1 :=
  ⟨fun p hp => h2.1 p (h.mem_iff.mp hp), (h.map _).nodup_iff.mpr h2.2.1, h.length_eq ▸ h2.2.2⟩
theorem flip_ok {ps : List Pn} (h : PsOk ps) : PsOk (flipLast ps) := by
  unfold flipLast
  cases e : ps.getLast? with
  | none => exact h
  | some p =>
    obtain ⟨h1, h2, h3⟩ := h
    have hp : p ∈ ps := List.mem_of_getLast? e
    rw [List.getLast?_eq_getElem?] at e
    refine ⟨fun q hq => ?_, ?_, by simpa using h3⟩
    · rcases List.mem_or_eq_of_mem_set hq with g | g
      · exact h1 q g
      · obtain ⟨a, b, v⟩ := h1 p hp
        rw [g]
        exact ⟨a, b, by show 1 - p.2.2 = 0 ∨ 1 - p.2.2 = 1; omega⟩
    · have hs : (ps.set (ps.length - 1) (p.1, p.2.1, 1 - p.2.2)).map (·.1) = ps.map (·.1) := by
        rw [List.map_set]
        refine List.ext_getElem? fun i => ?_
        rw [List.getElem?_set]
        split
        · rename_i hi
          rw [List.length_map]
          split
          · rw [← hi, List.getElem?_map, e]; rfl
          · rename_i h4; rw [List.getElem?_eq_none (by rw [List.length_map]; omega)]
        · rfl
      rw [hs]; exact h2
theorem world_facts (s : Src) (most : Nat) (far par : Int) (h1 : 1 ≤ most) (h2 : most ≤ 40) : PsOk (worldM s most far par).1 := by
  have hp := pickN_lt (pickS s 21) most h1
  obtain ⟨n1, n2, n3⟩ := names_facts (pickS (pickS s 21) most) (1 + pickN (pickS s 21) most) (by omega)
  unfold worldM
  simp only []
  generalize namesM (pickS (pickS s 21) most) (1 + pickN (pickS s 21) most) = nm at n1 n2 n3 ⊢
  have hk : (mapS (wStep far) ((pickM s 21).1 - 10, nm.2) nm.1).1.map (fun p => p.1) = nm.1 := (mapS_key (wStep far) (fun p => p.1) (fun n => n) (fun _ _ => rfl) _ _).trans (List.map_id' _)
  have hv := mapS_all (wStep far) (fun p => p.2.2 = 0 ∨ p.2.2 = 1) (fun s a => by show (if _ then (1 : Int) else 0) = 0 ∨ (if _ then (1 : Int) else 0) = 1; split <;> simp) ((pickM s 21).1 - 10, nm.2) nm.1
  have hl : (mapS (wStep far) ((pickM s 21).1 - 10, nm.2) nm.1).1.length = nm.1.length := mapS_len _ _ _
  generalize mapS (wStep far) ((pickM s 21).1 - 10, nm.2) nm.1 = m at hk hv hl ⊢
  have hb : PsOk m.1 := by
    refine ⟨fun p hp => ?_, by rw [hk]; exact n2, by omega⟩
    obtain ⟨a, b, _⟩ := n1 p.1 (by rw [← hk]; exact List.mem_map.mpr ⟨p, hp, rfl⟩)
    exact ⟨a, by omega, hv p hp⟩
  refine ps_perm (mix_perm _ _ _ rfl) ?_
  split
  · exact flip_ok hb
  · exact hb

/-! ### where the people of a world stand, how many voices -/
theorem wstep_bd (far : Int) (h1 : 1 ≤ far) : ∀ (ns : List Str) (h : Int) (s : Src), ∀ p ∈ (mapS (wStep far) (h, s) ns).1, h ≤ p.2.1 ∧ p.2.1 ≤ h + ns.length * (far + 2)
  | [], _, _, p, hp => by simp [mapS] at hp
  | n :: ns, h, s, p, hp => by
    have hpk := pickM_bound (pickS s 4) far h1
    have hm := ofI_mem (pickS (pickS s 4) far) (stepL (1 + (pickM (pickS s 4) far).1)) (by simp [stepL])
    have hb : 0 ≤ ofI (pickS (pickS s 4) far) (stepL (1 + (pickM (pickS s 4) far).1)) ∧ ofI (pickS (pickS s 4) far) (stepL (1 + (pickM (pickS s 4) far).1)) ≤ far + 2 := by
      generalize ofI (pickS (pickS s 4) far) (stepL (1 + (pickM (pickS s 4) far).1)) = y at hm ⊢
      simp only [stepL, List.mem_cons, List.not_mem_nil, or_false] at hm
      omega
    have hd : 0 ≤ (ns.length : Int) * (far + 2) := Int.mul_nonneg (by omega) (by omega)
    have e : h + ((n :: ns).length : Int) * (far + 2) = h + (far + 2) + (ns.length : Int) * (far + 2) := by
      rw [List.length_cons, show (((ns.length + 1 : Nat)) : Int) = 1 + (ns.length : Int) by omega, Int.add_mul]; omega
    rw [e]
    rcases List.mem_cons.mp (show p ∈ (wStep far (h, s) n).1 :: (mapS (wStep far) (wStep far (h, s) n).2 ns).1 from hp) with q | q
    · subst q
      show h ≤ h ∧ h ≤ _
      omega
    · have ih := wstep_bd far h1 ns _ _ p q
      simp only [] at ih
      omega
theorem flip_plc (ps : List Pn) : plc (flipLast ps) = plc ps := by
  unfold flipLast
  cases e : ps.getLast? with
  | none => rfl
  | some p =>
    rw [List.getLast?_eq_getElem?] at e
    show (ps.set (ps.length - 1) (p.1, p.2.1, 1 - p.2.2)).map _ = ps.map _
    rw [List.map_set]
    refine List.ext_getElem? fun i => ?_
    rw [List.getElem?_set]
    split
    · rename_i hi
      rw [List.length_map]
      split
      · rw [← hi, List.getElem?_map, e]; rfl
      · rename_i h4; rw [List.getElem?_eq_none (by rw [List.length_map]; omega)]
    · rfl
theorem perm_sum {l m : List Int} (h : l.Perm m) : l.sum = m.sum := by
  induction h with
  | nil => rfl
  | cons x _ ih => simp [ih]
  | swap x y l => simp; omega
  | trans _ _ h1 h2 => exact h1.trans h2
def vAll (ps : List Pn) : Int := (ps.map fun p => p.2.2).sum
theorem flip_sum (ps : List Pn) (hne : ps ≠ []) (hv : ∀ p ∈ ps, p.2.2 = 0 ∨ p.2.2 = 1) : vAll (flipLast ps) % 2 = (1 - vAll ps) % 2 := by
  obtain ⟨l, p, rfl⟩ : ∃ l p, ps = l ++ [p] := ⟨ps.dropLast, ps.getLast hne, (List.dropLast_concat_getLast hne).symm⟩
  have e : flipLast (l ++ [p]) = l ++ [(p.1, p.2.1, 1 - p.2.2)] := by
    unfold flipLast
    rw [List.getLast?_concat]
    simp [List.set_append]
  rw [e]
  unfold vAll
  simp only [List.map_append, List.map_cons, List.map_nil, List.sum_append, List.sum_cons, List.sum_nil]
  have := hv p (by simp)
  omega
theorem worldM_split (s : Src) (most : Nat) (far par : Int) (h1 : 1 ≤ most) : ∃ (m : List Pn × Int × Src), m.1.length = 1 + pickN (pickS s 21) most ∧ (∀ p ∈ m.1, p.2.2 = 0 ∨ p.2.2 = 1) ∧ (1 ≤ far → ∀ p ∈ m.1, -10 ≤ p.2.1 ∧ p.2.1 ≤ 10 + (1 + pickN (pickS s 21) most : Nat) * (far + 2)) ∧ (worldM s most far par).1.Perm (if parityOk par m.1 = true then flipLast m.1 else m.1) := by
  have hnl : (namesM (pickS (pickS s 21) most) (1 + pickN (pickS s 21) most)).1.length = 1 + pickN (pickS s 21) most := by unfold namesM; rw [mapS_len, List.length_range]
  have hpk := pickM_bound s 21 (by decide)
  refine ⟨mapS (wStep far) ((pickM s 21).1 - 10, (namesM (pickS (pickS s 21) most) (1 + pickN (pickS s 21) most)).2) (namesM (pickS (pickS s 21) most) (1 + pickN (pickS s 21) most)).1, by rw [mapS_len, hnl], ?_, fun hf p hp => ?_, (mix_perm _ _ _ rfl).symm.symm⟩
  · exact mapS_all (wStep far) (fun p => p.2.2 = 0 ∨ p.2.2 = 1) (fun s a => by show (if _ then (1 : Int) else 0) = 0 ∨ (if _ then (1 : Int) else 0) = 1; split <;> simp) _ _
  · have := wstep_bd far hf _ _ _ p hp
    rw [hnl] at this
    omega
theorem world_far (s : Src) (most : Nat) (far par : Int) (h1 : 1 ≤ most) (h2 : most ≤ 40) (f1 : 1 ≤ far) (f2 : far ≤ 10 ^ 28) : ∀ x ∈ plc (worldM s most far par).1, x.natAbs ≤ 10 ^ 31 := fun x hx => by
  obtain ⟨m, hl, _, hb, hp⟩ := worldM_split s most far par h1
  have hpk := pickN_lt (pickS s 21) most h1
  have hx2 : x ∈ plc m.1 := by
    have := (hp.map fun p => p.2.1).mem_iff.mp hx
    split at this
    · rw [← flip_plc]; exact this
    · exact this
  obtain ⟨p, hp2, rfl⟩ := List.mem_map.mp hx2
  have hb := hb f1 p hp2
  have h40 : ((1 + pickN (pickS s 21) most : Nat) : Int) * (far + 2) ≤ 40 * (far + 2) := Int.mul_le_mul_of_nonneg_right (by omega) (by omega)
  show p.2.1.natAbs ≤ 10 ^ 31
  omega
theorem world_odd (s : Src) (most : Nat) (far : Int) (h1 : 1 ≤ most) : vAll (worldM s most far 1).1 % 2 = 1 := by
  obtain ⟨m, hl, hv, _, hp⟩ := worldM_split s most far 1 h1
  have e : vAll (worldM s most far 1).1 = vAll (if parityOk 1 m.1 = true then flipLast m.1 else m.1) := perm_sum (hp.map fun p => p.2.2)
  rw [e]
  by_cases h : parityOk 1 m.1 = true
  · rw [if_pos h, flip_sum m.1 (by intro q; rw [q] at hl; simp at hl; omega) hv]
    unfold parityOk at h
    simp at h
    unfold vAll; omega
  · rw [if_neg h]
    unfold parityOk at h
    simp at h
    exact h


end DL
set_option maxRecDepth 100000
set_option maxHeartbeats 4000000
namespace DL
open PySem L2 PyProof.Rows PySem.Spec
/-! ### gaps as the program makes them -/
def gapP (g : Int → Int) : Int → List (Int × Int) → List Gp
  | t, p :: r => (p.1, p.2 - p.1, decide ((t + g p.1) % 2 = 1)) :: gapP g (t + g p.1) r
  | _, [] => []
def gapT (g : Int → Int) : Int → List (Int × Int) → Int
  | t, p :: r => gapT g (t + g p.1) r
  | t, [] => t
def gapsM (ps : List Pn) : List Gp := gapP (vget (vfold [] ps)) 0 (twos (spots (plc ps)))

def sumM (gs : List Gp) (b : Bool) : Int := ((gs.filter fun g => decide (kindS g.2.2 = kindS b)).map fun g => g.2.1).sum

/-! ### the voices' places and their sum by turns -/
def voL (ps : List Pn) : List Int := (ps.filter fun p => decide (p.2.2 = 1)).map fun p => p.2.1
def vpM (ps : List Pn) : List Int := srt (voL ps)
def tsum (l : List Int) : Int := (ev2 l).sum - (ev2 (l.drop 1)).sum
theorem voL_len (ps : List Pn) : (voL ps).length ≤ ps.length := by
  unfold voL; rw [List.length_map]; exact List.length_filter_le ..
theorem vpM_len (ps : List Pn) : (vpM ps).length ≤ ps.length := by
  unfold vpM; rw [(srt_perm _).length_eq]; exact voL_len ps
section
variable {c : Cn} {C : Addr}
abbrev pVP : Stmt := top 26
abbrev pTurn : Stmt := top 27
abbrev nVP : List Str := ["standing", "_", "place", "voice"]
theorem fsVP : FnScope nVP ["standing"] (defScope pVP) := ⟨rfl, rfl, rfl, by decide +kernel, rfl, by decide +kernel, by decide +kernel⟩
def rVP (C : Addr) : Fn := fun ds O d O' => ∃ ps : List Pn, ps.length < 64 ∧ ds = [standD C ps] ∧ d = .loc O.length ∧ O' = O ++ [.lst ((vpM ps).map .int)]
theorem vp_ok {f : Addr} {fd : FuncData} (F : Fun c.K "voice_places" "voice_places" pVP f fd) (hm : c.mg "voice_places" = some (.ref f)) (hb : Binds c.K fd ["standing"] []) {j : Nat} (hj : j ≤ c.k) (T : CS c C) (GP : MethOk c C "people" (rPpls C) ["self"] j) (h1 : c.mg "sorted" = none) : DefOk c "voice_places" (rVP C) ["standing"] (c.k + 1) := by
  refine def_ok F hm hb fsVP (fun ds O d O' h => ?_) fun ds O d O' h => ?_
  · obtain ⟨ps, _, rfl, _⟩ := h; rfl
  · obtain ⟨ps, hp, rfl, rfl, rfl⟩ := h
    exact ss_one (s_ret (ee_callB h1 (ea_cons (EE.eq (ee_lc [("_", 1), ("place", 2), ("voice", 3)] (it_list (ee_meth0 (ee_var 0) T.cl GP (by decide +kernel) ⟨ps, rfl, rfl, rfl⟩ hj)) (cr_filter pD (fun p => .int p.2.1) (fun p => decide (p.2.2 = 1)) ps fun p _ => ⟨_, _, gt_tup (gts_cons (gt_name 1) (gts_cons (gt_name 2) (gts_cons (gt_name 3) gts_nil))), by simp, ei_one (et_cmp (ee_var 3) ee_int od_eqI), fun _ => ee_var 2⟩) (by simp; omega)) (d' := .lst ((voL ps).map .int)) (by simp [voL, List.map_map])) ea_nil) cd_sortedC))
theorem vp_val {S : Sc} {ρ : Rho} {O : Sto} {ps : List Pn} {e : Expr} {p pos : Pos} {j : Nat} (G : DefOk c "voice_places" (rVP C) ["standing"] j) (hj : j ≤ c.k) (hp : ps.length < 64) (ha : EE c S e ρ O (standD C ps) O) (hg : glB S.sc "voice_places" = true := by first | decide +kernel | kernel_rfl | exact of_decide_eq_true (by kernel_rfl))
    (he : ∀ env, starEach (e :: []) env = (false, eval e env) :: starEach [] env := by intro _; rfl) : EE c S (.Call (.Name "voice_places" p) [e] [] pos) ρ O (.lst ((vpM ps).map .int)) O :=
  EE.frz (ee_call (pos := pos) (p := p) G (ea_cons ha ea_nil he) ⟨ps, hp, rfl, rfl, rfl⟩ hj hg (by decide +kernel) he (by intro _; rfl)) (Nat.le_refl _) (freeI _) id
abbrev nTurn : List Str := ["standing", "places"]
theorem fsTurn : FnScope nTurn ["standing"] (defScope pTurn) := ⟨rfl, rfl, rfl, by decide +kernel, rfl, by decide +kernel, by decide +kernel⟩
theorem turn_ok {f : Addr} {fd : FuncData} (F : Fun c.K "turn_sum" "turn_sum" pTurn f fd) (hm : c.mg "turn_sum" = some (.ref f)) (hb : Binds c.K fd ["standing"] []) {j : Nat} (hj : j ≤ c.k) (GV : DefOk c "voice_places" (rVP C) ["standing"] j) (h1 : c.mg "sum" = none) : DefOk c "turn_sum" (rTells C fun ps => .int (tsum (vpM ps))) ["standing"] (c.k + 1) := by
  refine def_ok F hm hb fsTurn (fun ds O d O' h => ?_) fun ds O d O' h => ?_
  · obtain ⟨ps, _, rfl, _⟩ := h; rfl
  · obtain ⟨ps, hp, rfl, rfl, rfl⟩ := h
    refine ss_cons (s_set 1 (vp_val GV hj hp (ee_var 0))) ?_
    exact ss_one (s_ret (ee_op (ee_callB h1 (ea_cons (EE.eq (ee_ev2 (ee_var 1)) (congrArg D.lst (ev2_map D.int (vpM ps)))) ea_nil) cd_sum) (ee_callB h1 (ea_cons (EE.eq (ee_od2 (ee_var 1)) (d' := .lst ((ev2 ((vpM ps).drop 1)).map .int)) (by rw [← List.map_drop, ev2_map])) ea_nil) cd_sum) od_sub))
end
theorem tsum_cons (x : Int) (l : List Int) : tsum (x :: l) = x - tsum l := by
  unfold tsum
  cases l with
  | nil => simp [ev2]
  | cons y r => simp only [ev2, List.drop_succ_cons, List.drop_zero, List.sum_cons]; omega

/-! ### the mathematics of the sum by turns -/
theorem tsum_app (A : List Int) {l m : List Int} (h : tsum l = tsum m) : tsum (A ++ l) = tsum (A ++ m) := by
  induction A with
  | nil => exact h
  | cons a A ih => rw [List.cons_append, List.cons_append, tsum_cons, tsum_cons, ih]
theorem tsum_two (s : Int) (l : List Int) : tsum (s :: s :: l) = tsum l := by rw [tsum_cons, tsum_cons]; omega
theorem tsum_rep (x : Int) (l : List Int) : ∀ m : Nat, (m % 2 = 0 → tsum (List.replicate m x ++ l) = tsum l) ∧ (m % 2 = 1 → tsum (List.replicate m x ++ l) = x - tsum l)
  | 0 => ⟨fun _ => rfl, fun h => by omega⟩
  | m + 1 => by
    obtain ⟨h1, h2⟩ := tsum_rep x l m
    have e : tsum (List.replicate (m + 1) x ++ l) = x - tsum (List.replicate m x ++ l) := by rw [List.replicate_succ, List.cons_append, tsum_cons]
    refine ⟨fun h => ?_, fun h => ?_⟩
    · rw [e, h2 (by omega)]; omega
    · rw [e, h1 (by omega)]
theorem sorted_split : ∀ {L : List Int} {x : Int}, L.Pairwise (· ≤ ·) → (∀ y ∈ L, x ≤ y) → L = List.replicate (L.count x) x ++ L.filter fun y => decide (x < y)
  | [], x, _, _ => rfl
  | a :: L, x, hs, hx => by
    obtain ⟨s1, s2⟩ := List.pairwise_cons.mp hs
    have ih := sorted_split (L := L) (x := x) s2 fun y hy => hx y (List.mem_cons_of_mem _ hy)
    by_cases e : a = x
    · subst e
      rw [List.count_cons_self, List.replicate_succ, List.filter_cons, if_neg (by simp), List.cons_append, ← ih]
    · have ha := hx a List.mem_cons_self
      have hlt : ∀ y ∈ a :: L, x < y := fun y hy => by
        rcases List.mem_cons.mp hy with h | h
        · omega
        · have := s1 y h; omega
      have h0 : (a :: L).count x = 0 := List.count_eq_zero.mpr fun h => by have := hlt x h; omega
      rw [h0, List.filter_eq_self.mpr fun y hy => by simpa using hlt y hy]; rfl
def oddS (gs : List Gp) : Int := sumM gs true
theorem sumM_cons' (g : Gp) (gs : List Gp) (b : Bool) : sumM (g :: gs) b = (if g.2.2 = b then g.2.1 else 0) + sumM gs b := by
  unfold sumM
  rw [List.filter_cons]
  have e : decide (kindS g.2.2 = kindS b) = decide (g.2.2 = b) := by cases g.2.2 <;> cases b <;> decide +kernel
  rw [e]
  by_cases h : g.2.2 = b <;> simp [h]
theorem turn_chain (g : Int → Int) : ∀ (r : List Int) (x t : Int) (L : List Int), L.Pairwise (· ≤ ·) → (∀ y ∈ L, y ∈ x :: r) → (x :: r).Pairwise (· < ·) → (∀ y ∈ x :: r, (L.count y : Int) = g y) →
    (1 - 2 * (t % 2)) * tsum L = -(t % 2 * x) - oddS (gapP g t (twos (x :: r))) + (t + L.length) % 2 * (x :: r).getLastD 0
  | [], x, t, L, hs, hm, _, hc => by
    have hx : ∀ y ∈ L, x ≤ y := fun y hy => by have := hm y hy; simp at this; omega
    have e := sorted_split hs hx
    have e0 : L.filter (fun y => decide (x < y)) = [] := List.filter_eq_nil_iff.mpr fun y hy => by have := hm y hy; simp at this; simp; omega
    rw [e0] at e
    obtain ⟨h1, h2⟩ := tsum_rep x [] (L.count x)
    have hl : L.length = L.count x := by conv => lhs; rw [e]
                                         simp
    have ht0 : tsum ([] : List Int) = 0 := by simp [tsum, ev2]
    have h3 : oddS (gapP g t (twos [x])) = 0 := rfl
    have h4 : ([x] : List Int).getLastD 0 = x := rfl
    have he : tsum L = tsum (List.replicate (L.count x) x ++ []) := congrArg tsum e
    rw [h3, h4, hl, he]
    rcases Nat.mod_two_eq_zero_or_one (L.count x) with h | h <;> rcases (show t % 2 = 0 ∨ t % 2 = 1 by omega) with g | g
    · rw [h1 h, ht0, g, show (t + ((L.count x : Nat) : Int)) % 2 = 0 by omega]; simp
    · rw [h1 h, ht0, g, show (t + ((L.count x : Nat) : Int)) % 2 = 1 by omega]; simp; omega
    · rw [h2 h, ht0, g, show (t + ((L.count x : Nat) : Int)) % 2 = 1 by omega]; simp
    · rw [h2 h, ht0, g, show (t + ((L.count x : Nat) : Int)) % 2 = 0 by omega]; simp
  | y :: r, x, t, L, hs, hm, hp, hc => by
    obtain ⟨p1, p2⟩ := List.pairwise_cons.mp hp
    have hx : ∀ z ∈ L, x ≤ z := fun z hz => by
      rcases List.mem_cons.mp (hm z hz) with h | h
      · omega
      · have := p1 z h; omega
    have e := sorted_split hs hx
    have hcx := hc x List.mem_cons_self
    have ih := turn_chain g r y (t + g x) (L.filter fun z => decide (x < z)) (hs.filter _) (fun z hz => by
      obtain ⟨h1, h2⟩ := List.mem_filter.mp hz
      have h2 : x < z := by simpa using h2
      rcases List.mem_cons.mp (hm z h1) with h | h
      · omega
      · exact h) p2 (fun z hz => by
      rw [← hc z (List.mem_cons_of_mem _ hz), List.count_filter (by simpa using p1 z hz)])
    have hl : L.length = L.count x + (L.filter fun z => decide (x < z)).length := by
      conv => lhs; rw [e]
      simp
    obtain ⟨h1, h2⟩ := tsum_rep x (L.filter fun z => decide (x < z)) (L.count x)
    have h3 : oddS (gapP g t (twos (x :: y :: r))) = (if (t + g x) % 2 = 1 then y - x else 0) + oddS (gapP g (t + g x) (twos (y :: r))) := by
      show sumM ((x, y - x, decide ((t + g x) % 2 = 1)) :: gapP g (t + g x) (twos (y :: r))) true = _
      rw [sumM_cons']
      show (if decide ((t + g x) % 2 = 1) = true then y - x else 0) + _ = _
      simp only [decide_eq_true_eq]; rfl
    have h4 : (x :: y :: r).getLastD 0 = (y :: r).getLastD 0 := by simp [List.getLastD_cons]
    have h5 : t + (L.length : Int) = t + g x + ((L.filter fun z => decide (x < z)).length : Int) := by rw [hl, ← hcx]; omega
    have he : tsum L = tsum (List.replicate (L.count x) x ++ L.filter fun z => decide (x < z)) := congrArg tsum e
    rw [h3, h4, h5, he]
    generalize tsum (L.filter fun z => decide (x < z)) = T at ih h1 h2
    generalize oddS (gapP g (t + g x) (twos (y :: r))) = W at ih ⊢
    generalize (t + g x + ((L.filter fun z => decide (x < z)).length : Int)) % 2 * (y :: r).getLastD 0 = Z at ih ⊢
    rcases Nat.mod_two_eq_zero_or_one (L.count x) with h | h <;> rcases (show t % 2 = 0 ∨ t % 2 = 1 by omega) with q | q
    · rw [h1 h, q]; rw [show (t + g x) % 2 = 0 by omega] at ih ⊢; simp at ih ⊢; omega
    · rw [h1 h, q]; rw [show (t + g x) % 2 = 1 by omega] at ih ⊢; simp at ih ⊢; omega
    · rw [h2 h, q]; rw [show (t + g x) % 2 = 1 by omega] at ih ⊢; simp at ih ⊢; omega
    · rw [h2 h, q]; rw [show (t + g x) % 2 = 0 by omega] at ih ⊢; simp at ih ⊢; omega
theorem both_sums (g : Int → Int) : ∀ (r : List Int) (x t : Int), sumM (gapP g t (twos (x :: r))) true + sumM (gapP g t (twos (x :: r))) false = (x :: r).getLastD 0 - x
  | [], x, t => by show (0 : Int) + 0 = x - x; omega
  | y :: r, x, t => by
    have ih := both_sums g r y (t + g x)
    show sumM ((x, y - x, decide ((t + g x) % 2 = 1)) :: gapP g (t + g x) (twos (y :: r))) true + sumM ((x, y - x, decide ((t + g x) % 2 = 1)) :: gapP g (t + g x) (twos (y :: r))) false = _
    rw [sumM_cons', sumM_cons']
    have h4 : (x :: y :: r).getLastD 0 = (y :: r).getLastD 0 := by simp [List.getLastD_cons]
    rw [h4]
    generalize (y :: r).getLastD 0 = last at ih ⊢
    generalize sumM (gapP g (t + g x) (twos (y :: r))) true = A at ih ⊢
    generalize sumM (gapP g (t + g x) (twos (y :: r))) false = B at ih ⊢
    cases decide ((t + g x) % 2 = 1) <;> simp <;> omega
theorem vo_count (y : Int) : ∀ ps : List Pn, (∀ p ∈ ps, p.2.2 = 0 ∨ p.2.2 = 1) → ((voL ps).count y : Int) = vsum (fun z => decide (z = y)) ps
  | [], _ => rfl
  | p :: r, h => by
    have ih := vo_count y r fun q hq => h q (List.mem_cons_of_mem _ hq)
    unfold voL at ih ⊢
    simp only [vsum, decide_eq_true_eq]
    rw [List.filter_cons]
    rcases h p List.mem_cons_self with h2 | h2
    · simp only [h2]; simp; exact ih
    · simp only [h2]
      by_cases h1 : p.2.1 = y
      · simp [h1] at ih ⊢; omega
      · simp [h1] at ih ⊢; exact ih
/-- the sum by turns by the gaps -/
theorem turn_gaps (ps : List Pn) (hv : ∀ p ∈ ps, p.2.2 = 0 ∨ p.2.2 = 1) (x : Int) (l : List Int) (hs : spots (plc ps) = x :: l) :
    tsum (vpM ps) = if (vpM ps).length % 2 = 1 then x + sumM (gapsM ps) false else 0 - sumM (gapsM ps) true := by
  have ok := spots_ok (plc ps)
  rw [hs] at ok
  have hg : ∀ y, vget (vfold [] ps) y = vsum (fun z => decide (z = y)) ps := fun y => by rw [vget_fold]; simp [vget]
  have h := turn_chain (vget (vfold [] ps)) l x 0 (vpM ps) (srt_pw _) (fun y hy => by
    obtain ⟨p, hp, e⟩ := List.mem_map.mp ((srt_perm (voL ps)).mem_iff.mp hy)
    exact (ok.mem y).mpr (List.mem_map.mpr ⟨p, (List.mem_filter.mp hp).1, e⟩)) ok.srt (fun y _ => by
    rw [hg, ← vo_count y ps hv]; unfold vpM; rw [(srt_perm (voL ps)).count_eq])
  have hb := both_sums (vget (vfold [] ps)) l x 0
  unfold gapsM
  rw [hs]
  unfold oddS at h
  generalize (x :: l).getLastD 0 = last at h hb
  generalize sumM (gapP (vget (vfold [] ps)) 0 (twos (x :: l))) true = A at h hb ⊢
  generalize sumM (gapP (vget (vfold [] ps)) 0 (twos (x :: l))) false = B at h hb ⊢
  rcases Nat.mod_two_eq_zero_or_one (vpM ps).length with q | q
  · rw [if_neg (by omega)]
    rw [show (0 + ((vpM ps).length : Int)) % 2 = 0 by omega] at h
    simp at h; omega
  · rw [if_pos q]
    rw [show (0 + ((vpM ps).length : Int)) % 2 = 1 by omega] at h
    simp at h; omega
theorem le_split : ∀ {L : List Int} (s : Int), L.Pairwise (· ≤ ·) → L = (L.filter fun y => decide (y ≤ s)) ++ L.filter fun y => decide (s < y)
  | [], _, _ => rfl
  | a :: L, s, hs => by
    obtain ⟨s1, s2⟩ := List.pairwise_cons.mp hs
    have ih := le_split s s2
    by_cases e : a ≤ s
    · rw [List.filter_cons, if_pos (by simpa using e), List.filter_cons, if_neg (by simp; omega), List.cons_append, ← ih]
    · have h1 : (a :: L).filter (fun y => decide (y ≤ s)) = [] := List.filter_eq_nil_iff.mpr fun y hy => by
        rcases List.mem_cons.mp hy with h | h
        · simp; omega
        · have := s1 y h; simp; omega
      have h2 : (a :: L).filter (fun y => decide (s < y)) = a :: L := List.filter_eq_self.mpr fun y hy => by
        rcases List.mem_cons.mp hy with h | h
        · simp; omega
        · have := s1 y h; simp; omega
      rw [h1, h2]; rfl
theorem turn_more (ns : List Int) (s : Int) : tsum (srt (ns ++ [s, s])) = tsum (srt ns) := by
  have hs := srt_pw ns
  have e := le_split s hs
  have hp : ((srt ns).filter (fun y => decide (y ≤ s)) ++ s :: s :: (srt ns).filter fun y => decide (s < y)).Perm (ns ++ [s, s]) := by
    refine (List.perm_append_comm (l₁ := (srt ns).filter fun y => decide (y ≤ s)) (l₂ := s :: s :: (srt ns).filter fun y => decide (s < y))).trans ?_
    show (([s, s] ++ (srt ns).filter fun y => decide (s < y)) ++ (srt ns).filter fun y => decide (y ≤ s)).Perm _
    rw [List.append_assoc]
    refine List.perm_append_comm.trans ?_
    refine List.Perm.append_right _ ?_
    refine List.perm_append_comm.trans ?_
    rw [← e]
    exact srt_perm ns
  have hw : ((srt ns).filter (fun y => decide (y ≤ s)) ++ s :: s :: (srt ns).filter fun y => decide (s < y)).Pairwise (· ≤ ·) := by
    refine List.pairwise_append.mpr ⟨hs.filter _, List.pairwise_cons.mpr ⟨fun y hy => ?_, List.pairwise_cons.mpr ⟨fun y hy => ?_, hs.filter _⟩⟩, fun a ha b hb => ?_⟩
    · rcases List.mem_cons.mp hy with h | h
      · omega
      · have := (List.mem_filter.mp h).2; simp at this; omega
    · have := (List.mem_filter.mp hy).2; simp at this; omega
    · have h1 := (List.mem_filter.mp ha).2
      simp at h1
      rcases List.mem_cons.mp hb with h | h
      · omega
      · rcases List.mem_cons.mp h with h | h
        · omega
        · have := (List.mem_filter.mp h).2; simp at this; omega
  rw [← srt_uniq hp hw]
  conv => rhs; rw [e]
  exact tsum_app _ (tsum_two s _)
theorem tsum_shift (b : Int) : ∀ l : List Int, tsum (l.map (· + b)) = tsum l + b * ((l.length : Int) % 2)
  | [] => by simp [tsum, ev2]
  | x :: l => by
    have ih := tsum_shift b l
    rw [List.map_cons, tsum_cons, tsum_cons, ih, List.length_cons]
    rcases (show (l.length : Int) % 2 = 0 ∨ (l.length : Int) % 2 = 1 by omega) with h | h
    · rw [h, show (((l.length + 1 : Nat) : Int)) % 2 = 1 by omega]; omega
    · rw [h, show (((l.length + 1 : Nat) : Int)) % 2 = 0 by omega]; omega
theorem srt_shift (b : Int) (ns : List Int) : srt (ns.map (· + b)) = (srt ns).map (· + b) :=
  (srt_uniq ((srt_perm ns).map _) (List.pairwise_map.mpr ((srt_pw ns).imp fun {a c} h => by omega))).symm


end DL
set_option maxRecDepth 100000
set_option maxHeartbeats 4000000
namespace DL
open PySem L2 PyProof.Rows PySem.Spec
/-! ### sums and the greatest height of gaps, and what a call does to them -/
def oW : List (Int × Bool) → Int
  | [] => 0
  | g :: r => (if g.2 = true then g.1 else 0) + oW r
def eW : List (Int × Bool) → Int
  | [] => 0
  | g :: r => (if g.2 = true then 0 else g.1) + eW r
def hW : List (Int × Bool) → Int
  | [] => 0
  | g :: r => max 0 ((if g.2 = true then g.1 else -g.1) + hW r)
theorem hW_pos : ∀ l, 0 ≤ hW l
  | [] => Int.le_refl _
  | g :: r => by unfold hW; omega
theorem oW_app : ∀ A B, oW (A ++ B) = oW A + oW B
  | [], B => by simp [oW]
  | g :: A, B => by rw [List.cons_append, oW, oW, oW_app A B]; omega
theorem eW_app : ∀ A B, eW (A ++ B) = eW A + eW B
  | [], B => by simp [eW]
  | g :: A, B => by rw [List.cons_append, eW, eW, eW_app A B]; omega
theorem hW_app : ∀ A B, hW (A ++ B) = max (hW A) (oW A - eW A + hW B)
  | [], B => by have := hW_pos B; simp [hW, oW, eW]; omega
  | g :: A, B => by
    rw [List.cons_append, hW, hW, oW, eW, hW_app A B]
    cases g.2 <;> simp <;> omega
theorem hW_tot : ∀ A, oW A - eW A ≤ hW A
  | [] => Int.le_refl _
  | g :: A => by
    have := hW_tot A
    rw [hW, oW, eW]
    cases g.2 <;> simp <;> omega
theorem oW_nn : ∀ {A : List (Int × Bool)}, (∀ g ∈ A, 0 ≤ g.1) → 0 ≤ oW A
  | [], _ => Int.le_refl _
  | g :: A, h => by
    have := oW_nn (A := A) fun x hx => h x (List.mem_cons_of_mem _ hx)
    have := h g List.mem_cons_self
    rw [oW]; split <;> omega
theorem eW_nn : ∀ {A : List (Int × Bool)}, (∀ g ∈ A, 0 ≤ g.1) → 0 ≤ eW A
  | [], _ => Int.le_refl _
  | g :: A, h => by
    have := eW_nn (A := A) fun x hx => h x (List.mem_cons_of_mem _ hx)
    have := h g List.mem_cons_self
    rw [eW]; split <;> omega
theorem hW_le : ∀ {A : List (Int × Bool)}, (∀ g ∈ A, 0 ≤ g.1) → hW A ≤ oW A
  | [], _ => Int.le_refl _
  | g :: A, h => by
    have h1 := hW_le (A := A) fun x hx => h x (List.mem_cons_of_mem _ hx)
    have h2 := h g List.mem_cons_self
    have h3 := oW_nn (A := A) fun x hx => h x (List.mem_cons_of_mem _ hx)
    rw [hW, oW]
    cases g.2 <;> simp <;> omega
theorem eW_none : ∀ {A : List (Int × Bool)}, (∀ g ∈ A, g.2 = true) → eW A = 0
  | [], _ => rfl
  | g :: A, h => by
    rw [eW, eW_none (A := A) fun x hx => h x (List.mem_cons_of_mem _ hx), if_pos (h g List.mem_cons_self)]; rfl
theorem oW_none : ∀ {A : List (Int × Bool)}, (∀ g ∈ A, g.2 = false) → oW A = 0
  | [], _ => rfl
  | g :: A, h => by
    rw [oW, oW_none (A := A) fun x hx => h x (List.mem_cons_of_mem _ hx), h g List.mem_cons_self]; rfl
def dueZ (g : Int) (x : Gp) : Int × Bool := (x.2.1 - nearI g x.1 x.2.1, x.2.2)
theorem near01 (g a w : Int) : nearI g a w = 0 ∨ nearI g a w = 1 := by unfold nearI; split <;> simp
theorem due_zero (g : Int) : ∀ gs : List Gp, (∀ x ∈ gs, 1 ≤ x.2.1) → oW (dueG g gs) = oW (gs.map (dueZ g)) ∧ eW (dueG g gs) = eW (gs.map (dueZ g)) ∧ hW (dueG g gs) = hW (gs.map (dueZ g))
  | [], _ => ⟨rfl, rfl, rfl⟩
  | x :: gs, h => by
    obtain ⟨h1, h2, h3⟩ := due_zero g gs fun y hy => h y (List.mem_cons_of_mem _ hy)
    have hx := h x List.mem_cons_self
    have hn := near01 g x.1 x.2.1
    have hp := hW_pos (gs.map (dueZ g))
    show oW (dueOne g x ++ dueG g gs) = oW (dueZ g x :: gs.map (dueZ g)) ∧ eW (dueOne g x ++ dueG g gs) = eW (dueZ g x :: gs.map (dueZ g)) ∧ hW (dueOne g x ++ dueG g gs) = hW (dueZ g x :: gs.map (dueZ g))
    unfold dueOne
    by_cases q : nearI g x.1 x.2.1 < x.2.1
    · rw [if_pos q]
      exact ⟨by show oW ((_, _) :: dueG g gs) = _; rw [oW, oW, h1]; rfl, by show eW ((_, _) :: dueG g gs) = _; rw [eW, eW, h2]; rfl, by show hW ((_, _) :: dueG g gs) = _; rw [hW, hW, h3]; rfl⟩
    · rw [if_neg q]
      have e : x.2.1 - nearI g x.1 x.2.1 = 0 := by omega
      have e2 : dueZ g x = (0, x.2.2) := by unfold dueZ; rw [e]
      rw [e2, List.nil_append, h1, h2, h3, oW, eW, hW]
      refine ⟨by split <;> omega, by split <;> omega, ?_⟩
      cases x.2.2 <;> simp <;> omega
theorem gapL_app (f : Int → Bool) : ∀ (P : List Int) (g : Int) (Q : List Int), gapL f (P ++ g :: Q) = gapL f (P ++ [g]) ++ gapL f (g :: Q)
  | [], g, Q => rfl
  | [x], g, Q => rfl
  | x :: y :: P, g, Q => by
    have := gapL_app f (y :: P) g Q
    show (x, y - x, f x) :: gapL f (y :: P ++ g :: Q) = (x, y - x, f x) :: gapL f (y :: P ++ [g]) ++ gapL f (g :: Q)
    rw [this]; rfl
theorem gapL_in (f : Int → Bool) : ∀ (l : List Int) (x : Gp), x ∈ gapL f l → x.1 ∈ l ∧ x.1 + x.2.1 ∈ l ∧ x.2.2 = f x.1 ∧ x.1 ∈ l.dropLast
  | x :: y :: r, q, h => by
    rcases List.mem_cons.mp (show q ∈ (x, y - x, f x) :: gapL f (y :: r) from h) with e | e
    · subst e
      exact ⟨by simp, by simp only []; rw [show x + (y - x) = y by omega]; simp, rfl, by simp⟩
    · obtain ⟨a, b, c, d⟩ := gapL_in f (y :: r) q e
      exact ⟨List.mem_cons_of_mem _ a, List.mem_cons_of_mem _ b, c, by rw [List.dropLast_cons_of_ne_nil (by simp)]; exact List.mem_cons_of_mem _ d⟩
  | [x], q, h => by simp [gapL] at h
  | [], q, h => by simp [gapL] at h
theorem gapL_pos (f : Int → Bool) : ∀ l : List Int, l.Pairwise (· < ·) → ∀ x ∈ gapL f l, 1 ≤ x.2.1
  | x :: y :: r, hs, q, h => by
    obtain ⟨s1, s2⟩ := List.pairwise_cons.mp hs
    rcases List.mem_cons.mp (show q ∈ (x, y - x, f x) :: gapL f (y :: r) from h) with e | e
    · subst e; have := s1 y List.mem_cons_self; show 1 ≤ y - x; omega
    · exact gapL_pos f (y :: r) s2 q e
  | [x], _, q, h => by simp [gapL] at h
  | [], _, q, h => by simp [gapL] at h
theorem due_far {g : Int} {gs : List Gp} (h : ∀ x ∈ gs, g ≠ x.1 ∧ g ≠ x.1 + x.2.1) : gs.map (dueZ g) = gs.map wk := by
  refine List.map_congr_left fun x hx => ?_
  obtain ⟨a, b⟩ := h x hx
  unfold dueZ wk nearI
  rw [if_neg (by simp; exact ⟨a, b⟩)]
  simp
theorem pw_split {P Q : List Int} {g : Int} (h : (P ++ g :: Q).Pairwise (· < ·)) : (P ++ [g]).Pairwise (· < ·) ∧ (g :: Q).Pairwise (· < ·) ∧ (∀ x ∈ P, x < g) ∧ (∀ x ∈ Q, g < x) := by
  obtain ⟨h1, h2, h3⟩ := List.pairwise_append.mp h
  refine ⟨List.pairwise_append.mpr ⟨h1, List.pairwise_singleton _ _, fun a ha b hb => ?_⟩, h2, fun x hx => h3 x hx g List.mem_cons_self, (List.pairwise_cons.mp h2).1⟩
  have : b = g := by simpa using hb
  subst this; exact h3 a ha b List.mem_cons_self
/-- right of the crowd -/
theorem due_right (f : Int → Bool) (g : Int) : ∀ Q : List Int, (g :: Q).Pairwise (· < ·) → (Q = [] ∧ gapL f (g :: Q) = []) ∨ ∃ v B, 1 ≤ v ∧ (∀ x ∈ B, 0 ≤ x.1) ∧ (gapL f (g :: Q)).map wk = (v, f g) :: B ∧ (gapL f (g :: Q)).map (dueZ g) = (v - 1, f g) :: B
  | [], _ => .inl ⟨rfl, rfl⟩
  | y :: r, h => by
    obtain ⟨s1, s2⟩ := List.pairwise_cons.mp h
    have hy := s1 y List.mem_cons_self
    refine .inr ⟨y - g, (gapL f (y :: r)).map wk, by omega, fun x hx => ?_, rfl, ?_⟩
    · obtain ⟨q, hq, rfl⟩ := List.mem_map.mp hx
      have := gapL_pos f _ s2 q hq
      show 0 ≤ q.2.1; omega
    · have hf : ∀ x ∈ gapL f (y :: r), g ≠ x.1 ∧ g ≠ x.1 + x.2.1 := fun x hx => by
        obtain ⟨a, b, _⟩ := gapL_in f _ x hx
        have := s1 _ a; have := s1 _ b
        exact ⟨by omega, by omega⟩
      show dueZ g (g, y - g, f g) :: (gapL f (y :: r)).map (dueZ g) = _
      rw [due_far hf]
      have : nearI g g (y - g) = 1 := by unfold nearI; rw [if_pos (by simp)]
      unfold dueZ
      simp only []
      rw [this]
/-- left of the crowd -/
theorem due_left (f : Int → Bool) (g : Int) (P : List Int) (h : (P ++ [g]).Pairwise (· < ·)) : (P = [] ∧ gapL f (P ++ [g]) = []) ∨ ∃ P' z w A, P = P' ++ [z] ∧ 1 ≤ w ∧ (∀ x ∈ A, 0 ≤ x.1) ∧ (gapL f (P ++ [g])).map wk = A ++ [(w, f z)] ∧ (gapL f (P ++ [g])).map (dueZ g) = A ++ [(w - 1, f z)] := by
  by_cases hP : P = []
  · subst hP; exact .inl ⟨rfl, rfl⟩
  · obtain ⟨P', z, rfl⟩ : ∃ P' z, P = P' ++ [z] := ⟨P.dropLast, P.getLast hP, (List.dropLast_concat_getLast hP).symm⟩
    rw [List.append_assoc] at h
    obtain ⟨h1, h2, h3, h4⟩ := pw_split (P := P') (g := z) (Q := [g]) h
    have hzg := h4 g (by simp)
    have e : gapL f (P' ++ [z] ++ [g]) = gapL f (P' ++ [z]) ++ [(z, g - z, f z)] := by
      rw [List.append_assoc]; exact gapL_app f P' z [g]
    refine .inr ⟨P', z, g - z, (gapL f (P' ++ [z])).map wk, rfl, by omega, fun x hx => ?_, ?_, ?_⟩
    · obtain ⟨q, hq, rfl⟩ := List.mem_map.mp hx
      have := gapL_pos f _ h1 q hq
      show 0 ≤ q.2.1; omega
    · rw [e, List.map_append]; rfl
    · have hf : ∀ x ∈ gapL f (P' ++ [z]), g ≠ x.1 ∧ g ≠ x.1 + x.2.1 := fun x hx => by
        obtain ⟨a, b, _⟩ := gapL_in f _ x hx
        have hl : ∀ y ∈ P' ++ [z], y < g := fun y hy => by
          rcases List.mem_append.mp hy with q | q
          · have := h3 y q; omega
          · have : y = z := by simpa using q
            omega
        have := hl _ a; have := hl _ b
        exact ⟨by omega, by omega⟩
      rw [e, List.map_append, due_far hf]
      have : nearI g z (g - z) = 1 := by unfold nearI; rw [if_pos (by simp; omega)]
      show _ ++ [dueZ g (z, g - z, f z)] = _
      unfold dueZ
      simp only []
      rw [this]
/-- the kind ahead of a crowd: even where nobody stands -/
def kbL (f : Int → Bool) (P : List Int) : Bool := match P.getLast? with
  | none => false
  | some z => f z
theorem kbL_snoc (f : Int → Bool) (P : List Int) (z : Int) : kbL f (P ++ [z]) = f z := by unfold kbL; rw [List.getLast?_concat]
structure LostN (a b d a' b' d' : Int) (atFirst : Prop) : Prop where
  o : a - 1 ≤ a' ∧ a' ≤ a
  e : (atFirst → b' = b) ∧ (¬ atFirst → b' = b - 1)
  m : b' + d' ≤ b + d - 1
abbrev Lost (G G' : List (Int × Bool)) (atFirst : Prop) : Prop := LostN (oW G) (eW G) (hW G) (oW G') (eW G') (hW G') atFirst
theorem lost_call (f : Int → Bool) (P Q : List Int) (g : Int) (hs : (P ++ g :: Q).Pairwise (· < ·)) (hne : P ≠ [] ∨ Q ≠ []) (hl : kbL f P ≠ f g) (hq : Q = [] → f g = true) :
    Lost ((gapL f (P ++ g :: Q)).map wk) (dueG g (gapL f (P ++ g :: Q))) (P = []) ∧
    (f g = true → eW (dueG g (gapL f (P ++ g :: Q))) + hW (dueG g (gapL f (P ++ g :: Q))) = eW ((gapL f (P ++ g :: Q)).map wk) + hW ((gapL f (P ++ g :: Q)).map wk) - 1) ∧
    (P ≠ [] → Q ≠ [] → oW (dueG g (gapL f (P ++ g :: Q))) = oW ((gapL f (P ++ g :: Q)).map wk) - 1) ∧
    (P = [] → oW (dueG g (gapL f (P ++ g :: Q))) = oW ((gapL f (P ++ g :: Q)).map wk) - 1 ∧ 1 ≤ oW ((gapL f (P ++ g :: Q)).map wk)) ∧
    (P ≠ [] → 1 ≤ eW ((gapL f (P ++ g :: Q)).map wk)) ∧ (Q = [] → oW (dueG g (gapL f (P ++ g :: Q))) = oW ((gapL f (P ++ g :: Q)).map wk)) := by
  obtain ⟨d1, d2, d3⟩ := due_zero g (gapL f (P ++ g :: Q)) (gapL_pos f _ hs)
  unfold Lost
  rw [d1, d2, d3]
  clear d1 d2 d3
  obtain ⟨p1, p2, _, _⟩ := pw_split hs
  rw [gapL_app, List.map_append, List.map_append]
  rcases due_left f g P p1 with ⟨a1, a2⟩ | ⟨P', z, w, A, a1, a2, a3, a4, a5⟩ <;> rcases due_right f g Q p2 with ⟨b1, b2⟩ | ⟨v, B, b1, b2, b3, b4⟩
  · rcases hne with h | h
    · exact absurd a1 h
    · exact absurd b1 h
  · rw [a2, b3, b4]
    subst a1
    have hg : f g = true := by
      cases h : f g with
      | true => rfl
      | false => exact absurd h.symm hl
    have hQ : Q ≠ [] := fun h => by subst h; cases b3
    rw [hg]
    have hB := hW_pos B
    have hO := oW_nn b2
    simp only [List.map_nil, List.nil_append, oW, eW, hW, if_true]
    refine ⟨⟨by omega, ⟨fun _ => (by first | rfl | trivial), fun h => (by first | exact absurd rfl h | exact absurd trivial h)⟩, by omega⟩, fun _ => (by first | omega | trivial), fun h => (by first | exact absurd rfl h | exact absurd trivial h), fun _ => (by first | omega | trivial), fun h => (by first | exact absurd rfl h | exact absurd trivial h), fun h => absurd h hQ⟩
  · rw [a4, a5, b2]
    have hg := hq b1
    have hz : f z = false := by
      rw [a1, kbL_snoc, hg] at hl
      cases h : f z with
      | false => rfl
      | true => exact absurd h hl
    have hP : P ≠ [] := by rw [a1]; simp
    have hA := hW_tot A
    have hA0 := hW_pos A
    have hE := eW_nn a3
    rw [hz]
    simp only [List.map_nil, List.append_nil, oW_app, eW_app, hW_app, oW, eW, hW, Bool.false_eq_true, if_false]
    refine ⟨⟨by omega, ⟨fun h => absurd h hP, fun _ => (by first | omega | trivial)⟩, by omega⟩, fun _ => (by first | omega | trivial), fun _ h => absurd b1 h, fun h => absurd h hP, fun _ => (by first | omega | trivial), fun _ => (by first | omega | trivial)⟩
  · rw [a4, a5, b3, b4]
    have hP : P ≠ [] := by rw [a1]; simp
    have hQ : Q ≠ [] := fun h => by subst h; cases b3
    have hA := hW_tot A
    have hA0 := hW_pos A
    have hB := hW_pos B
    have hE := eW_nn a3
    have hO := oW_nn a3
    have hE2 := eW_nn b2
    have hO2 := oW_nn b2
    rw [a1, kbL_snoc] at hl
    simp only [oW_app, eW_app, hW_app, oW, eW, hW]
    cases hz : f z <;> cases hg : f g <;> rw [hz, hg] at hl
    · exact absurd rfl hl
    · simp only [Bool.false_eq_true, if_false, if_true]
      refine ⟨⟨by omega, ⟨fun h => absurd h hP, fun _ => (by first | omega | trivial)⟩, by omega⟩, fun _ => (by first | omega | trivial), fun _ _ => by omega, fun h => absurd h hP, fun _ => (by first | omega | trivial), fun h => absurd h hQ⟩
    · simp only [Bool.false_eq_true, if_false, if_true]
      refine ⟨⟨by omega, ⟨fun h => absurd h hP, fun _ => (by first | omega | trivial)⟩, by omega⟩, fun h => absurd h (by simp), fun _ _ => by omega, fun h => absurd h hP, fun _ => (by first | omega | trivial), fun h => absurd h hQ⟩
    · exact absurd rfl hl
theorem rise_split (f : Int → Bool) : ∀ (l : List Int) (z : Int), l.getLast? = some z → f z = true → ∃ P g Q, l = P ++ g :: Q ∧ kbL f P = false ∧ f g = true
  | [], z, h, _ => by cases h
  | x :: l, z, h, hz => by
    by_cases hx : f x = true
    · exact ⟨[], x, l, rfl, rfl, hx⟩
    · have hx : f x = false := by simpa using hx
      cases l with
      | nil =>
        have : x = z := by simpa using h
        subst this; rw [hx] at hz; cases hz
      | cons y r =>
        rw [List.getLast?_cons_cons] at h
        obtain ⟨P, g, Q, e, h1, h2⟩ := rise_split f (y :: r) z h hz
        refine ⟨x :: P, g, Q, by rw [e]; rfl, ?_, h2⟩
        cases P with
        | nil => exact hx
        | cons a P => unfold kbL at h1 ⊢; rw [List.getLast?_cons_cons]; exact h1
theorem mid_split (f : Int → Bool) : ∀ (l : List Int) (x : Int), (∀ y ∈ (x :: l).dropLast, f y = f x) ∨ ∃ P z g Q, x :: l = P ++ z :: g :: Q ∧ Q ≠ [] ∧ f z ≠ f g
  | [], x => .inl fun y hy => by simp at hy
  | y :: r, x => by
    rcases mid_split f r y with h | ⟨P, z, g, Q, e, h1, h2⟩
    · cases r with
      | nil => exact .inl fun z hz => by have : z = x := by simpa using hz
                                         rw [this]
      | cons q r =>
        by_cases hy : f x = f y
        · refine .inl fun z hz => ?_
          rw [List.dropLast_cons_of_ne_nil (by simp)] at hz
          rcases List.mem_cons.mp hz with e | e
          · rw [e]
          · rw [h z e, hy]
        · exact .inr ⟨[], x, y, q :: r, rfl, by simp, hy⟩
    · exact .inr ⟨x :: P, z, g, Q, by rw [e]; rfl, h1, h2⟩

/-! ### calls of people: sums, the greatest height, the meeting place -/
def wkM (ps : List Pn) : List (Int × Bool) := (wgapsM ps).map wk
theorem gaps_w (ps : List Pn) : gapsM ps = wgapsM ps := by
  rw [← wgaps_same]
  unfold gapsM
  have e : vget (vfold [] ps) = fun y => vsum (fun z => decide (z = y)) ps := funext fun y => by rw [vget_fold]; simp [vget]
  rw [e]
  have h : ∀ (g : Int → Int) (l : List (Int × Int)) (t : Int), gapP g t l = gapV g t l := fun g l => by
    induction l with
    | nil => intro t; rfl
    | cons p l ih => intro t; show _ :: gapP g _ l = _ :: gapV g _ l; rw [ih]
  exact h _ _ _
theorem sum_odd : ∀ gs : List Gp, sumM gs true = oW (gs.map wk)
  | [] => rfl
  | g :: gs => by rw [sumM_cons', sum_odd gs, List.map_cons, oW]; rfl
theorem sum_even : ∀ gs : List Gp, sumM gs false = eW (gs.map wk)
  | [] => rfl
  | g :: gs => by
    rw [sumM_cons', sum_even gs, List.map_cons, eW]
    show (if g.2.2 = false then g.2.1 else 0) + _ = (if g.2.2 = true then 0 else g.2.1) + _
    cases g.2.2 <;> simp
theorem wkM_nn (ps : List Pn) : ∀ g ∈ wkM ps, 0 ≤ g.1 := fun g hg => by
  obtain ⟨q, hq, rfl⟩ := List.mem_map.mp hg
  have := gapL_pos _ _ (spots_ok (plc ps)).srt q hq
  show 0 ≤ q.2.1; omega
theorem vsum_zero {P : Int → Bool} : ∀ {ps : List Pn}, (∀ p ∈ ps, P p.2.1 = false) → vsum P ps = 0
  | [], _ => rfl
  | p :: r, h => by
    show (if P p.2.1 then p.2.2 else 0) + vsum P r = 0
    rw [h p List.mem_cons_self, vsum_zero fun q hq => h q (List.mem_cons_of_mem _ hq)]; rfl
theorem in_spots {ps : List Pn} {p : Pn} (h : p ∈ ps) : p.2.1 ∈ spots (plc ps) := ((spots_ok (plc ps)).mem _).mpr (List.mem_map.mpr ⟨p, h, rfl⟩)
theorem kb_sum {ps : List Pn} {P Q : List Int} {g : Int} (e : spots (plc ps) = P ++ g :: Q) : kbL (isOddV ps) P = decide (vsum (fun z => decide (z < g)) ps % 2 = 1) := by
  have hs := (spots_ok (plc ps)).srt
  rw [e] at hs
  obtain ⟨p1, p2, p3, p4⟩ := pw_split hs
  by_cases hP : P = []
  · subst hP
    have : vsum (fun z => decide (z < g)) ps = 0 := vsum_zero fun p hp => by
      have := in_spots hp
      rw [e] at this
      rcases List.mem_cons.mp this with q | q
      · simp; omega
      · have := p4 _ q; simp; omega
    rw [this]; rfl
  · obtain ⟨P', z, rfl⟩ : ∃ P' z, P = P' ++ [z] := ⟨P.dropLast, P.getLast hP, (List.dropLast_concat_getLast hP).symm⟩
    rw [kbL_snoc]
    unfold isOddV
    have : vsum (fun y => decide (y < g)) ps = vsum (fun y => decide (y ≤ z)) ps := vsum_congr fun p hp => by
      have hm := in_spots hp
      rw [e] at hm
      have hz := p3 z (by simp)
      rw [decide_eq_decide]
      rcases List.mem_append.mp hm with q | q
      · have hq := p3 _ q
        refine ⟨fun _ => ?_, fun _ => hq⟩
        rcases List.mem_append.mp q with q | q
        · have := (List.pairwise_append.mp (List.pairwise_append.mp p1).1).2.2 _ q z (by simp); omega
        · have : p.2.1 = z := by simpa using q
          omega
      · have : g ≤ p.2.1 := by
          rcases List.mem_cons.mp q with q | q
          · omega
          · have := p4 _ q; omega
        constructor <;> intro <;> omega
    rw [this]
theorem loud_kb {ps : List Pn} {P Q : List Int} {g : Int} (e : spots (plc ps) = P ++ g :: Q) : g ∈ loudM ps ↔ kbL (isOddV ps) P ≠ isOddV ps g := by
  have hx := xor_mod _ _ _ (vsum_split g ps).symm
  rw [kb_sum e, loudM_v, List.mem_filter, e]
  unfold isOddV
  rw [← hx]
  generalize decide (vsum (fun z => decide (z < g)) ps % 2 = 1) = a
  generalize decide (vsum (fun z => decide (z ≤ g)) ps % 2 = 1) = b
  cases a <;> cases b <;> simp
theorem last_odd {ps : List Pn} (ho : vAll ps % 2 = 1) {P : List Int} {g : Int} (e : spots (plc ps) = P ++ [g]) : isOddV ps g = true := by
  have hs := (spots_ok (plc ps)).srt
  rw [e] at hs
  have : vsum (fun z => decide (z ≤ g)) ps = vAll ps := by
    unfold vAll
    rw [← vsum_all]
    refine vsum_congr fun p hp => ?_
    have hm := in_spots hp
    rw [e] at hm
    rcases List.mem_append.mp hm with q | q
    · have := (pw_split (Q := []) hs).2.2.1 _ q; simp; omega
    · have : p.2.1 = g := by simpa using q
      simp; omega
  unfold isOddV
  rw [this, ho]; rfl
theorem near_spots (g : Int) (ps : List Pn) : spots (plc (nearM g 1 ps)) = dd ((spots (plc ps)).map (ph g)) := by
  have hs := spots_ok (plc ps)
  have hp : plc (nearM g 1 ps) = (plc ps).map (ph g) := by unfold plc nearM; rw [List.map_map, List.map_map]; rfl
  rw [hp]
  refine spots_dd (List.pairwise_map.mpr (hs.srt.imp fun {a b} h => ph_mono (by omega))) fun z => ?_
  simp only [List.mem_map]
  exact ⟨fun ⟨a, h1, h2⟩ => ⟨a, (hs.mem a).mp h1, h2⟩, fun ⟨a, h1, h2⟩ => ⟨a, (hs.mem a).mpr h1, h2⟩⟩
theorem near_all (g k : Int) (ps : List Pn) : vAll (nearM g k ps) = vAll ps := by
  unfold vAll nearM; rw [List.map_map]; rfl
theorem vp_cnt {ps : List Pn} (hv : ∀ p ∈ ps, p.2.2 = 0 ∨ p.2.2 = 1) : ((vpM ps).length : Int) = vAll ps := by
  unfold vpM
  rw [(srt_perm _).length_eq]
  induction ps with
  | nil => rfl
  | cons p r ih =>
    have ih := ih fun q hq => hv q (List.mem_cons_of_mem _ hq)
    unfold voL vAll at ih ⊢
    rw [List.map_cons, List.sum_cons, List.filter_cons]
    rcases hv p List.mem_cons_self with h | h
    · simp [h] at ih ⊢; exact ih
    · simp [h] at ih ⊢; omega
def voicesOk (ps : List Pn) : Prop := ∀ p ∈ ps, p.2.2 = 0 ∨ p.2.2 = 1
theorem PsOk.vo {ps : List Pn} (h : PsOk ps) : voicesOk ps := fun p hp => (h.1 p hp).2.2
/-- where all meet -/
theorem meet_at {ps : List Pn} (hv : voicesOk ps) (ho : vAll ps % 2 = 1) {x : Int} {l : List Int} (e : spots (plc ps) = x :: l) : tsum (vpM ps) = x + eW (wkM ps) := by
  have h := vp_cnt hv
  rw [turn_gaps ps hv x l e, if_pos (by omega), gaps_w, sum_even]; rfl
/-- what a call does -/
theorem near_lost {ps : List Pn} (hv : voicesOk ps) (ho : vAll ps % 2 = 1) {P Q : List Int} {g : Int} (e : spots (plc ps) = P ++ g :: Q) (hne : P ≠ [] ∨ Q ≠ []) (hl : g ∈ loudM ps) :
    Lost (wkM ps) (wkM (nearM g 1 ps)) (P = []) ∧ tsum (vpM (nearM g 1 ps)) = tsum (vpM ps) ∧
    (isOddV ps g = true → eW (wkM (nearM g 1 ps)) + hW (wkM (nearM g 1 ps)) = eW (wkM ps) + hW (wkM ps) - 1) ∧
    (P ≠ [] → Q ≠ [] → oW (wkM (nearM g 1 ps)) = oW (wkM ps) - 1) ∧
    (P = [] → oW (wkM (nearM g 1 ps)) = oW (wkM ps) - 1 ∧ 1 ≤ oW (wkM ps)) ∧
    (P ≠ [] → 1 ≤ eW (wkM ps)) ∧ (Q = [] → oW (wkM (nearM g 1 ps)) = oW (wkM ps)) := by
  have hs := (spots_ok (plc ps)).srt
  have hg : g ∈ plc ps := ((spots_ok (plc ps)).mem g).mp (by rw [e]; simp)
  have hq : Q = [] → isOddV ps g = true := fun h => by subst h; exact last_odd ho e
  rw [e] at hs
  have hw : wkM (nearM g 1 ps) = dueG g (gapL (isOddV ps) (P ++ g :: Q)) := by
    unfold wkM; rw [due_same hg]; unfold wgapsM; rw [e]
  have hw0 : wkM ps = (gapL (isOddV ps) (P ++ g :: Q)).map wk := by unfold wkM wgapsM; rw [e]
  obtain ⟨h1, h2⟩ := lost_call (isOddV ps) P Q g hs hne ((loud_kb e).mp hl) hq
  rw [← hw, ← hw0] at h1 h2
  refine ⟨h1, ?_, h2⟩
  have hv' : voicesOk (nearM g 1 ps) := fun p hp => by
    obtain ⟨q, hq, rfl⟩ := List.mem_map.mp hp; exact hv q hq
  obtain ⟨x, l, ex⟩ : ∃ x l, spots (plc ps) = x :: l := by
    rw [e]; cases P with
    | nil => exact ⟨g, Q, rfl⟩
    | cons a P => exact ⟨a, P ++ g :: Q, rfl⟩
  obtain ⟨t, ht⟩ := dd_head (l.map (ph g)) (ph g x)
  have ex' : spots (plc (nearM g 1 ps)) = ph g x :: t := by rw [near_spots, ex, List.map_cons, ht]
  rw [meet_at hv ho ex, meet_at hv' (by rw [near_all]; exact ho) ex']
  rw [ex] at e
  cases P with
  | nil =>
    obtain ⟨rfl, rfl⟩ := List.cons.inj e
    have := h1.e.1 rfl
    unfold ph sgnT; simp; omega
  | cons a P =>
    obtain ⟨rfl, rfl⟩ := List.cons.inj e
    have := h1.e.2 (by simp)
    have hx := (pw_split hs).2.2.1 x (by simp)
    unfold ph sgnT
    rw [if_neg (by omega), if_pos hx]; omega
theorem two_split {ps : List Pn} {g : Int} (h2 : ¬ (spots (plc ps)).length ≤ 1) {P Q : List Int} (e : spots (plc ps) = P ++ g :: Q) : P ≠ [] ∨ Q ≠ [] := by
  cases P with
  | cons a P => exact .inl (by simp)
  | nil => cases Q with
    | cons a Q => exact .inr (by simp)
    | nil => rw [e] at h2; simp at h2
theorem loud_split {ps : List Pn} {g : Int} (h : g ∈ loudM ps) : ∃ P Q, spots (plc ps) = P ++ g :: Q := List.append_of_mem ((List.mem_filter.mp h).1)
theorem last_of {ps : List Pn} (ho : vAll ps % 2 = 1) {z : Int} (h : (spots (plc ps)).getLast? = some z) : isOddV ps z = true := by
  obtain ⟨l, e⟩ := List.getLast?_eq_some_iff.mp h
  exact last_odd ho e
/-- one call takes from the greatest number just one -/
theorem call_most {ps : List Pn} (hv : voicesOk ps) (ho : vAll ps % 2 = 1) (h2 : ¬ (spots (plc ps)).length ≤ 1) : ∃ g, g ∈ loudM ps ∧ eW (wkM (nearM g 1 ps)) + hW (wkM (nearM g 1 ps)) = eW (wkM ps) + hW (wkM ps) - 1 := by
  obtain ⟨z, hz⟩ : ∃ z, (spots (plc ps)).getLast? = some z := by
    cases e : (spots (plc ps)).getLast? with
    | none => rw [List.getLast?_eq_none_iff] at e; rw [e] at h2; simp at h2
    | some z => exact ⟨z, rfl⟩
  obtain ⟨P, g, Q, e, k1, k2⟩ := rise_split (isOddV ps) _ z hz (last_of ho hz)
  have hl : g ∈ loudM ps := (loud_kb e).mpr (by rw [k1, k2]; simp)
  exact ⟨g, hl, (near_lost hv ho e (two_split h2 e) hl).2.2.1 k2⟩
/-- one call takes from the least number just one -/
theorem call_least {ps : List Pn} (hv : voicesOk ps) (ho : vAll ps % 2 = 1) (h2 : ¬ (spots (plc ps)).length ≤ 1) : ∃ g, g ∈ loudM ps ∧ max (oW (wkM (nearM g 1 ps))) (eW (wkM (nearM g 1 ps))) = max (oW (wkM ps)) (eW (wkM ps)) - 1 := by
  obtain ⟨x, l, ex⟩ : ∃ x l, spots (plc ps) = x :: l := by
    cases e : spots (plc ps) with
    | nil => rw [e] at h2; simp at h2
    | cons x l => exact ⟨x, l, rfl⟩
  have key : ∀ {P g Q}, spots (plc ps) = P ++ g :: Q → g ∈ loudM ps → _ := fun {P g Q} e hl => near_lost (P := P) (Q := Q) (g := g) hv ho e (two_split h2 e) hl
  rcases mid_split (isOddV ps) l x with h | ⟨P, z, g, Q, e, h1, h3⟩
  · have hall : ∀ q ∈ wkM ps, q.2 = isOddV ps x := fun q hq => by
      obtain ⟨a, ha, rfl⟩ := List.mem_map.mp hq
      unfold wgapsM at ha
      rw [ex] at ha
      obtain ⟨_, _, c1, c2⟩ := gapL_in _ _ _ ha
      show a.2.2 = _
      rw [c1]; exact h _ c2
    cases hx : isOddV ps x with
    | true =>
      have he := eW_none (A := wkM ps) fun q hq => (hall q hq).trans hx
      have hl : x ∈ loudM ps := (loud_kb (P := []) ex).mpr (by rw [hx]; exact Bool.false_ne_true)
      obtain ⟨k1, _, _, _, k5, _⟩ := key (P := []) ex hl
      obtain ⟨k6, k7⟩ := k5 rfl
      have := k1.e.1 rfl
      exact ⟨x, hl, by omega⟩
    | false =>
      have he := oW_none (A := wkM ps) fun q hq => (hall q hq).trans hx
      obtain ⟨P, g, e⟩ : ∃ P g, spots (plc ps) = P ++ [g] := ⟨_, _, (List.dropLast_concat_getLast (by rw [ex]; simp)).symm⟩
      have hP : P ≠ [] := fun q => by subst q; rw [e] at h2; simp at h2
      have hg := last_odd ho e
      have hk : kbL (isOddV ps) P = false := by
        obtain ⟨P', z, rfl⟩ : ∃ P' z, P = P' ++ [z] := ⟨P.dropLast, P.getLast hP, (List.dropLast_concat_getLast hP).symm⟩
        rw [kbL_snoc, ← hx]
        refine h z ?_
        rw [← ex, e, List.dropLast_concat]; simp
      have hl : g ∈ loudM ps := (loud_kb e).mpr (by rw [hk, hg]; exact Bool.false_ne_true)
      obtain ⟨k1, _, _, _, _, k6, k7⟩ := key e hl
      have := k1.e.2 hP
      have := k6 hP
      have := k7 rfl
      exact ⟨g, hl, by omega⟩
  · have e' : spots (plc ps) = (P ++ [z]) ++ g :: Q := by rw [ex, e]; simp
    have hl : g ∈ loudM ps := (loud_kb e').mpr (by rw [kbL_snoc]; exact h3)
    obtain ⟨k1, _, _, k4, _⟩ := key e' hl
    have := k1.e.2 (by simp)
    have := k4 (by simp) h1
    exact ⟨g, hl, by omega⟩
/-- no call takes more than one of the least number, or less than one of the greatest -/
theorem call_any {ps : List Pn} (hv : voicesOk ps) (ho : vAll ps % 2 = 1) (h2 : ¬ (spots (plc ps)).length ≤ 1) {g : Int} (hl : g ∈ loudM ps) :
    max (oW (wkM ps)) (eW (wkM ps)) - 1 ≤ max (oW (wkM (nearM g 1 ps))) (eW (wkM (nearM g 1 ps))) ∧ eW (wkM (nearM g 1 ps)) + hW (wkM (nearM g 1 ps)) ≤ eW (wkM ps) + hW (wkM ps) - 1 ∧ tsum (vpM (nearM g 1 ps)) = tsum (vpM ps) := by
  obtain ⟨P, Q, e⟩ := loud_split hl
  obtain ⟨k1, k2, _⟩ := near_lost hv ho e (two_split h2 e) hl
  refine ⟨?_, k1.m, k2⟩
  have := k1.o
  by_cases h : P = []
  · have := k1.e.1 h; omega
  · have := k1.e.2 h; omega
theorem nums_ok (ps : List Pn) : 0 ≤ oW (wkM ps) ∧ 0 ≤ eW (wkM ps) ∧ 0 ≤ hW (wkM ps) ∧ max (oW (wkM ps)) (eW (wkM ps)) ≤ eW (wkM ps) + hW (wkM ps) := by
  have h1 := oW_nn (wkM_nn ps)
  have h2 := eW_nn (wkM_nn ps)
  have h3 := hW_pos (wkM ps)
  have h4 := hW_tot (wkM ps)
  omega


end DL
set_option maxRecDepth 100000
set_option maxHeartbeats 4000000
namespace DL
open PySem L2 PyProof.Rows PySem.Spec
/-! ### the law's sums, heights, numbers -/
def htG : Int → List (Int × Bool) → List Int
  | h, g :: r => (h + (if g.2 = true then g.1 else -g.1)) :: htG (h + (if g.2 = true then g.1 else -g.1)) r
  | _, [] => []
theorem hW_top : ∀ (G : List (Int × Bool)) (h : Int), h + hW G ∈ h :: htG h G ∧ ∀ y ∈ h :: htG h G, y ≤ h + hW G
  | [], h => by simp [hW, htG]
  | g :: r, h => by
    obtain ⟨h1, h2⟩ := hW_top r (h + (if g.2 = true then g.1 else -g.1))
    have hp := hW_pos r
    rw [hW, htG]
    generalize (if g.2 = true then g.1 else -g.1) = w at h1 h2 ⊢
    refine ⟨?_, fun y hy => ?_⟩
    · by_cases q : 0 ≤ w + hW r
      · rw [show h + max 0 (w + hW r) = h + w + hW r by omega]
        exact List.mem_cons_of_mem _ h1
      · rw [show h + max 0 (w + hW r) = h by omega]
        exact List.mem_cons_self
    · rcases List.mem_cons.mp hy with e | e
      · omega
      · have := h2 y e; omega
theorem htG_len : ∀ (G : List (Int × Bool)) (h : Int), (htG h G).length = G.length
  | [], _ => rfl
  | g :: r, h => by simp [htG, htG_len r]
theorem sumf_odd : ∀ gs : List Gp, ((gs.filter fun g => g.2.2).map fun g => g.2.1).sum = oW (gs.map wk)
  | [] => rfl
  | g :: gs => by
    rw [List.filter_cons, List.map_cons, oW, ← sumf_odd gs]
    cases h : g.2.2 <;> simp [wk, h]
theorem sumf_all : ∀ gs : List Gp, (gs.map fun g => g.2.1).sum = oW (gs.map wk) + eW (gs.map wk)
  | [] => rfl
  | g :: gs => by
    rw [List.map_cons, List.sum_cons, List.map_cons, oW, eW, sumf_all gs]
    cases h : g.2.2 <;> simp [wk, h] <;> omega
section
variable {c : Cn} {C : Addr}
abbrev sWSum : Stmt := top 49
abbrev sWHt : Stmt := top 50
abbrev sWNum : Stmt := top 52
abbrev nWSum : List Str := ["_law_world_here", "_law_spots_here", "_law_odd", "_law_left", "_law_width", "_law_is_odd"]
theorem fsWSum : FnScope nWSum ["_law_world_here", "_law_spots_here"] (defScope sWSum) := ⟨rfl, rfl, rfl, by decide +kernel, rfl, by decide +kernel, by decide +kernel⟩
def rWT (C : Addr) (t : List Pn → D) : Fn := fun ds O d O' => ∃ ps : List Pn, ps.length < 64 ∧ ds = [worldD C ps, .tup ((plc ps).map .int)] ∧ d = t ps ∧ O' = O
theorem wgaps_len' (ps : List Pn) : (wgapsM ps).length ≤ ps.length := by
  have h1 := gapL_len (isOddV ps) (spots (plc ps))
  have h2 := spots_len (plc ps)
  have h3 : (plc ps).length = ps.length := List.length_map _
  unfold wgapsM; omega
theorem wsum_ok {f : Addr} {fd : FuncData} (F : Fun c.K "_law_sums" "_law_sums" sWSum f fd) (hm : c.mg "_law_sums" = some (.ref f)) (hb : Binds c.K fd ["_law_world_here", "_law_spots_here"] []) {j : Nat} (hj : j ≤ c.k) (GG : DefOk c "_law_gaps" (rWG C) ["_law_world_here", "_law_spots_here"] j) (hS : c.mg "sum" = none) :
    DefOk c "_law_sums" (rWT C fun ps => .tup [.int (oW (wkM ps)), .int (eW (wkM ps))]) ["_law_world_here", "_law_spots_here"] (c.k + 1) := by
  refine def_ok F hm hb fsWSum (fun ds O d O' h => ?_) fun ds O d O' h => ?_
  · obtain ⟨ps, _, rfl, _⟩ := h; rfl
  · obtain ⟨ps, hp, rfl, rfl, rfl⟩ := h
    have hgl := wgaps_len' ps
    refine ss_cons (s_set 2 (EE.eq (ee_callB hS (ea_cons (EE.eq (ee_lc [("_law_left", 3), ("_law_width", 4), ("_law_is_odd", 5)] (it_list (ee_call GG (ea_cons (ee_var 0) (ea_cons (ee_var 1) ea_nil)) ⟨ps, hp, rfl, rfl, rfl⟩ hj)) (cr_filter gB (fun g => .int g.2.1) (fun g => g.2.2) (wgapsM ps) fun g _ => ⟨_, _, gt_tup (gts_cons (gt_name 3) (gts_cons (gt_name 4) (gts_cons (gt_name 5) gts_nil))), by simp, ei_one (et_val (ee_var 5)), fun _ => ee_var 4⟩) (by simp; omega)) (d' := .lst ((((wgapsM ps).filter fun g => g.2.2).map fun g => g.2.1).map .int)) (by simp [List.map_map])) ea_nil) cd_sum) (d' := .int (oW (wkM ps))) (congrArg D.int (sumf_odd _)))) ?_
    refine ss_one (s_ret (ee_tup (ea_cons (ee_var 2) (ea_cons (EE.eq (ee_op (ee_callB hS (ea_cons (EE.eq (ee_lc [("_law_left", 3), ("_law_width", 4), ("_law_is_odd", 5)] (it_list (ee_call GG (ea_cons (ee_var 0) (ea_cons (ee_var 1) ea_nil)) ⟨ps, hp, rfl, rfl, rfl⟩ hj)) (cr_map gB (fun g => .int g.2.1) (wgapsM ps) fun g _ => ⟨_, _, gt_tup (gts_cons (gt_name 3) (gts_cons (gt_name 4) (gts_cons (gt_name 5) gts_nil))), by simp, ee_var 4⟩) (by simp; omega)) (d' := .lst (((wgapsM ps).map fun g => g.2.1).map .int)) (by simp [List.map_map])) ea_nil) cd_sum) (ee_var 2) od_sub) (congrArg D.int (by rw [sumf_all]; unfold wkM; omega))) ea_nil))))
abbrev nWHt : List Str := ["_law_world_here", "_law_spots_here", "_law_found", "_law_left", "_law_width", "_law_is_odd"]
abbrev scWHt : Sc := ⟨nWHt, defScope sWHt, fun _ => true, none⟩
theorem fsWHt : FnScope nWHt ["_law_world_here", "_law_spots_here"] (defScope sWHt) := ⟨rfl, rfl, rfl, by decide +kernel, rfl, by decide +kernel, by decide +kernel⟩
theorem wht_loop (a b : D) (O : Sto) : ∀ (gs : List Gp) (acc : List Int) (h : Int), acc.length + gs.length ≤ 1000 →
    FR c scWHt (loopT (stm sWHt 1)) (loopB (stm sWHt 1)) (gs.map gB) [some a, some b, some (.loc O.length), none, none, none] (O ++ [.lst ((acc ++ [h]).map .int)])
      (.nx [some a, some b, some (.loc O.length), none, none, none] (O ++ [.lst ((acc ++ h :: htG h (gs.map wk)).map .int)]))
  | [], acc, h, _ => FR.nil
  | g :: gs, acc, h, hl => by
    have ih := wht_loop a b O gs (acc ++ [h]) (h + (if g.2.2 = true then g.2.1 else -g.2.1)) (by simp at hl ⊢; omega)
    have e2 : acc ++ h :: htG h ((g :: gs).map wk) = (acc ++ [h]) ++ (h + (if g.2.2 = true then g.2.1 else -g.2.1)) :: htG (h + (if g.2.2 = true then g.2.1 else -g.2.1)) (gs.map wk) := by
      simp [htG, wk]
    rw [e2]
    have hL : (O ++ [Cell.lst ((acc ++ [h]).map .int)])[O.length]? = some (.lst ((acc ++ [h]).map .int)) := List.getElem?_concat_length ..
    have hlast : ((acc ++ [h]).map D.int).getLast? = some (.int h) := by simp
    refine .nx (gt_tup (gts_cons (gt_name 3) (gts_cons (gt_name 4) (gts_cons (gt_name 5) gts_nil)))) ?_ ih
    apply SS.less
    · skip
      refine ss_one (S1.nxO (s_expr (ee_append (ee_var 2) (ee_op (ee_ix (ee_var 2) (ee_un ee_int ud_neg) (ix_cell hL (atI_neg hlast))) (ee_if2 (d := .int (if g.2.2 = true then g.2.1 else -g.2.1)) (et_val (ee_var 5)) (fun e => EE.eq (ee_var 4) ?_) (fun e => EE.eq (ee_op ee_int (ee_var 4) od_sub) ?_)) od_add) hL hL (by simp at hl ⊢; omega))) ?_)
      · rw [if_pos e]
      · rw [if_neg (by rw [e]; exact Bool.false_ne_true)]; exact congrArg D.int (by omega)
      · simp [List.set_append]
    · exact Les.cons (Les.cons (Les.cons (Les.cut (Les.cut (Les.cut (Les.refl _))))))
theorem wht_ok {f : Addr} {fd : FuncData} (F : Fun c.K "_law_heights" "_law_heights" sWHt f fd) (hm : c.mg "_law_heights" = some (.ref f)) (hb : Binds c.K fd ["_law_world_here", "_law_spots_here"] []) {j : Nat} (hj : j ≤ c.k) (GG : DefOk c "_law_gaps" (rWG C) ["_law_world_here", "_law_spots_here"] j) :
    DefOk c "_law_heights" (rWT C fun ps => .lst ((0 :: htG 0 (wkM ps)).map .int)) ["_law_world_here", "_law_spots_here"] (c.k + 1) := by
  refine def_ok F hm hb fsWHt (fun ds O d O' h => ?_) fun ds O d O' h => ?_
  · obtain ⟨ps, _, rfl, _⟩ := h; rfl
  · obtain ⟨ps, hp, rfl, rfl, rfl⟩ := h
    have hgl := wgaps_len' ps
    refine SS.drop (J := [.dead]) ?_ (Nat.le_refl _) (D.free_lk _ _ (free_lst (freeAll_iff.mp (freeI _)))) id
    refine ss_cons (s_set 2 (ee_lstN (ea_cons ee_int ea_nil))) ?_
    refine ss_cons (s_for (it_list (ee_call GG (ea_cons (ee_var 0) (ea_cons (ee_var 1) ea_nil)) ⟨ps, hp, rfl, rfl, rfl⟩ hj)) (wht_loop _ _ O' (wgapsM ps) [] 0 (by simp; omega))) ?_
    refine SS.frz (k := O'.length) (m := 2) (List.getElem?_concat_length ..) rfl ?_
    refine SS.eqO ?_ (by simp [List.set_append] : O' ++ [Cell.dead] = _)
    exact ss_one (s_ret (ee_var 2))
abbrev nWNum : List Str := ["_law_world_here", "_law_spots_here", "_law_odd", "_law_even"]
theorem fsWNum : FnScope nWNum ["_law_world_here"] (defScope sWNum) := ⟨rfl, rfl, rfl, by decide +kernel, rfl, by decide +kernel, by decide +kernel⟩
theorem wnum_ok {f : Addr} {fd : FuncData} (F : Fun c.K "_law_numbers" "_law_numbers" sWNum f fd) (hm : c.mg "_law_numbers" = some (.ref f)) (hb : Binds c.K fd ["_law_world_here"] []) {j1 j2 j3 : Nat} (hj1 : j1 ≤ c.k) (hj2 : j2 ≤ c.k) (hj3 : j3 ≤ c.k)
    (GP : DefOk c "_law_spots" (rWorldAsk C fun ps => .tup ((plc ps).map .int)) ["_law_world_here"] j1) (GS : DefOk c "_law_sums" (rWT C fun ps => .tup [.int (oW (wkM ps)), .int (eW (wkM ps))]) ["_law_world_here", "_law_spots_here"] j2) (GH : DefOk c "_law_heights" (rWT C fun ps => .lst ((0 :: htG 0 (wkM ps)).map .int)) ["_law_world_here", "_law_spots_here"] j3) (hM : c.mg "max" = none) :
    DefOk c "_law_numbers" (rWorldAsk C fun ps => .tup [.int (max (oW (wkM ps)) (eW (wkM ps))), .int (eW (wkM ps) + hW (wkM ps))]) ["_law_world_here"] (c.k + 1) := by
  refine def_ok F hm hb fsWNum (fun ds O d O' h => ?_) fun ds O d O' h => ?_
  · obtain ⟨ps, _, rfl, _⟩ := h; rfl
  · obtain ⟨ps, hp, rfl, rfl, rfl⟩ := h
    obtain ⟨t1, t2⟩ := hW_top (wkM ps) 0
    rw [Int.zero_add] at t1 t2
    refine ss_cons (s_set 1 (ee_call GP (ea_cons (ee_var 0) ea_nil) ⟨ps, hp, rfl, rfl, rfl⟩ hj1)) ?_
    refine ss_cons (s_unpack (ee_call GS (ea_cons (ee_var 0) (ea_cons (ee_var 1) ea_nil)) ⟨ps, hp, rfl, rfl, rfl⟩ hj2) (gt_tup (gts_cons (gt_name 2) (gts_cons (gt_name 3) gts_nil)))) ?_
    exact ss_one (s_ret (ee_tup (ea_cons (ee_callB hM (ea_cons (ee_var 2) (ea_cons (ee_var 3) ea_nil)) cd_max) (ea_cons (ee_op (ee_var 3) (ee_callB hM (ea_cons (ee_call GH (ea_cons (ee_var 0) (ea_cons (ee_var 1) ea_nil)) ⟨ps, hp, rfl, rfl, rfl⟩ hj3) ea_nil) (cd_maxL t1 t2)) od_add) ea_nil))))
end

/-! ### the law's sum by turns -/
theorem voL_range : ∀ ps : List Pn, ((List.range ps.length).filter fun k => decide (voiceAt ps k = 1)).map (fun k => (plc ps).getD k 0) = voL ps
  | [] => rfl
  | p :: r => by
    have ih := voL_range r
    have e1 : (((List.range r.length).map Nat.succ).filter fun k => decide (voiceAt (p :: r) k = 1)).map (fun k => (plc (p :: r)).getD k 0) = voL r := by
      rw [List.filter_map, List.map_map, ← ih]; rfl
    rw [List.length_cons, List.range_succ_eq_map, List.filter_cons]
    have e2 : voiceAt (p :: r) 0 = p.2.2 := rfl
    have e3 : voL (p :: r) = if decide (p.2.2 = 1) = true then p.2.1 :: voL r else voL r := by
      unfold voL; rw [List.filter_cons]; split <;> rfl
    rw [e2, e3]
    split
    · rw [List.map_cons, e1]; rfl
    · exact e1
theorem tsum_snoc (x : Int) : ∀ l : List Int, tsum (l ++ [x]) = tsum l + (if l.length % 2 = 0 then x else -x)
  | [] => by simp [tsum, ev2]
  | y :: l => by
    rw [List.cons_append, tsum_cons, tsum_cons, tsum_snoc x l, List.length_cons]
    rcases Nat.mod_two_eq_zero_or_one l.length with h | h
    · rw [if_pos h, if_neg (by omega)]; omega
    · rw [if_neg (by omega), if_pos (by omega)]; omega
section
variable {c : Cn} {C : Addr}
abbrev sWTurn : Stmt := top 51
abbrev nWTurn : List Str := ["_law_world_here", "_law_spots_here", "_law_places", "_law_found", "_law_k"]
abbrev scWTurn : Sc := ⟨nWTurn, defScope sWTurn, fun _ => true, none⟩
theorem fsWTurn : FnScope nWTurn ["_law_world_here", "_law_spots_here"] (defScope sWTurn) := ⟨rfl, rfl, rfl, by decide +kernel, rfl, by decide +kernel, by decide +kernel⟩
theorem wturn_loop (hI : c.mg "int" = none) (a b : D) (L : List Int) (O : Sto) : ∀ (m k : Nat), k + m = L.length →
    FR c scWTurn (loopT (stm sWTurn 1)) (loopB (stm sWTurn 1)) ((List.range' k m).map fun k : Nat => .int (k : Int)) [some a, some b, some (.lst (L.map .int)), some (.int (tsum (L.take k))), none] O
      (.nx [some a, some b, some (.lst (L.map .int)), some (.int (tsum L)), none] O)
  | 0, k, h => by
    have : L.take k = L := List.take_of_length_le (by omega)
    rw [this]; exact FR.nil
  | m + 1, k, h => by
    have ih := wturn_loop hI a b L O m (k + 1) (by omega)
    have hk : k < L.length := by omega
    have hg : (L.map D.int)[k]? = some (.int L[k]) := by rw [List.getElem?_map, List.getElem?_eq_getElem hk]; rfl
    have et : tsum (L.take (k + 1)) = tsum (L.take k) + (if k % 2 = 0 then L[k] else -L[k]) := by
      rw [List.take_succ_eq_append_getElem hk, tsum_snoc, List.length_take, Nat.min_eq_left (by omega)]
    have hd : decide ((k : Int) % 2 = 0) = decide (k % 2 = 0) := by rw [decide_eq_decide]; omega
    rw [et] at ih
    rw [List.range'_succ, List.map_cons]
    refine .nx (gt_name 4) ?_ ih
    apply SS.less
    · skip
      refine ss_one (s_set 3 (ee_op (ee_var 3) (ee_if2 (d := .int (if k % 2 = 0 then L[k] else -L[k])) (ET.eq (et_cmp (ee_op (ee_callTy hI (ea_cons (ee_var 4) ea_nil) cd_int) ee_int (od_mod (by decide))) ee_int od_eqI) hd) (fun e => EE.eq (ee_ix (ee_var 2) (ee_var 4) (ix_lst (atI_get hg))) ?_) (fun e => EE.eq (ee_op ee_int (ee_ix (ee_var 2) (ee_var 4) (ix_lst (atI_get hg))) od_sub) ?_)) od_add))
      · rw [if_pos (of_decide_eq_true e)]
      · rw [if_neg (of_decide_eq_false e)]; exact congrArg D.int (by omega)
    · exact Les.cons (Les.cons (Les.cons (Les.cons (Les.cut (Les.refl _)))))
theorem wturn_ok {f : Addr} {fd : FuncData} (F : Fun c.K "_law_by_turns" "_law_by_turns" sWTurn f fd) (hm : c.mg "_law_by_turns" = some (.ref f)) (hb : Binds c.K fd ["_law_world_here", "_law_spots_here"] []) (h1 : c.mg "sorted" = none) (h2 : c.mg "range" = none) (h3 : c.mg "len" = none) (hI : c.mg "int" = none) :
    DefOk c "_law_by_turns" (rWT C fun ps => .int (tsum (vpM ps))) ["_law_world_here", "_law_spots_here"] (c.k + 1) := by
  refine def_ok F hm hb fsWTurn (fun ds O d O' h => ?_) fun ds O d O' h => ?_
  · obtain ⟨ps, _, rfl, _⟩ := h; rfl
  · obtain ⟨ps, hp, rfl, rfl, rfl⟩ := h
    have hpl : (plc ps).length = ps.length := List.length_map _
    have hvl := vpM_len ps
    have er : rangeD 0 ((((plc ps).map D.int).length : Nat) : Int).toNat = (List.range ps.length).map fun k : Nat => .int (k : Int) := by unfold rangeD; simp [hpl]
    have er2 : rangeD 0 ((((vpM ps).map D.int).length : Nat) : Int).toNat = (List.range' 0 (vpM ps).length).map fun k : Nat => .int (k : Int) := by unfold rangeD; rw [List.range_eq_range']; simp
    refine ss_cons (s_par (i := 2) (j := 3) rfl rfl (ea_cons (ee_callB h1 (ea_cons (EE.eq (ee_lc (O2 := O') (rs := (((List.range ps.length).filter fun k => decide (voiceAt ps k = 1)).map fun k => D.int ((plc ps).getD k 0))) [("_law_k", 4)] (it_range1 h2 (ee_callB h3 (ea_cons (ee_var 1) ea_nil) cd_lenT) (by first | omega | (simp; done) | (simp; omega)) (by first | omega | (simp; done) | (simp; omega))) ?_ (by rw [er]; simp; omega)) (d' := .lst ((voL ps).map .int)) (by rw [← voL_range, List.map_map]; rfl)) ea_nil) cd_sortedI) (ea_cons ee_int ea_nil))) ?_
    · rw [er]
      exact cr_filter (fun k : Nat => .int (k : Int)) (fun k : Nat => .int ((plc ps).getD k 0)) (fun k => decide (voiceAt ps k = 1)) (List.range ps.length) fun k hk => by
        have hk := List.mem_range.mp hk
        refine ⟨_, _, gt_name 4, by simp, ei_one (et_cmp (ee_ix (ee_ix (world_ppl (ee_var 0) ee_str) (ee_var 4) (ix_lst (d := pD ps[k]) (atI_get (by rw [List.getElem?_map, List.getElem?_eq_getElem hk]; rfl)))) ee_int (ix_tp (d := .int (voiceAt ps k)) (by unfold voiceAt; rw [List.getElem?_eq_getElem hk]; rfl))) ee_int od_eqI), fun _ => ee_ix (ee_var 1) (ee_var 4) (ix_tp (d := .int ((plc ps).getD k 0)) (atI_get ?_))⟩
        rw [List.getElem?_map, List.getD_eq_getElem?_getD, List.getElem?_eq_getElem (by omega)]; rfl
    refine ss_cons (s_for (it_range1 h2 (ee_callB h3 (ea_cons (ee_var 2) ea_nil) cd_lenL) (by first | omega | (simp; done) | (simp; omega)) (by first | omega | (simp; done) | (simp; omega))) (er2.symm ▸ wturn_loop hI _ _ (vpM ps) O' (vpM ps).length 0 (by omega))) ?_
    exact ss_one (s_ret (ee_var 3))
end


end DL
set_option maxRecDepth 100000
set_option maxHeartbeats 4000000
namespace DL
open PySem L2 PyProof.Rows PySem.Spec
/-! ### where they meet -/
section
variable {c : Cn} {C : Addr}
abbrev pAskOdd : Stmt := top 29
theorem fsAskOdd : FnScope ["standing"] ["standing"] (defScope pAskOdd) := ⟨rfl, rfl, rfl, by decide +kernel, rfl, by decide +kernel, by decide +kernel⟩
def rOddV (C : Addr) (t : List Pn → D) : Fn := fun ds O d O' => ∃ ps : List Pn, ps.length < 64 ∧ vAll ps % 2 = 1 ∧ ds = [standD C ps] ∧ d = t ps ∧ O' = O
theorem askOdd_ok {f : Addr} {fd : FuncData} (F : Fun c.K "ask_odd_voices" "ask_odd_voices" pAskOdd f fd) (hm : c.mg "ask_odd_voices" = some (.ref f)) (hb : Binds c.K fd ["standing"] []) {j : Nat} (hj : j ≤ c.k) (T : CS c C) (GV : MethOk c C "voices" (rTells C fun ps => .int (vsumAll ps)) ["self"] j) : DefOk c "ask_odd_voices" (rOddV C fun _ => .non) ["standing"] (c.k + 1) := by
  refine ⟨f, fd, fn_body F fsAskOdd (fun ds O d O' h => ?_) (fun ds O d O' h => ?_), hm, F.kp, hb⟩
  · obtain ⟨ps, _, _, rfl, _⟩ := h; rfl
  · obtain ⟨ps, hl, ho, rfl, rfl, rfl⟩ := h
    have ho : vsumAll ps % 2 = 1 := ho
    exact ⟨_, rfl, ss_one (s_ifF (ET.eq (et_cmp (ee_op (ee_meth0 (ee_var 0) T.cl GV (by decide +kernel) ⟨ps, hl, rfl, rfl, rfl⟩ hj) ee_int (od_mod (by decide))) ee_int od_eqI) (by rw [ho]; rfl)) ss_nil)⟩
end

section
variable {c : Cn} {C : Addr}
abbrev pMeet : Stmt := top 30
theorem fsMeet : FnScope ["standing"] ["standing"] (defScope pMeet) := ⟨rfl, rfl, rfl, by decide +kernel, rfl, by decide +kernel, by decide +kernel⟩
theorem meet_ok {f : Addr} {fd : FuncData} (F : Fun c.K "meeting_place" "meeting_place" pMeet f fd) (hm : c.mg "meeting_place" = some (.ref f)) (hb : Binds c.K fd ["standing"] []) {j1 j2 : Nat} (hj1 : j1 ≤ c.k) (hj2 : j2 ≤ c.k) (GA : DefOk c "ask_odd_voices" (rOddV C fun _ => .non) ["standing"] j1) (GT : DefOk c "turn_sum" (rTells C fun ps => .int (tsum (vpM ps))) ["standing"] j2) : DefOk c "meeting_place" (rOddV C fun ps => .int (tsum (vpM ps))) ["standing"] (c.k + 1) := by
  refine def_ok F hm hb fsMeet (fun ds O d O' h => ?_) fun ds O d O' h => ?_
  · obtain ⟨ps, _, _, rfl, _⟩ := h; rfl
  · obtain ⟨ps, hl, ho, rfl, rfl, rfl⟩ := h
    refine ss_cons (s_expr (ee_call GA (ea_cons (ee_var 0) ea_nil) ⟨ps, hl, ho, rfl, rfl, rfl⟩ hj1)) ?_
    exact ss_one (s_ret (ee_call GT (ea_cons (ee_var 0) ea_nil) ⟨ps, hl, rfl, rfl, rfl⟩ hj2))
end

/-! ### turned, shifted -/
def mapP (f : Int → Int) (ps : List Pn) : List Pn := ps.map fun p => (p.1, f p.2.1, p.2.2)
theorem mapP_ok (f : Int → Int) {ps : List Pn} (h : PsOk ps) : PsOk (mapP f ps) := by
  obtain ⟨h1, h2, h3⟩ := h
  refine ⟨fun p hp => ?_, ?_, by simpa [mapP] using h3⟩
  · obtain ⟨q, hq, rfl⟩ := List.mem_map.mp hp; exact h1 q hq
  · have e : (mapP f ps).map (·.1) = ps.map (·.1) := by unfold mapP; rw [List.map_map]; rfl
    rw [e]; exact h2
theorem mapP_all (f : Int → Int) (ps : List Pn) : vAll (mapP f ps) = vAll ps := by
  unfold vAll mapP; rw [List.map_map]; rfl
theorem mapP_vo (f : Int → Int) (ps : List Pn) : voL (mapP f ps) = (voL ps).map f := by
  unfold voL mapP
  rw [List.filter_map, List.map_map, List.map_map]; rfl
theorem tsum_rev : ∀ l : List Int, tsum l.reverse = if l.length % 2 = 1 then tsum l else -tsum l
  | [] => by simp [tsum, ev2]
  | x :: l => by
    rw [List.reverse_cons, tsum_snoc, tsum_rev l, tsum_cons, List.length_reverse, List.length_cons]
    rcases Nat.mod_two_eq_zero_or_one l.length with h | h
    · rw [if_neg (by omega), if_pos (by omega), if_pos (by omega)]; omega
    · rw [if_pos h, if_neg (by omega), if_neg (by omega)]; omega
theorem tsum_neg : ∀ l : List Int, tsum (l.map fun x => -x) = -tsum l
  | [] => by simp [tsum, ev2]
  | x :: l => by rw [List.map_cons, tsum_cons, tsum_cons, tsum_neg l]; omega
theorem srt_neg (ns : List Int) : srt (ns.map fun x => -x) = ((srt ns).map fun x => -x).reverse := by
  refine (srt_uniq ((List.reverse_perm _).trans ((srt_perm ns).map _)) ?_).symm
  rw [List.pairwise_reverse, List.pairwise_map]
  exact (srt_pw ns).imp fun {a b} h => by omega
theorem turned_sum {ps : List Pn} (hv : voicesOk ps) (ho : vAll ps % 2 = 1) : tsum (vpM (mapP (fun x => -x) ps)) = -tsum (vpM ps) := by
  have h := vp_cnt hv
  unfold vpM at h ⊢
  rw [mapP_vo, srt_neg, tsum_rev, List.length_map, if_pos (by omega), tsum_neg]
theorem shifted_sum {ps : List Pn} (hv : voicesOk ps) (ho : vAll ps % 2 = 1) (b : Int) : tsum (vpM (mapP (fun x => x + b) ps)) = tsum (vpM ps) + b := by
  have h := vp_cnt hv
  unfold vpM at h ⊢
  rw [mapP_vo, srt_shift, tsum_shift, show ((srt (voL ps)).length : Int) % 2 = 1 by omega, Int.mul_one]
section
variable {c : Cn} {C : Addr}
abbrev pTurnSt : Stmt := top 19
abbrev pShiftSt : Stmt := top 20
abbrev nTurnSt : List Str := ["standing", "name", "place", "voice"]
theorem fsTurnSt : FnScope nTurnSt ["standing"] (defScope pTurnSt) := ⟨rfl, rfl, rfl, by decide +kernel, rfl, by decide +kernel, by decide +kernel⟩
def rTurnSt (C : Addr) : Fn := fun ds O d O' => ∃ ps : List Pn, PsOk ps ∧ ds = [standD C ps] ∧ d = standD C (mapP (fun x => -x) ps) ∧ O' = O
theorem turnSt_ok {f : Addr} {fd : FuncData} (F : Fun c.K "turned_standing" "turned_standing" pTurnSt f fd) (hm : c.mg "turned_standing" = some (.ref f)) (hb : Binds c.K fd ["standing"] []) {j1 j2 : Nat} (hj1 : j1 ≤ c.k) (hj2 : j2 + 1 ≤ c.k) (T : CS c C) (GP : MethOk c C "people" (rPpls C) ["self"] j1) (GM : MakeOk c C (rInit C) ["self", "people"] j2) (hC : c.mg "Standing" = some (.ref C)) : DefOk c "turned_standing" (rTurnSt C) ["standing"] (c.k + 1) := by
  refine def_ok F hm hb fsTurnSt (fun ds O d O' h => ?_) fun ds O d O' h => ?_
  · obtain ⟨ps, _, rfl, _⟩ := h; rfl
  · obtain ⟨ps, hok, rfl, rfl, rfl⟩ := h
    have hl := hok.2.2
    exact ss_one (s_ret (stand_new GM hC (mapP_ok _ hok) (ea_cons (EE.eq (ee_lc [("name", 1), ("place", 2), ("voice", 3)] (it_list (ee_meth0 (ee_var 0) T.cl GP (by decide +kernel) ⟨ps, rfl, rfl, rfl⟩ hj1)) (cr_map pD (fun p => pD (p.1, -p.2.1, p.2.2)) ps fun p _ => ⟨_, _, gt_tup (gts_cons (gt_name 1) (gts_cons (gt_name 2) (gts_cons (gt_name 3) gts_nil))), by simp, ee_tup (ea_cons (ee_var 1) (ea_cons (ee_un (ee_var 2) ud_neg) (ea_cons (ee_var 3) ea_nil)))⟩) (by simp; omega)) (by simp [mapP, List.map_map])) ea_nil) hj2 (Nat.le_refl _) id))
abbrev nShiftSt : List Str := ["standing", "by", "name", "place", "voice"]
theorem fsShiftSt : FnScope nShiftSt ["standing", "by"] (defScope pShiftSt) := ⟨rfl, rfl, rfl, by decide +kernel, rfl, by decide +kernel, by decide +kernel⟩
def rShiftSt (C : Addr) : Fn := fun ds O d O' => ∃ (ps : List Pn) (b : Int), PsOk ps ∧ ds = [standD C ps, .int b] ∧ d = standD C (mapP (fun x => x + b) ps) ∧ O' = O
theorem shiftSt_ok {f : Addr} {fd : FuncData} (F : Fun c.K "shifted_standing" "shifted_standing" pShiftSt f fd) (hm : c.mg "shifted_standing" = some (.ref f)) (hb : Binds c.K fd ["standing", "by"] []) {j1 j2 : Nat} (hj1 : j1 ≤ c.k) (hj2 : j2 + 1 ≤ c.k) (T : CS c C) (GP : MethOk c C "people" (rPpls C) ["self"] j1) (GM : MakeOk c C (rInit C) ["self", "people"] j2) (hC : c.mg "Standing" = some (.ref C)) : DefOk c "shifted_standing" (rShiftSt C) ["standing", "by"] (c.k + 1) := by
  refine def_ok F hm hb fsShiftSt (fun ds O d O' h => ?_) fun ds O d O' h => ?_
  · obtain ⟨ps, b, _, rfl, _⟩ := h; rfl
  · obtain ⟨ps, b, hok, rfl, rfl, rfl⟩ := h
    have hl := hok.2.2
    exact ss_one (s_ret (stand_new GM hC (mapP_ok _ hok) (ea_cons (EE.eq (ee_lc [("name", 2), ("place", 3), ("voice", 4)] (it_list (ee_meth0 (ee_var 0) T.cl GP (by decide +kernel) ⟨ps, rfl, rfl, rfl⟩ hj1)) (cr_map pD (fun p => pD (p.1, p.2.1 + b, p.2.2)) ps fun p _ => ⟨_, _, gt_tup (gts_cons (gt_name 2) (gts_cons (gt_name 3) (gts_cons (gt_name 4) gts_nil))), by simp, ee_tup (ea_cons (ee_var 2) (ea_cons (ee_op (ee_var 3) (ee_var 1) od_add) (ea_cons (ee_var 4) ea_nil)))⟩) (by simp; omega)) (by simp [mapP, List.map_map])) ea_nil) hj2 (Nat.le_refl _) id))
end


end DL
set_option maxRecDepth 100000
set_option maxHeartbeats 4000000
namespace DL
open PySem L2 PyProof.Rows PySem.Spec
theorem word_lay {x : Str} (h : isWordM x = true) : PyData.strOk x = true := by
  have hall : x.cps.toList.all (fun k => decide (k ∈ lettersD.cps.toList)) = true := by
    unfold isWordM at h
    simp only [Bool.and_eq_true] at h
    exact h.2.2
  have small : ∀ k ∈ lettersD.cps.toList, k < 0x110000 := by decide +kernel
  unfold PyData.strOk
  rw [← Array.all_toList]
  exact List.all_eq_true.mpr fun k hk => decide_eq_true (small k (by simpa using (List.all_eq_true.mp hall) k hk))
theorem lay_words : ∀ {l : List Str}, (∀ s ∈ l, isWordM s = true) → LayD (.lst (l.map .str)) := fun {l} h => by
  have hd : datAll (l.map .str) = true := by
    clear h
    induction l with
    | nil => rfl
    | cons s l ih => simp [datAll, D.dat, ih]
  have hc : PyData.canLayAll0 (pyAll (l.map .str)) = true := by
    clear hd
    induction l with
    | nil => rfl
    | cons s l ih => simp [pyAll, PyData.canLayAll0, PyData.canLay0, D.py, word_lay (h s List.mem_cons_self), ih fun q hq => h q (List.mem_cons_of_mem _ hq)]
  have hq : PyData.depthAll (pyAll (l.map .str)) ≤ 1 := by
    clear hd hc h
    induction l with
    | nil => exact Nat.zero_le _
    | cons s l ih => exact Nat.max_le.mpr ⟨Nat.le_of_ble_eq_true rfl, ih⟩
  refine ⟨by simpa [D.dat] using hd, ?_⟩
  unfold SeqAt.shaped
  refine Bool.and_eq_true_iff.mpr ⟨hc, decide_eq_true ?_⟩
  show PyData.depthAll (pyAll (l.map .str)) + 1 ≤ 64
  omega

/-! ### the way of a standing -/
theorem eqv_strs0 (l : List Str) : PyData.eqv (D.lst (l.map .str)).py (D.lst []).py = decide (l = []) := by
  cases l <;> rfl
theorem eqv_int (a b : Int) : PyData.eqv (D.int a).py (D.int b).py = decide (a = b) := by show (a == b) = _; rw [Bool.eq_iff_iff]; simp
def callsM (ps : List Pn) : List Int := if (spots (plc ps)).length ≤ 1 then [] else loudM ps
theorem callM_map (ps : List Pn) : callM ps = (callsM ps).map (firstAt ps) := by unfold callM callsM; split <;> rfl
theorem calls_mem {ps : List Pn} {y : Int} (h : y ∈ callsM ps) : y ∈ loudM ps ∧ ¬ (spots (plc ps)).length ≤ 1 := by
  unfold callsM at h; split at h
  · cases h
  · rename_i g; exact ⟨h, g⟩
theorem calls_len (ps : List Pn) : (callsM ps).length ≤ ps.length := by
  have h1 := spots_len (plc ps)
  have h2 : (plc ps).length = ps.length := List.length_map _
  have h3 : (loudM ps).length ≤ (spots (plc ps)).length := List.length_filter_le ..
  unfold callsM; split
  · exact Nat.zero_le _
  · omega
theorem call_words {ps : List Pn} (h : PsOk ps) : ∀ s ∈ callM ps, isWordM s = true := fun s hs => by
  rw [callM_map] at hs
  obtain ⟨y, hy, rfl⟩ := List.mem_map.mp hs
  obtain ⟨p, hp, e1, e2, _⟩ := firstAt_get (loud_mem (calls_mem hy).1)
  rw [← e2]; exact (h.1 p hp).1
theorem calls_tog {ps : List Pn} (hv : voicesOk ps) (ho : vAll ps % 2 = 1) : callsM ps = [] ↔ (spots (plc ps)).length ≤ 1 := by
  unfold callsM
  split
  · rename_i h; exact ⟨fun _ => h, fun _ => rfl⟩
  · rename_i h
    obtain ⟨g, hg, _⟩ := call_most hv ho h
    exact ⟨fun q => (by rw [q] at hg; cases hg), fun q => absurd q h⟩
theorem near_vo {ps : List Pn} {g k : Int} (hv : voicesOk ps) : voicesOk (nearM g k ps) := fun p hp => by
  obtain ⟨q, hq, rfl⟩ := List.mem_map.mp hp; exact hv q hq
/-- what stays of a standing on the way -/
structure Way (T : Int) (qs : List Pn) : Prop where
  ok : PsOk qs
  odd : vAll qs % 2 = 1
  sum : tsum (vpM qs) = T
theorem Way.spots {T : Int} {qs : List Pn} (h : Way T qs) : ∃ x l, spots (plc qs) = x :: l := by
  cases e : DL.spots (plc qs) with
  | nil =>
    have : qs = [] := by
      cases qs with
      | nil => rfl
      | cons p r => have := in_spots (ps := p :: r) (p := p) List.mem_cons_self; rw [e] at this; cases this
    have ho := h.odd
    rw [this] at ho; cases ho
  | cons x l => exact ⟨x, l, rfl⟩
theorem Way.tog {T : Int} {qs : List Pn} (h : Way T qs) (h1 : (DL.spots (plc qs)).length ≤ 1) : DL.spots (plc qs) = [T] := by
  obtain ⟨x, l, e⟩ := h.spots
  rw [e] at h1
  have hl : l = [] := List.eq_nil_of_length_eq_zero (by rw [List.length_cons] at h1; omega)
  subst hl
  have hm := meet_at h.ok.vo h.odd e
  have hg : wkM qs = [] := by unfold wkM wgapsM; rw [e]; rfl
  rw [hg, h.sum] at hm
  rw [e, hm]; simp [eW]
theorem Way.call {T : Int} {qs : List Pn} (h : Way T qs) {y : Int} (hy : y ∈ callsM qs) : Way T (nearM y 1 qs) ∧ eW (wkM (nearM y 1 qs)) + hW (wkM (nearM y 1 qs)) ≤ eW (wkM qs) + hW (wkM qs) - 1 := by
  obtain ⟨h1, h2⟩ := calls_mem hy
  obtain ⟨_, k2, k3⟩ := call_any h.ok.vo h.odd h2 h1
  exact ⟨⟨near_ok h.ok, by rw [near_all]; exact h.odd, by rw [k3]; exact h.sum⟩, k2⟩
theorem Way.zero {T : Int} {qs : List Pn} (h : Way T qs) (h0 : eW (wkM qs) + hW (wkM qs) ≤ 0) : (DL.spots (plc qs)).length ≤ 1 := by
  by_cases h1 : (DL.spots (plc qs)).length ≤ 1
  · exact h1
  · obtain ⟨g, hg, e⟩ := call_most h.ok.vo h.odd h1
    have := nums_ok (nearM g 1 qs)
    omega
theorem world_near (s : Src) (most : Nat) (far par : Int) (h1 : 1 ≤ most) (f1 : 1 ≤ far) : ∀ x ∈ plc (worldM s most far par).1, -10 ≤ x ∧ x ≤ 10 + most * (far + 2) := fun x hx => by
  obtain ⟨m, hl, _, hb, hp⟩ := worldM_split s most far par h1
  have hpk := pickN_lt (pickS s 21) most h1
  have hx2 : x ∈ plc m.1 := by
    have := (hp.map fun p => p.2.1).mem_iff.mp hx
    split at this
    · rw [← flip_plc]; exact this
    · exact this
  obtain ⟨p, hp2, rfl⟩ := List.mem_map.mp hx2
  have hb := hb f1 p hp2
  have h40 : ((1 + pickN (pickS s 21) most : Nat) : Int) * (far + 2) ≤ most * (far + 2) := Int.mul_le_mul_of_nonneg_right (by omega) (by omega)
  show -10 ≤ p.2.1 ∧ p.2.1 ≤ _
  omega
/-- the sums are at most as great as the stretch of all people -/
theorem sums_le {ps : List Pn} {a b : Int} (h : ∀ x ∈ plc ps, a ≤ x ∧ x ≤ b) (hab : a ≤ b) : oW (wkM ps) + eW (wkM ps) ≤ b - a := by
  cases e : DL.spots (plc ps) with
  | nil =>
    have hg : wkM ps = [] := by unfold wkM wgapsM; rw [e]; rfl
    rw [hg]; show (0 : Int) + 0 ≤ b - a; omega
  | cons x l =>
    have hb := both_sums (vget (vfold [] ps)) l x 0
    rw [← e, ← gapsM, gaps_w, sum_odd, sum_even] at hb
    have hx := h x (((spots_ok (plc ps)).mem x).mp (by rw [e]; simp))
    have hm : (DL.spots (plc ps)).getLastD 0 ∈ DL.spots (plc ps) := by
      rw [e, List.getLastD_eq_getLast?, List.getLast?_eq_some_getLast (by simp)]
      exact List.getLast_mem _
    have hy := h _ (((spots_ok (plc ps)).mem _).mp hm)
    unfold wkM
    omega
theorem turn_in {ps : List Pn} (hv : voicesOk ps) (ho : vAll ps % 2 = 1) {a b : Int} (h : ∀ x ∈ plc ps, a ≤ x ∧ x ≤ b) (hab : a ≤ b) : a ≤ tsum (vpM ps) ∧ tsum (vpM ps) ≤ b := by
  cases e : DL.spots (plc ps) with
  | nil =>
    have : ps = [] := by
      cases ps with
      | nil => rfl
      | cons p r => have := in_spots (ps := p :: r) (p := p) List.mem_cons_self; rw [e] at this; cases this
    rw [this] at ho; cases ho
  | cons x l =>
    have hm := meet_at hv ho e
    have hn := nums_ok ps
    have hb := both_sums (vget (vfold [] ps)) l x 0
    rw [← e, ← gapsM, gaps_w, sum_odd, sum_even] at hb
    have hx := h x (((spots_ok (plc ps)).mem x).mp (by rw [e]; simp))
    have hm2 : (DL.spots (plc ps)).getLastD 0 ∈ DL.spots (plc ps) := by
      rw [e, List.getLastD_eq_getLast?, List.getLast?_eq_some_getLast (by simp)]
      exact List.getLast_mem _
    have hy := h _ (((spots_ok (plc ps)).mem _).mp hm2)
    unfold wkM at hm hn
    omega

/-! ### the law -/
abbrev sLaw : Stmt := top 53
section
variable {c : Cn} {C : Addr}
abbrev nLaw : List Str := ["_law_script", "_law_source_here", "_law_turn", "_law_world_here", "_law_here", "_law_due", "_law_lap", "_law_some", "_law_by", "_law_told"]
abbrev scLaw : Sc := ⟨nLaw, defScope sLaw, fun _ => true, none⟩
theorem fsLaw : FnScope nLaw ["_law_script"] (defScope sLaw) := ⟨rfl, rfl, rfl, by decide +kernel, rfl, by decide +kernel, by decide +kernel⟩
structure Defs (c : Cn) (C : Addr) : Prop where
  src : DefOk c "_law_source" rSource ["_law_script"] c.k
  pick : DefOk c "_law_pick" rPick ["_law_source_here", "_law_many"] c.k
  pof : DefOk c "_law_of" rOf nOf c.k
  wld : DefOk c "_law_world" (rWorld C) ["_law_source_here", "_law_most", "_law_far", "_law_parity"] c.k
  spots : DefOk c "_law_spots" (rWorldAsk C fun ps => .tup ((plc ps).map .int)) ["_law_world_here"] c.k
  turns : DefOk c "_law_by_turns" (rWT C fun ps => .int (tsum (vpM ps))) ["_law_world_here", "_law_spots_here"] c.k
  nums : DefOk c "_law_numbers" (rWorldAsk C fun ps => .tup [.int (max (oW (wkM ps)) (eW (wkM ps))), .int (eW (wkM ps) + hW (wkM ps))]) ["_law_world_here"] c.k
  callers : DefOk c "callers" (rTells C fun ps => .lst ((callM ps).map .str)) ["standing"] c.k
  called : DefOk c "called" (rCalled C) ["standing", "name"] c.k
  meet : DefOk c "meeting_place" (rOddV C fun ps => .int (tsum (vpM ps))) ["standing"] c.k
  turned : DefOk c "turned_standing" (rTurnSt C) ["standing"] c.k
  shifted : DefOk c "shifted_standing" (rShiftSt C) ["standing", "by"] c.k
  cs : CS c C
  places : MethOk c C "places" (rTells C fun ps => .lst ((DL.spots (plc ps)).map .int)) ["self"] 2
  tog : MethOk c C "is_together" (rTells C fun ps => .bl (decide (((DL.spots (plc ps)).length : Int) ≤ 1))) ["self"] 2
  h2 : 2 ≤ c.k
  hrng : c.mg "range" = none
  hrep : c.mg "repr" = none
abbrev lawB : List Stmt := loopB (stm sLaw 1)
abbrev lawI : Stmt := nthS lawB 2
abbrev lawC : List Stmt := loopB (stm sLaw 2)
def rhoL (C : Addr) (x k : D) (ps qs : List Pn) (T : Int) : Rho := [some x, some (.loc 1), some k, some (worldD C ps), some (standD C qs), some (.int T), none, none, none, none]
theorem lap_one (T : Defs c C) (x k j : D) (ps qs : List Pn) (t : Int) (ht : Big t) (hw : Way t qs) (s : Src) :
    ∃ qs' s', Way t qs' ∧ (((DL.spots (plc qs)).length ≤ 1 ∧ qs' = qs) ∨ eW (wkM qs') + hW (wkM qs') ≤ eW (wkM qs) + hW (wkM qs) - 1) ∧ SS c scLaw (loopB lawI) [some x, some (.loc 1), some k, some (worldD C ps), some (standD C qs), some (.int t), some j, none, none, none] (srcC s ++ []) (.nx (rhoL C x k ps qs' t) (srcC s' ++ [])) := by
  have hlen := hw.ok.2.2
  have hcl := calls_len qs
  have hct := calls_tog hw.ok.vo hw.odd
  have hce : callM qs = [] ↔ callsM qs = [] := by rw [callM_map, List.map_eq_nil_iff]
  have hlm : (callM qs).length = (callsM qs).length := by rw [callM_map, List.length_map]
  have hsome : S1 c scLaw (nthS (loopB lawI) 0) [some x, some (.loc 1), some k, some (worldD C ps), some (standD C qs), some (.int t), some j, none, none, none] (srcC s ++ []) (.nx [some x, some (.loc 1), some k, some (worldD C ps), some (standD C qs), some (.int t), some j, some (.lst ((callM qs).map .str)), none, none] (srcC s ++ [])) := s_set 7 (ee_call T.callers (ea_cons (ee_var 4) ea_nil) ⟨qs, hlen, rfl, rfl, rfl⟩ (Nat.le_refl _))
  have hif : S1 c scLaw (nthS (loopB lawI) 1) [some x, some (.loc 1), some k, some (worldD C ps), some (standD C qs), some (.int t), some j, some (.lst ((callM qs).map .str)), none, none] (srcC s ++ []) (.nx [some x, some (.loc 1), some k, some (worldD C ps), some (standD C qs), some (.int t), some j, some (.lst ((callM qs).map .str)), none, none] (srcC s ++ [])) := by
    refine s_ifF (ET.eq (et_w (ew_or2 (et_cmp (ee_callB T.hrep (ea_cons (EE.eq (ee_call T.meet (ea_cons (ee_var 4) ea_nil) ⟨qs, hlen, hw.odd, rfl, rfl, rfl⟩ (Nat.le_refl _)) (congrArg D.int hw.sum)) ea_nil) (cd_reprI ht)) (ee_callB T.hrep (ea_cons (ee_var 5) ea_nil) (cd_reprI ht)) od_neS) fun _ => ew_or1 (et_cmp (ee_cmp (ee_var 7) (ee_lst ea_nil) (od_eqD (lay_words (call_words hw.ok)) (lay_words (l := []) (by simp)))) (ee_meth0 (ee_var 4) T.cs.cl T.tog (by decide +kernel) ⟨qs, hlen, rfl, rfl, rfl⟩ T.h2) (od_neD (lay_bl _) (lay_bl _))))) ?_) ss_nil
    have e1 : (PyData.eqv (D.lst ((callM qs).map .str)).py (D.lst []).py) = decide (((DL.spots (plc qs)).length : Int) ≤ 1) := by
      rw [eqv_strs0, decide_eq_decide, hce, hct]
      omega
    show (!decide (_ = _) || (false || !PyData.eqv (D.bl (PyData.eqv (D.lst ((callM qs).map .str)).py (D.lst []).py)).py (D.bl (decide (((DL.spots (plc qs)).length : Int) ≤ 1))).py)) = false
    rw [e1, eqv_bl]; simp
  by_cases hq : callsM qs = []
  · have hnil : (callM qs).map D.str = [] := by rw [hce.mpr hq]; rfl
    refine ⟨qs, s, hw, .inl ⟨hct.mp hq, rfl⟩, ?_⟩
    refine ss_cons hsome (ss_cons hif ?_)
    rw [hnil]
    apply SS.less
    · skip
      refine ss_one (s_set 4 (ee_ifF (ET.eq (et_cmp (ee_var 7) (ee_lst ea_nil) (od_neD (lay_words (l := []) (by simp)) (lay_words (l := []) (by simp)))) rfl) (ee_var 4)))
    · exact Les.cons (Les.cons (Les.cons (Les.cons (Les.cons (Les.cons (Les.cut (Les.cut (Les.cut (Les.cut (Les.refl _))))))))))
  · have hpos : 1 ≤ (callsM qs).length := by
      cases e : callsM qs with
      | nil => exact absurd e hq
      | cons a l => simp
    have hlt := pickN_lt s (callsM qs).length hpos
    obtain ⟨y, hy, ey⟩ : ∃ y, y ∈ callsM qs ∧ ofD s ((callM qs).map D.str) = .str (firstAt qs y) := by
      have hm := ofD_mem s ((callM qs).map D.str) (by rw [List.length_map, hlm]; exact hpos)
      obtain ⟨n, h1, h2⟩ := List.mem_map.mp hm
      rw [callM_map] at h1
      obtain ⟨y, h3, h4⟩ := List.mem_map.mp h1
      exact ⟨y, h3, by rw [← h2, h4]⟩
    obtain ⟨hl, h1⟩ := calls_mem hy
    obtain ⟨p, hp, e1, e2, _⟩ := firstAt_get (loud_mem hl)
    have hcan : canM qs p = true := by
      unfold canM isLoudM
      rw [e1]
      simp [hl]; omega
    obtain ⟨w1, w2⟩ := hw.call hy
    refine ⟨nearM y 1 qs, pickS s ((callM qs).map D.str).length, w1, .inr w2, ?_⟩
    refine ss_cons hsome (ss_cons hif ?_)
    apply SS.less
    · skip
      refine ss_one (s_set 4 (ee_ifT (ET.eq (et_cmp (ee_var 7) (ee_lst ea_nil) (od_neD (lay_words (call_words hw.ok)) (lay_words (l := []) (by simp)))) ?_) (ee_call T.called (ea_cons (ee_var 4) (ea_cons (ee_call T.pof (ea_cons (ee_var 1) (ea_cons (ee_var 7) ea_nil)) (z := .str (firstAt qs y)) (O2 := srcC (pickS s ((callM qs).map D.str).length) ++ []) ⟨s, (callM qs).map D.str, [], by rw [List.length_map, hlm]; exact hpos, by rw [List.length_map, hlm]; omega, rfl, rfl, ey.symm, rfl⟩ (Nat.le_refl _)) ea_nil)) ⟨qs, p, hw.ok, hp, hcan, by rw [e2], by rw [e1], rfl⟩ (Nat.le_refl _))))
      show (!PyData.eqv (D.lst ((callM qs).map .str)).py (D.lst []).py) = true
      rw [eqv_strs0]
      simp [hce, hq]
    · exact Les.cons (Les.cons (Les.cons (Les.cons (Les.cons (Les.cons (Les.cut (Les.cut (Les.cut (Les.cut (Les.refl _))))))))))
theorem laps (T : Defs c C) (x k : D) (ps : List Pn) (t : Int) (ht : Big t) : ∀ (n j : Nat) (qs : List Pn) (s : Src), Way t qs → (eW (wkM qs) + hW (wkM qs) ≤ n ∨ (DL.spots (plc qs)).length ≤ 1) →
    ∃ qs' s', Way t qs' ∧ (DL.spots (plc qs')).length ≤ 1 ∧ FR c scLaw (loopT lawI) (loopB lawI) ((List.range' j n).map fun k : Nat => .int (k : Int)) (rhoL C x k ps qs t) (srcC s ++ []) (.nx (rhoL C x k ps qs' t) (srcC s' ++ []))
  | 0, j, qs, s, hw, h => ⟨qs, s, hw, h.elim (fun h => hw.zero (by omega)) id, FR.nil⟩
  | n + 1, j, qs, s, hw, h => by
    obtain ⟨qs1, s1, w1, h1, S⟩ := lap_one T x k (.int (j : Int)) ps qs t ht hw s
    have h1' : eW (wkM qs1) + hW (wkM qs1) ≤ (n : Int) ∨ (DL.spots (plc qs1)).length ≤ 1 := by
      rcases h1 with ⟨h1, e⟩ | h1
      · exact .inr (by rw [e]; exact h1)
      · rcases h with h | h
        · exact .inl (by omega)
        · have := nums_ok qs1
          have hg : wkM qs = [] := by
            obtain ⟨x, e⟩ : ∃ x, DL.spots (plc qs) = [x] := ⟨t, hw.tog h⟩
            unfold wkM wgapsM; rw [e]; rfl
          rw [hg] at h1
          simp [eW, hW] at h1
          omega
    obtain ⟨qs2, s2, w2, h2, FRr⟩ := laps T x k ps t ht n (j + 1) qs1 s1 w1 h1'
    refine ⟨qs2, s2, w2, h2, ?_⟩
    rw [List.range'_succ, List.map_cons]
    exact .nx (gt_name 6) S FRr
def rhoZ (x : D) : Rho := [some x, some (.loc 1), none, none, none, none, none, none, none, none]
def rhoK (x k : D) : Rho := [some x, some (.loc 1), some k, none, none, none, none, none, none, none]
theorem step_one (T : Defs c C) (x : D) (s : Src) (k most : Nat) (far : Int) (h1 : 1 ≤ most) (h2 : most ≤ 12) (f1 : 1 ≤ far) (f2 : far ≤ 3) (hm : ([.int 6, .int 9, .int 12] : List D)[k]? = some (.int most)) (hf : ([.int 3, .int 2, .int 1] : List D)[k]? = some (.int far)) :
    ∃ s', SS c scLaw lawB (rhoK x (.int k)) (srcC s ++ []) (.nx (rhoZ x) (srcC s' ++ [])) := by
  have h := world_facts s most far 1 h1 (by omega)
  have ho := world_odd s most far h1
  have hn := world_near s most far 1 h1 f1
  have hmf : (most : Int) * (far + 2) ≤ 12 * 5 := Int.mul_le_mul (by omega) (by omega) (by omega) (by decide)
  have hmf0 : 0 ≤ (most : Int) * (far + 2) := Int.mul_nonneg (by omega) (by omega)
  have hcall : S1 c scLaw (nthS lawB 0) (rhoK x (.int k)) (srcC s ++ []) (.nx [some x, some (.loc 1), some (.int k), some (worldD C (worldM s most far 1).1), none, none, none, none, none, none] (srcC (worldM s most far 1).2 ++ [])) :=
    s_set 3 (ee_call T.wld (ea_cons (ee_var 1) (ea_cons (ee_ix (ee_lst (ea_cons ee_int (ea_cons ee_int (ea_cons ee_int ea_nil)))) (ee_var 2) (ix_lst (atI_get hm))) (ea_cons (ee_ix (ee_lst (ea_cons ee_int (ea_cons ee_int (ea_cons ee_int ea_nil)))) (ee_var 2) (ix_lst (atI_get hf))) (ea_cons ee_int ea_nil)))) ⟨s, most, far, 1, [], h1, by omega, f1, by omega, by decide, h, rfl, rfl, rfl, rfl⟩ (Nat.le_refl _))
  generalize (worldM s most far 1).1 = ps at h ho hn hcall
  generalize (worldM s most far 1).2 = s1 at hcall
  have hsum := sums_le hn (by omega)
  have hti := turn_in h.vo ho hn (by omega)
  have hnn := nums_ok ps
  have hle := hW_le (wkM_nn ps)
  have ht : Big (tsum (vpM ps)) := by show (tsum (vpM ps)).natAbs < 10 ^ 60; omega
  have hlen := h.2.2
  obtain ⟨qs, s2, w, htog, F⟩ := laps T x (.int k) ps (tsum (vpM ps)) ht (eW (wkM ps) + hW (wkM ps)).toNat 0 ps s1 ⟨h, ho, rfl⟩ (.inl (by omega))
  have hsp := w.tog htog
  have hql := w.ok.2.2
  have hqo := w.odd
  have hqt := w.sum
  have er : rangeD 0 (eW (wkM ps) + hW (wkM ps)).toNat = (List.range' 0 (eW (wkM ps) + hW (wkM ps)).toNat).map fun k : Nat => .int (k : Int) := by unfold rangeD; rw [List.range_eq_range']; simp
  have hpar : S1 c scLaw (nthS lawB 1) [some x, some (.loc 1), some (.int k), some (worldD C ps), none, none, none, none, none, none] (srcC s1 ++ []) (.nx (rhoL C x (.int k) ps ps (tsum (vpM ps))) (srcC s1 ++ [])) :=
    s_par (i := 4) (j := 5) rfl rfl (ea_cons (world_st (ee_var 3) ee_str) (ea_cons (ee_call T.turns (ea_cons (ee_var 3) (ea_cons (ee_call T.spots (ea_cons (ee_var 3) ea_nil) ⟨ps, hlen, rfl, rfl, rfl⟩ (Nat.le_refl _)) ea_nil)) ⟨ps, hlen, rfl, rfl, rfl⟩ (Nat.le_refl _)) ea_nil))
  have hfor : S1 c scLaw (nthS lawB 2) (rhoL C x (.int k) ps ps (tsum (vpM ps))) (srcC s1 ++ []) (.nx (rhoL C x (.int k) ps qs (tsum (vpM ps))) (srcC s2 ++ [])) :=
    s_for (it_range1 T.hrng (ee_ix (ee_call T.nums (ea_cons (ee_var 3) ea_nil) ⟨ps, hlen, rfl, rfl, rfl⟩ (Nat.le_refl _)) ee_int (ix_tp rfl)) (by omega) (by omega)) (er.symm ▸ F)
  generalize tsum (vpM ps) = t at ht hsp hqt hpar hfor
  refine ⟨s2, ss_cons hcall (ss_cons hpar (ss_cons hfor ?_))⟩
  apply SS.less
  · skip
    refine ss_one (s_ifF (ET.eq (et_w (ew_or2 (et_cmp (ee_meth0 (ee_var 4) T.cs.cl T.places (by decide +kernel) ⟨qs, hql, rfl, rfl, rfl⟩ T.h2) (ee_lst (ea_cons (ee_var 5) ea_nil)) (od_neD (lay_ints _) (lay_ints [t]))) fun _ => ew_or1 (et_cmp (ee_call T.meet (ea_cons (ee_var 4) ea_nil) ⟨qs, hql, hqo, rfl, rfl, rfl⟩ (Nat.le_refl _)) (ee_var 5) od_neI))) ?_) ss_nil)
    show (!PyData.eqv (D.lst ((DL.spots (plc qs)).map .int)).py (D.lst (([t] : List Int).map .int)).py || !decide (tsum (vpM qs) = t)) = false
    rw [eqv_ints, hsp, hqt]; simp
  · exact Les.cons (Les.cons (Les.cut (Les.cut (Les.cut (Les.cut (Les.cut (Les.cut (Les.cut (Les.cut (Les.refl _))))))))))
theorem step_two (T : Defs c C) (x : D) (s : Src) (k most : Nat) (h1 : 1 ≤ most) (h2 : most ≤ 40) (hm : ([.int 8, .int 20, .int 40] : List D)[k]? = some (.int most)) :
    ∃ s', SS c scLaw lawC (rhoK x (.int k)) (srcC s ++ []) (.nx (rhoZ x) (srcC s' ++ [])) := by
  have h := world_facts s most (10 ^ 28) 1 h1 h2
  have ho := world_odd s most (10 ^ 28) h1
  have hn := world_far s most (10 ^ 28) 1 h1 h2 (by decide) (by decide)
  have hpk := pickM_bound (worldM s most (10 ^ 28) 1).2 (10 ^ 9) (by decide)
  have hcall : S1 c scLaw (nthS lawC 0) (rhoK x (.int k)) (srcC s ++ []) (.nx [some x, some (.loc 1), some (.int k), some (worldD C (worldM s most (10 ^ 28) 1).1), none, none, none, none, some (.int ((pickM (worldM s most (10 ^ 28) 1).2 (10 ^ 9)).1 - 10 ^ 8)), none] (srcC (pickS (worldM s most (10 ^ 28) 1).2 (10 ^ 9)) ++ [])) :=
    s_par (i := 3) (j := 8) rfl rfl (ea_cons (ee_call T.wld (ea_cons (ee_var 1) (ea_cons (ee_ix (ee_lst (ea_cons ee_int (ea_cons ee_int (ea_cons ee_int ea_nil)))) (ee_var 2) (ix_lst (atI_get hm))) (ea_cons (ee_op ee_int ee_int (od_pow ⟨by decide, by decide, by decide⟩)) (ea_cons ee_int ea_nil)))) ⟨s, most, 10 ^ 28, 1, [], h1, by omega, by decide, by decide, by decide, h, rfl, rfl, rfl, rfl⟩ (Nat.le_refl _)) (ea_cons (ee_op (ee_call T.pick (ea_cons (ee_var 1) (ea_cons (ee_op ee_int ee_int (od_pow ⟨by decide, by decide, by decide⟩)) ea_nil)) (pick_rule (by decide)) (Nat.le_refl _)) (ee_op ee_int ee_int (od_pow ⟨by decide, by decide, by decide⟩)) od_sub) ea_nil))
  generalize (worldM s most (10 ^ 28) 1).1 = ps at h ho hn hcall
  generalize (worldM s most (10 ^ 28) 1).2 = s1 at hcall hpk
  obtain ⟨b, hb, eb⟩ : ∃ b : Int, b.natAbs ≤ 10 ^ 10 ∧ (pickM s1 (10 ^ 9)).1 - 10 ^ 8 = b := ⟨_, by omega, rfl⟩
  rw [eb] at hcall
  clear eb hpk
  generalize pickS s1 (10 ^ 9) = s2 at hcall
  have hlen := h.2.2
  have hti := turn_in (a := -10 ^ 31) (b := 10 ^ 31) h.vo ho (fun x hx => by have := hn x hx; omega) (by decide)
  have e1 := turned_sum h.vo ho
  have e2 := shifted_sum h.vo ho b
  have ok1 := mapP_ok (fun x => -x) h
  have ok2 := mapP_ok (fun x => x + b) h
  have o1 : vAll (mapP (fun x => -x) ps) % 2 = 1 := by rw [mapP_all]; exact ho
  have o2 : vAll (mapP (fun x => x + b) ps) % 2 = 1 := by rw [mapP_all]; exact ho
  have hl1 := ok1.2.2
  have hl2 := ok2.2.2
  obtain ⟨t, et⟩ : ∃ t, tsum (vpM ps) = t := ⟨_, rfl⟩
  rw [et] at e1 e2 hti
  have hrow : ∀ x ∈ [t, -t, t + b], Big x := fun x hx => by
    simp only [List.mem_cons, List.not_mem_nil, or_false] at hx
    show x.natAbs < 10 ^ 60
    omega
  have hsh := (sh_ints hrow (by simp)).up (k' := 40) (b' := 200000) (by decide) (by decide)
  refine ⟨s2, ss_cons hcall ?_⟩
  apply SS.less
  · skip
    refine ss_cons (s_par (i := 4) (j := 5) (d2 := .int t) rfl rfl (ea_cons (world_st (ee_var 3) ee_str) (ea_cons (ee_call T.turns (ea_cons (ee_var 3) (ea_cons (ee_call T.spots (ea_cons (ee_var 3) ea_nil) ⟨ps, hlen, rfl, rfl, rfl⟩ (Nat.le_refl _)) ea_nil)) ⟨ps, hlen, rfl, congrArg D.int et.symm, rfl⟩ (Nat.le_refl _)) ea_nil))) ?_
    refine ss_cons (s_set 9 (EE.eq (ee_lst (ea_cons (ee_call T.meet (ea_cons (ee_var 4) ea_nil) ⟨ps, hlen, ho, rfl, congrArg D.int et.symm, rfl⟩ (Nat.le_refl _)) (ea_cons (ee_call T.meet (ea_cons (ee_call T.turned (ea_cons (ee_var 4) ea_nil) ⟨ps, h, rfl, rfl, rfl⟩ (Nat.le_refl _)) ea_nil) ⟨_, hl1, o1, rfl, congrArg D.int e1.symm, rfl⟩ (Nat.le_refl _)) (ea_cons (ee_call T.meet (ea_cons (ee_call T.shifted (ea_cons (ee_var 4) (ea_cons (ee_var 8) ea_nil)) ⟨ps, b, h, rfl, rfl, rfl⟩ (Nat.le_refl _)) ea_nil) ⟨_, hl2, o2, rfl, congrArg D.int e2.symm, rfl⟩ (Nat.le_refl _)) ea_nil)))) (d' := .lst ([t, -t, t + b].map .int)) rfl)) ?_
    refine ss_one (s_ifF (ET.eq (et_cmp (ee_callB T.hrep (ea_cons (ee_var 9) ea_nil) (cd_repr hsh (.inl ⟨_, rfl⟩))) (ee_callB T.hrep (ea_cons (EE.eq (ee_lst (ea_cons (ee_var 5) (ea_cons (ee_op ee_int (ee_var 5) od_sub) (ea_cons (ee_op (ee_var 5) (ee_var 8) od_add) ea_nil)))) (d' := .lst ([t, -t, t + b].map .int)) (by simp)) ea_nil) (cd_repr hsh (.inl ⟨_, rfl⟩))) od_neS) (by simp)) ss_nil)
  · exact Les.cons (Les.cons (Les.cut (Les.cut (Les.cut (Les.cut (Les.cut (Les.cut (Les.cut (Les.cut (Les.refl _))))))))))
def rLaw : Fn := fun ds O d O' => ∃ ns : List Int, ns.length ≤ 63 ∧ ds = [.rd (ns.map .int)] ∧ O = [] ∧ d = .bl true ∧ O' = []
theorem law_ok {f : Addr} {fd : FuncData} (F : Fun c.K "law" "law" sLaw f fd) (T : Defs c C) : FnG c.P c.w c.K c.mg c.base CX0 (c.k + 1) f fd ["_law_script"] (spD c.K c.I rLaw) := by
  refine fn_bodyR F fsLaw (fun ds O d O' h => ?_) fun ds O d O' h => ?_
  · obtain ⟨ns, _, rfl, _⟩ := h; rfl
  · obtain ⟨ns, hl, rfl, rfl, rfl, rfl⟩ := h
    obtain ⟨s1, S1⟩ := step_one T (.rd (ns.map .int)) (srcM ns) 0 6 3 (by decide) (by decide) (by decide) (by decide) rfl rfl
    obtain ⟨s2, S2⟩ := step_one T (.rd (ns.map .int)) s1 1 9 2 (by decide) (by decide) (by decide) (by decide) rfl rfl
    obtain ⟨s3, S3⟩ := step_one T (.rd (ns.map .int)) s2 2 12 1 (by decide) (by decide) (by decide) (by decide) rfl rfl
    obtain ⟨s4, S4⟩ := step_two T (.rd (ns.map .int)) s3 0 8 (by decide) (by decide) rfl
    obtain ⟨s5, S5⟩ := step_two T (.rd (ns.map .int)) s4 1 20 (by decide) (by decide) rfl
    obtain ⟨s6, S6⟩ := step_two T (.rd (ns.map .int)) s5 2 40 (by decide) (by decide) rfl
    refine SS.drop (O1 := []) (J := srcC s6 ++ []) ?_ (Nat.le_refl _) rfl id
    refine ss_cons (s_set 1 (EE.eqO (ee_call T.src (ea_cons (ee_var 0) ea_nil) (O2 := srcC (srcM ns)) ⟨ns, hl, rfl, rfl, rfl, rfl⟩ (Nat.le_refl _)) (List.append_nil _).symm)) ?_
    refine ss_cons (s_for (it_range1 T.hrng ee_int (by decide) (by decide)) (.nx (ds := rangeD 1 2) (gt_name 2) S1 (.nx (ds := rangeD 2 1) (gt_name 2) S2 (.nx (gt_name 2) S3 .nil)))) ?_
    refine ss_cons (s_for (it_range1 T.hrng ee_int (by decide) (by decide)) (.nx (ds := rangeD 1 2) (gt_name 2) S4 (.nx (ds := rangeD 2 1) (gt_name 2) S5 (.nx (gt_name 2) S6 .nil)))) ?_
    exact ss_one (s_ret ee_bl)
end


end DL
set_option maxRecDepth 100000
set_option maxHeartbeats 4000000
namespace DL
open PySem L2 PyProof.Rows PySem.Spec
/-! ### what the top has written, and the law's head -/
structure Has (K : PySem.W.Frag) (mg : Str → Option Value) (x : Str) (st : Stmt) (ps : List Str) : Prop where
  ex : ∃ f fd, Fun K x x st f fd ∧ mg x = some (.ref f) ∧ Binds K fd ps []
theorem has_mk {K : PySem.W.Frag} {h : Heap} {mg : Str → Option Value} {x : Str} {st : Stmt} {ps : List Str} (X : K.In h) (G : h.Ns mainGlobals mg) {f : Addr} {oc : Value} {od an : Option Addr} {osl : Array (Option Value)} {kV doc pm cdv ct : Value}
    (hb : ∀ (kV doc pm : Value) (an : Option Addr) (cdv ct : Value) (us : List Value), us.length = ps.length → bindArgs (PySem.W.fnOf x x (defArgs st) (defBody st) (defScope st) .none kV doc pm an cdv ct) ⟨us, []⟩ = pure (ps.zip us))
    (a : PySem.W.nsIn K mainGlobals x = some (some (.ref f))) (l : K.lookup f = some ⟨oc, od, .func (PySem.W.fnOf x x (defArgs st) (defBody st) (defScope st) .none kV doc pm an cdv ct), osl⟩) (c : PySem.W.codeIn K cdv x = true) (k : PySem.W.keepIn K (.ref f) = true) : Has K mg x st ps :=
  ⟨f, _, fun_mk l c k, PySem.W.mg_of X G a, (fun_mk l c k).binds hb⟩
structure HasM (K : PySem.W.Frag) (C : Addr) (x q : Str) (st : Stmt) (ps : List Str) : Prop where
  ex : ∃ f fd, Fun K x q st f fd ∧ PySem.W.findIn K (.ref C) x = some (some (.ref f)) ∧ PySem.W.isFn K (.ref f) = true ∧ Binds K fd ps []
theorem hasM_mk {K : PySem.W.Frag} {C : Addr} {x q : Str} {st : Stmt} {ps : List Str} {f : Addr} {oc : Value} {od an : Option Addr} {osl : Array (Option Value)} {kV doc pm cdv ct : Value}
    (hb : ∀ (kV doc pm : Value) (an : Option Addr) (cdv ct : Value) (us : List Value), us.length = ps.length → bindArgs (PySem.W.fnOf x q (defArgs st) (defBody st) (defScope st) .none kV doc pm an cdv ct) ⟨us, []⟩ = pure (ps.zip us))
    (a : PySem.W.findIn K (.ref C) x = some (some (.ref f))) (i : PySem.W.isFn K (.ref f) = true) (l : K.lookup f = some ⟨oc, od, .func (PySem.W.fnOf x q (defArgs st) (defBody st) (defScope st) .none kV doc pm an cdv ct), osl⟩) (c : PySem.W.codeIn K cdv q = true) (k : PySem.W.keepIn K (.ref f) = true) : HasM K C x q st ps :=
  ⟨f, _, fun_mk l c k, a, i, (fun_mk l c k).binds hb⟩
def I0 : Ob := ⟨fun _ _ _ _ => False, []⟩
theorem hI0 : IMono I0 := fun _ _ _ _ _ _ h => h
theorem b__law_pick : ∀ (kV doc pm : Value) (an : Option Addr) (cdv ct : Value) (us : List Value), us.length = (["_law_source_here", "_law_many"] : List Str).length → bindArgs (PySem.W.fnOf "_law_pick" "_law_pick" (defArgs sPick) (defBody sPick) (defScope sPick) .none kV doc pm an cdv ct) ⟨us, []⟩ = pure ((["_law_source_here", "_law_many"] : List Str).zip us) := fun _ _ _ _ _ _ us hl => match us, hl with | [_, _], _ => rfl
theorem b__law_source : ∀ (kV doc pm : Value) (an : Option Addr) (cdv ct : Value) (us : List Value), us.length = (["_law_script"] : List Str).length → bindArgs (PySem.W.fnOf "_law_source" "_law_source" (defArgs sSource) (defBody sSource) (defScope sSource) .none kV doc pm an cdv ct) ⟨us, []⟩ = pure ((["_law_script"] : List Str).zip us) := fun _ _ _ _ _ _ us hl => match us, hl with | [_], _ => rfl
theorem b__law_of : ∀ (kV doc pm : Value) (an : Option Addr) (cdv ct : Value) (us : List Value), us.length = (["_law_source_here", "_law_some"] : List Str).length → bindArgs (PySem.W.fnOf "_law_of" "_law_of" (defArgs sOf) (defBody sOf) (defScope sOf) .none kV doc pm an cdv ct) ⟨us, []⟩ = pure ((["_law_source_here", "_law_some"] : List Str).zip us) := fun _ _ _ _ _ _ us hl => match us, hl with | [_, _], _ => rfl
theorem b__law_names : ∀ (kV doc pm : Value) (an : Option Addr) (cdv ct : Value) (us : List Value), us.length = (["_law_source_here", "_law_many"] : List Str).length → bindArgs (PySem.W.fnOf "_law_names" "_law_names" (defArgs sNames) (defBody sNames) (defScope sNames) .none kV doc pm an cdv ct) ⟨us, []⟩ = pure ((["_law_source_here", "_law_many"] : List Str).zip us) := fun _ _ _ _ _ _ us hl => match us, hl with | [_, _], _ => rfl
theorem b_is_word : ∀ (kV doc pm : Value) (an : Option Addr) (cdv ct : Value) (us : List Value), us.length = (["value"] : List Str).length → bindArgs (PySem.W.fnOf "is_word" "is_word" (defArgs pIsWord) (defBody pIsWord) (defScope pIsWord) .none kV doc pm an cdv ct) ⟨us, []⟩ = pure ((["value"] : List Str).zip us) := fun _ _ _ _ _ _ us hl => match us, hl with | [_], _ => rfl
theorem b_is_integer : ∀ (kV doc pm : Value) (an : Option Addr) (cdv ct : Value) (us : List Value), us.length = (["value"] : List Str).length → bindArgs (PySem.W.fnOf "is_integer" "is_integer" (defArgs pIsInt) (defBody pIsInt) (defScope pIsInt) .none kV doc pm an cdv ct) ⟨us, []⟩ = pure ((["value"] : List Str).zip us) := fun _ _ _ _ _ _ us hl => match us, hl with | [_], _ => rfl
theorem b_wrong_in_person : ∀ (kV doc pm : Value) (an : Option Addr) (cdv ct : Value) (us : List Value), us.length = (["person", "earlier"] : List Str).length → bindArgs (PySem.W.fnOf "wrong_in_person" "wrong_in_person" (defArgs pWrongP) (defBody pWrongP) (defScope pWrongP) .none kV doc pm an cdv ct) ⟨us, []⟩ = pure ((["person", "earlier"] : List Str).zip us) := fun _ _ _ _ _ _ us hl => match us, hl with | [_, _], _ => rfl
theorem b_wrong_part : ∀ (kV doc pm : Value) (an : Option Addr) (cdv ct : Value) (us : List Value), us.length = (["people"] : List Str).length → bindArgs (PySem.W.fnOf "wrong_part" "wrong_part" (defArgs pWrong) (defBody pWrong) (defScope pWrong) .none kV doc pm an cdv ct) ⟨us, []⟩ = pure ((["people"] : List Str).zip us) := fun _ _ _ _ _ _ us hl => match us, hl with | [_], _ => rfl
theorem b__law_made : ∀ (kV doc pm : Value) (an : Option Addr) (cdv ct : Value) (us : List Value), us.length = (["_law_people"] : List Str).length → bindArgs (PySem.W.fnOf "_law_made" "_law_made" (defArgs sMade) (defBody sMade) (defScope sMade) .none kV doc pm an cdv ct) ⟨us, []⟩ = pure ((["_law_people"] : List Str).zip us) := fun _ _ _ _ _ _ us hl => match us, hl with | [_], _ => rfl
theorem b__law_mixed : ∀ (kV doc pm : Value) (an : Option Addr) (cdv ct : Value) (us : List Value), us.length = (["_law_source_here", "_law_things"] : List Str).length → bindArgs (PySem.W.fnOf "_law_mixed" "_law_mixed" (defArgs sMixed) (defBody sMixed) (defScope sMixed) .none kV doc pm an cdv ct) ⟨us, []⟩ = pure ((["_law_source_here", "_law_things"] : List Str).zip us) := fun _ _ _ _ _ _ us hl => match us, hl with | [_, _], _ => rfl
theorem b__law_world : ∀ (kV doc pm : Value) (an : Option Addr) (cdv ct : Value) (us : List Value), us.length = (["_law_source_here", "_law_most", "_law_far", "_law_parity"] : List Str).length → bindArgs (PySem.W.fnOf "_law_world" "_law_world" (defArgs sWorld) (defBody sWorld) (defScope sWorld) .none kV doc pm an cdv ct) ⟨us, []⟩ = pure ((["_law_source_here", "_law_most", "_law_far", "_law_parity"] : List Str).zip us) := fun _ _ _ _ _ _ us hl => match us, hl with | [_, _, _, _], _ => rfl
theorem b_voices_by_place : ∀ (kV doc pm : Value) (an : Option Addr) (cdv ct : Value) (us : List Value), us.length = (["standing"] : List Str).length → bindArgs (PySem.W.fnOf "voices_by_place" "voices_by_place" (defArgs pVbp) (defBody pVbp) (defScope pVbp) .none kV doc pm an cdv ct) ⟨us, []⟩ = pure ((["standing"] : List Str).zip us) := fun _ _ _ _ _ _ us hl => match us, hl with | [_], _ => rfl
theorem b_loud_places : ∀ (kV doc pm : Value) (an : Option Addr) (cdv ct : Value) (us : List Value), us.length = (["standing"] : List Str).length → bindArgs (PySem.W.fnOf "loud_places" "loud_places" (defArgs pLoud) (defBody pLoud) (defScope pLoud) .none kV doc pm an cdv ct) ⟨us, []⟩ = pure ((["standing"] : List Str).zip us) := fun _ _ _ _ _ _ us hl => match us, hl with | [_], _ => rfl
theorem b_places_in_order : ∀ (kV doc pm : Value) (an : Option Addr) (cdv ct : Value) (us : List Value), us.length = (["standing"] : List Str).length → bindArgs (PySem.W.fnOf "places_in_order" "places_in_order" (defArgs pPio) (defBody pPio) (defScope pPio) .none kV doc pm an cdv ct) ⟨us, []⟩ = pure ((["standing"] : List Str).zip us) := fun _ _ _ _ _ _ us hl => match us, hl with | [_], _ => rfl
theorem b_placed : ∀ (kV doc pm : Value) (an : Option Addr) (cdv ct : Value) (us : List Value), us.length = (["standing", "places"] : List Str).length → bindArgs (PySem.W.fnOf "placed" "placed" (defArgs pPlaced) (defBody pPlaced) (defScope pPlaced) .none kV doc pm an cdv ct) ⟨us, []⟩ = pure ((["standing", "places"] : List Str).zip us) := fun _ _ _ _ _ _ us hl => match us, hl with | [_, _], _ => rfl
theorem b_step_towards : ∀ (kV doc pm : Value) (an : Option Addr) (cdv ct : Value) (us : List Value), us.length = (["place", "goal"] : List Str).length → bindArgs (PySem.W.fnOf "step_towards" "step_towards" (defArgs pStepT) (defBody pStepT) (defScope pStepT) .none kV doc pm an cdv ct) ⟨us, []⟩ = pure ((["place", "goal"] : List Str).zip us) := fun _ _ _ _ _ _ us hl => match us, hl with | [_, _], _ => rfl
theorem b__nearer : ∀ (kV doc pm : Value) (an : Option Addr) (cdv ct : Value) (us : List Value), us.length = (["standing", "goal", "steps"] : List Str).length → bindArgs (PySem.W.fnOf "_nearer" "_nearer" (defArgs pNear) (defBody pNear) (defScope pNear) .none kV doc pm an cdv ct) ⟨us, []⟩ = pure ((["standing", "goal", "steps"] : List Str).zip us) := fun _ _ _ _ _ _ us hl => match us, hl with | [_, _, _], _ => rfl
theorem b_is_loud : ∀ (kV doc pm : Value) (an : Option Addr) (cdv ct : Value) (us : List Value), us.length = (["standing", "name"] : List Str).length → bindArgs (PySem.W.fnOf "is_loud" "is_loud" (defArgs pIsLoud) (defBody pIsLoud) (defScope pIsLoud) .none kV doc pm an cdv ct) ⟨us, []⟩ = pure ((["standing", "name"] : List Str).zip us) := fun _ _ _ _ _ _ us hl => match us, hl with | [_, _], _ => rfl
theorem b_can_call : ∀ (kV doc pm : Value) (an : Option Addr) (cdv ct : Value) (us : List Value), us.length = (["standing", "name"] : List Str).length → bindArgs (PySem.W.fnOf "can_call" "can_call" (defArgs pCan) (defBody pCan) (defScope pCan) .none kV doc pm an cdv ct) ⟨us, []⟩ = pure ((["standing", "name"] : List Str).zip us) := fun _ _ _ _ _ _ us hl => match us, hl with | [_, _], _ => rfl
theorem b_called : ∀ (kV doc pm : Value) (an : Option Addr) (cdv ct : Value) (us : List Value), us.length = (["standing", "name"] : List Str).length → bindArgs (PySem.W.fnOf "called" "called" (defArgs pCalled) (defBody pCalled) (defScope pCalled) .none kV doc pm an cdv ct) ⟨us, []⟩ = pure ((["standing", "name"] : List Str).zip us) := fun _ _ _ _ _ _ us hl => match us, hl with | [_, _], _ => rfl
theorem b_callers : ∀ (kV doc pm : Value) (an : Option Addr) (cdv ct : Value) (us : List Value), us.length = (["standing"] : List Str).length → bindArgs (PySem.W.fnOf "callers" "callers" (defArgs pCallers) (defBody pCallers) (defScope pCallers) .none kV doc pm an cdv ct) ⟨us, []⟩ = pure ((["standing"] : List Str).zip us) := fun _ _ _ _ _ _ us hl => match us, hl with | [_], _ => rfl
theorem b__law_spots : ∀ (kV doc pm : Value) (an : Option Addr) (cdv ct : Value) (us : List Value), us.length = (["_law_world_here"] : List Str).length → bindArgs (PySem.W.fnOf "_law_spots" "_law_spots" (defArgs sWS) (defBody sWS) (defScope sWS) .none kV doc pm an cdv ct) ⟨us, []⟩ = pure ((["_law_world_here"] : List Str).zip us) := fun _ _ _ _ _ _ us hl => match us, hl with | [_], _ => rfl
theorem b__law_crowd : ∀ (kV doc pm : Value) (an : Option Addr) (cdv ct : Value) (us : List Value), us.length = (["_law_spots_here", "_law_place"] : List Str).length → bindArgs (PySem.W.fnOf "_law_crowd" "_law_crowd" (defArgs sCrowd) (defBody sCrowd) (defScope sCrowd) .none kV doc pm an cdv ct) ⟨us, []⟩ = pure ((["_law_spots_here", "_law_place"] : List Str).zip us) := fun _ _ _ _ _ _ us hl => match us, hl with | [_, _], _ => rfl
theorem b__law_gaps : ∀ (kV doc pm : Value) (an : Option Addr) (cdv ct : Value) (us : List Value), us.length = (["_law_world_here", "_law_spots_here"] : List Str).length → bindArgs (PySem.W.fnOf "_law_gaps" "_law_gaps" (defArgs sWG) (defBody sWG) (defScope sWG) .none kV doc pm an cdv ct) ⟨us, []⟩ = pure ((["_law_world_here", "_law_spots_here"] : List Str).zip us) := fun _ _ _ _ _ _ us hl => match us, hl with | [_, _], _ => rfl
theorem b_voice_places : ∀ (kV doc pm : Value) (an : Option Addr) (cdv ct : Value) (us : List Value), us.length = (["standing"] : List Str).length → bindArgs (PySem.W.fnOf "voice_places" "voice_places" (defArgs pVP) (defBody pVP) (defScope pVP) .none kV doc pm an cdv ct) ⟨us, []⟩ = pure ((["standing"] : List Str).zip us) := fun _ _ _ _ _ _ us hl => match us, hl with | [_], _ => rfl
theorem b_turn_sum : ∀ (kV doc pm : Value) (an : Option Addr) (cdv ct : Value) (us : List Value), us.length = (["standing"] : List Str).length → bindArgs (PySem.W.fnOf "turn_sum" "turn_sum" (defArgs pTurn) (defBody pTurn) (defScope pTurn) .none kV doc pm an cdv ct) ⟨us, []⟩ = pure ((["standing"] : List Str).zip us) := fun _ _ _ _ _ _ us hl => match us, hl with | [_], _ => rfl
theorem b__law_sums : ∀ (kV doc pm : Value) (an : Option Addr) (cdv ct : Value) (us : List Value), us.length = (["_law_world_here", "_law_spots_here"] : List Str).length → bindArgs (PySem.W.fnOf "_law_sums" "_law_sums" (defArgs sWSum) (defBody sWSum) (defScope sWSum) .none kV doc pm an cdv ct) ⟨us, []⟩ = pure ((["_law_world_here", "_law_spots_here"] : List Str).zip us) := fun _ _ _ _ _ _ us hl => match us, hl with | [_, _], _ => rfl
theorem b__law_heights : ∀ (kV doc pm : Value) (an : Option Addr) (cdv ct : Value) (us : List Value), us.length = (["_law_world_here", "_law_spots_here"] : List Str).length → bindArgs (PySem.W.fnOf "_law_heights" "_law_heights" (defArgs sWHt) (defBody sWHt) (defScope sWHt) .none kV doc pm an cdv ct) ⟨us, []⟩ = pure ((["_law_world_here", "_law_spots_here"] : List Str).zip us) := fun _ _ _ _ _ _ us hl => match us, hl with | [_, _], _ => rfl
theorem b__law_numbers : ∀ (kV doc pm : Value) (an : Option Addr) (cdv ct : Value) (us : List Value), us.length = (["_law_world_here"] : List Str).length → bindArgs (PySem.W.fnOf "_law_numbers" "_law_numbers" (defArgs sWNum) (defBody sWNum) (defScope sWNum) .none kV doc pm an cdv ct) ⟨us, []⟩ = pure ((["_law_world_here"] : List Str).zip us) := fun _ _ _ _ _ _ us hl => match us, hl with | [_], _ => rfl
theorem b__law_by_turns : ∀ (kV doc pm : Value) (an : Option Addr) (cdv ct : Value) (us : List Value), us.length = (["_law_world_here", "_law_spots_here"] : List Str).length → bindArgs (PySem.W.fnOf "_law_by_turns" "_law_by_turns" (defArgs sWTurn) (defBody sWTurn) (defScope sWTurn) .none kV doc pm an cdv ct) ⟨us, []⟩ = pure ((["_law_world_here", "_law_spots_here"] : List Str).zip us) := fun _ _ _ _ _ _ us hl => match us, hl with | [_, _], _ => rfl
theorem b_ask_odd_voices : ∀ (kV doc pm : Value) (an : Option Addr) (cdv ct : Value) (us : List Value), us.length = (["standing"] : List Str).length → bindArgs (PySem.W.fnOf "ask_odd_voices" "ask_odd_voices" (defArgs pAskOdd) (defBody pAskOdd) (defScope pAskOdd) .none kV doc pm an cdv ct) ⟨us, []⟩ = pure ((["standing"] : List Str).zip us) := fun _ _ _ _ _ _ us hl => match us, hl with | [_], _ => rfl
theorem b_meeting_place : ∀ (kV doc pm : Value) (an : Option Addr) (cdv ct : Value) (us : List Value), us.length = (["standing"] : List Str).length → bindArgs (PySem.W.fnOf "meeting_place" "meeting_place" (defArgs pMeet) (defBody pMeet) (defScope pMeet) .none kV doc pm an cdv ct) ⟨us, []⟩ = pure ((["standing"] : List Str).zip us) := fun _ _ _ _ _ _ us hl => match us, hl with | [_], _ => rfl
theorem b_turned_standing : ∀ (kV doc pm : Value) (an : Option Addr) (cdv ct : Value) (us : List Value), us.length = (["standing"] : List Str).length → bindArgs (PySem.W.fnOf "turned_standing" "turned_standing" (defArgs pTurnSt) (defBody pTurnSt) (defScope pTurnSt) .none kV doc pm an cdv ct) ⟨us, []⟩ = pure ((["standing"] : List Str).zip us) := fun _ _ _ _ _ _ us hl => match us, hl with | [_], _ => rfl
theorem b_shifted_standing : ∀ (kV doc pm : Value) (an : Option Addr) (cdv ct : Value) (us : List Value), us.length = (["standing", "by"] : List Str).length → bindArgs (PySem.W.fnOf "shifted_standing" "shifted_standing" (defArgs pShiftSt) (defBody pShiftSt) (defScope pShiftSt) .none kV doc pm an cdv ct) ⟨us, []⟩ = pure ((["standing", "by"] : List Str).zip us) := fun _ _ _ _ _ _ us hl => match us, hl with | [_, _], _ => rfl
theorem bm___init__ : ∀ (kV doc pm : Value) (an : Option Addr) (cdv ct : Value) (us : List Value), us.length = (["self", "people"] : List Str).length → bindArgs (PySem.W.fnOf "__init__" "Standing.__init__" (defArgs pInit) (defBody pInit) (defScope pInit) .none kV doc pm an cdv ct) ⟨us, []⟩ = pure ((["self", "people"] : List Str).zip us) := fun _ _ _ _ _ _ us hl => match us, hl with | [_, _], _ => rfl
theorem bm_people : ∀ (kV doc pm : Value) (an : Option Addr) (cdv ct : Value) (us : List Value), us.length = (["self"] : List Str).length → bindArgs (PySem.W.fnOf "people" "Standing.people" (defArgs pPeople) (defBody pPeople) (defScope pPeople) .none kV doc pm an cdv ct) ⟨us, []⟩ = pure ((["self"] : List Str).zip us) := fun _ _ _ _ _ _ us hl => match us, hl with | [_], _ => rfl
theorem bm_places : ∀ (kV doc pm : Value) (an : Option Addr) (cdv ct : Value) (us : List Value), us.length = (["self"] : List Str).length → bindArgs (PySem.W.fnOf "places" "Standing.places" (defArgs pPlaces) (defBody pPlaces) (defScope pPlaces) .none kV doc pm an cdv ct) ⟨us, []⟩ = pure ((["self"] : List Str).zip us) := fun _ _ _ _ _ _ us hl => match us, hl with | [_], _ => rfl
theorem bm_is_together : ∀ (kV doc pm : Value) (an : Option Addr) (cdv ct : Value) (us : List Value), us.length = (["self"] : List Str).length → bindArgs (PySem.W.fnOf "is_together" "Standing.is_together" (defArgs pTog) (defBody pTog) (defScope pTog) .none kV doc pm an cdv ct) ⟨us, []⟩ = pure ((["self"] : List Str).zip us) := fun _ _ _ _ _ _ us hl => match us, hl with | [_], _ => rfl
theorem bm_at : ∀ (kV doc pm : Value) (an : Option Addr) (cdv ct : Value) (us : List Value), us.length = (["self", "place"] : List Str).length → bindArgs (PySem.W.fnOf "at" "Standing.at" (defArgs pAt) (defBody pAt) (defScope pAt) .none kV doc pm an cdv ct) ⟨us, []⟩ = pure ((["self", "place"] : List Str).zip us) := fun _ _ _ _ _ _ us hl => match us, hl with | [_, _], _ => rfl
theorem bm_has_name : ∀ (kV doc pm : Value) (an : Option Addr) (cdv ct : Value) (us : List Value), us.length = (["self", "value"] : List Str).length → bindArgs (PySem.W.fnOf "has_name" "Standing.has_name" (defArgs pHas) (defBody pHas) (defScope pHas) .none kV doc pm an cdv ct) ⟨us, []⟩ = pure ((["self", "value"] : List Str).zip us) := fun _ _ _ _ _ _ us hl => match us, hl with | [_, _], _ => rfl
theorem bm__person : ∀ (kV doc pm : Value) (an : Option Addr) (cdv ct : Value) (us : List Value), us.length = (["self", "name"] : List Str).length → bindArgs (PySem.W.fnOf "_person" "Standing._person" (defArgs pPerson) (defBody pPerson) (defScope pPerson) .none kV doc pm an cdv ct) ⟨us, []⟩ = pure ((["self", "name"] : List Str).zip us) := fun _ _ _ _ _ _ us hl => match us, hl with | [_, _], _ => rfl
theorem bm_place : ∀ (kV doc pm : Value) (an : Option Addr) (cdv ct : Value) (us : List Value), us.length = (["self", "name"] : List Str).length → bindArgs (PySem.W.fnOf "place" "Standing.place" (defArgs pPlace) (defBody pPlace) (defScope pPlace) .none kV doc pm an cdv ct) ⟨us, []⟩ = pure ((["self", "name"] : List Str).zip us) := fun _ _ _ _ _ _ us hl => match us, hl with | [_, _], _ => rfl
theorem bm_voices : ∀ (kV doc pm : Value) (an : Option Addr) (cdv ct : Value) (us : List Value), us.length = (["self"] : List Str).length → bindArgs (PySem.W.fnOf "voices" "Standing.voices" (defArgs pVoices) (defBody pVoices) (defScope pVoices) .none kV doc pm an cdv ct) ⟨us, []⟩ = pure ((["self"] : List Str).zip us) := fun _ _ _ _ _ _ us hl => match us, hl with | [_], _ => rfl
theorem main_ok {l : PySem.W.OpenLaw} {w : World} {K : PySem.W.Frag} {h : Heap} {mg : Str → Option Value} {fa C f0 : Addr} (X : K.In h) (G : h.Ns mainGlobals mg) (hfa : mg "law" = some (.ref fa))
    (H__law_pick : Has K mg "_law_pick" sPick ["_law_source_here", "_law_many"])
    (H__law_source : Has K mg "_law_source" sSource ["_law_script"])
    (H__law_of : Has K mg "_law_of" sOf ["_law_source_here", "_law_some"])
    (H__law_names : Has K mg "_law_names" sNames ["_law_source_here", "_law_many"])
    (H_is_word : Has K mg "is_word" pIsWord ["value"])
    (H_is_integer : Has K mg "is_integer" pIsInt ["value"])
    (H_wrong_in_person : Has K mg "wrong_in_person" pWrongP ["person", "earlier"])
    (H_wrong_part : Has K mg "wrong_part" pWrong ["people"])
    (H__law_made : Has K mg "_law_made" sMade ["_law_people"])
    (H__law_mixed : Has K mg "_law_mixed" sMixed ["_law_source_here", "_law_things"])
    (H__law_world : Has K mg "_law_world" sWorld ["_law_source_here", "_law_most", "_law_far", "_law_parity"])
    (H_voices_by_place : Has K mg "voices_by_place" pVbp ["standing"])
    (H_loud_places : Has K mg "loud_places" pLoud ["standing"])
    (H_places_in_order : Has K mg "places_in_order" pPio ["standing"])
    (H_placed : Has K mg "placed" pPlaced ["standing", "places"])
    (H_step_towards : Has K mg "step_towards" pStepT ["place", "goal"])
    (H__nearer : Has K mg "_nearer" pNear ["standing", "goal", "steps"])
    (H_is_loud : Has K mg "is_loud" pIsLoud ["standing", "name"])
    (H_can_call : Has K mg "can_call" pCan ["standing", "name"])
    (H_called : Has K mg "called" pCalled ["standing", "name"])
    (H_callers : Has K mg "callers" pCallers ["standing"])
    (H__law_spots : Has K mg "_law_spots" sWS ["_law_world_here"])
    (H__law_crowd : Has K mg "_law_crowd" sCrowd ["_law_spots_here", "_law_place"])
    (H__law_gaps : Has K mg "_law_gaps" sWG ["_law_world_here", "_law_spots_here"])
    (H_voice_places : Has K mg "voice_places" pVP ["standing"])
    (H_turn_sum : Has K mg "turn_sum" pTurn ["standing"])
    (H__law_sums : Has K mg "_law_sums" sWSum ["_law_world_here", "_law_spots_here"])
    (H__law_heights : Has K mg "_law_heights" sWHt ["_law_world_here", "_law_spots_here"])
    (H__law_numbers : Has K mg "_law_numbers" sWNum ["_law_world_here"])
    (H__law_by_turns : Has K mg "_law_by_turns" sWTurn ["_law_world_here", "_law_spots_here"])
    (H_ask_odd_voices : Has K mg "ask_odd_voices" pAskOdd ["standing"])
    (H_meeting_place : Has K mg "meeting_place" pMeet ["standing"])
    (H_turned_standing : Has K mg "turned_standing" pTurnSt ["standing"])
    (H_shifted_standing : Has K mg "shifted_standing" pShiftSt ["standing", "by"])
    (aC : PySem.W.nsIn K mainGlobals "Standing" = some (some (.ref C)))
    (HM___init__ : HasM K C "__init__" "Standing.__init__" pInit ["self", "people"])
    (HM_people : HasM K C "people" "Standing.people" pPeople ["self"])
    (HM_places : HasM K C "places" "Standing.places" pPlaces ["self"])
    (HM_is_together : HasM K C "is_together" "Standing.is_together" pTog ["self"])
    (HM_at : HasM K C "at" "Standing.at" pAt ["self", "place"])
    (HM_has_name : HasM K C "has_name" "Standing.has_name" pHas ["self", "value"])
    (HM__person : HasM K C "_person" "Standing._person" pPerson ["self", "name"])
    (HM_place : HasM K C "place" "Standing.place" pPlace ["self", "name"])
    (HM_voices : HasM K C "voices" "Standing.voices" pVoices ["self"])
    {oc0 kV0 dc0 pm0 cd0 ct0 : Value} {od0 an0 : Option Addr} {sl0 : Array (Option Value)}
    (a0 : PySem.W.nsIn K mainGlobals "law" = some (some (.ref f0))) (l0 : K.lookup f0 = some ⟨oc0, od0, .func (PySem.W.fnOf "law" "law" (defArgs sLaw) (defBody sLaw) (defScope sLaw) .none kV0 dc0 pm0 an0 cd0 ct0), sl0⟩) (c0 : PySem.W.codeIn K cd0 "law" = true) (k0 : PySem.W.keepIn K (.ref f0) = true)
    (pg : PySem.W.plainGet K C Str.empty = true) (hd : PySem.W.hasDictIn K C = true) (po : PySem.W.plainOver K C = true) (sa : PySem.W.findIn K (.ref C) "__setattr__" = some (some (.builtin "object.__setattr__"))) (mk : PySem.W.makesIn K C = true) (kc : PySem.W.keepIn K (.ref C) = true)
    (n1 : PySem.W.findIn K (.ref C) "_people" = some none) (n2 : PySem.W.findIn K (.ref C) "_by_name" = some none)
    {t1 t2 : Nat} {t3 : Nat} (g1 : PySem.W.nsIn K mainGlobals "LETTERS" = some (some (.str "abcdefghijklmnopqrstuvwxyz" t1))) (g2 : PySem.W.nsIn K mainGlobals "LETTERS_AND_DIGITS" = some (some (.str "abcdefghijklmnopqrstuvwxyz0123456789" t2))) (g3 : PySem.W.nsIn K mainGlobals "LONGEST_WORD" = some (some (.int 12 t3)))
    (z_abs : PySem.W.nsIn K mainGlobals "abs" = some none) (z_all : PySem.W.nsIn K mainGlobals "all" = some none) (z_bool : PySem.W.nsIn K mainGlobals "bool" = some none) (z_enumerate : PySem.W.nsIn K mainGlobals "enumerate" = some none) (z_int : PySem.W.nsIn K mainGlobals "int" = some none) (z_isinstance : PySem.W.nsIn K mainGlobals "isinstance" = some none) (z_len : PySem.W.nsIn K mainGlobals "len" = some none) (z_list : PySem.W.nsIn K mainGlobals "list" = some none) (z_max : PySem.W.nsIn K mainGlobals "max" = some none) (z_range : PySem.W.nsIn K mainGlobals "range" = some none) (z_repr : PySem.W.nsIn K mainGlobals "repr" = some none) (z_set : PySem.W.nsIn K mainGlobals "set" = some none) (z_sorted : PySem.W.nsIn K mainGlobals "sorted" = some none) (z_str : PySem.W.nsIn K mainGlobals "str" = some none) (z_sum : PySem.W.nsIn K mainGlobals "sum" = some none) (z_tuple : PySem.W.nsIn K mainGlobals "tuple" = some none) (z_zip : PySem.W.nsIn K mainGlobals "zip" = some none) :
    ∃ fd : FuncData, (∀ (s : Shared) (v : Value), BindsTo s fd ⟨[v], []⟩ [("_law_script", v)]) ∧ ∀ base : Heap, K.In base → base.Ns mainGlobals mg → FnG l.prog w K mg base CX0 9 fa fd ["_law_script"] (spD K I0 rLaw) := by
  have e := hfa.symm.trans (PySem.W.mg_of X G a0)
  cases e
  have z_abs : mg "abs" = none := PySem.W.mg_none_of X G z_abs
  have z_all : mg "all" = none := PySem.W.mg_none_of X G z_all
  have z_bool : mg "bool" = none := PySem.W.mg_none_of X G z_bool
  have z_enumerate : mg "enumerate" = none := PySem.W.mg_none_of X G z_enumerate
  have z_int : mg "int" = none := PySem.W.mg_none_of X G z_int
  have z_isinstance : mg "isinstance" = none := PySem.W.mg_none_of X G z_isinstance
  have z_len : mg "len" = none := PySem.W.mg_none_of X G z_len
  have z_list : mg "list" = none := PySem.W.mg_none_of X G z_list
  have z_max : mg "max" = none := PySem.W.mg_none_of X G z_max
  have z_range : mg "range" = none := PySem.W.mg_none_of X G z_range
  have z_repr : mg "repr" = none := PySem.W.mg_none_of X G z_repr
  have z_set : mg "set" = none := PySem.W.mg_none_of X G z_set
  have z_sorted : mg "sorted" = none := PySem.W.mg_none_of X G z_sorted
  have z_str : mg "str" = none := PySem.W.mg_none_of X G z_str
  have z_sum : mg "sum" = none := PySem.W.mg_none_of X G z_sum
  have z_tuple : mg "tuple" = none := PySem.W.mg_none_of X G z_tuple
  have z_zip : mg "zip" = none := PySem.W.mg_none_of X G z_zip
  obtain ⟨f__law_pick, fd__law_pick, F__law_pick, m__law_pick, B__law_pick⟩ := H__law_pick.ex
  obtain ⟨f__law_source, fd__law_source, F__law_source, m__law_source, B__law_source⟩ := H__law_source.ex
  obtain ⟨f__law_of, fd__law_of, F__law_of, m__law_of, B__law_of⟩ := H__law_of.ex
  obtain ⟨f__law_names, fd__law_names, F__law_names, m__law_names, B__law_names⟩ := H__law_names.ex
  obtain ⟨f_is_word, fd_is_word, F_is_word, m_is_word, B_is_word⟩ := H_is_word.ex
  obtain ⟨f_is_integer, fd_is_integer, F_is_integer, m_is_integer, B_is_integer⟩ := H_is_integer.ex
  obtain ⟨f_wrong_in_person, fd_wrong_in_person, F_wrong_in_person, m_wrong_in_person, B_wrong_in_person⟩ := H_wrong_in_person.ex
  obtain ⟨f_wrong_part, fd_wrong_part, F_wrong_part, m_wrong_part, B_wrong_part⟩ := H_wrong_part.ex
  obtain ⟨f__law_made, fd__law_made, F__law_made, m__law_made, B__law_made⟩ := H__law_made.ex
  obtain ⟨f__law_mixed, fd__law_mixed, F__law_mixed, m__law_mixed, B__law_mixed⟩ := H__law_mixed.ex
  obtain ⟨f__law_world, fd__law_world, F__law_world, m__law_world, B__law_world⟩ := H__law_world.ex
  obtain ⟨f_voices_by_place, fd_voices_by_place, F_voices_by_place, m_voices_by_place, B_voices_by_place⟩ := H_voices_by_place.ex
  obtain ⟨f_loud_places, fd_loud_places, F_loud_places, m_loud_places, B_loud_places⟩ := H_loud_places.ex
  obtain ⟨f_places_in_order, fd_places_in_order, F_places_in_order, m_places_in_order, B_places_in_order⟩ := H_places_in_order.ex
  obtain ⟨f_placed, fd_placed, F_placed, m_placed, B_placed⟩ := H_placed.ex
  obtain ⟨f_step_towards, fd_step_towards, F_step_towards, m_step_towards, B_step_towards⟩ := H_step_towards.ex
  obtain ⟨f__nearer, fd__nearer, F__nearer, m__nearer, B__nearer⟩ := H__nearer.ex
  obtain ⟨f_is_loud, fd_is_loud, F_is_loud, m_is_loud, B_is_loud⟩ := H_is_loud.ex
  obtain ⟨f_can_call, fd_can_call, F_can_call, m_can_call, B_can_call⟩ := H_can_call.ex
  obtain ⟨f_called, fd_called, F_called, m_called, B_called⟩ := H_called.ex
  obtain ⟨f_callers, fd_callers, F_callers, m_callers, B_callers⟩ := H_callers.ex
  obtain ⟨f__law_spots, fd__law_spots, F__law_spots, m__law_spots, B__law_spots⟩ := H__law_spots.ex
  obtain ⟨f__law_crowd, fd__law_crowd, F__law_crowd, m__law_crowd, B__law_crowd⟩ := H__law_crowd.ex
  obtain ⟨f__law_gaps, fd__law_gaps, F__law_gaps, m__law_gaps, B__law_gaps⟩ := H__law_gaps.ex
  obtain ⟨f_voice_places, fd_voice_places, F_voice_places, m_voice_places, B_voice_places⟩ := H_voice_places.ex
  obtain ⟨f_turn_sum, fd_turn_sum, F_turn_sum, m_turn_sum, B_turn_sum⟩ := H_turn_sum.ex
  obtain ⟨f__law_sums, fd__law_sums, F__law_sums, m__law_sums, B__law_sums⟩ := H__law_sums.ex
  obtain ⟨f__law_heights, fd__law_heights, F__law_heights, m__law_heights, B__law_heights⟩ := H__law_heights.ex
  obtain ⟨f__law_numbers, fd__law_numbers, F__law_numbers, m__law_numbers, B__law_numbers⟩ := H__law_numbers.ex
  obtain ⟨f__law_by_turns, fd__law_by_turns, F__law_by_turns, m__law_by_turns, B__law_by_turns⟩ := H__law_by_turns.ex
  obtain ⟨f_ask_odd_voices, fd_ask_odd_voices, F_ask_odd_voices, m_ask_odd_voices, B_ask_odd_voices⟩ := H_ask_odd_voices.ex
  obtain ⟨f_meeting_place, fd_meeting_place, F_meeting_place, m_meeting_place, B_meeting_place⟩ := H_meeting_place.ex
  obtain ⟨f_turned_standing, fd_turned_standing, F_turned_standing, m_turned_standing, B_turned_standing⟩ := H_turned_standing.ex
  obtain ⟨f_shifted_standing, fd_shifted_standing, F_shifted_standing, m_shifted_standing, B_shifted_standing⟩ := H_shifted_standing.ex
  obtain ⟨fM___init__, fdM___init__, FM___init__, aM___init__, iM___init__, BM___init__⟩ := HM___init__.ex
  obtain ⟨fM_people, fdM_people, FM_people, aM_people, iM_people, BM_people⟩ := HM_people.ex
  obtain ⟨fM_places, fdM_places, FM_places, aM_places, iM_places, BM_places⟩ := HM_places.ex
  obtain ⟨fM_is_together, fdM_is_together, FM_is_together, aM_is_together, iM_is_together, BM_is_together⟩ := HM_is_together.ex
  obtain ⟨fM_at, fdM_at, FM_at, aM_at, iM_at, BM_at⟩ := HM_at.ex
  obtain ⟨fM_has_name, fdM_has_name, FM_has_name, aM_has_name, iM_has_name, BM_has_name⟩ := HM_has_name.ex
  obtain ⟨fM__person, fdM__person, FM__person, aM__person, iM__person, BM__person⟩ := HM__person.ex
  obtain ⟨fM_place, fdM_place, FM_place, aM_place, iM_place, BM_place⟩ := HM_place.ex
  obtain ⟨fM_voices, fdM_voices, FM_voices, aM_voices, iM_voices, BM_voices⟩ := HM_voices.ex
  have hC := PySem.W.mg_of X G aC
  have g1 := PySem.W.mg_of X G g1
  have g2 := PySem.W.mg_of X G g2
  have g3 := PySem.W.mg_of X G g3
  refine ⟨PySem.W.fnOf "law" "law" (defArgs sLaw) (defBody sLaw) (defScope sLaw) .none kV0 dc0 pm0 an0 cd0 ct0, fun s v => .of_eq rfl, fun base _ _  => ?_⟩
  let cn : Nat → Cn := fun k => ⟨l.prog, w, K, mg, base, k, I0, hI0⟩
  have D_pick := pick_ok (c := cn 0) F__law_pick m__law_pick B__law_pick z_len z_max z_int
  have D_source := source_ok (c := cn 0) F__law_source m__law_source B__law_source z_int z_abs
  have D_of := of_ok (c := cn 1) F__law_of m__law_of B__law_of (Nat.le_refl _) D_pick z_len
  have D_names := names_ok (c := cn 1) F__law_names m__law_names B__law_names (Nat.le_refl _) D_pick z_int z_str z_range
  have D_word := word_ok (c := cn 0) F_is_word m_is_word B_is_word z_isinstance z_str z_len z_all ⟨_, g3⟩ ⟨_, g1⟩ ⟨_, g2⟩
  have D_int := int_ok (c := cn 0) F_is_integer m_is_integer B_is_integer z_isinstance z_int z_bool
  have D_wp := wp_ok (c := cn 1) F_wrong_in_person m_wrong_in_person B_wrong_in_person (Nat.le_refl _) (Nat.le_refl _) D_word D_int z_isinstance z_tuple z_len
  have D_wr := wr_ok (c := cn 2) F_wrong_part m_wrong_part B_wrong_part (Nat.le_refl _) D_wp z_isinstance z_tuple z_list z_enumerate
  have T : CS (cn 8) C := ⟨⟨pg, hd, po, sa⟩, n1, n2⟩
  have D_init := init_ok (c := cn 3) (C := C) FM___init__ ⟨T.cl, T.n1, T.n2⟩ ⟨mk, aM___init__, iM___init__, kc⟩ BM___init__ (Nat.le_refl _) D_wr z_tuple
  have D_ppls := ppls_ok (c := cn 0) (C := C) FM_people ⟨T.cl, T.n1, T.n2⟩ ⟨aM_people, iM_people, FM_people.kp⟩ BM_people z_list
  have D_places := mplaces_ok (c := cn 0) (C := C) FM_places ⟨T.cl, T.n1, T.n2⟩ ⟨aM_places, iM_places, FM_places.kp⟩ BM_places z_sorted
  have D_tog := mtog_ok (c := cn 1) (C := C) FM_is_together ⟨T.cl, T.n1, T.n2⟩ ⟨aM_is_together, iM_is_together, FM_is_together.kp⟩ BM_is_together (Nat.le_refl _) D_places z_len
  have D_has := mhas_ok (c := cn 0) (C := C) FM_has_name ⟨T.cl, T.n1, T.n2⟩ ⟨aM_has_name, iM_has_name, FM_has_name.kp⟩ BM_has_name z_isinstance z_str
  have D_per := mper_ok (c := cn 1) (C := C) FM__person ⟨T.cl, T.n1, T.n2⟩ ⟨aM__person, iM__person, FM__person.kp⟩ BM__person (Nat.le_refl _) D_has
  have D_place := mplace_ok (c := cn 2) (C := C) FM_place ⟨T.cl, T.n1, T.n2⟩ ⟨aM_place, iM_place, FM_place.kp⟩ BM_place (Nat.le_refl _) D_per
  have D_at := mat_ok (c := cn 1) (C := C) FM_at ⟨T.cl, T.n1, T.n2⟩ ⟨aM_at, iM_at, FM_at.kp⟩ BM_at (Nat.le_refl _) D_int
  have D_vbp := vbp_ok (c := cn 1) (C := C) F_voices_by_place m_voices_by_place B_voices_by_place ⟨T.cl, T.n1, T.n2⟩ (Nat.le_refl _) D_ppls
  have D_loud := loud_ok (c := cn 2) (C := C) F_loud_places m_loud_places B_loud_places (Nat.le_refl _) D_vbp z_sorted
  have D_made := made_ok (c := cn 5) (C := C) F__law_made m__law_made B__law_made (Nat.le_of_ble_eq_true rfl) D_init hC z_tuple
  have D_mixed := mx_ok (c := cn 1) F__law_mixed m__law_mixed B__law_mixed (Nat.le_refl _) D_pick z_list z_range z_len
  have D_world := world_ok (c := cn 6) (C := C) F__law_world m__law_world B__law_world (j1 := 1) (j2 := 2) (j3 := 2) (j4 := 2) (j5 := 6) (Nat.le_of_ble_eq_true rfl) (Nat.le_of_ble_eq_true rfl) (Nat.le_of_ble_eq_true rfl) (Nat.le_of_ble_eq_true rfl) (Nat.le_of_ble_eq_true rfl) D_pick D_names D_of D_mixed D_made z_int z_sum
  have D_ws := ws_ok (c := cn 0) (C := C) F__law_spots m__law_spots B__law_spots z_tuple
  have D_crowd := crowd_ok (c := cn 0) F__law_crowd m__law_crowd B__law_crowd z_range z_len
  have D_wg := wg_ok (c := cn 1) (C := C) F__law_gaps m__law_gaps B__law_gaps (Nat.le_refl _) D_crowd z_zip z_sum z_int z_sorted z_set
  have D_pio := pio_ok (c := cn 1) (C := C) F_places_in_order m_places_in_order B_places_in_order (Nat.le_refl _) ⟨T.cl, T.n1, T.n2⟩ D_ppls z_tuple
  have D_placed := placed_ok (c := cn 5) (C := C) F_placed m_placed B_placed (j1 := 1) (j2 := 4) (Nat.le_of_ble_eq_true rfl) (Nat.le_of_ble_eq_true rfl) ⟨T.cl, T.n1, T.n2⟩ D_ppls D_init hC z_zip
  have D_stepT := stepT_ok (c := cn 0) F_step_towards m_step_towards B_step_towards
  have D_near := nearer_ok (c := cn 6) (C := C) F__nearer m__nearer B__nearer (j1 := 2) (j2 := 6) (j3 := 1) (Nat.le_of_ble_eq_true rfl) (Nat.le_of_ble_eq_true rfl) (Nat.le_of_ble_eq_true rfl) D_pio D_placed D_stepT
  have D_isloud := isLoud_ok (c := cn 3) (C := C) F_is_loud m_is_loud B_is_loud (j1 := 3) (j2 := 3) (Nat.le_of_ble_eq_true rfl) (Nat.le_of_ble_eq_true rfl) ⟨T.cl, T.n1, T.n2⟩ D_place D_loud
  have D_can := can_ok (c := cn 4) (C := C) F_can_call m_can_call B_can_call (j1 := 4) (j2 := 2) (Nat.le_of_ble_eq_true rfl) (Nat.le_of_ble_eq_true rfl) ⟨T.cl, T.n1, T.n2⟩ D_isloud D_tog
  have D_called := called_ok (c := cn 7) (C := C) F_called m_called B_called (j1 := 5) (j2 := 3) (j3 := 7) (Nat.le_of_ble_eq_true rfl) (Nat.le_of_ble_eq_true rfl) (Nat.le_of_ble_eq_true rfl) ⟨T.cl, T.n1, T.n2⟩ D_can D_place D_near
  have D_callers := callers_ok (c := cn 3) (C := C) F_callers m_callers B_callers (j1 := 2) (j2 := 2) (j3 := 3) (Nat.le_of_ble_eq_true rfl) (Nat.le_of_ble_eq_true rfl) (Nat.le_of_ble_eq_true rfl) ⟨T.cl, T.n1, T.n2⟩ D_tog D_at D_loud
  have D_voices := mvoices_ok (c := cn 0) (C := C) FM_voices ⟨T.cl, T.n1, T.n2⟩ ⟨aM_voices, iM_voices, FM_voices.kp⟩ BM_voices z_sum
  have D_wsum := wsum_ok (c := cn 2) (C := C) F__law_sums m__law_sums B__law_sums (Nat.le_refl _) D_wg z_sum
  have D_wht := wht_ok (c := cn 2) (C := C) F__law_heights m__law_heights B__law_heights (Nat.le_refl _) D_wg
  have D_wnum := wnum_ok (c := cn 3) (C := C) F__law_numbers m__law_numbers B__law_numbers (j1 := 1) (j2 := 3) (j3 := 3) (Nat.le_of_ble_eq_true rfl) (Nat.le_refl _) (Nat.le_refl _) D_ws D_wsum D_wht z_max
  have D_wturn := wturn_ok (c := cn 0) (C := C) F__law_by_turns m__law_by_turns B__law_by_turns z_sorted z_range z_len z_int
  have D_vp := vp_ok (c := cn 1) (C := C) F_voice_places m_voice_places B_voice_places (Nat.le_refl _) ⟨T.cl, T.n1, T.n2⟩ D_ppls z_sorted
  have D_turn := turn_ok (c := cn 2) (C := C) F_turn_sum m_turn_sum B_turn_sum (Nat.le_refl _) D_vp z_sum
  have D_ask := askOdd_ok (c := cn 1) (C := C) F_ask_odd_voices m_ask_odd_voices B_ask_odd_voices (Nat.le_refl _) ⟨T.cl, T.n1, T.n2⟩ D_voices
  have D_meet := meet_ok (c := cn 3) (C := C) F_meeting_place m_meeting_place B_meeting_place (j1 := 2) (j2 := 3) (Nat.le_of_ble_eq_true rfl) (Nat.le_refl _) D_ask D_turn
  have D_turned := turnSt_ok (c := cn 5) (C := C) F_turned_standing m_turned_standing B_turned_standing (j1 := 1) (j2 := 4) (Nat.le_of_ble_eq_true rfl) (Nat.le_of_ble_eq_true rfl) ⟨T.cl, T.n1, T.n2⟩ D_ppls D_init hC
  have D_shifted := shiftSt_ok (c := cn 5) (C := C) F_shifted_standing m_shifted_standing B_shifted_standing (j1 := 1) (j2 := 4) (Nat.le_of_ble_eq_true rfl) (Nat.le_of_ble_eq_true rfl) ⟨T.cl, T.n1, T.n2⟩ D_ppls D_init hC
  exact law_ok (c := cn 8) (C := C) (fun_mk l0 c0 k0) ⟨DefOk.up (c := cn 8) D_source (Nat.le_of_ble_eq_true rfl), DefOk.up (c := cn 8) D_pick (Nat.le_of_ble_eq_true rfl), DefOk.up (c := cn 8) D_of (Nat.le_of_ble_eq_true rfl), DefOk.up (c := cn 8) D_world (Nat.le_of_ble_eq_true rfl), DefOk.up (c := cn 8) D_ws (Nat.le_of_ble_eq_true rfl), DefOk.up (c := cn 8) D_wturn (Nat.le_of_ble_eq_true rfl), DefOk.up (c := cn 8) D_wnum (Nat.le_of_ble_eq_true rfl), DefOk.up (c := cn 8) D_callers (Nat.le_of_ble_eq_true rfl), DefOk.up (c := cn 8) D_called (Nat.le_of_ble_eq_true rfl), DefOk.up (c := cn 8) D_meet (Nat.le_of_ble_eq_true rfl), DefOk.up (c := cn 8) D_turned (Nat.le_of_ble_eq_true rfl), DefOk.up (c := cn 8) D_shifted (Nat.le_of_ble_eq_true rfl), T, D_places.up (Nat.le_of_ble_eq_true rfl), D_tog, Nat.le_of_ble_eq_true rfl, z_range, z_repr⟩

theorem roomL : Room 9 callerA := ⟨rfl, by decide, by decide⟩
theorem guards0 : callerA.guards = some [] := rfl
end DL
open PySem PySem.W PyProof.Rows
set_option maxRecDepth 100000 in
set_option maxHeartbeats 0 in
theorem PySem.Challenge.cw_oddcrowds_k28_whole_place_whoever_calls_holds : PySem.Challenge.rw_oddcrowds_k28_whole_place_whoever_calls.Holds := by
  w_on; o_law; k_head; (case hw => w_witness2)
  k_fill
  refine DL.walk_law (l := PySem.Challenge.rw_oddcrowds_k28_whole_place_whoever_calls) (n := 63) (k := 9) (I := DL.I0) (R := DL.rLaw) (x := "_law_script") rfl (by decide) rfl DL.roomL DL.guards0 (fun w h Y => by first | exact PySem.W.kIn_of Y | exact PySem.W.km_in_of Y) ?F (fun ns hl => ⟨[], ns, hl, rfl, rfl, rfl, rfl⟩) rfl
  case F =>
    intro w mg fa h KX G hmg
    refine' DL.main_ok KX G hmg
      (DL.has_mk KX G DL.b__law_pick ?a__law_pick ?l__law_pick ?c__law_pick ?k__law_pick)
      (DL.has_mk KX G DL.b__law_source ?a__law_source ?l__law_source ?c__law_source ?k__law_source)
      (DL.has_mk KX G DL.b__law_of ?a__law_of ?l__law_of ?c__law_of ?k__law_of)
      (DL.has_mk KX G DL.b__law_names ?a__law_names ?l__law_names ?c__law_names ?k__law_names)
      (DL.has_mk KX G DL.b_is_word ?a_is_word ?l_is_word ?c_is_word ?k_is_word)
      (DL.has_mk KX G DL.b_is_integer ?a_is_integer ?l_is_integer ?c_is_integer ?k_is_integer)
      (DL.has_mk KX G DL.b_wrong_in_person ?a_wrong_in_person ?l_wrong_in_person ?c_wrong_in_person ?k_wrong_in_person)
      (DL.has_mk KX G DL.b_wrong_part ?a_wrong_part ?l_wrong_part ?c_wrong_part ?k_wrong_part)
      (DL.has_mk KX G DL.b__law_made ?a__law_made ?l__law_made ?c__law_made ?k__law_made)
      (DL.has_mk KX G DL.b__law_mixed ?a__law_mixed ?l__law_mixed ?c__law_mixed ?k__law_mixed)
      (DL.has_mk KX G DL.b__law_world ?a__law_world ?l__law_world ?c__law_world ?k__law_world)
      (DL.has_mk KX G DL.b_voices_by_place ?a_voices_by_place ?l_voices_by_place ?c_voices_by_place ?k_voices_by_place)
      (DL.has_mk KX G DL.b_loud_places ?a_loud_places ?l_loud_places ?c_loud_places ?k_loud_places)
      (DL.has_mk KX G DL.b_places_in_order ?a_places_in_order ?l_places_in_order ?c_places_in_order ?k_places_in_order)
      (DL.has_mk KX G DL.b_placed ?a_placed ?l_placed ?c_placed ?k_placed)
      (DL.has_mk KX G DL.b_step_towards ?a_step_towards ?l_step_towards ?c_step_towards ?k_step_towards)
      (DL.has_mk KX G DL.b__nearer ?a__nearer ?l__nearer ?c__nearer ?k__nearer)
      (DL.has_mk KX G DL.b_is_loud ?a_is_loud ?l_is_loud ?c_is_loud ?k_is_loud)
      (DL.has_mk KX G DL.b_can_call ?a_can_call ?l_can_call ?c_can_call ?k_can_call)
      (DL.has_mk KX G DL.b_called ?a_called ?l_called ?c_called ?k_called)
      (DL.has_mk KX G DL.b_callers ?a_callers ?l_callers ?c_callers ?k_callers)
      (DL.has_mk KX G DL.b__law_spots ?a__law_spots ?l__law_spots ?c__law_spots ?k__law_spots)
      (DL.has_mk KX G DL.b__law_crowd ?a__law_crowd ?l__law_crowd ?c__law_crowd ?k__law_crowd)
      (DL.has_mk KX G DL.b__law_gaps ?a__law_gaps ?l__law_gaps ?c__law_gaps ?k__law_gaps)
      (DL.has_mk KX G DL.b_voice_places ?a_voice_places ?l_voice_places ?c_voice_places ?k_voice_places)
      (DL.has_mk KX G DL.b_turn_sum ?a_turn_sum ?l_turn_sum ?c_turn_sum ?k_turn_sum)
      (DL.has_mk KX G DL.b__law_sums ?a__law_sums ?l__law_sums ?c__law_sums ?k__law_sums)
      (DL.has_mk KX G DL.b__law_heights ?a__law_heights ?l__law_heights ?c__law_heights ?k__law_heights)
      (DL.has_mk KX G DL.b__law_numbers ?a__law_numbers ?l__law_numbers ?c__law_numbers ?k__law_numbers)
      (DL.has_mk KX G DL.b__law_by_turns ?a__law_by_turns ?l__law_by_turns ?c__law_by_turns ?k__law_by_turns)
      (DL.has_mk KX G DL.b_ask_odd_voices ?a_ask_odd_voices ?l_ask_odd_voices ?c_ask_odd_voices ?k_ask_odd_voices)
      (DL.has_mk KX G DL.b_meeting_place ?a_meeting_place ?l_meeting_place ?c_meeting_place ?k_meeting_place)
      (DL.has_mk KX G DL.b_turned_standing ?a_turned_standing ?l_turned_standing ?c_turned_standing ?k_turned_standing)
      (DL.has_mk KX G DL.b_shifted_standing ?a_shifted_standing ?l_shifted_standing ?c_shifted_standing ?k_shifted_standing)
      ?aC (DL.hasM_mk DL.bm___init__ ?aM___init__ ?iM___init__ ?lM___init__ ?cM___init__ ?kM___init__) (DL.hasM_mk DL.bm_people ?aM_people ?iM_people ?lM_people ?cM_people ?kM_people) (DL.hasM_mk DL.bm_places ?aM_places ?iM_places ?lM_places ?cM_places ?kM_places) (DL.hasM_mk DL.bm_is_together ?aM_is_together ?iM_is_together ?lM_is_together ?cM_is_together ?kM_is_together) (DL.hasM_mk DL.bm_at ?aM_at ?iM_at ?lM_at ?cM_at ?kM_at) (DL.hasM_mk DL.bm_has_name ?aM_has_name ?iM_has_name ?lM_has_name ?cM_has_name ?kM_has_name) (DL.hasM_mk DL.bm__person ?aM__person ?iM__person ?lM__person ?cM__person ?kM__person) (DL.hasM_mk DL.bm_place ?aM_place ?iM_place ?lM_place ?cM_place ?kM_place) (DL.hasM_mk DL.bm_voices ?aM_voices ?iM_voices ?lM_voices ?cM_voices ?kM_voices) ?a0 ?l0 ?c0 ?k0 ?pg ?hd ?po ?sa ?mk ?kc ?n1 ?n2 ?g1 ?g2 ?g3 ?zabs ?zall ?zbool ?zenumerate ?zint ?zisinstance ?zlen ?zlist ?zmax ?zrange ?zrepr ?zset ?zsorted ?zstr ?zsum ?ztuple ?zzip
    (case a__law_pick => k_is)
    (case l__law_pick => k_is)
    (case c__law_pick => k_is)
    (case k__law_pick => k_is)
    (case a__law_source => k_is)
    (case l__law_source => k_is)
    (case c__law_source => k_is)
    (case k__law_source => k_is)
    (case a__law_of => k_is)
    (case l__law_of => k_is)
    (case c__law_of => k_is)
    (case k__law_of => k_is)
    (case a__law_names => k_is)
    (case l__law_names => k_is)
    (case c__law_names => k_is)
    (case k__law_names => k_is)
    (case a_is_word => k_is)
    (case l_is_word => k_is)
    (case c_is_word => k_is)
    (case k_is_word => k_is)
    (case a_is_integer => k_is)
    (case l_is_integer => k_is)
    (case c_is_integer => k_is)
    (case k_is_integer => k_is)
    (case a_wrong_in_person => k_is)
    (case l_wrong_in_person => k_is)
    (case c_wrong_in_person => k_is)
    (case k_wrong_in_person => k_is)
    (case a_wrong_part => k_is)
    (case l_wrong_part => k_is)
    (case c_wrong_part => k_is)
    (case k_wrong_part => k_is)
    (case a__law_made => k_is)
    (case l__law_made => k_is)
    (case c__law_made => k_is)
    (case k__law_made => k_is)
    (case a__law_mixed => k_is)
    (case l__law_mixed => k_is)
    (case c__law_mixed => k_is)
    (case k__law_mixed => k_is)
    (case a__law_world => k_is)
    (case l__law_world => k_is)
    (case c__law_world => k_is)
    (case k__law_world => k_is)
    (case a_voices_by_place => k_is)
    (case l_voices_by_place => k_is)
    (case c_voices_by_place => k_is)
    (case k_voices_by_place => k_is)
    (case a_loud_places => k_is)
    (case l_loud_places => k_is)
    (case c_loud_places => k_is)
    (case k_loud_places => k_is)
    (case a_places_in_order => k_is)
    (case l_places_in_order => k_is)
    (case c_places_in_order => k_is)
    (case k_places_in_order => k_is)
    (case a_placed => k_is)
    (case l_placed => k_is)
    (case c_placed => k_is)
    (case k_placed => k_is)
    (case a_step_towards => k_is)
    (case l_step_towards => k_is)
    (case c_step_towards => k_is)
    (case k_step_towards => k_is)
    (case a__nearer => k_is)
    (case l__nearer => k_is)
    (case c__nearer => k_is)
    (case k__nearer => k_is)
    (case a_is_loud => k_is)
    (case l_is_loud => k_is)
    (case c_is_loud => k_is)
    (case k_is_loud => k_is)
    (case a_can_call => k_is)
    (case l_can_call => k_is)
    (case c_can_call => k_is)
    (case k_can_call => k_is)
    (case a_called => k_is)
    (case l_called => k_is)
    (case c_called => k_is)
    (case k_called => k_is)
    (case a_callers => k_is)
    (case l_callers => k_is)
    (case c_callers => k_is)
    (case k_callers => k_is)
    (case a__law_spots => k_is)
    (case l__law_spots => k_is)
    (case c__law_spots => k_is)
    (case k__law_spots => k_is)
    (case a__law_crowd => k_is)
    (case l__law_crowd => k_is)
    (case c__law_crowd => k_is)
    (case k__law_crowd => k_is)
    (case a__law_gaps => k_is)
    (case l__law_gaps => k_is)
    (case c__law_gaps => k_is)
    (case k__law_gaps => k_is)
    (case a_voice_places => k_is)
    (case l_voice_places => k_is)
    (case c_voice_places => k_is)
    (case k_voice_places => k_is)
    (case a_turn_sum => k_is)
    (case l_turn_sum => k_is)
    (case c_turn_sum => k_is)
    (case k_turn_sum => k_is)
    (case a__law_sums => k_is)
    (case l__law_sums => k_is)
    (case c__law_sums => k_is)
    (case k__law_sums => k_is)
    (case a__law_heights => k_is)
    (case l__law_heights => k_is)
    (case c__law_heights => k_is)
    (case k__law_heights => k_is)
    (case a__law_numbers => k_is)
    (case l__law_numbers => k_is)
    (case c__law_numbers => k_is)
    (case k__law_numbers => k_is)
    (case a__law_by_turns => k_is)
    (case l__law_by_turns => k_is)
    (case c__law_by_turns => k_is)
    (case k__law_by_turns => k_is)
    (case a_ask_odd_voices => k_is)
    (case l_ask_odd_voices => k_is)
    (case c_ask_odd_voices => k_is)
    (case k_ask_odd_voices => k_is)
    (case a_meeting_place => k_is)
    (case l_meeting_place => k_is)
    (case c_meeting_place => k_is)
    (case k_meeting_place => k_is)
    (case a_turned_standing => k_is)
    (case l_turned_standing => k_is)
    (case c_turned_standing => k_is)
    (case k_turned_standing => k_is)
    (case a_shifted_standing => k_is)
    (case l_shifted_standing => k_is)
    (case c_shifted_standing => k_is)
    (case k_shifted_standing => k_is)
    (case aC => k_is)
    (case aM___init__ => k_is)
    (case iM___init__ => k_is)
    (case lM___init__ => k_is)
    (case cM___init__ => k_is)
    (case kM___init__ => k_is)
    (case aM_people => k_is)
    (case iM_people => k_is)
    (case lM_people => k_is)
    (case cM_people => k_is)
    (case kM_people => k_is)
    (case aM_places => k_is)
    (case iM_places => k_is)
    (case lM_places => k_is)
    (case cM_places => k_is)
    (case kM_places => k_is)
    (case aM_is_together => k_is)
    (case iM_is_together => k_is)
    (case lM_is_together => k_is)
    (case cM_is_together => k_is)
    (case kM_is_together => k_is)
    (case aM_at => k_is)
    (case iM_at => k_is)
    (case lM_at => k_is)
    (case cM_at => k_is)
    (case kM_at => k_is)
    (case aM_has_name => k_is)
    (case iM_has_name => k_is)
    (case lM_has_name => k_is)
    (case cM_has_name => k_is)
    (case kM_has_name => k_is)
    (case aM__person => k_is)
    (case iM__person => k_is)
    (case lM__person => k_is)
    (case cM__person => k_is)
    (case kM__person => k_is)
    (case aM_place => k_is)
    (case iM_place => k_is)
    (case lM_place => k_is)
    (case cM_place => k_is)
    (case kM_place => k_is)
    (case aM_voices => k_is)
    (case iM_voices => k_is)
    (case lM_voices => k_is)
    (case cM_voices => k_is)
    (case kM_voices => k_is)
    (case a0 => k_is)
    (case l0 => k_is)
    (case c0 => k_is)
    (case k0 => k_is)
    (case pg => k_is)
    (case hd => k_is)
    (case po => k_is)
    (case sa => k_is)
    (case mk => k_is)
    (case kc => k_is)
    (case n1 => k_is)
    (case n2 => k_is)
    (case g1 => k_is)
    (case g2 => k_is)
    (case g3 => k_is)
    (case zabs => k_is)
    (case zall => k_is)
    (case zbool => k_is)
    (case zenumerate => k_is)
    (case zint => k_is)
    (case zisinstance => k_is)
    (case zlen => k_is)
    (case zlist => k_is)
    (case zmax => k_is)
    (case zrange => k_is)
    (case zrepr => k_is)
    (case zset => k_is)
    (case zsorted => k_is)
    (case zstr => k_is)
    (case zsum => k_is)
    (case ztuple => k_is)
    (case zzip => k_is)
